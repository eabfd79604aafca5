import Derived.Test.YtapkhgpifpgleaaOrdS
import Derived.Test.YtapkhgpifpgleaaLives
import Derived.Test.YtapkhgpifpgleaaCopys
/- impl's order: withoutNone, appendNew, pointedBy, copyReached, OrderOf. -/
namespace Go.Proofs.Ytapkhgpifpgleaa
open Go.RowKit Go.Maps

def apN (s cs : List Int) : List Int := cs.foldl (fun s c => if c ∈ s then s else s ++ [c]) s
def nonN (cs : List Int) : List Int := cs.filter (· != -1)
theorem apN_snoc (s cs : List Int) (c : Int) : apN s (cs ++ [c]) = if c ∈ apN s cs then apN s cs else apN s cs ++ [c] := by unfold apN; rw [List.foldl_append]; rfl
theorem apN_meets (s cs : List Int) : apN s (nonN cs) = meets s cs := by
  unfold apN nonN meets
  induction cs generalizing s with
  | nil => rfl
  | cons c cs ih =>
    rw [List.filter_cons]
    by_cases h : c = -1
    · subst h
      rw [if_neg (by decide), List.foldl_cons, ih]
      simp [meet1]
    · rw [if_pos (by simpa using h), List.foldl_cons, List.foldl_cons, ih]
      congr 1
      simp [meet1, h]
theorem apN_len (s cs : List Int) : (apN s cs).length ≤ s.length + cs.length := by
  induction cs generalizing s with
  | nil => simp [apN]
  | cons c cs ih =>
    have : apN s (c :: cs) = apN (if c ∈ s then s else s ++ [c]) cs := rfl
    rw [this]
    have h9 := ih (if c ∈ s then s else s ++ [c])
    have h8 : (if c ∈ s then s else s ++ [c]).length ≤ s.length + 1 := by split <;> simp
    rw [List.length_cons]; omega
theorem nonN_snoc (cs : List Int) (c : Int) : nonN (cs ++ [c]) = if c = -1 then nonN cs else nonN cs ++ [c] := by
  unfold nonN; by_cases h : c = -1 <;> simp [h]
theorem nonN_len (cs : List Int) : (nonN cs).length ≤ cs.length := List.length_filter_le _ _

set_option maxHeartbeats 2000000 in
theorem withoutNone_any (w : World) (lo : Nat) (A : Option Addr) (n c : Nat) (xs : List Int) (h : Row w lo (.slice A n c) xs) (hn : xs.length = n) (hm : n ≤ 1048576) :
    Calls Try.prog 42 #[.slice A n c] w (NewRow w (nonN xs)) := by
  obtain ⟨i0, hi, hz0, hz1, hz2⟩ := info_parts Try.infoInt
  have HN := Lib.hid hn
  clear hn
  go_enter Try.func42, Try.ntmps42
  go_wp2_with fail
  go_loopw [3, 8] (fun v i wr => ∃ (k : Nat) (A' : Option Addr) (c' : Nat), k ≤ n ∧ i = .int .i64 k ∧ v = .slice A' (nonN (xs.take k)).length c' ∧ Row wr w.heap.size (.slice A' (nonN (xs.take k)).length c') (nonN (xs.take k)) ∧ Below w.heap.size w wr) (fun _ i _ => n - (intOf i).toNat)
  case atStart => exact ⟨0, none, 0, Nat.zero_le _, rfl, rfl, Row.nil _ _, Below.refl _ _⟩
  case round =>
    obtain ⟨k, A', c', hk, rfl, rfl, hrow, hB⟩ := hrel
    by_cases hlt : k < n
    · have hr' := h.far hB (fun b hb => (h.lt b hb).2)
      obtain ⟨g, x, rfl, _, _, hx, hcell, _⟩ := hr'.get (k := k) (by have := HN.out; omega)
      have hS := nonN_snoc (xs.take k) x
      rw [← take_snoc hx.out] at hS
      have hsl : (nonN (xs.take k)).length ≤ n := Nat.le_trans (nonN_len _) (by rw [List.length_take]; omega)
      clear hx
      by_cases hx1 : x = -1
      · subst hx1
        rw [if_pos rfl] at hS
        have HS := Lib.hid hS
        clear hS
        go_wp2_with fail
        go_roundw
        case rel => exact ⟨k + 1, A', c', by omega, by go_num, by rw [HS.out], by rw [HS.out]; exact hrow, hB⟩
        case measure => simp [intOf]; omega
      · have hx2 : (x != -1) = true := by simpa using hx1
        rw [if_neg hx1] at hS
        have HS := Lib.hid hS
        clear hS hx1
        have hown : wr.ownsRow w.heap.size 3 1 (.slice A' (nonN (xs.take k)).length c') (nonN (xs.take k)).length ((nonN (xs.take k)).map iv) := hrow
        generalize hsn : nonN (xs.take k) = sn at *
        have HSN := Lib.hid hsn
        clear hsn hrow
        have hsz := hB.size
        go_wp2_with (at_builtin; refine wpList_append_own_at _ rfl _ _ 22 rfl w.heap.size 3 i0 (.int .i64 0) 1 8 Try.underlying22 hi hz0 hz1 hz2 rfl (by decide) _ _ _ rfl (hown.alloc _) ⟨wr.heap.size, 0, none⟩ 1 1 [.int .i64 x] rfl rfl ?ap1 ?ap2 ?ap3 ?ap4 ?ap5 ?_)
        try case ap1 => exact one_new
        try case ap2 => first | rfl | (intro u hu; simp at hu; subst hu; rfl)
        try case ap3 => unfold maxLen; omega
        try case ap4 => omega
        try case ap5 => first | omega | (simp; omega)
        intro v' w4 hown' hgrow hnil hloc
        have hrow' : Row w4 w.heap.size v' (nonN (xs.take (k + 1))) := by rw [HS.out]; exact Row.of_own hown' (by simp) (by simp)
        have hB' := (hB.alloc hsz _).grown hgrow (by simp; omega) (fun j hj => by have := (hown.lt j hj).1; omega)
        obtain ⟨A4, c4, hv', _⟩ := hrow'.form
        subst hv'
        clear hown hown' hgrow hloc hnil
        go_wp2_with fail
        go_roundw
        case rel => exact ⟨k + 1, A4, c4, by omega, by go_num, rfl, hrow', hB'⟩
        case measure => simp [intOf]; omega
    · obtain rfl : k = n := by omega
      have e : Hid (nonN (xs.take k) = nonN xs) := by unfold Hid; rw [List.take_of_length_le (by have := HN.out; omega)]
      go_wp2_with fail
      go_ret
      exact ⟨A', c', by rw [e.out]; rfl, by have := hrow; rw [e.out] at this; exact this, hB⟩

/-- What an append to a row leaves: all but its block stays; the row lies in its old block or in a new one. -/
def ApRow (w : World) (lo : Nat) (v : Value) (xs : List Int) (e : Ending) (w' : World) : Prop :=
  ∃ A c, e = .returned (.slice A xs.length c) ∧ Row w' lo (.slice A xs.length c) xs ∧ w.grownBy w' v.ownBlock ∧ (∀ b, (Value.slice A xs.length c).ownBlock = some b → v.ownBlock = some b ∨ w.heap.size ≤ b)

set_option maxHeartbeats 2000000 in
theorem appendNew_any (w : World) (lo lo' : Nat) (A : Option Addr) (c : Nat) (s : List Int) (h : Row w lo (.slice A s.length c) s) (hlo : lo ≤ w.heap.size) (hs : s.length ≤ 1048576)
    (B : Option Addr) (m d : Nat) (cs : List Int) (h' : Row w lo' (.slice B m d) cs) (hm : cs.length = m) (hmm : m ≤ 1048576) (hap0 : ∀ b, (Value.slice B m d).ownBlock = some b → (Value.slice A s.length c).ownBlock ≠ some b) :
    Calls Try.prog 54 #[.slice A s.length c, .slice B m d] w (ApRow w lo (.slice A s.length c) (apN s cs)) := by
  obtain ⟨i0, hi, hz0, hz1, hz2⟩ := info_parts Try.infoInt
  have HM := Lib.hid hm
  clear hm
  have hap : (Value.slice B m d).ownBlock = none ∨ (Value.slice B m d).ownBlock ≠ (Value.slice A s.length c).ownBlock := by
    cases hb : (Value.slice B m d).ownBlock with
    | none => exact .inl rfl
    | some b => exact .inr (fun e => hap0 b hb e.symm)
  clear hap0
  generalize hv0 : (Value.slice A s.length c).ownBlock = rb at hap
  have HV0 := Lib.hid hv0
  have e0 : (Value.slice A s.length c).ownBlock = rb := hv0
  unfold ApRow
  rw [e0]
  clear hv0 e0
  generalize hsn : s.length = sn at h hs HV0 ⊢
  have HSL := Lib.hid hsn
  clear hsn
  go_enter Try.func54, Try.ntmps54
  go_wp2_with fail
  go_loopw [0, 6, 9] (fun v _ i wr => ∃ (k : Nat) (A' : Option Addr) (c' : Nat), k ≤ m ∧ i = .int .i64 k ∧ v = .slice A' (apN s (cs.take k)).length c' ∧ Row wr lo (.slice A' (apN s (cs.take k)).length c') (apN s (cs.take k)) ∧ w.grownBy wr rb ∧ Hid (∀ b, (Value.slice A' (apN s (cs.take k)).length c').ownBlock = some b → rb = some b ∨ w.heap.size ≤ b)) (fun _ _ i _ => m - (intOf i).toNat)
  case atStart => 
    exact ⟨0, A, c, Nat.zero_le _, rfl, by simp [apN, HSL.out], by have := h; simp [apN]; rw [HSL.out]; exact this, ⟨rfl, rfl, rfl, Nat.le_refl _, fun _ _ _ => rfl⟩, fun b hb => .inl (by rw [← hb, ← HV0.out]; simp [apN, HSL.out])⟩
  case round =>
    obtain ⟨k, A', c', hk, rfl, rfl, hrow, hg, hloc0⟩ := hrel
    by_cases hlt : k < m
    · have hr' := h'.kept hg hap
      obtain ⟨g, x, rfl, _, _, hx, hcell, _⟩ := hr'.get (k := k) (by have := HM.out; omega)
      have hS := apN_snoc s (cs.take k) x
      rw [← take_snoc hx.out] at hS
      have hsl : (apN s (cs.take k)).length ≤ 2097152 := Nat.le_trans (apN_len _ _) (by have := HSL.out; rw [List.length_take]; omega)
      clear hx
      have C := slicesContains_any wr lo A' _ c' _ hrow rfl (by omega) x
      by_cases hx1 : x ∈ apN s (cs.take k)
      · rw [decide_eq_true hx1] at C
        rw [if_pos hx1] at hS
        have HS := Lib.hid hS
        clear hS hx1
        go_wp2_with (go_at_call 72; refine C.mono ?_; rintro e w' ⟨rfl, rfl⟩)
        go_roundw
        case rel => exact ⟨k + 1, A', c', by omega, by go_num, by rw [HS.out], by rw [HS.out]; exact hrow, hg, by rw [HS.out]; exact hloc0⟩
        case measure => simp [intOf]; omega
      · rw [decide_eq_false hx1] at C
        rw [if_neg hx1] at hS
        have HS := Lib.hid hS
        clear hS hx1
        have hown : wr.ownsRow lo 3 1 (.slice A' (apN s (cs.take k)).length c') (apN s (cs.take k)).length ((apN s (cs.take k)).map iv) := hrow
        generalize hsn : apN s (cs.take k) = sn2 at *
        have HSN := Lib.hid hsn
        clear hsn hrow
        have hsz := hg.size
        go_wp2_with (first
          | (go_at_call 72; refine C.mono ?_; rintro e w' ⟨rfl, rfl⟩)
          | (at_builtin; refine wpList_append_own_at _ rfl _ _ 22 rfl lo 3 i0 (.int .i64 0) 1 8 Try.underlying22 hi hz0 hz1 hz2 rfl (by decide) _ _ _ rfl (hown.alloc _) ⟨wr.heap.size, 0, none⟩ 1 1 [.int .i64 x] rfl rfl ?ap1 ?ap2 ?ap3 ?ap4 ?ap5 ?_))
        try case ap1 => exact one_new
        try case ap2 => first | rfl | (intro u hu; simp at hu; subst hu; rfl)
        try case ap3 => unfold maxLen; omega
        try case ap4 => omega
        try case ap5 => first | omega | (simp; omega)
        intro v' w4 hown' hgrow hnil hloc
        have hrow' : Row w4 lo v' (apN s (cs.take (k + 1))) := by rw [HS.out]; exact Row.of_own hown' (by simp) (by simp)
        have hb0 : ∀ b, (Value.slice A' sn2.length c').ownBlock = some b → rb = some b ∨ w.heap.size ≤ b := hloc0.out
        have hg' : w.grownBy w4 rb := by
          have hg2 : w.grownBy (wr.alloc (.cells #[.int .i64 x] 3)) rb := grown_alloc hg _
          cases hob : (Value.slice A' sn2.length c').ownBlock with
          | none => rw [hob] at hgrow; exact grown_trans hg2 (grown_mono_none hgrow)
          | some b =>
            rw [hob] at hgrow
            rcases hb0 b hob with h9 | h9
            · rw [h9] at hg2 ⊢; exact grown_trans hg2 hgrow
            · exact grown_new hg2 hgrow h9
        have hloc4 : Hid (∀ b, v'.ownBlock = some b → rb = some b ∨ w.heap.size ≤ b) := fun b hb => by
          rcases hloc with h9 | h9
          · rw [h9] at hb; exact hb0 b hb
          · rw [h9] at hb; simp at hb; right; omega
        obtain ⟨A4, c4, hv', _⟩ := hrow'.form
        subst hv'
        clear hown hown' hgrow hloc hnil hloc0 hb0
        go_wp2_with fail
        go_roundw
        case rel => exact ⟨k + 1, A4, c4, by omega, by go_num, rfl, hrow', hg', hloc4⟩
        case measure => simp [intOf]; omega
    · obtain rfl : k = m := by omega
      have e : Hid (apN s (cs.take k) = apN s cs) := by unfold Hid; rw [List.take_of_length_le (by have := HM.out; omega)]
      go_wp2_with fail
      go_ret
      exact ⟨A', c', by rw [e.out]; rfl, by have := hrow; rw [e.out] at this; exact this, hg, by have := hloc0.out; rw [e.out] at this; exact this⟩
end Go.Proofs.Ytapkhgpifpgleaa

/- impl's order: pointedBy, what it returns, copyReached, OrderOf. -/
namespace Go.Proofs.Ytapkhgpifpgleaa
open Go.RowKit Go.Maps

/-- The function value over the heap in a block. -/
def ptBy (b : Nat) : Value := .func (.func 66) #[] #[.pointer (some ⟨b, 0, none⟩)]

set_option maxHeartbeats 1000000 in
theorem pointedBy_any (w : World) (v0 v1 v2 : Value) :
    Calls Try.prog 43 #[.agg #[v0, v1, v2]] w fun e w' => e = .returned (ptBy w.heap.size) ∧ w' = w.alloc (.cells #[v0, v1, v2] 27) := by
  go_enter Try.func43, Try.ntmps43
  go_wp2_with fail
  go_ret
  exact ⟨rfl, rfl⟩

set_option maxRecDepth 100000 in
set_option maxHeartbeats 2000000 in
theorem kids_any (w : World) (lo : Nat) (b : Nat) (A0 : Option Addr) (n0 c0 : Nat) (A1 : Option Addr) (n1 c1 : Nat) (A2 : Option Addr) (n2 c2 : Nat) (t : TypeId) (h : Hp) (hva : hvB h = true)
    (X : Blk3 w b (.slice A0 n0 c0) (.slice A1 n1 c1) (.slice A2 n2 c2) t) (h0 : Row w lo (.slice A0 n0 c0) h.l) (h1 : Row w lo (.slice A1 n1 c1) h.r) (l0 : Hid (h.l.length = n0)) (l1 : Hid (h.r.length = n1)) (c : Int) (hpl : plB c h.l.length = true) :
    Calls Try.prog 66 #[.int .i64 c, .pointer (some ⟨b, 0, none⟩)] w (NewRow w (nonN (kid2 h c))) := by
  obtain ⟨kc, rfl, hkc⟩ := plB_nat hpl
  have hl := hvB_len hva
  have u0 : n0 ≤ 8 ∧ kc < n0 ∧ kc < n1 := by have := l0.out; have := l1.out; omega
  obtain ⟨u0a, u0b, u0c⟩ := u0
  obtain ⟨ga, lx0, eA0, _, hga, hl0, hcl, _⟩ := h0.get (k := kc) (by have := l0.out; omega)
  obtain ⟨gb, rx0, eA1, _, hgb, hr0, hcr, _⟩ := h1.get (k := kc) (by have := l1.out; omega)
  subst eA0 eA1
  have hk : kid2 h (kc : Int) = [lx0, rx0] := by unfold kid2; rw [gd_nat hl0.out, gd_nat hr0.out]
  rw [hk]
  have hga1 : ga < w.heap.size := hga
  have hgb1 : gb < w.heap.size := hgb
  obtain ⟨p0, p1, p2, _⟩ := X.cells
  have lX := X.lt
  have WN := fun W lo' (R : Row W lo' (.slice (some ⟨w.heap.size, 0, none⟩) 2 2) [lx0, rx0]) => withoutNone_any W lo' (some ⟨w.heap.size, 0, none⟩) 2 2 [lx0, rx0] R rfl (by omega)
  clear hl0 hr0 hpl hl hva h0 h1 hk X
  go_enter Try.func66, Try.ntmps66
  go_wp2_with fail
  go_region_held3 (fun w' => w'.cell? ⟨b, 0, none⟩ = some (.slice (some ⟨ga, 0, none⟩) n0 c0) ∧ w'.cell? ⟨b, 1, none⟩ = some (.slice (some ⟨gb, 0, none⟩) n1 c1) ∧ w'.cell? ⟨ga, kc, none⟩ = some (.int .i64 lx0) ∧ w'.cell? ⟨gb, kc, none⟩ = some (.int .i64 rx0))
    (((try dsimp only); (repeat' apply And.intro) <;> (with_reducible (first | exact p0 | exact cellD p0 | exact cellA (cellD p0) _ | exact cellD (cellA p0 _) | exact p1 | exact cellD p1 | exact cellA (cellD p1) _ | exact cellD (cellA p1 _) | exact hcl | exact cellD hcl | exact cellA (cellD hcl) _ | exact cellD (cellA hcl _) | exact hcr | exact cellD hcr | exact cellA (cellD hcr) _ | exact cellD (cellA hcr _) | exact q0 | exact q1 | exact hcl2 | exact hcr2))))
    (first
      | (go_at_call 42; (with_reducible refine (WN _ _ (by first | exact Row.drew (lit2 _ _ _) | exact lit2 _ _ _)).mono ?_); rintro e w2 ⟨AR, kR, rfl, R2, hb2⟩; have q0 : w2.cell? ⟨b, 0, none⟩ = some (.slice (some ⟨ga, 0, none⟩) n0 c0) := (hb2.cell (p := ⟨b, 0, none⟩) (by first | omega | (simp <;> omega))).trans (cellD (cellA p0 _)); have q1 : w2.cell? ⟨b, 1, none⟩ = some (.slice (some ⟨gb, 0, none⟩) n1 c1) := (hb2.cell (p := ⟨b, 1, none⟩) (by first | omega | (simp <;> omega))).trans (cellD (cellA p1 _)); have hcl2 : w2.cell? ⟨ga, kc, none⟩ = some (.int .i64 lx0) := (hb2.cell (p := ⟨ga, kc, none⟩) (by first | omega | (simp <;> omega))).trans (cellD (cellA hcl _)); have hcr2 : w2.cell? ⟨gb, kc, none⟩ = some (.int .i64 rx0) := (hb2.cell (p := ⟨gb, kc, none⟩) (by first | omega | (simp <;> omega))).trans (cellD (cellA hcr _)); have B2 : Below w.heap.size w w2 := (((Below.refl _ _).alloc (Nat.le_refl _) (.cells #[.int .i64 lx0, .int .i64 rx0] 3)).drew).trans (hb2.mono (by first | omega | (simp <;> omega)))))
  rename_i hHeld
  clear hHeld
  go_wp2_with fail
  go_ret
  exact ⟨_, _, rfl, R2.mono (by simp), B2⟩

set_option maxRecDepth 100000 in
set_option maxHeartbeats 2000000 in
theorem copyReached_any (w : World) (lo lo' : Nat) (b : Nat) (A0 : Option Addr) (n0 c0 : Nat) (A1 : Option Addr) (n1 c1 : Nat) (A2 : Option Addr) (n2 c2 : Nat) (t : TypeId) (h : Hp) (hva : hvB h = true)
    (X : Blk3 w b (.slice A0 n0 c0) (.slice A1 n1 c1) (.slice A2 n2 c2) t) (h0 : Row w lo (.slice A0 n0 c0) h.l) (h1 : Row w lo (.slice A1 n1 c1) h.r) (l0 : Hid (h.l.length = n0)) (l1 : Hid (h.r.length = n1))
    (B : Option Addr) (m d : Nat) (ts : List Int) (ht : ts.all (ptB · h.l.length) = true) (htl : ts.length ≤ 1048576) (h' : Row w lo' (.slice B m d) (nonN ts)) (hm : (nonN ts).length = m) :
    Calls Try.prog 41 #[.slice B m d, ptBy b] w (NewRow w (ordL h ts)) := by
  have hl8 := hvB_len hva
  have hml : m ≤ 1048576 := by have := nonN_len ts; omega
  have S := appendNew_any w w.heap.size lo' none 0 [] (Row.nil _ _) (Nat.le_refl _) (by simp) B m d (nonN ts) h' hm hml (fun b _ e => by simp [Value.ownBlock] at e)
  rw [apN_meets] at S
  have e0 : ordN h ts 0 = meets [] ts := rfl
  rw [← e0] at S
  have K := fun W (hX : Blk3 W b (.slice A0 n0 c0) (.slice A1 n1 c1) (.slice A2 n2 c2) t) (r0 : Row W lo (.slice A0 n0 c0) h.l) (r1 : Row W lo (.slice A1 n1 c1) h.r) (c : Int) (hp : plB c h.l.length = true) => kids_any W lo b A0 n0 c0 A1 n1 c1 A2 n2 c2 t h hva hX r0 r1 l0 l1 c hp
  have hlen := fun k => ordN_len hva ht k
  have hcell := fun k => (ordN_ok hva ht k).2
  have hstep := fun k c (hc : (ordN h ts k)[k]? = some c) => (show ordN h ts (k + 1) = apN (ordN h ts k) (nonN (kid2 h c)) by rw [ordN_succ, ordS_at hc, apN_meets])
  have hstop := fun k (hk : (ordN h ts k).length ≤ k) => ordL_of hva ht hk
  have K2 := Lib.hid K
  have HLE := Lib.hid hlen
  have HCE := Lib.hid hcell
  have HST := Lib.hid hstep
  have HSO := Lib.hid hstop
  clear K hlen hcell hstep hstop e0 hm
  generalize ordL h ts = oo at HSO ⊢
  go_enter Try.func41, Try.ntmps41
  unfold ptBy
  go_wp2_with fail
  refine S.mono ?_; rintro e w1 ⟨A, c, rfl, R1, hg1, hloc1⟩
  have B1 : Below w.heap.size w w1 := ⟨hg1.os, hg1.tape, hg1.output, hg1.size, fun k hk => hg1.block k hk (by simp [Value.ownBlock])⟩
  clear hg1 hloc1 S h'
  go_wp2_with fail
  go_loopw [5, 6] (fun v i wr => ∃ (k : Nat) (A' : Option Addr) (c' : Nat), k ≤ n0 ∧ i = .int .i64 k ∧ v = .slice A' (ordN h ts k).length c' ∧ Row wr w.heap.size (.slice A' (ordN h ts k).length c') (ordN h ts k) ∧ Below w.heap.size w wr) (fun _ i _ => n0 - (intOf i).toNat)
  case atStart => exact ⟨0, A, c, Nat.zero_le _, rfl, rfl, R1, B1⟩
  case round =>
    obtain ⟨k, A', c', hk, rfl, rfl, hrow, hB⟩ := hrel
    have hle := HLE.out k
    have hn8 : n0 ≤ 8 := by have := l0.out; omega
    have hle2 : (ordN h ts k).length ≤ n0 := by rw [l0.out] at hle; exact hle
    by_cases hlt : k < (ordN h ts k).length
    · obtain ⟨g, x, rfl, _, _, hx, hcell, _⟩ := hrow.get hlt
      have hp : plB x h.l.length = true := by
        have := HCE.out k; rw [List.all_eq_true] at this; exact this x (List.mem_of_getElem? hx.out)
      have hnx := Lib.hid (HST.out k x hx.out)
      have Kx := fun W hX r0 r1 => K2.out W hX r0 r1 x hp
      have Xr := X.far hB X.lt
      have r0 := h0.far hB (fun b hb => (h0.lt b hb).2)
      have r1 := h1.far hB (fun b hb => (h1.lt b hb).2)
      have AP := fun W lo2 (hW : Row W w.heap.size (.slice (some ⟨g, 0, none⟩) (ordN h ts k).length c') (ordN h ts k)) (hz : w.heap.size ≤ W.heap.size) B2 d2 (h2 : Row W lo2 (.slice B2 (nonN (kid2 h x)).length d2) (nonN (kid2 h x))) hap => appendNew_any W w.heap.size lo2 (some ⟨g, 0, none⟩) c' (ordN h ts k) hW hz (by omega) B2 _ d2 (nonN (kid2 h x)) h2 rfl (by have := nonN_len (kid2 h x); simp [kid2] at this ⊢; omega) hap
      rw [← hnx.out] at AP
      have hgb : g < wr.heap.size := (hrow.lt g rfl).2
      have hzw := hB.size
      clear hx hp hnx hle
      go_wp2_with fail
      refine (Kx wr Xr r0 r1).mono ?_; rintro e w2 ⟨AK, cK, rfl, R2, hb2⟩
      have M2 := Row.below (by exact hrow) hb2
      have B2 : Below w.heap.size w w2 := hB.trans (hb2.mono hzw)
      have z2 := hb2.size
      have hapk : ∀ q, (Value.slice AK (nonN (kid2 h x)).length cK).ownBlock = some q → (Value.slice (some ⟨g, 0, none⟩) (ordN h ts k).length c').ownBlock ≠ some q := fun q hq e => by
        have h9 := (R2.lt q hq).1
        simp [Value.ownBlock] at e; omega
      have AQ := AP w2 _ M2 (Nat.le_trans hzw z2) AK cK R2 hapk
      clear AP Kx Xr r0 r1 hcell hrow
      go_wp2_with fail
      refine AQ.mono ?_; rintro e w3 ⟨A3, c3, rfl, R3, hg3, hloc3⟩
      have B3 : Below w.heap.size w w3 := ⟨hg3.os.trans B2.os, hg3.tape.trans B2.tape, hg3.output.trans B2.output, Nat.le_trans B2.size hg3.size, fun j hj => (hg3.block j (Nat.lt_of_lt_of_le hj B2.size) (by have := (M2.lt g rfl).1; simp [Value.ownBlock]; omega)).trans (B2.block j hj)⟩
      clear hg3 hloc3 AQ M2 R2 hapk
      go_wp2_with fail
      go_roundw
      case rel => exact ⟨k + 1, A3, c3, by omega, by go_num, rfl, R3, B3⟩
      case measure => simp [intOf]; omega
    · have he := HSO.out k (by omega)
      have HE := Lib.hid he
      clear he
      go_wp2_with fail
      go_ret
      exact ⟨A', c', by rw [HE.out]; rfl, by rw [HE.out]; exact hrow, hB⟩

set_option maxRecDepth 100000 in
set_option maxHeartbeats 2000000 in
theorem implOrder_any (w : World) (lo : Nat) (v : Value) (h : Hp) (hv : Hv w lo v h) : Calls Try.prog 15 #[v] w (NewRow w (order h)) := by
  obtain ⟨A0, n0, c0, A1, n1, c1, A2, n2, c2, rfl, ⟨h0, h1, h2⟩, ⟨l0, l1, l2⟩, _⟩ := hv.open_
  have X0 := Blk3.new w (.slice A0 n0 c0) (.slice A1 n1 c1) (.slice A2 n2 c2) 27
  have V := implHeapValid_any _ _ _ _ (hv.alloc (.cells #[.slice A0 n0 c0, .slice A1 n1 c1, .slice A2 n2 c2] 27))
  have fin : Below w.heap.size w (w.alloc (.cells #[.slice A0 n0 c0, .slice A1 n1 c1, .slice A2 n2 c2] 27)) := (Below.refl _ _).alloc (Nat.le_refl _) _
  rcases ev : hvB h
  · rw [ev] at V
    have hf : order h = [] := by unfold order; rw [ev]; simp
    rw [hf]
    clear ev hf
    go_enter Try.func15, Try.ntmps15
    go_wp2_with fail
    refine V.mono ?_; rintro e w1 ⟨rfl, hb1⟩
    go_wp2_with fail
    go_ret
    exact ⟨none, 0, rfl, Row.nil _ _, fin.trans (hb1.mono (by simp))⟩
  · rw [ev] at V
    have hl := hvB_len ev
    have u2 : n2 ≤ 3 := by have := l2.out; omega
    have hrt := hv_roots ev
    rw [order_eq ev]
    have WN := fun W (R : Row W lo (.slice A2 n2 c2) h.t) => withoutNone_any W lo A2 n2 c2 h.t R l2.out (by omega)
    have PB := fun W => pointedBy_any W (.slice A0 n0 c0) (.slice A1 n1 c1) (.slice A2 n2 c2)
    have CR := fun W lo' b t X r0 r1 B m d h' hm => copyReached_any W lo lo' b A0 n0 c0 A1 n1 c1 A2 n2 c2 t h ev X r0 r1 l0 l1 B m d h.t hrt (by omega) h' hm
    generalize ordL h h.t = oo at CR ⊢
    generalize nonN h.t = nt at CR WN
    clear hl hrt ev
    go_enter Try.func15, Try.ntmps15
    go_wp2_with fail
    refine V.mono ?_; rintro e w1 ⟨rfl, hb1⟩
    have X1 := Blk3.below (by exact X0) hb1
    have H1 := Hv.below (by exact hv.alloc (.cells #[.slice A0 n0 c0, .slice A1 n1 c1, .slice A2 n2 c2] 27)) hb1
    have Q0 := Row.below (by exact h0.alloc (.cells #[.slice A0 n0 c0, .slice A1 n1 c1, .slice A2 n2 c2] 27)) hb1
    have Q1 := Row.below (by exact h1.alloc (.cells #[.slice A0 n0 c0, .slice A1 n1 c1, .slice A2 n2 c2] 27)) hb1
    have Q2 := Row.below (by exact h2.alloc (.cells #[.slice A0 n0 c0, .slice A1 n1 c1, .slice A2 n2 c2] 27)) hb1
    have B1 : Below w.heap.size w w1 := fin.trans (hb1.mono (by simp))
    obtain ⟨p0, p1, p2, _⟩ := X1.cells
    clear V hv h0 h1 h2 X0 H1 fin
    go_wp2_with fail
    go_region_held3 (fun w' => w'.cell? ⟨w.heap.size, 0, none⟩ = some (.slice A0 n0 c0) ∧ w'.cell? ⟨w.heap.size, 1, none⟩ = some (.slice A1 n1 c1) ∧ w'.cell? ⟨w.heap.size, 2, none⟩ = some (.slice A2 n2 c2))
      (((try dsimp only); (repeat' apply And.intro) <;> (with_reducible (first | exact p0 | exact cellD p0 | exact p1 | exact cellD p1 | exact p2 | exact cellD p2 | exact q0 | exact q1 | exact q2 | exact r0 | exact r1 | exact r2 | exact s0 | exact s1 | exact s2))))
      (first
        | (go_at_call 42; (with_reducible refine (WN _ (Row.drew Q2)).mono ?_); rintro e w2 ⟨AT, kT, rfl, RT, hb2⟩; (have B2 : Below w.heap.size w w2 := (Below.drew B1).trans (hb2.mono B1.size)); (have X2 := Blk3.below (by exact X1) hb2); obtain ⟨q0, q1, q2, _⟩ := X2.cells; (have U0 := Row.below (by exact Q0) hb2); (have U1 := Row.below (by exact Q1) hb2))
        | (go_at_call 43; (with_reducible refine (PB _).mono ?_); rintro e w3 ⟨rfl, rfl⟩; (have B3 : Below w.heap.size w (w2.alloc (.cells #[.slice A0 n0 c0, .slice A1 n1 c1, .slice A2 n2 c2] 27)) := B2.alloc B2.size _); (have X3 := Blk3.new w2 (.slice A0 n0 c0) (.slice A1 n1 c1) (.slice A2 n2 c2) 27); obtain ⟨r0, r1, r2, _⟩ := (X2.alloc (.cells #[.slice A0 n0 c0, .slice A1 n1 c1, .slice A2 n2 c2] 27)).cells; (have V0 := U0.alloc (.cells #[.slice A0 n0 c0, .slice A1 n1 c1, .slice A2 n2 c2] 27)); (have V1 := U1.alloc (.cells #[.slice A0 n0 c0, .slice A1 n1 c1, .slice A2 n2 c2] 27)); (have VT := RT.alloc (.cells #[.slice A0 n0 c0, .slice A1 n1 c1, .slice A2 n2 c2] 27)))
        | (go_at_call 41; (with_reducible refine (CR _ _ _ _ X3 V0 V1 _ _ _ VT rfl).mono ?_); rintro e w4 ⟨AO, kO, rfl, RO, hb4⟩; (have B4 := B3.trans (hb4.mono B3.size)); (have X4 := Blk3.below (by exact X2.alloc (.cells #[.slice A0 n0 c0, .slice A1 n1 c1, .slice A2 n2 c2] 27)) hb4); obtain ⟨s0, s1, s2, _⟩ := X4.cells))
    rename_i hHeld
    clear hHeld
    go_wp2_with fail
    go_ret
    exact ⟨AO, kO, rfl, RO.mono B3.size, B4⟩
end Go.Proofs.Ytapkhgpifpgleaa

/- spec's order: l10At, l10Meet, l10Order, OrderOf, l10To. -/
namespace Go.Proofs.Ytapkhgpifpgleaa
open Go.RowKit

/-- append of nothing, at the list of a plain region's operations. -/
theorem wpList_append_zeroO {P : Program} {ops : Array Oper} {rest : List Oper} {o : Oper} {a : Act} {w : World} {Q : Exit → Act → World → Prop}
    (hg : o.guard = none) (s x : Operand) (t : TypeId) (hop : o.op = Op.call { callee := Callee.builtin Builtin.append, args := #[s, x], argTypes := #[t, t] })
    (e : TypeId) (i : TypeInfo) (h1 : P.underlying t = some (.slice e)) (h2 : P.info? e = some i)
    (base : Option Addr) (n cap : Nat) (hs : a.eval s = .slice base n cap) (hle : n ≤ cap) (ax : Option Addr) (m cx : Nat) (hm : m = 0) (hx : a.eval x = .slice ax m cx)
    (hK : ∀ w', Hid (w' = w) → wpList P ops Q rest (a.put o.dst (.slice base n cap)) w') : wpList P ops Q (o :: rest) a w := by
  subst hm
  refine wpList_plain hg fun K hK' => ?_
  have h9 := hK' _ _ (hK w rfl)
  have hrun : (Builtin.append_ #[t, t] o.type #[.slice base n cap, .slice ax 0 cx]).run P w = .ok (.slice base n cap) w := by
    refine run_append_nothing w t t o.type e i h1 h2 base n cap hle _ ?_
    cases ax with
    | none => exact Src.ofNil w h1 cx
    | some ad => exact Src.ofSlice w h1 ad 0 cx [] (by simp) (fun j u hj => by simp at hj) (fun u hu => by simp at hu)
  unfold Oper.wp
  simp [execOp, hop, resolve, invoke, builtin, hs, hx, hrun, Result.andThen]
  exact h9
/-- A row is appended to a literal empty one. -/
theorem wpList_append_rowO {ops : Array Oper} {rest : List Oper} {o : Oper} {a : Act} {w : World} {Q : Exit → Act → World → Prop}
    (hg : o.guard = none) (s x : Operand) (hop : o.op = Op.call { callee := Callee.builtin Builtin.append, args := #[s, x], argTypes := #[22, 22] })
    (base : Option Addr) (lb : Nat) (hs : a.eval s = .slice base 0 0) (hbase : Row w lb (.slice base 0 0) []) (hlb : lb ≤ w.heap.size)
    (lo : Nat) (A : Option Addr) (n c : Nat) (xs : List Int) (hx : a.eval x = .slice A n c) (hr : Row w lo (.slice A n c) xs) (hn : Hid (xs.length = n)) (hb : n ≤ 1048576)
    (hK : ∀ A' c' w', Row w' lb (.slice A' n c') xs → Below w.heap.size w w' → wpList Try.prog ops Q rest (a.put o.dst (.slice A' n c')) w') : wpList Try.prog ops Q (o :: rest) a w := by
  have hn' := hn.out
  obtain ⟨i0, hi, hz0, hz1, hz2⟩ := info_parts Try.infoInt
  rcases Nat.eq_zero_or_pos n with h0 | h0
  · subst h0
    obtain rfl : xs = [] := List.eq_nil_of_length_eq_zero hn'
    refine wpList_append_zeroO hg s x 22 hop 3 i0 Try.underlying22 hi base 0 0 hs (Nat.le_refl _) A 0 c rfl hx ?_
    intro w' hw'
    have e := hw'.out
    subst e
    exact hK base 0 _ hbase (Below.refl _ _)
  · obtain ⟨g, rfl, _, _⟩ := hr.at_ (k := 0) (by omega)
    refine wpList_append_grows w hg s x 22 hop 3 i0 (.int .i64 0) 1 8 Try.underlying22 hi hz0 hz1 hz2 rfl (by decide) base 0 0 [] hs (fun _ => ⟨rfl, rfl⟩) rfl (fun _ _ j u hj => nil_get hj) ⟨g, 0, none⟩ n c (xs.map iv) hx (by simp; omega) (Row.cellsV hr) (ints_oneCell _ _) (by omega) (by unfold maxLen; omega) (by omega) ?_
    intro v' w' hown hgr
    obtain ⟨A', c', rfl, hr', hb'⟩ := after_append (xs := xs) (n := n) (by simpa using hown) hgr (by omega)
    have h9 := hK A' c' w' (by rw [← hn']; exact hr'.mono hlb) hb'
    rw [hn']; exact h9
theorem leDO {a : Nat} {w : World} (h : a ≤ w.heap.size) : a ≤ w.drew.heap.size := h
theorem at_first (o : List Int) (x : Int) : at_ o x = firstOf o x := rfl

set_option maxHeartbeats 1000000 in
theorem l10At_any (w : World) (lo : Nat) (A : Option Addr) (n c : Nat) (xs : List Int) (h : Row w lo (.slice A n c) xs) (l : Hid (xs.length = n)) (hm : n ≤ 9223372036854775807) (x : Int) :
    Calls Try.prog 67 #[.slice A n c, .int .i64 x] w fun e w' => e = .returned (.int .i64 (at_ xs x)) ∧ w = w' := by
  rw [at_first]
  go_enter Try.func67, Try.ntmps67
  go_wp2_with fail
  go_loop [5] (fun i => ∃ k : Nat, k ≤ n ∧ i = .int .i64 k ∧ Hid (∀ j, j < k → xs[j]? ≠ some x)) (fun i => n - (intOf i).toNat)
  case atStart => exact ⟨0, Nat.zero_le _, rfl, fun j hj => absurd hj (Nat.not_lt_zero _)⟩
  case round =>
    obtain ⟨k, hk, rfl, ht⟩ := hrel
    by_cases hlt : k < n
    · obtain ⟨g, y, rfl, _, _, hy, hcy, _⟩ := h.get (k := k) (by rw [l.out]; exact hlt)
      have hb : (k : Int) < (n : Int) := by omega
      by_cases hxy : y = x
      · subst hxy
        have hf := Lib.hid (first_at hy.out ht.out)
        clear hy ht
        go_wp2_with fail
        go_ret
        exact ⟨ret_int hf.out.symm, rfl⟩
      · have hxy1 : (y == x) = false := by simp [hxy]
        have ht' : Hid (∀ j, j < k + 1 → xs[j]? ≠ some x) := fun j hj => by
          rcases Nat.lt_succ_iff_lt_or_eq.1 hj with h9 | rfl
          · exact ht.out j h9
          · rw [hy.out]; intro e; exact hxy (by simpa using e)
        clear hy ht
        go_wp2_with fail
        go_round
        case rel => exact ⟨k + 1, by omega, by go_num, ht'⟩
        case measure => simp [intOf]; omega
    · obtain rfl : k = n := by omega
      have hf := Lib.hid (first_none (c := xs) (x := x) (fun j hj => ht.out j (by rw [l.out] at hj; exact hj)))
      clear ht
      go_wp2_with fail
      go_ret
      exact ⟨ret_int hf.out.symm, rfl⟩

set_option maxHeartbeats 1000000 in
theorem l10To_any (w : World) (lo : Nat) (A : Option Addr) (n c : Nat) (xs : List Int) (h : Row w lo (.slice A n c) xs) (l : Hid (xs.length = n)) (hm : n ≤ 9223372036854775807) (x : Int) :
    Calls Try.prog 45 #[.slice A n c, .int .i64 x] w fun e w' => e = .returned (.int .i64 (ren (at_ xs) x)) ∧ w = w' := by
  have AT := l10At_any w lo A n c xs h l hm x
  by_cases hx : x = -1
  · subst hx
    go_enter Try.func45, Try.ntmps45
    go_wp2_with fail
    go_ret
    exact ⟨ret_int rfl, rfl⟩
  · have hx2 : (x == -1) = false := by simpa using hx
    rw [ren_ne hx]
    clear hx
    go_enter Try.func45, Try.ntmps45
    go_wp2_with fail
    refine AT.mono ?_; rintro e w1 ⟨rfl, rfl⟩
    go_wp2_with fail
    go_ret
    exact ⟨rfl, rfl⟩

/-- A row comes back, from 'lo' on, and nothing that was there has turned. -/
def RowLo (w : World) (lo : Nat) (xs : List Int) (e : Ending) (w' : World) : Prop := ∃ A c, e = .returned (.slice A xs.length c) ∧ Row w' lo (.slice A xs.length c) xs ∧ Below w.heap.size w w'

set_option maxRecDepth 100000 in
set_option maxHeartbeats 2000000 in
theorem l10Meet_any (w : World) (lo : Nat) (A : Option Addr) (n c : Nat) (s : List Int) (h : Row w lo (.slice A n c) s) (l : Hid (s.length = n)) (hm : n ≤ 65536) (hlo : lo ≤ w.heap.size) (x : Int) :
    Calls Try.prog 51 #[.slice A n c, .int .i64 x] w (RowLo w lo (meet1 s x)) := by
  obtain ⟨i0, hi, hz0, hz1, hz2⟩ := info_parts Try.infoInt
  have AT := fun W hW => l10At_any W lo A n c s hW l (by omega) x
  by_cases hx : x = -1
  · subst hx
    have e : meet1 s (-1) = s := by simp [meet1]
    rw [e]
    go_enter Try.func51, Try.ntmps51
    go_wp2_with fail
    go_ret
    exact ⟨A, c, by rw [l.out]; rfl, by rw [l.out]; exact h, Below.refl _ _⟩
  · have hx2 : (x != -1) = true := by simpa using hx
    by_cases hs : x ∈ s
    · have e : meet1 s x = s := by simp [meet1, hs]
      rw [e]
      obtain ⟨j, ej, _, _⟩ := at_mem hs
      rw [ej] at AT
      have hj : ((j : Int) < 0) = False := by simp
      have hj2 : decide ((j : Int) < 0) = false := by simp
      clear hx hs ej e
      go_enter Try.func51, Try.ntmps51
      go_wp2_with fail
      refine (AT _ h).mono ?_; rintro e w1 ⟨rfl, rfl⟩
      go_wp2_with fail
      go_ret
      exact ⟨A, c, by rw [l.out]; rfl, by rw [l.out]; exact h, Below.refl _ _⟩
    · have e : meet1 s x = s ++ [x] := by simp [meet1, hs, hx]
      rw [e]
      rw [at_not hs] at AT
      clear hx hs e
      go_enter Try.func51, Try.ntmps51
      have E0 : Row (w.alloc (.cells #[] 3)) w.heap.size (.slice (some ⟨w.heap.size, 0, none⟩) 0 0) [] := Row.lit_lo rfl w.heap.size (Nat.le_refl _) [] (by simp)
      go_wp2_with fail
      refine (AT _ h).mono ?_; rintro e w1 ⟨rfl, rfl⟩
      go_wp2_with (at_builtin; refine wpList_append_rowO rfl _ _ rfl (some ⟨w.heap.size, 0, none⟩) w.heap.size rfl E0 (by simp) lo A n c s rfl (h.alloc _) l (by omega) ?_)
      intro A2 c2 w2 hr2 hb2
      have B2 : Below w.heap.size w w2 := ((Below.refl _ _).alloc (Nat.le_refl _) _).trans (hb2.mono (by simp))
      have hsz := B2.size
      have hl := l.out
      have hown : w2.ownsRow w.heap.size 3 1 (.slice A2 n c2) n (s.map iv) := by have := hr2; unfold Row at this; rw [hl] at this; exact this
      clear hr2 hb2 AT E0
      go_wp2_with (at_builtin; refine wpList_append_own_at _ rfl _ _ 22 rfl w.heap.size 3 i0 (.int .i64 0) 1 8 Try.underlying22 hi hz0 hz1 hz2 rfl (by decide) _ _ _ rfl (hown.alloc _) ⟨w2.heap.size, 0, none⟩ 1 1 [.int .i64 x] rfl rfl ?ap1 ?ap2 ?ap3 ?ap4 ?ap5 ?_)
      try case ap1 => exact one_new
      try case ap2 => first | rfl | (intro u hu; simp at hu; subst hu; rfl)
      try case ap3 => unfold maxLen; omega
      try case ap4 => omega
      try case ap5 => first | omega | (simp; omega)
      intro v' w4 hown' hgrow hnil hloc
      have hrow' : Row w4 w.heap.size v' (s ++ [x]) := Row.of_own hown' (by simp) (by simp; omega)
      have B4 := (B2.alloc hsz _).grown hgrow (by simp; omega) (fun j hj => by have := (hown.lt j hj).1; omega)
      obtain ⟨A4, c4, hv', _⟩ := hrow'.form
      subst hv'
      clear hown hown' hgrow hloc hnil
      go_wp2_with fail
      go_ret
      exact ⟨A4, c4, rfl, hrow'.mono hlo, B4⟩

set_option maxRecDepth 100000 in
set_option maxHeartbeats 2000000 in
theorem l10Order_any (w : World) (lo : Nat) (v : Value) (h : Hp) (hv : Hv w lo v h) (hva : hvB h = true) : Calls Try.prog 40 #[v] w (NewRow w (order h)) := by
  obtain ⟨A0, n0, c0, A1, n1, c1, A2, n2, c2, rfl, ⟨h0, h1, h2⟩, ⟨l0, l1, l2⟩, _⟩ := hv.open_
  have X0 := Blk3.new w (.slice A0 n0 c0) (.slice A1 n1 c1) (.slice A2 n2 c2) 27
  have hl := hvB_len hva
  have hrt := hv_roots hva
  have hlen := fun k => ordN_len hva hrt k
  have hcell := fun k => (ordN_ok hva hrt k).2
  have hstop := fun k (hk : (ordN h h.t k).length ≤ k) => ordL_of hva hrt hk
  rw [order_eq hva]
  have u0 : n0 ≤ 8 ∧ n1 = n0 ∧ n2 ≤ 3 := by have := l0.out; have := l1.out; have := l2.out; omega
  obtain ⟨u0a, rfl, u2⟩ := u0
  have hmlen : ∀ k, (meets [] (h.t.take k)).length ≤ 8 := fun k => by
    have hp : (meets [] (h.t.take k)) <+: meets [] h.t := by
      conv => rhs; rw [← List.take_append_drop k h.t]
      unfold meets; rw [List.foldl_append]; exact meets_pre _ _
    have := hp.length_le; have := hlen 0
    have e : ordN h h.t 0 = meets [] h.t := rfl
    rw [e] at this; omega
  have HLE := Lib.hid hlen
  have HCE := Lib.hid hcell
  have HSO := Lib.hid hstop
  have HML := Lib.hid hmlen
  clear hlen hcell hstop hmlen hrt hva hv hl
  have E0 : Row ((w.alloc (.cells #[.slice A0 n1 c0, .slice A1 n1 c1, .slice A2 n2 c2] 27)).alloc (.cells #[] 3)) w.heap.size (.slice (some ⟨w.heap.size + 1, 0, none⟩) 0 0) [] := Row.lit_lo (by simp) w.heap.size (by simp) [] (by simp)
  have B0 : Below w.heap.size w ((w.alloc (.cells #[.slice A0 n1 c0, .slice A1 n1 c1, .slice A2 n2 c2] 27)).alloc (.cells #[] 3)) := ((Below.refl _ _).alloc (Nat.le_refl _) _).alloc (by simp) _
  have Y0 := X0.alloc (.cells #[] 3)
  have s0 := (h0.alloc (.cells #[.slice A0 n1 c0, .slice A1 n1 c1, .slice A2 n2 c2] 27)).alloc (.cells #[] 3)
  have s1 := (h1.alloc (.cells #[.slice A0 n1 c0, .slice A1 n1 c1, .slice A2 n2 c2] 27)).alloc (.cells #[] 3)
  have s2 := (h2.alloc (.cells #[.slice A0 n1 c0, .slice A1 n1 c1, .slice A2 n2 c2] 27)).alloc (.cells #[] 3)
  clear h0 h1 h2 X0
  go_enter Try.func40, Try.ntmps40
  go_wp2_with fail
  go_loopw [3, 4] (fun v i wr => ∃ (k : Nat) (A : Option Addr) (c : Nat), k ≤ n2 ∧ i = .int .i64 k ∧ v = .slice A (meets [] (h.t.take k)).length c ∧ Row wr w.heap.size (.slice A (meets [] (h.t.take k)).length c) (meets [] (h.t.take k)) ∧ Blk3 wr w.heap.size (.slice A0 n1 c0) (.slice A1 n1 c1) (.slice A2 n2 c2) 27 ∧ Row wr lo (.slice A0 n1 c0) h.l ∧ Row wr lo (.slice A1 n1 c1) h.r ∧ Row wr lo (.slice A2 n2 c2) h.t ∧ Below w.heap.size w wr) (fun _ i _ => n2 - (intOf i).toNat)
  case atStart => exact ⟨0, _, _, Nat.zero_le _, rfl, rfl, E0, Y0, s0, s1, s2, B0⟩
  case round =>
    obtain ⟨k, A, c, hk, rfl, rfl, hrow, hX, r0, r1, r2, hB⟩ := hrel
    have hm8 := HML.out k
    obtain ⟨p0, p1, p2, _⟩ := hX.cells
    have hzw := hB.size
    by_cases hlt : k < n2
    · obtain ⟨g, x, rfl, _, _, hx, hcx, _⟩ := r2.get (k := k) (by rw [l2.out]; exact hlt)
      have M := l10Meet_any wr w.heap.size A _ c (meets [] (h.t.take k)) hrow rfl (by omega) hzw x
      rw [← meets_snoc, ← take_snoc hx.out] at M
      clear hx
      go_wp2_with fail
      refine M.mono ?_; rintro e w2 ⟨A2', c2', rfl, R2, hb2⟩
      have X2 := hX.below hb2
      have t0 := Row.below (by exact r0) hb2
      have t1 := Row.below (by exact r1) hb2
      have t2 := Row.below (by exact r2) hb2
      have B2 := hB.trans (hb2.mono hzw)
      clear M hX r0 r1 r2 p0 p1 p2 hcx
      go_wp2_with fail
      go_roundw
      case rel => exact ⟨k + 1, A2', c2', by omega, by go_num, rfl, R2, X2, t0, t1, t2, B2⟩
      case measure => simp [intOf]; omega
    · obtain rfl : n2 = k := by omega
      have e : h.t.take n2 = h.t := List.take_of_length_le (by rw [l2.out]; omega)
      rw [e] at hrow hm8 ⊢
      have e2 : meets [] h.t = ordN h h.t 0 := rfl
      rw [e2] at hrow hm8 ⊢
      clear e e2
      go_wp2_with fail
      go_loopw [3, 5] (fun v i wr => ∃ (k : Nat) (A : Option Addr) (c : Nat), k ≤ n1 ∧ i = .int .i64 k ∧ v = .slice A (ordN h h.t k).length c ∧ Row wr w.heap.size (.slice A (ordN h h.t k).length c) (ordN h h.t k) ∧ Blk3 wr w.heap.size (.slice A0 n1 c0) (.slice A1 n1 c1) (.slice A2 n2 c2) 27 ∧ Row wr lo (.slice A0 n1 c0) h.l ∧ Row wr lo (.slice A1 n1 c1) h.r ∧ Below w.heap.size w wr) (fun _ i _ => n1 - (intOf i).toNat)
      case atStart => exact ⟨0, _, _, Nat.zero_le _, rfl, rfl, hrow, hX, r0, r1, hB⟩
      case round =>
        clear hrow hX r0 r1 r2 hB p0 p1 p2 hm8 hzw hk hlt
        obtain ⟨k, A, c, hk, rfl, rfl, hrow, hX, r0, r1, hB⟩ := hrel
        have hle := HLE.out k
        have hle2 : (ordN h h.t k).length ≤ n1 := by rw [l0.out] at hle; exact hle
        have hzw := hB.size
        by_cases hlt : k < (ordN h h.t k).length
        · obtain ⟨g, y, rfl, _, hgw, hy, hcy, _⟩ := hrow.get hlt
          have hp : plB y h.l.length = true := by
            have := HCE.out k; rw [List.all_eq_true] at this; exact this y (List.mem_of_getElem? hy.out)
          obtain ⟨j, rfl, hj⟩ := plB_nat hp
          obtain ⟨ga, lx, rfl, _, hga, hlx, hcl, _⟩ := r0.get (k := j) hj
          obtain ⟨gb, rx, rfl, _, hgb, hrx, hcr, _⟩ := r1.get (k := j) (by have := l0.out; have := l1.out; omega)
          have hjn : j < n1 := by have := l0.out; omega
          have hnx : ordN h h.t (k + 1) = meet1 (meet1 (ordN h h.t k) lx) rx := by
            rw [ordN_succ, ordS_at hy.out]; unfold kid2; rw [gd_nat hlx.out, gd_nat hrx.out]; rfl
          have hy1 : (meet1 (ordN h h.t k) lx)[k]? = some (j : Int) := by
            obtain ⟨tl9, e9⟩ := meet1_pre (ordN h h.t k) lx
            rw [← e9, List.getElem?_append_left hlt]; exact hy.out
          have hl1 : (meet1 (ordN h h.t k) lx).length ≤ 9 := by
            unfold meet1; split
            · omega
            · simp; omega
          have HNX := Lib.hid hnx
          have HY1 := Lib.hid hy1
          have M1 := fun W hW hz => l10Meet_any W w.heap.size (some ⟨g, 0, none⟩) _ c (ordN h h.t k) hW rfl (by omega) hz lx
          have M2 := fun W A9 c9 hW hz => l10Meet_any W w.heap.size A9 _ c9 (meet1 (ordN h h.t k) lx) hW rfl (by omega) hz rx
          obtain ⟨p0, p1, p2, _⟩ := hX.cells
          have lX := hX.lt
          clear hnx hy1 hy hlx hrx hp hj hle
          go_wp2_with fail
          go_region_held3 (fun w' => w'.cell? ⟨w.heap.size, 0, none⟩ = some (.slice (some ⟨ga, 0, none⟩) n1 c0) ∧ w'.cell? ⟨g, k, none⟩ = some (.int .i64 j) ∧ w'.cell? ⟨ga, j, none⟩ = some (.int .i64 lx))
            (((try dsimp only); (repeat' apply And.intro) <;> (with_reducible (first | exact p0 | exact cellD p0 | exact hcy | exact cellD hcy | exact hcl | exact cellD hcl | exact q0 | exact hcy2 | exact hcl2))))
            (first
              | (go_at_call 51; (with_reducible refine (M1 _ (Row.drew hrow) (leDO hzw)).mono ?_); rintro e w2 ⟨AM, kM, rfl, RM, hb2⟩; (have B2 : Below w.heap.size w w2 := (Below.drew hB).trans (hb2.mono hzw)); (have X2 := Blk3.below (by exact hX) hb2); obtain ⟨q0, q1, q2, _⟩ := X2.cells; (have t0 := Row.below (by exact r0) hb2); (have t1 := Row.below (by exact r1) hb2); (have hcy2 : w2.cell? ⟨g, k, none⟩ = some (.int .i64 j) := (hb2.cell (p := ⟨g, k, none⟩) hgw).trans (cellD hcy)); (have hcl2 : w2.cell? ⟨ga, j, none⟩ = some (.int .i64 lx) := (hb2.cell (p := ⟨ga, j, none⟩) hga).trans (cellD hcl)); (have hcr2 : w2.cell? ⟨gb, j, none⟩ = some (.int .i64 rx) := (hb2.cell (p := ⟨gb, j, none⟩) hgb).trans (cellD hcr))))
          rename_i hHeld
          clear hHeld
          have hzw2 := B2.size
          have hgb2 : gb < w2.heap.size := Nat.lt_of_lt_of_le hgb hb2.size
          have hk1 : k < (meet1 (ordN h h.t k) lx).length := (List.getElem?_eq_some_iff.1 HY1.out).1
          obtain ⟨g3, y3, rfl, _, hg3, hy3, hcy3, _⟩ := RM.get hk1
          have ey : y3 = (j : Int) := by have := hy3.out; rw [HY1.out] at this; simpa using this.symm
          subst ey
          clear hX r0 r1 hcy hcl hcr hy3 p0 p1 p2 q0 q2 hcy2 hcl2 M1 hb2 hB hrow
          have HM1L := Lib.hid hl1
          go_wp2_with fail
          go_region_held3 (fun w' => w'.cell? ⟨w.heap.size, 1, none⟩ = some (.slice (some ⟨gb, 0, none⟩) n1 c1) ∧ w'.cell? ⟨g3, k, none⟩ = some (.int .i64 j) ∧ w'.cell? ⟨gb, j, none⟩ = some (.int .i64 rx))
            (((try dsimp only); (repeat' apply And.intro) <;> (with_reducible (first | exact q1 | exact cellD q1 | exact hcy3 | exact cellD hcy3 | exact hcr2 | exact cellD hcr2 | exact u1 | exact hcy4 | exact hcr4))))
            (first
              | (go_at_call 51; (with_reducible refine (M2 _ _ _ (Row.drew RM) (leDO hzw2)).mono ?_); rintro e w4 ⟨AN, kN, rfl, RN, hb4⟩; (have B4 : Below w.heap.size w w4 := (Below.drew B2).trans (hb4.mono hzw2)); (have X4 := Blk3.below (by exact X2) hb4); obtain ⟨u0, u1, u2, _⟩ := X4.cells; (have v0 := Row.below (by exact t0) hb4); (have v1 := Row.below (by exact t1) hb4); (have hcy4 : w4.cell? ⟨g3, k, none⟩ = some (.int .i64 j) := (hb4.cell (p := ⟨g3, k, none⟩) hg3).trans (cellD hcy3)); (have hcr4 : w4.cell? ⟨gb, j, none⟩ = some (.int .i64 rx) := (hb4.cell (p := ⟨gb, j, none⟩) hgb2).trans (cellD hcr2))))
          rename_i hHeld
          clear hHeld
          rw [← HNX.out] at RN ⊢
          go_wp2_with fail
          go_roundw
          case rel => exact ⟨k + 1, AN, kN, by omega, by go_num, rfl, RN, X4, v0, v1, B4⟩
          case measure => simp [intOf]; omega
        · have he := HSO.out k (by omega)
          have HE := Lib.hid he
          clear he
          go_wp2_with fail
          go_ret
          exact ⟨A, c, by rw [HE.out]; rfl, by rw [HE.out]; exact hrow, hB⟩

set_option maxRecDepth 100000 in
set_option maxHeartbeats 2000000 in
theorem specOrder_any (w : World) (lo : Nat) (v : Value) (h : Hp) (hv : Hv w lo v h) : Calls Try.prog 13 #[v] w (NewRow w (order h)) := by
  obtain ⟨A0, n0, c0, A1, n1, c1, A2, n2, c2, rfl, _⟩ := hv.open_
  have X0 := Blk3.new w (.slice A0 n0 c0) (.slice A1 n1 c1) (.slice A2 n2 c2) 27
  have V := specHeapValid_any _ _ _ _ (hv.alloc (.cells #[.slice A0 n0 c0, .slice A1 n1 c1, .slice A2 n2 c2] 27))
  have fin : Below w.heap.size w (w.alloc (.cells #[.slice A0 n0 c0, .slice A1 n1 c1, .slice A2 n2 c2] 27)) := (Below.refl _ _).alloc (Nat.le_refl _) _
  rcases ev : hvB h
  · rw [ev] at V
    have hf : order h = [] := by unfold order; rw [ev]; simp
    rw [hf]
    clear ev hf
    go_enter Try.func13, Try.ntmps13
    go_wp2_with fail
    refine V.mono ?_; rintro e w1 ⟨rfl, hb1⟩
    have B1 : Below w.heap.size w w1 := fin.trans (hb1.mono (by simp))
    go_wp2_with fail
    go_ret
    exact ⟨some ⟨w1.heap.size, 0, none⟩, 0, rfl, Row.lit_lo rfl w.heap.size B1.size [] (by simp), B1.alloc B1.size _⟩
  · rw [ev] at V
    have O := fun W hW => l10Order_any W lo (.agg #[.slice A0 n0 c0, .slice A1 n1 c1, .slice A2 n2 c2]) h hW ev
    go_enter Try.func13, Try.ntmps13
    go_wp2_with fail
    refine V.mono ?_; rintro e w1 ⟨rfl, hb1⟩
    have X1 := Blk3.below (by exact X0) hb1
    have H1 := Hv.below (by exact hv.alloc (.cells #[.slice A0 n0 c0, .slice A1 n1 c1, .slice A2 n2 c2] 27)) hb1
    have B1 : Below w.heap.size w w1 := fin.trans (hb1.mono (by simp))
    obtain ⟨p0, p1, p2, _⟩ := X1.cells
    clear V hv X0 fin
    go_wp2_with fail
    refine (O _ H1).mono ?_; rintro e w2 ⟨A, c, rfl, R, hb2⟩
    go_wp2_with fail
    go_ret
    exact ⟨A, c, rfl, R.mono B1.size, B1.trans (hb2.mono B1.size)⟩
end Go.Proofs.Ytapkhgpifpgleaa

