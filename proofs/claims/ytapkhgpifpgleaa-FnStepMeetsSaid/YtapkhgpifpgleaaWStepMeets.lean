/- The law FnStepMeets, walked. -/
import Derived.Test.YtapkhgpifpgleaaDCStep
import Derived.Test.YtapkhgpifpgleaaMvI
import Derived.Test.YtapkhgpifpgleaaStepT
import Derived.Test.YtapkhgpifpgleaaCc
import Derived.Test.YtapkhgpifpgleaaLaws0
namespace Go.Proofs.Ytapkhgpifpgleaa
open Go.RowKit

theorem row_maxO {w : World} {lo n c : Nat} {A : Option Addr} {xs : List Int} (h : Row w lo (.slice A n c) xs) : xs.length ≤ 9223372036854775807 := by
  obtain ⟨A', c', _, h1, h2⟩ := h.form
  unfold maxLen at h2; omega
theorem ccInts_sameO (w : World) (lo lo' : Nat) (A A' : Option Addr) (c c' : Nat) (xs : List Int) (h : Row w lo (.slice A xs.length c) xs) (h' : Row w lo' (.slice A' xs.length c') xs) :
    Calls Try.prog 32 #[.slice A xs.length c, .slice A' xs.length c'] w (RetB w true) :=
  (ccInts_any w lo lo' A A' xs.length c xs.length c' xs xs h rfl (row_maxO h) h' rfl (row_maxO h')).mono fun _ _ ⟨he, nq, hw⟩ => ⟨by rw [he]; simp, by rw [hw]; exact below_drewN (Below.refl _ _) _⟩
theorem ccInts_rowsS (w : World) (lo lo' : Nat) (A A' : Option Addr) (n c c' : Nat) (xs : List Int) (hn : xs.length = n) (h : Row w lo (.slice A n c) xs) (h' : Row w lo' (.slice A' n c') xs) :
    Calls Try.prog 32 #[.slice A n c, .slice A' n c'] w (RetB w true) := by
  subst hn; exact ccInts_sameO w lo lo' A A' c c' xs h h'
theorem step_on {h : Hp} {s xs : List Int} {k : Nat} (hv : hvB h = true) (hp : s <+: xs) (hd : difB h.l.length xs = true) (hk : k < xs.length) : stepB h xs (k : Int) = true ∧ s <+: stepL h xs (k : Int) ∧ difB h.l.length (stepL h xs (k : Int)) = true := by
  have hb : stepB h xs (k : Int) = true := by
    unfold stepB; rw [hv, hd]; simp [plB]; omega
  have hg := List.getElem?_eq_getElem hk
  have hgd : gd xs (k : Int) = xs[k] := gdx_some hg
  obtain ⟨hr, hn⟩ := dif_rangeM hd
  have hc : plB (gd xs (k : Int)) h.l.length = true := by
    rw [hgd]; have := hr _ (List.getElem_mem hk); simp [plB]; omega
  have hall : xs.all (plB · h.l.length) = true := by
    rw [List.all_eq_true]; intro x hx; have := hr x hx; simp [plB]; omega
  have hs : stepL h xs (k : Int) = meets xs (kid2 h (gd xs (k : Int))) := by unfold stepL; rw [if_pos hb]
  refine ⟨hb, ?_, ?_⟩
  · rw [hs]; exact hp.trans (meets_pre _ _)
  · rw [hs]
    unfold difB; rw [decide_eq_true_eq]
    have h9 := meets_cells hall (kid2_pt hv hc)
    rw [List.all_eq_true] at h9
    exact ⟨fun x hx => by have := h9 x hx; simpa [plB] using this, meets_nodup hn _⟩
theorem step_open {h : Hp} {s : List Int} {i : Int} (e : stepB h s i = true) : difB h.l.length s = true ∧ ∃ a : Nat, i = a ∧ a < s.length := by
  unfold stepB at e
  simp only [Bool.and_eq_true] at e
  exact ⟨e.1.2, plB_nat e.2⟩
/-- Whether a pointer was met among the first k. -/
def bF (L : Int) (xs : List Int) (k : Nat) : Bool := (L == -1) || (xs.take k).any (· == L)
theorem bF_zero (L : Int) (xs : List Int) : bF L xs 0 = (L == -1) := by simp [bF]
theorem bF_next {L : Int} {xs : List Int} {k : Nat} {x : Int} (hx : xs[k]? = some x) : bF L xs (k + 1) = (bF L xs k || (x == L)) := by
  unfold bF
  rw [List.take_add_one, hx, Option.toList_some, List.any_append]
  simp [Bool.or_assoc]
theorem bF_end {L : Int} {xs : List Int} (h : L ≠ -1 → L ∈ xs) {k : Nat} (hk : xs.length ≤ k) : bF L xs k = true := by
  unfold bF
  rw [List.take_of_length_le hk]
  by_cases e : L = -1
  · simp [e]
  · have := h e
    simp [e]; exact this
theorem meet1_in {s : List Int} {c : Int} (h : c ≠ -1 → c ∈ s) : meet1 s c = s := by
  unfold meet1
  split
  · rfl
  · rename_i h9
    exfalso; apply h9
    by_cases e : c = -1
    · first | exact Or.inl e | exact Or.inr e | simp [e]
    · have := h e
      first | exact Or.inr this | exact Or.inl this | simp [this]
theorem stepL_on {h : Hp} {xs : List Int} {i : Int} (hb : stepB h xs i = true) : stepL h xs i = meets xs (kid2 h (gd xs i)) := by unfold stepL; rw [if_pos hb]
theorem step_meets {h : Hp} {s : List Int} {a : Nat} (hv : hvB h = true) (hd : difB h.l.length s = true) (ha : a < s.length) :
    ∃ (j : Nat) (lx rx : Int), s[a]? = some (j : Int) ∧ j < h.l.length ∧ h.l[j]? = some lx ∧ h.r[j]? = some rx ∧ (lx ≠ -1 → lx ∈ stepL h s (a : Int)) ∧ (rx ≠ -1 → rx ∈ stepL h s (a : Int)) ∧
      stepB h (stepL h s (a : Int)) (a : Int) = true ∧ stepL h (stepL h s (a : Int)) (a : Int) = stepL h s (a : Int) := by
  obtain ⟨hb, hp, hdx⟩ := step_on hv (List.prefix_refl s) hd ha
  have hg := List.getElem?_eq_getElem ha
  obtain ⟨hr, hn⟩ := dif_rangeM hd
  have hc := hr _ (List.getElem_mem ha)
  obtain ⟨j, hj⟩ : ∃ j : Nat, s[a] = j := ⟨s[a].toNat, by omega⟩
  rw [hj] at hg hc
  have hjl : j < h.l.length := by omega
  have hjr : j < h.r.length := by have := hvB_len hv; omega
  have e1 := List.getElem?_eq_getElem hjl
  have e2 := List.getElem?_eq_getElem hjr
  have hs : stepL h s (a : Int) = meets s (kid2 h (j : Int)) := by unfold stepL; rw [if_pos hb, gdx_some hg]
  have hk : kid2 h (j : Int) = [h.l[j], h.r[j]] := by unfold kid2; rw [gdx_some e1, gdx_some e2]
  have i1 : h.l[j] ≠ -1 → h.l[j] ∈ stepL h s (a : Int) := fun hne => by rw [hs, meets_mem]; exact .inr ⟨by rw [hk]; simp, hne⟩
  have i2 : h.r[j] ≠ -1 → h.r[j] ∈ stepL h s (a : Int) := fun hne => by rw [hs, meets_mem]; exact .inr ⟨by rw [hk]; simp, hne⟩
  have hl := hp.length_le
  obtain ⟨hb2, _, _⟩ := step_on hv hp hdx (k := a) (by omega)
  have hga : (stepL h s (a : Int))[a]? = some (j : Int) := by
    obtain ⟨t9, e9⟩ := hp
    rw [← e9, List.getElem?_append_left ha]; exact hg
  refine ⟨j, _, _, hg, hjl, e1, e2, i1, i2, hb2, ?_⟩
  have h9 : stepL h (stepL h s (a : Int)) (a : Int) = meets (stepL h s (a : Int)) (kid2 h (j : Int)) := by
    rw [stepL_on hb2, gdx_some hga]
  rw [h9, hk, meets_cons, meet1_in i1, meets_cons, meet1_in i2, meets_nil]
set_option maxRecDepth 100000 in
set_option maxHeartbeats 4000000 in
theorem lawStepMeets_walk (w : World) (A : Option Addr) (n c : Nat) (h : Inp w A n c) :
    Calls Try.prog 10 #[.slice A n c] w (LawTrue w) := by
  by_cases hbig : 1048576 < n
  · go_enter Try.func10, Try.ntmps10
    go_wp2_with fail
    go_ret
    exact ⟨rfl, Below.refl _ _⟩
  go_enter Try.func10, Try.ntmps10
  go_wp2_with fail
  refine (drawCopyStep_any _ _ _ _ h).mono ?_; rintro e w1 ⟨v, hp, AS, ns, cs, s, i, rfl, HA, hva, hls, hn9, RS, hxb, hb1⟩
  have BW1 : Below w.heap.size w w1 := (Below.refl w.heap.size w).trans (hb1.mono (Below.refl w.heap.size w).size)
  have zz1 := hb1.size
  have C := fun W lo lo' v (hW : Hv W lo v hp) A c (hr : Row W lo' (.slice A ns c) s) => implStep_any W lo lo' v hp hW A ns c s hr hls (by omega) i
  have D := fun W lo lo' v (hW : Hv W lo v hp) A c (hr : Row W lo' (.slice A ns c) s) => specStep_any W lo lo' v hp hW A ns c s hr hls (by omega) i
  have HAo := HA
  obtain ⟨A0, n0, c0, A1, n1, c1, A2, n2, c2, rfl, ⟨r0, r1, r2⟩, ⟨l0, l1, l2⟩, _⟩ := HAo.open_
  rcases eb : stepB hp s i
  · have hxs : stepL hp s i = [] := by unfold stepL; rw [eb]; simp
    rw [eb, hxs] at C D
    clear eb hxs r0 r1 r2 hxb
    go_wp2_with fail
    refine (C _ _ _ _ (HA.alloc (.cells #[.slice A0 n0 c0, .slice A1 n1 c1, .slice A2 n2 c2] 27)) _ _ (RS.alloc (.cells #[.slice A0 n0 c0, .slice A1 n1 c1, .slice A2 n2 c2] 27))).mono ?_; rintro e w2 ⟨AR2, kR2, rfl, R2, hb2⟩
    have BW2 : Below w.heap.size w w2 := (BW1.alloc BW1.size (.cells #[.slice A0 n0 c0, .slice A1 n1 c1, .slice A2 n2 c2] 27)).trans (hb2.mono (BW1.alloc BW1.size (.cells #[.slice A0 n0 c0, .slice A1 n1 c1, .slice A2 n2 c2] 27)).size)
    have zz2 := hb2.size
    have HA_2 := Hv.below (by exact (HA.alloc (.cells #[.slice A0 n0 c0, .slice A1 n1 c1, .slice A2 n2 c2] 27))) hb2
    have RS_2 := Row.below (by exact (RS.alloc (.cells #[.slice A0 n0 c0, .slice A1 n1 c1, .slice A2 n2 c2] 27))) hb2
    have X_2 := Blk3.below (by exact (Blk3.new w1 (.slice A0 n0 c0) (.slice A1 n1 c1) (.slice A2 n2 c2) 27)) hb2
    obtain ⟨cX_2_0, cX_2_1, cX_2_2, _⟩ := X_2.cells
    have lX_2 := X_2.lt
    go_wp2_with fail
    refine (D _ _ _ _ HA_2 _ _ RS_2).mono ?_; rintro e w3 ⟨AR3, kR3, rfl, R3, hb3⟩
    have BW3 : Below w.heap.size w w3 := BW2.trans (hb3.mono BW2.size)
    have zz3 := hb3.size
    have HA_3 := Hv.below (by exact HA_2) hb3
    have RS_3 := Row.below (by exact RS_2) hb3
    have X_3 := Blk3.below (by exact X_2) hb3
    obtain ⟨cX_3_0, cX_3_1, cX_3_2, _⟩ := X_3.cells
    have lX_3 := X_3.lt
    have R2_3 := Row.below (by exact R2) hb3
    go_wp2_with fail
    refine (ccInts_sameO _ _ _ _ _ _ _ [] R2_3 R3).mono ?_; rintro e w4 ⟨rfl, hb4⟩
    have BW4 : Below w.heap.size w w4 := BW3.trans (hb4.mono BW3.size)
    have zz4 := hb4.size
    have HA_4 := Hv.below (by exact HA_3) hb4
    have RS_4 := Row.below (by exact RS_3) hb4
    have X_4 := Blk3.below (by exact X_3) hb4
    obtain ⟨cX_4_0, cX_4_1, cX_4_2, _⟩ := X_4.cells
    have lX_4 := X_4.lt
    have R2_4 := Row.below (by exact R2_3) hb4
    have R3_4 := Row.below (by exact R3) hb4
    go_wp2_with fail
    refine (ccInts_sameO _ _ _ _ _ _ _ [] R2_4 R3_4).mono ?_; rintro e w5 ⟨rfl, hb5⟩
    have BW5 : Below w.heap.size w w5 := BW4.trans (hb5.mono BW4.size)
    have zz5 := hb5.size
    have HA_5 := Hv.below (by exact HA_4) hb5
    have RS_5 := Row.below (by exact RS_4) hb5
    have X_5 := Blk3.below (by exact X_4) hb5
    obtain ⟨cX_5_0, cX_5_1, cX_5_2, _⟩ := X_5.cells
    have lX_5 := X_5.lt
    have R2_5 := Row.below (by exact R2_4) hb5
    have R3_5 := Row.below (by exact R3_4) hb5
    go_wp2_with fail
    go_ret
    exact ⟨rfl, BW5⟩
  · obtain ⟨hd, a, rfl, ha⟩ := step_open eb
    have h8 := hvB_len hva
    rw [eb] at C D
    obtain ⟨j, lx, rx, hsj, hjl, hlx, hrx, i1, i2, sb2, sl2⟩ := step_meets hva hd ha
    have hpl := (step_on hva (List.prefix_refl s) hd ha).2.1.length_le
    have hsl := stepL_len hp s (a : Int)
    have gx := dif_len (step_on hva (List.prefix_refl s) hd ha).2.2
    have ST := fun W lo lo' v (hW : Hv W lo v hp) A n c (hr : Row W lo' (.slice A n c) (stepL hp s (a : Int))) (hl : Hid ((stepL hp s (a : Int)).length = n)) (hm : n ≤ 9223372036854775807) => implStep_any W lo lo' v hp hW A n c (stepL hp s (a : Int)) hr hl hm (a : Int)
    rw [sb2, sl2] at ST
    have hl0 := l0.out
    have hl1 := l1.out
    have hsn := hls.out
    rw [hl0] at h8 hjl gx
    generalize stepL hp s (a : Int) = xs at C D ST hpl hsl i1 i2 gx
    have han : a < ns := by omega
    obtain ⟨nx, hnx⟩ : ∃ nx, nx = xs.length := ⟨_, rfl⟩
    unfold RetRB at C D ST
    rw [← hnx] at C D ST hpl hsl gx
    have HXL : Hid (xs.length = nx) := hnx.symm
    have hE1 : bF lx xs nx = true := bF_end i1 (by omega)
    have hE2 : bF rx xs nx = true := bF_end i2 (by omega)
    have n8 : n0 ≤ 8 := by omega
    have HSJ := Lib.hid hsj
    have HLX := Lib.hid hlx
    have HRX := Lib.hid hrx
    have jn1 : j < n1 := by omega
    have hx2 : nx ≤ ns + 2 := by omega
    have HE1 := Lib.hid hE1
    have HE2 := Lib.hid hE2
    have sw : IntKind.i64.wrap ((ns : Int) + 2) = (ns : Int) + 2 := IntWalk.i64_in _ (by omega)
    have hx3 : (nx : Int) ≤ (ns : Int) + 2 := by omega
    clear hnx hl0 hl1 hpl hsn ha hd eb hxb hva h8 hsl gx i1 i2 hE1 hE2 hsj hlx hrx sb2 sl2
    go_wp2_with fail
    refine (C _ _ _ _ (HA.alloc (.cells #[.slice A0 n0 c0, .slice A1 n1 c1, .slice A2 n2 c2] 27)) _ _ (RS.alloc (.cells #[.slice A0 n0 c0, .slice A1 n1 c1, .slice A2 n2 c2] 27))).mono ?_; rintro e w2 ⟨AR2, kR2, rfl, R2, hb2⟩
    have BW2 : Below w.heap.size w w2 := (BW1.alloc BW1.size (.cells #[.slice A0 n0 c0, .slice A1 n1 c1, .slice A2 n2 c2] 27)).trans (hb2.mono (BW1.alloc BW1.size (.cells #[.slice A0 n0 c0, .slice A1 n1 c1, .slice A2 n2 c2] 27)).size)
    have zz2 := hb2.size
    have HA_2 := Hv.below (by exact (HA.alloc (.cells #[.slice A0 n0 c0, .slice A1 n1 c1, .slice A2 n2 c2] 27))) hb2
    have RS_2 := Row.below (by exact (RS.alloc (.cells #[.slice A0 n0 c0, .slice A1 n1 c1, .slice A2 n2 c2] 27))) hb2
    have X_2 := Blk3.below (by exact (Blk3.new w1 (.slice A0 n0 c0) (.slice A1 n1 c1) (.slice A2 n2 c2) 27)) hb2
    obtain ⟨cX_2_0, cX_2_1, cX_2_2, _⟩ := X_2.cells
    have lX_2 := X_2.lt
    have L0_2 := Row.below (by exact (r0.alloc (.cells #[.slice A0 n0 c0, .slice A1 n1 c1, .slice A2 n2 c2] 27))) hb2
    have L1_2 := Row.below (by exact (r1.alloc (.cells #[.slice A0 n0 c0, .slice A1 n1 c1, .slice A2 n2 c2] 27))) hb2
    go_wp2_with fail
    refine (D _ _ _ _ HA_2 _ _ RS_2).mono ?_; rintro e w3 ⟨AR3, kR3, rfl, R3, hb3⟩
    have BW3 : Below w.heap.size w w3 := BW2.trans (hb3.mono BW2.size)
    have zz3 := hb3.size
    have HA_3 := Hv.below (by exact HA_2) hb3
    have RS_3 := Row.below (by exact RS_2) hb3
    have X_3 := Blk3.below (by exact X_2) hb3
    obtain ⟨cX_3_0, cX_3_1, cX_3_2, _⟩ := X_3.cells
    have lX_3 := X_3.lt
    have L0_3 := Row.below (by exact L0_2) hb3
    have L1_3 := Row.below (by exact L1_2) hb3
    have R2_3 := Row.below (by exact R2) hb3
    go_wp2_with fail
    refine (ccInts_rowsS _ _ _ _ _ _ _ _ _ HXL.out R2_3 R3).mono ?_; rintro e w4 ⟨rfl, hb4⟩
    have BW4 : Below w.heap.size w w4 := BW3.trans (hb4.mono BW3.size)
    have zz4 := hb4.size
    have HA_4 := Hv.below (by exact HA_3) hb4
    have RS_4 := Row.below (by exact RS_3) hb4
    have X_4 := Blk3.below (by exact X_3) hb4
    obtain ⟨cX_4_0, cX_4_1, cX_4_2, _⟩ := X_4.cells
    have lX_4 := X_4.lt
    have L0_4 := Row.below (by exact L0_3) hb4
    have L1_4 := Row.below (by exact L1_3) hb4
    have R2_4 := Row.below (by exact R2_3) hb4
    have R3_4 := Row.below (by exact R3) hb4
    obtain ⟨gs1, j1, e1, _, _, hs1, hc1, _⟩ := Row.get RS_4 (k := a) (by rw [hls.out]; exact han)
    cases e1
    obtain rfl : j1 = (j : Int) := by have h9 := hs1.out; rw [HSJ.out] at h9; simpa using h9.symm
    obtain ⟨gl1, u1, e1, _, _, hl1, hc2, _⟩ := Row.get L0_4 (k := j) (by rw [l0.out]; exact hjl)
    cases e1
    obtain rfl : u1 = lx := by have h9 := hl1.out; rw [HLX.out] at h9; simpa using h9.symm
    obtain ⟨gr1, u2, e1, _, _, hr1, hc3, _⟩ := Row.get L1_4 (k := j) (by rw [l1.out]; exact jn1)
    cases e1
    obtain rfl : u2 = rx := by have h9 := hr1.out; rw [HRX.out] at h9; simpa using h9.symm
    clear hs1 hl1 hr1
    go_wp2_with fail
    try go_quiet (fail)
    try go_wp2_with fail
    try go_quiet (fail)
    try go_wp2_with fail
    try go_quiet (fail)
    try go_wp2_with fail
    try go_quiet (fail)
    try go_wp2_with fail
    go_loopw [10, 11, 12] (fun va vb i wr => ∃ (k : Nat) (ya yb : Bool), k ≤ nx ∧ i = .int .i64 k ∧ va = .bool ya ∧ vb = .bool yb ∧ Hid (bF u1 xs k = ya) ∧ Hid (bF u2 xs k = yb) ∧ ∃ nq, wr = w4.drewN nq) (fun _ _ i _ => nx - (intOf i).toNat)
    case atStart => exact ⟨0, _, _, Nat.zero_le _, rfl, rfl, rfl, bF_zero _ _, bF_zero _ _, _, by first | rfl | (rw [World.drewN_drewN])⟩
    case round =>
      obtain ⟨k, ya, yb, hk, rfl, rfl, rfl, ha9, hb9, nq, rfl⟩ := hrel
      by_cases hlt : k < nx
      · obtain ⟨g4x, x, e4, _, _, hx, hcx, _⟩ := Row.get R2_4 (k := k) (by rw [HXL.out]; exact hlt)
        cases e4
        rcases ya with _ | _ <;> rcases yb with _ | _
        · -- true true
          go_wp2_with fail
          try go_quiet (fail)
          try go_wp2_with fail
          try go_quiet (fail)
          try go_wp2_with fail
          try go_quiet (fail)
          try go_wp2_with fail
          try go_quiet (fail)
          try go_wp2_with fail
          go_roundw
          case rel => exact ⟨k + 1, _, _, by omega, by go_num, rfl, rfl, by unfold Hid; rw [bF_next hx.out, ha9]; simp, by unfold Hid; rw [bF_next hx.out, hb9]; simp, _, by first | rfl | (rw [World.drewN_drewN])⟩
          case measure => simp [intOf]; omega
        · -- true false
          go_wp2_with fail
          try go_quiet (fail)
          try go_wp2_with fail
          try go_quiet (fail)
          try go_wp2_with fail
          try go_quiet (fail)
          try go_wp2_with fail
          try go_quiet (fail)
          try go_wp2_with fail
          go_roundw
          case rel => exact ⟨k + 1, _, _, by omega, by go_num, rfl, rfl, by unfold Hid; rw [bF_next hx.out, ha9]; simp, by unfold Hid; rw [bF_next hx.out, hb9]; simp, _, by first | rfl | (rw [World.drewN_drewN])⟩
          case measure => simp [intOf]; omega
        · -- false true
          go_wp2_with fail
          try go_quiet (fail)
          try go_wp2_with fail
          try go_quiet (fail)
          try go_wp2_with fail
          try go_quiet (fail)
          try go_wp2_with fail
          try go_quiet (fail)
          try go_wp2_with fail
          go_roundw
          case rel => exact ⟨k + 1, _, _, by omega, by go_num, rfl, rfl, by unfold Hid; rw [bF_next hx.out, ha9]; simp, by unfold Hid; rw [bF_next hx.out, hb9]; simp, _, by first | rfl | (rw [World.drewN_drewN])⟩
          case measure => simp [intOf]; omega
        · -- false false
          go_wp2_with fail
          try go_quiet (fail)
          try go_wp2_with fail
          try go_quiet (fail)
          try go_wp2_with fail
          try go_quiet (fail)
          try go_wp2_with fail
          try go_quiet (fail)
          try go_wp2_with fail
          go_roundw
          case rel => exact ⟨k + 1, _, _, by omega, by go_num, rfl, rfl, by unfold Hid; rw [bF_next hx.out, ha9]; simp, by unfold Hid; rw [bF_next hx.out, hb9]; simp, _, by first | rfl | (rw [World.drewN_drewN])⟩
          case measure => simp [intOf]; omega
      · obtain rfl : nx = k := by omega
        rw [HE1.out] at ha9
        rw [HE2.out] at hb9
        obtain rfl := ha9.out
        obtain rfl := hb9.out
        have hbq : Below w4.heap.size w4 (w4.drewN nq) := below_drewN (Below.refl _ _) nq
        generalize w4.drewN nq = wq at hbq ⊢
        have BW5 : Below w.heap.size w wq := BW4.trans (hbq.mono BW4.size)
        have zz5 := hbq.size
        have HA_5 := Hv.below (by exact HA_4) hbq
        have RS_5 := Row.below (by exact RS_4) hbq
        have X_5 := Blk3.below (by exact X_4) hbq
        obtain ⟨cX_5_0, cX_5_1, cX_5_2, _⟩ := X_5.cells
        have lX_5 := X_5.lt
        have L0_5 := Row.below (by exact L0_4) hbq
        have L1_5 := Row.below (by exact L1_4) hbq
        have R2_5 := Row.below (by exact R2_4) hbq
        go_wp2_with fail
        refine (ST _ _ _ _ HA_5 _ _ _ R2_5 rfl (by omega)).mono ?_; rintro e w6 ⟨AR6, kR6, rfl, R6, hb6⟩
        have BW6 : Below w.heap.size w w6 := BW5.trans (hb6.mono BW5.size)
        have zz6 := hb6.size
        have HA_6 := Hv.below (by exact HA_5) hb6
        have RS_6 := Row.below (by exact RS_5) hb6
        have X_6 := Blk3.below (by exact X_5) hb6
        obtain ⟨cX_6_0, cX_6_1, cX_6_2, _⟩ := X_6.cells
        have lX_6 := X_6.lt
        have L0_6 := Row.below (by exact L0_5) hb6
        have L1_6 := Row.below (by exact L1_5) hb6
        have R2_6 := Row.below (by exact R2_5) hb6
        go_wp2_with fail
        refine (ccInts_rowsS _ _ _ _ _ _ _ _ _ HXL.out R6 R2_6).mono ?_; rintro e w7 ⟨rfl, hb7⟩
        have BW7 : Below w.heap.size w w7 := BW6.trans (hb7.mono BW6.size)
        have zz7 := hb7.size
        have HA_7 := Hv.below (by exact HA_6) hb7
        have RS_7 := Row.below (by exact RS_6) hb7
        have X_7 := Blk3.below (by exact X_6) hb7
        obtain ⟨cX_7_0, cX_7_1, cX_7_2, _⟩ := X_7.cells
        have lX_7 := X_7.lt
        have L0_7 := Row.below (by exact L0_6) hb7
        have L1_7 := Row.below (by exact L1_6) hb7
        have R2_7 := Row.below (by exact R2_6) hb7
        have R6_7 := Row.below (by exact R6) hb7
        go_wp2_with fail
        go_ret
        exact ⟨ret_bool (by simp), BW7⟩
end Go.Proofs.Ytapkhgpifpgleaa
