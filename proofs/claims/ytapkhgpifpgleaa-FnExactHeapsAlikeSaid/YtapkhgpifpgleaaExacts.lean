import Derived.Test.YtapkhgpifpgleaaCntA
import Derived.Test.YtapkhgpifpgleaaLaws0
import Derived.Test.YtapkhgpifpgleaaPure
/- The arguments of the exact laws: ints that are read, toIntS, toHeap, szIntS, szHeap. -/
namespace Go.Proofs.Ytapkhgpifpgleaa
open Go.RowKit

/-- The ints of an argument: they lie somewhere below B. -/
def Ints (w : World) (B : Nat) (A : Option Addr) (n : Nat) (xs : List Int) : Prop :=
  xs.length = n ∧ (n = 0 ∨ ∃ b off, A = some ⟨b, off, none⟩ ∧ b < B ∧ ∀ k, k < n → w.cell? ⟨b, off + k, none⟩ = some (iv (xs.getD k 0)))
theorem Ints.below {w w' : World} {B : Nat} {A : Option Addr} {n : Nat} {xs : List Int} (h : Ints w B A n xs) (hb : Below B w w') : Ints w' B A n xs := by
  refine ⟨h.1, ?_⟩
  rcases h.2 with h | ⟨b, off, e, hlt, hc⟩
  · exact .inl h
  · exact .inr ⟨b, off, e, hlt, fun k hk => (hb.cell (p := ⟨b, off + k, none⟩) hlt).trans (hc k hk)⟩
theorem Ints.get {w : World} {B : Nat} {A : Option Addr} {n : Nat} {xs : List Int} (h : Ints w B A n xs) {k : Nat} (hk : k < n) :
    ∃ b off x, A = some ⟨b, off, none⟩ ∧ b < B ∧ Hid (xs[k]? = some x) ∧ w.cell? ⟨b, off + k, none⟩ = some (.int .i64 x) := by
  rcases h.2 with h0 | ⟨b, off, e, hlt, hc⟩
  · omega
  · have hkl : k < xs.length := by have := h.1; omega
    exact ⟨b, off, xs.getD k 0, e, hlt, by unfold Hid; simp [List.getD, List.getElem?_eq_getElem hkl], hc k hk⟩

theorem set_row {xs : List Int} {k n : Nat} {x : Int} (hk : k < n) (hn : xs.length = n) (hx : xs[k]? = some x) :
    (xs.take k ++ List.replicate (n - k) (0 : Int)).set k x = xs.take (k + 1) ++ List.replicate (n - (k + 1)) 0 := by
  have hl : (xs.take k).length = k := by simp; omega
  rw [List.set_append, if_neg (by omega), hl, Nat.sub_self, show n - k = (n - (k + 1)) + 1 from by omega, List.replicate_succ, List.set_cons_zero, take_snoc hx]
  simp

set_option maxHeartbeats 400000 in
theorem toIntS_any (w : World) (A : Option Addr) (n c : Nat) (xs : List Int) (h : Ints w w.heap.size A n xs) (hm : n ≤ 1048576) :
    Calls Try.prog 27 #[.slice A n c] w (NewRow w xs) := by
  obtain ⟨i0, hi, hz0, hz1, hz2⟩ := info_parts Try.infoInt
  go_enter Try.func27, Try.ntmps27
  go_wp2_with (at_make; refine wpList_make_full _ rfl _ _ 22 rfl w.heap.size 3 i0 (.int .i64 0) 1 Try.underlying22 hi hz0 hz1 _ _ _ _ n rfl rfl rfl rfl ?b2 ?b3 (Nat.le_refl _) ?_)
  case b2 => rw [hz2]; omega
  case b3 => unfold maxLen; omega
  intro w0 hown0 hgrow0
  rw [mc_int] at hown0
  have hrow0 : Row w0 w.heap.size (.slice (some ⟨w.heap.size, 0, none⟩) n n) (List.replicate n 0) := by unfold Row; simpa using hown0
  have hb0 : Below w.heap.size w w0 := (Below.refl _ _).grown hgrow0 (Nat.le_refl _) (fun k h => by cases h)
  have hn := h.1
  clear hown0 hgrow0 hz0 hz1 hz2
  go_wp2
  go_loopw [4] (fun i wr => ∃ k : Nat, k ≤ n ∧ i = .int .i64 k ∧ Row wr w.heap.size (.slice (some ⟨w.heap.size, 0, none⟩) n n) (xs.take k ++ List.replicate (n - k) 0) ∧ Below w.heap.size w wr) (fun i _ => n - (intOf i).toNat)
  case atStart => exact ⟨0, Nat.zero_le _, rfl, by simpa using hrow0, hb0⟩
  case round =>
    obtain ⟨k, hk, rfl, hrow, hb⟩ := hrel
    by_cases hlt : k < n
    · obtain ⟨g, x, e, _, _, _, hcell, hfr⟩ := hrow.get (k := k) (by simp; omega)
      cases e
      obtain ⟨b, off, y, rfl, hbB, hy, hcy⟩ := (h.below hb).get hlt
      have hnext := hrow.set_ k y
      rw [set_row hlt hn hy.out] at hnext
      have hb' : Below w.heap.size w (wr.setCell ⟨w.heap.size, k, none⟩ (iv y)) := hb.setCell (Nat.le_refl _) _
      clear hrow hrow0 hy
      go_wp2
      go_roundw
      case rel => exact ⟨k + 1, by omega, by go_num, hnext, hb'⟩
      case measure => simp [intOf]; omega
    · obtain rfl : k = n := by omega
      have hrow' : Row wr w.heap.size (.slice (some ⟨w.heap.size, 0, none⟩) xs.length k) xs := by
        have := hrow; rw [List.take_of_length_le (by omega)] at this; simpa [hn] using this
      clear hrow hrow0
      go_wp2
      go_ret
      exact ⟨some ⟨w.heap.size, 0, none⟩, k, by simp [hn], hrow', hb⟩

/-- What is left of a size. -/
def szV (n : Nat) (left : Int) : Int := if (n : Int) ≤ left then left - n else -1
set_option maxHeartbeats 400000 in
theorem szIntS_any (w : World) (A : Option Addr) (n c : Nat) (left : Int) (h0 : 0 ≤ left) (h1 : left ≤ 1048576) (hn : n ≤ 9223372036854775807) :
    Calls Try.prog 38 #[.slice A n c, .int .i64 left] w fun e w' => e = .returned (.int .i64 (szV n left)) ∧ w = w' := by
  have hw : IntKind.i64.wrap (left - n) = left - n := IntWalk.i64_in _ (by omega)
  by_cases hle : (n : Int) ≤ left
  · have hneg : ¬ (left - n < 0) := by omega
    have hf : Hid (szV n left = left - n) := by unfold Hid szV; rw [if_pos hle]
    go_enter Try.func38, Try.ntmps38
    go_wp2_with fail
    go_ret
    exact ⟨ret_int hf.out.symm, rfl⟩
  · have hneg : left - n < 0 := by omega
    have hf : Hid (szV n left = -1) := by unfold Hid szV; rw [if_neg hle]
    go_enter Try.func38, Try.ntmps38
    go_wp2_with fail
    go_ret
    exact ⟨ret_int hf.out.symm, rfl⟩
theorem szV_in {n : Nat} {left : Int} (h0 : 0 ≤ left) (h1 : left ≤ 1048576) : -1 ≤ szV n left ∧ szV n left ≤ 1048576 := by
  unfold szV; split <;> omega

set_option maxHeartbeats 1000000 in
theorem szHeap_any (w : World) (A0 A1 A2 : Option Addr) (n0 c0 n1 c1 n2 c2 : Nat) (left : Int) (h0 : 0 ≤ left) (h1 : left ≤ 1048576) (b0 : n0 ≤ 9223372036854775807) (b1 : n1 ≤ 9223372036854775807) (b2 : n2 ≤ 9223372036854775807) :
    Calls Try.prog 12 #[.agg #[.slice A0 n0 c0, .slice A1 n1 c1, .slice A2 n2 c2], .int .i64 left] w (RetI w (szV (n0 + n1 + n2) left)) := by
  have fin : Below w.heap.size w (w.alloc (.cells #[.slice A0 n0 c0, .slice A1 n1 c1, .slice A2 n2 c2] 24)) := (Below.refl _ _).alloc (Nat.le_refl _) _
  have S0 := fun W => szIntS_any W A0 n0 c0 left h0 h1 b0
  by_cases e0 : (n0 : Int) ≤ left
  · have f0 : szV n0 left = left - n0 := by unfold szV; rw [if_pos e0]
    rw [f0] at S0
    have S1 := fun W => szIntS_any W A1 n1 c1 (left - n0) (by omega) (by omega) b1
    by_cases e1 : (n1 : Int) ≤ left - n0
    · have f1 : szV n1 (left - n0) = left - n0 - n1 := by unfold szV; rw [if_pos e1]
      rw [f1] at S1
      have S2 := fun W => szIntS_any W A2 n2 c2 (left - n0 - n1) (by omega) (by omega) b2
      by_cases e2 : (n2 : Int) ≤ left - n0 - n1
      · have f2 : szV n2 (left - n0 - n1) = left - n0 - n1 - n2 := by unfold szV; rw [if_pos e2]
        rw [f2] at S2
        have hf : Hid (szV (n0 + n1 + n2) left = left - n0 - n1 - n2) := by unfold Hid szV; rw [if_pos (by omega)]; omega
        have g0 : ¬ (left - n0 < 0) := by omega
        have g1 : ¬ (left - n0 - n1 < 0) := by omega
        have g2 : ¬ (left - n0 - n1 - n2 < 0) := by omega
        clear f0 f1 f2
        go_enter Try.func12, Try.ntmps12
        go_wp2_with fail
        refine (S0 _).mono ?_; rintro e w' ⟨rfl, rfl⟩
        go_wp2_with fail
        refine (S1 _).mono ?_; rintro e w' ⟨rfl, rfl⟩
        go_wp2_with fail
        refine (S2 _).mono ?_; rintro e w' ⟨rfl, rfl⟩
        go_wp2_with fail
        go_ret
        exact ⟨ret_int hf.out.symm, fin⟩
      · have f2 : szV n2 (left - n0 - n1) = -1 := by unfold szV; rw [if_neg e2]
        rw [f2] at S2
        have hf : Hid (szV (n0 + n1 + n2) left = -1) := by unfold Hid szV; rw [if_neg (by omega)]
        have g0 : ¬ (left - n0 < 0) := by omega
        have g1 : ¬ (left - n0 - n1 < 0) := by omega
        clear f0 f1 f2
        go_enter Try.func12, Try.ntmps12
        go_wp2_with fail
        refine (S0 _).mono ?_; rintro e w' ⟨rfl, rfl⟩
        go_wp2_with fail
        refine (S1 _).mono ?_; rintro e w' ⟨rfl, rfl⟩
        go_wp2_with fail
        refine (S2 _).mono ?_; rintro e w' ⟨rfl, rfl⟩
        go_wp2_with fail
        go_ret
        exact ⟨ret_int hf.out.symm, fin⟩
    · have f1 : szV n1 (left - n0) = -1 := by unfold szV; rw [if_neg e1]
      rw [f1] at S1
      have hf : Hid (szV (n0 + n1 + n2) left = -1) := by unfold Hid szV; rw [if_neg (by omega)]
      have g0 : ¬ (left - n0 < 0) := by omega
      clear f0 f1
      go_enter Try.func12, Try.ntmps12
      go_wp2_with fail
      refine (S0 _).mono ?_; rintro e w' ⟨rfl, rfl⟩
      go_wp2_with fail
      refine (S1 _).mono ?_; rintro e w' ⟨rfl, rfl⟩
      go_wp2_with fail
      go_ret
      exact ⟨ret_int hf.out.symm, fin⟩
  · have f0 : szV n0 left = -1 := by unfold szV; rw [if_neg e0]
    rw [f0] at S0
    have hf : Hid (szV (n0 + n1 + n2) left = -1) := by unfold Hid szV; rw [if_neg (by omega)]
    clear f0
    go_enter Try.func12, Try.ntmps12
    go_wp2_with fail
    refine (S0 _).mono ?_; rintro e w' ⟨rfl, rfl⟩
    go_wp2_with fail
    go_ret
    exact ⟨ret_int hf.out.symm, fin⟩

/-- A heap that is an argument. -/
def HArg (w : World) (B : Nat) (v : Value) (h : Hp) : Prop :=
  ∃ A0 c0 A1 c1 A2 c2, v = .agg #[.slice A0 h.l.length c0, .slice A1 h.r.length c1, .slice A2 h.t.length c2] ∧ Ints w B A0 h.l.length h.l ∧ Ints w B A1 h.r.length h.r ∧ Ints w B A2 h.t.length h.t
theorem HArg.below {w w' : World} {B : Nat} {v : Value} {h : Hp} (hv : HArg w B v h) (hb : Below B w w') : HArg w' B v h := by
  obtain ⟨A0, c0, A1, c1, A2, c2, rfl, h0, h1, h2⟩ := hv
  exact ⟨A0, c0, A1, c1, A2, c2, rfl, h0.below hb, h1.below hb, h2.below hb⟩
theorem HArg.mono {w : World} {B B' : Nat} {v : Value} {h : Hp} (hv : HArg w B v h) (hB : B ≤ B') : HArg w B' v h := by
  have t : ∀ (A : Option Addr) (n : Nat) (xs : List Int), Ints w B A n xs → Ints w B' A n xs := fun A n xs h => ⟨h.1, h.2.imp id fun ⟨b, off, e, hlt, hc⟩ => ⟨b, off, e, by omega, hc⟩⟩
  obtain ⟨A0, c0, A1, c1, A2, c2, rfl, h0, h1, h2⟩ := hv
  exact ⟨A0, c0, A1, c1, A2, c2, rfl, t _ _ _ h0, t _ _ _ h1, t _ _ _ h2⟩
theorem Ints.alloc {w : World} {B : Nat} {A : Option Addr} {n : Nat} {xs : List Int} (h : Ints w B A n xs) (hB : B ≤ w.heap.size) (o : Obj) : Ints (w.alloc o) B A n xs := h.below ((Below.refl _ _).alloc hB _)
theorem Ints.mono {w : World} {B B' : Nat} {A : Option Addr} {n : Nat} {xs : List Int} (h : Ints w B A n xs) (hB : B ≤ B') : Ints w B' A n xs := ⟨h.1, h.2.imp id fun ⟨b, off, e, hlt, hc⟩ => ⟨b, off, e, by omega, hc⟩⟩
theorem HArg.alloc {w : World} {B : Nat} {v : Value} {h : Hp} (hv : HArg w B v h) (hB : B ≤ w.heap.size) (o : Obj) : HArg (w.alloc o) B v h := hv.below ((Below.refl _ _).alloc hB _)

set_option maxHeartbeats 1000000 in
theorem toHeap_any (w : World) (B : Nat) (hBw : B ≤ w.heap.size) (v : Value) (h : Hp) (hv : HArg w B v h) (b0 : h.l.length ≤ 1048576) (b1 : h.r.length ≤ 1048576) (b2 : h.t.length ≤ 1048576) :
    Calls Try.prog 14 #[v] w (NewHv w h) := by
  obtain ⟨A0, c0, A1, c1, A2, c2, rfl, h0, h1, h2⟩ := hv
  have X0 := ((Blk3.new w (.slice A0 h.l.length c0) (.slice A1 h.r.length c1) (.slice A2 h.t.length c2) 24).alloc (.cells #[.slice none 0 0, .slice none 0 0, .slice none 0 0] 27)).alloc (.cells #[.slice none 0 0, .slice none 0 0, .slice none 0 0] 27)
  have Y0 := (Blk3.new_at (w := w.alloc (.cells #[.slice A0 h.l.length c0, .slice A1 h.r.length c1, .slice A2 h.t.length c2] 24)) (b := w.heap.size + 1) (by simp) (.slice none 0 0) (.slice none 0 0) (.slice none 0 0) 27).alloc (.cells #[.slice none 0 0, .slice none 0 0, .slice none 0 0] 27)
  have Z0 := Blk3.new_at (w := (w.alloc (.cells #[.slice A0 h.l.length c0, .slice A1 h.r.length c1, .slice A2 h.t.length c2] 24)).alloc (.cells #[.slice none 0 0, .slice none 0 0, .slice none 0 0] 27)) (b := w.heap.size + 2) (by simp) (.slice none 0 0) (.slice none 0 0) (.slice none 0 0) 27
  have fin0 : Below w.heap.size w (((w.alloc (.cells #[.slice A0 h.l.length c0, .slice A1 h.r.length c1, .slice A2 h.t.length c2] 24)).alloc (.cells #[.slice none 0 0, .slice none 0 0, .slice none 0 0] 27)).alloc (.cells #[.slice none 0 0, .slice none 0 0, .slice none 0 0] 27)) := (((Below.refl _ _).alloc (Nat.le_refl _) _).alloc (by simp) _).alloc (by simp; omega) _
  have s0 : (((w.alloc (.cells #[.slice A0 h.l.length c0, .slice A1 h.r.length c1, .slice A2 h.t.length c2] 24)).alloc (.cells #[.slice none 0 0, .slice none 0 0, .slice none 0 0] 27)).alloc (.cells #[.slice none 0 0, .slice none 0 0, .slice none 0 0] 27)).heap.size = w.heap.size + 3 := by simp
  have i0 := (h0.below (fin0.mono hBw)).mono (B' := w.heap.size + 3) (by omega)
  have i1 := (h1.below (fin0.mono hBw)).mono (B' := w.heap.size) (by omega)
  have i2 := (h2.below (fin0.mono hBw)).mono (B' := w.heap.size) (by omega)
  obtain ⟨p00, p01, p02, _⟩ := X0.cells
  generalize hl0 : h.l.length = n0 at *
  generalize hl1 : h.r.length = n1 at *
  generalize hl2 : h.t.length = n2 at *
  have T0 := toIntS_any (((w.alloc (.cells #[.slice A0 n0 c0, .slice A1 n1 c1, .slice A2 n2 c2] 24)).alloc (.cells #[.slice none 0 0, .slice none 0 0, .slice none 0 0] 27)).alloc (.cells #[.slice none 0 0, .slice none 0 0, .slice none 0 0] 27)) A0 n0 c0 h.l (by rw [s0]; exact i0) b0
  have HL0 := Lib.hid hl0
  have HL1 := Lib.hid hl1
  have HL2 := Lib.hid hl2
  clear hl0 hl1 hl2
  go_enter Try.func14, Try.ntmps14
  go_wp2_with fail
  refine T0.mono ?_; rintro e w1 ⟨D0, d0, rfl, r0, hb1⟩
  have z1 : w.heap.size + 3 ≤ w1.heap.size := by have := hb1.size; simp at this; omega
  have X1 := Blk3.below (by exact X0) hb1
  have Y1 := Blk3.below (by exact Y0) hb1
  have Z1 := (Blk3.below (by exact Z0) hb1).set0 (.slice D0 h.l.length d0)
  have X1' := X1.other (p := ⟨w.heap.size + 2, 0, none⟩) (by simp) (.slice D0 h.l.length d0)
  have Y1' := Y1.other (p := ⟨w.heap.size + 2, 0, none⟩) (by simp) (.slice D0 h.l.length d0)
  have r0' := (r0.mono (lo' := w.heap.size + 3) (by simp)).other (a := ⟨w.heap.size + 2, 0, none⟩) (fun e => by have := (r0.lt _ e).1; simp at this; omega) (.slice D0 h.l.length d0)
  have B1 : Below w.heap.size w (w1.setCell ⟨w.heap.size + 2, 0, none⟩ (.slice D0 h.l.length d0)) := (fin0.trans (hb1.mono (by simp; omega))).setCell (by simp) _
  obtain ⟨p10, p11, p12, _⟩ := X1.cells
  obtain ⟨q10, q11, q12, f10, f11, f12⟩ := (Blk3.below (by exact Z0) hb1).cells
  have W1s : (w1.setCell ⟨w.heap.size + 2, 0, none⟩ (.slice D0 h.l.length d0)).heap.size = w1.heap.size := by simp [World.setCell]
  have T1 := toIntS_any (w1.setCell ⟨w.heap.size + 2, 0, none⟩ (.slice D0 h.l.length d0)) A1 n1 c1 h.r ((i1.below ((hb1.mono (by simp; omega)).setCell (by simp) _)).mono (by omega)) b1
  go_wp2_with fail
  refine T1.mono ?_; rintro e w2 ⟨D1, d1, rfl, r1, hb2⟩
  have z2 : w.heap.size + 3 ≤ w2.heap.size := by have := hb2.size; omega
  have X2 := X1'.below hb2
  have Y2 := Y1'.below hb2
  have Z2 := Z1.below hb2
  have r0'' := r0'.below hb2
  have r1' := (r1.mono (lo' := w.heap.size + 3) (by omega)).other (a := ⟨w.heap.size + 2, 1, none⟩) (fun e => by have := (r1.lt _ e).1; simp at this; omega) (.slice D1 h.r.length d1)
  have B2 : Below w.heap.size w (w2.setCell ⟨w.heap.size + 2, 1, none⟩ (.slice D1 h.r.length d1)) := (B1.trans (hb2.mono (by omega))).setCell (by simp) _
  obtain ⟨p20, p21, p22, _⟩ := X2.cells
  obtain ⟨q20, q21, q22, f20, f21, f22⟩ := Z2.cells
  have W2s : (w2.setCell ⟨w.heap.size + 2, 1, none⟩ (.slice D1 h.r.length d1)).heap.size = w2.heap.size := by simp [World.setCell]
  have T2 := toIntS_any (w2.setCell ⟨w.heap.size + 2, 1, none⟩ (.slice D1 h.r.length d1)) A2 n2 c2 h.t (((i2.below ((hb1.mono (by simp; omega)).setCell (by simp) _)).below ((hb2.mono (by omega)).setCell (by simp) _)).mono (by omega)) b2
  go_wp2_with fail
  refine T2.mono ?_; rintro e w3 ⟨D2, d2, rfl, r2, hb3⟩
  have z3 : w.heap.size + 3 ≤ w3.heap.size := by have := hb3.size; omega
  have Y3 := (Y2.other (p := ⟨w.heap.size + 2, 1, none⟩) (by simp) (.slice D1 h.r.length d1)).below hb3
  have Z3 := (Z2.set1 (.slice D1 h.r.length d1)).below hb3
  have Y3' := Y3.other (p := ⟨w.heap.size + 2, 2, none⟩) (by simp) (.slice D2 h.t.length d2)
  have Z3' := Z3.set2 (.slice D2 h.t.length d2)
  have k0 : (Value.slice D0 h.l.length d0).ownBlock ≠ some (w.heap.size + 2) := fun e => by have := (r0'.lt _ e).1; omega
  have k1 : (Value.slice D1 h.r.length d1).ownBlock ≠ some (w.heap.size + 2) := fun e => by have := (r1'.lt _ e).1; omega
  have k2 : (Value.slice D2 h.t.length d2).ownBlock ≠ some (w.heap.size + 2) := fun e => by have := (r2.lt _ e).1; omega
  have R0 := ((r0''.other (a := ⟨w.heap.size + 2, 1, none⟩) k0 (.slice D1 h.r.length d1)).below hb3).other (a := ⟨w.heap.size + 2, 2, none⟩) k0 (.slice D2 h.t.length d2)
  have R1 := (r1'.below hb3).other (a := ⟨w.heap.size + 2, 2, none⟩) k1 (.slice D2 h.t.length d2)
  have R2 := (r2.mono (lo' := w.heap.size + 3) (by omega)).other (a := ⟨w.heap.size + 2, 2, none⟩) k2 (.slice D2 h.t.length d2)
  have a01 := apart_new r0' r1
  have a12 := apart_new (r1'.mono (lo' := 0) (by omega)) r2
  have a02 := apart_new ((r0''.other (a := ⟨w.heap.size + 2, 1, none⟩) k0 (.slice D1 h.r.length d1)).mono (lo' := 0) (by omega)) r2
  have B3 : Below w.heap.size w (w3.setCell ⟨w.heap.size + 2, 2, none⟩ (.slice D2 h.t.length d2)) := (B2.trans (hb3.mono (by omega))).setCell (by simp) _
  obtain ⟨p30, p31, p32, g30, g31, g32⟩ := Y3'.cells
  obtain ⟨q30, q31, q32, f30, f31, f32⟩ := Z3.cells
  obtain ⟨q40, q41, q42, f40, f41, f42⟩ := Z3'.cells
  obtain ⟨hH, hB⟩ := made_done (h := h) (w := w) (b := w.heap.size + 1) (by omega) (R0.mono (by omega)) (R1.mono (by omega)) (R2.mono (by omega)) a01 a02 a12 B3
  clear X1 X1' Y1 Y1' X2 Y2 Z1 Z2 Y3 Z3 r0 r0' r0'' r1 r1' r2 R0 R1 R2 i0 i1 i2
  go_wp2_with fail
  refine bodyPost_ret (v := .agg #[.slice D0 h.l.length d0, .slice D1 h.r.length d1, .slice D2 h.t.length d2]) ?_ rfl ⟨_, rfl, hH, hB⟩
  simp [results, Try.results14, go_sem, p30, p31, p32]
theorem HArg.drew {w : World} {B : Nat} {v : Value} {h : Hp} (hv : HArg w B v h) : HArg w.drew B v h := hv
theorem eqHeap_same (w : World) (lo lo' : Nat) (v v' : Value) (a : Hp) (hv : Hv w lo v a) (hv' : Hv w lo' v' a) : Calls Try.prog 17 #[v, v'] w (RetB w true) := by
  have E := eqHeap_any w lo lo' v v' a a hv hv'
  rwa [sameB_self'] at E
/-- A heap that is an argument, and that its rows are not longer than a row can be. -/
def HIn (w : World) (v : Value) (h : Hp) : Prop := HArg w w.heap.size v h ∧ h.l.length ≤ 9223372036854775807 ∧ h.r.length ≤ 9223372036854775807 ∧ h.t.length ≤ 9223372036854775807
/-- A heap and a Bool come back. -/
def OptV (w : World) (ok : Bool) (hr : Hp) (e : Ending) (w' : World) : Prop := ∃ v, e = .returned (.tuple #[v, .bool ok]) ∧ Hv w' w.heap.size v hr ∧ Below w.heap.size w w'
theorem optV_of {P : Program} {f : FuncId} {args : Array Value} {w : World} {o : Option Hp} (h : Calls P f args w (OptHv w o)) : Calls P f args w (OptV w o.isSome (o.getD Hp.zero)) := h

theorem notIn_new {W : World} {lo b : Nat} {u : Value} {h : Hp} (hu : Hv W lo u h) (hb : W.heap.size ≤ b) : NotIn u b := by
  obtain ⟨u0, u1, u2, rfl, r0, r1, r2, _⟩ := hu
  intro v0 v1 v2 e
  cases e
  exact ⟨r0.notown hb, r1.notown hb, r2.notown hb⟩
theorem notIn_old {W : World} {lo b : Nat} {u : Value} {h : Hp} (hu : Hv W lo u h) (hb : b < lo) : NotIn u b := by
  obtain ⟨u0, u1, u2, rfl, r0, r1, r2, _⟩ := hu
  intro v0 v1 v2 e
  cases e
  exact ⟨fun e => by have := (r0.lt _ e.symm).1; omega, fun e => by have := (r1.lt _ e.symm).1; omega, fun e => by have := (r2.lt _ e.symm).1; omega⟩
theorem Row.keptNot {w w' : World} {lo : Nat} {v u : Value} {xs : List Int} (hv : Row w lo v xs) (fr : ∀ b, b < w.heap.size → NotIn u b → w'.heap[b]? = w.heap[b]?) (hn : ∀ b, v.ownBlock = some b → NotIn u b) : Row w' lo v xs := by
  refine ⟨hv.1, ?_⟩
  rcases hv.2 with h2 | ⟨g, cap, cur, rfl, hg, hh, r⟩
  · exact .inl h2
  · exact .inr ⟨g, cap, cur, rfl, hg, by rw [fr g (hv.lt g rfl).2 (hn g rfl)]; exact hh, r⟩
theorem Hv.keptNot {w w' : World} {lo : Nat} {v u : Value} {h : Hp} (hv : Hv w lo v h) (fr : ∀ b, b < w.heap.size → NotIn u b → w'.heap[b]? = w.heap[b]?) (hn : ∀ b, lo ≤ b → b < w.heap.size → NotIn u b) : Hv w' lo v h := by
  obtain ⟨v0, v1, v2, rfl, r0, r1, r2, a⟩ := hv
  exact ⟨v0, v1, v2, rfl, r0.keptNot fr fun b e => hn b (r0.lt b e).1 (r0.lt b e).2, r1.keptNot fr fun b e => hn b (r1.lt b e).1 (r1.lt b e).2, r2.keptNot fr fun b e => hn b (r2.lt b e).1 (r2.lt b e).2, a⟩
/-- The same for a heap that is older than the one that is marked. -/
theorem Hv.keptFar {w w' : World} {lo B : Nat} {v : Value} {h : Hp} (hv : Hv w lo v h) (hb : Below B w w') {W : World} (hW : Hv W lo v h) (hs : W.heap.size ≤ B) : Hv w' lo v h := by
  obtain ⟨v0, v1, v2, rfl, r0, r1, r2, a⟩ := hv
  obtain ⟨u0, u1, u2, e, q0, q1, q2, _⟩ := hW
  cases e
  exact ⟨v0, v1, v2, rfl, r0.far hb fun k e => by have := (q0.lt k e).2; omega, r1.far hb fun k e => by have := (q1.lt k e).2; omega, r2.far hb fun k e => by have := (q2.lt k e).2; omega, a⟩
theorem heldHeap_one' (w : World) (lo : Nat) (v : Value) (h : Hp) (hv : Hv w lo v (markH 1 h)) (b0 : h.l.length ≤ 1048576) (b1 : h.r.length ≤ 1048576) (b2 : h.t.length ≤ 1048576) :
    Calls Try.prog 23 #[v, .int .i64 1] w (RetI w ((1 + sizeH h : Nat) : Int)) := heldHeap_any w lo v h 1 hv b0 b1 b2 (by omega)
end Go.Proofs.Ytapkhgpifpgleaa

/- The marks of the exact laws, with the number that comes back under a name; results of the puts are short. -/
namespace Go.Proofs.Ytapkhgpifpgleaa
open Go.RowKit

/-- A heap was marked: the number is N; below lo, and in every block that is not the heap's own, nothing has turned. -/
def MarkedN (w : World) (lo : Nat) (N : Int) (v : Value) (h : Hp) (e : Ending) (w' : World) : Prop :=
  e = .returned (.int .i64 N) ∧ Hv w' lo v (markH 1 h) ∧ Below lo w w' ∧ ∀ b, b < w.heap.size → NotIn v b → w'.heap[b]? = w.heap[b]?
theorem mark1 (h : Hp) (b0 : h.l.length ≤ 1048576) (b1 : h.r.length ≤ 1048576) (b2 : h.t.length ≤ 1048576) :
    ∃ N : Int, ¬ (N < 0) ∧ (N != N) = false ∧
      (∀ (w : World) (lo : Nat) (v : Value), Hv w lo v h → lo ≤ w.heap.size → Calls Try.prog 18 #[v, .int .i64 1] w (MarkedN w lo N v h)) ∧
      (∀ (w : World) (lo : Nat) (v : Value), Hv w lo v (markH 1 h) → Calls Try.prog 23 #[v, .int .i64 1] w (RetI w N)) := by
  refine ⟨((1 + sizeH h : Nat) : Int), by omega, by simp, fun w lo v hv hlo => ?_, fun w lo v hv => heldHeap_one' w lo v h hv b0 b1 b2⟩
  exact markHeap_any w lo v h hv hlo b0 b1 b2 1 (by omega)

theorem markX (h : Hp) (b0 : h.l.length ≤ 1048576) (b1 : h.r.length ≤ 1048576) (b2 : h.t.length ≤ 1048576) :
    ∃ N : Int, ¬ (N < 0) ∧ (N != N) = false ∧
      (∀ (w : World) (lo : Nat) (v : Value), Hv w lo v h → lo ≤ w.heap.size → Calls Try.prog 18 #[v, .int .i64 1] w (MarkedN w lo N v h)) :=
  ⟨((1 + sizeH h : Nat) : Int), by omega, by simp, fun w lo v hv hlo => markHeap_any w lo v h hv hlo b0 b1 b2 1 (by omega)⟩

theorem hvB_short {h : Hp} (hv : hvB h = true) : h.l.length ≤ 1048576 ∧ h.r.length ≤ 1048576 ∧ h.t.length ≤ 1048576 := by
  have := hvB_len hv; omega
theorem zero_short : Hp.zero.l.length ≤ 1048576 ∧ Hp.zero.r.length ≤ 1048576 ∧ Hp.zero.t.length ≤ 1048576 := by simp [Hp.zero]
theorem putL_short (h : Hp) (x y : Int) : ((putL h x y).getD Hp.zero).l.length ≤ 1048576 ∧ ((putL h x y).getD Hp.zero).r.length ≤ 1048576 ∧ ((putL h x y).getD Hp.zero).t.length ≤ 1048576 := by
  cases e : putL h x y with
  | none => exact zero_short
  | some h' => exact hvB_short (putL_valid e)
theorem putR_short (h : Hp) (x y : Int) : ((putR h x y).getD Hp.zero).l.length ≤ 1048576 ∧ ((putR h x y).getD Hp.zero).r.length ≤ 1048576 ∧ ((putR h x y).getD Hp.zero).t.length ≤ 1048576 := by
  cases e : putR h x y with
  | none => exact zero_short
  | some h' => exact hvB_short (putR_valid e)
theorem putT_short (h : Hp) (x y : Int) : ((putT h x y).getD Hp.zero).l.length ≤ 1048576 ∧ ((putT h x y).getD Hp.zero).r.length ≤ 1048576 ∧ ((putT h x y).getD Hp.zero).t.length ≤ 1048576 := by
  cases e : putT h x y with
  | none => exact zero_short
  | some h' => exact hvB_short (putT_valid e)
theorem Blk3.frame {w w' : World} {b : Nat} {x y z u : Value} {t : TypeId} (h : Blk3 w b x y z t) (fr : ∀ b, b < w.heap.size → NotIn u b → w'.heap[b]? = w.heap[b]?) (hn : NotIn u b) : Blk3 w' b x y z t := (fr b h.lt hn).trans h
end Go.Proofs.Ytapkhgpifpgleaa

/- The helpers of the exact laws over rows of ints, with the number that comes back under a name. -/
namespace Go.Proofs.Ytapkhgpifpgleaa
open Go.RowKit

theorem row_apart {w w' : World} {lo lo' : Nat} {v u : Value} {xs ys : List Int} (hv : Row w lo v xs) (hu : Row w' lo' u ys) (h : w.heap.size ≤ lo') : v.ownBlock = none ∨ v.ownBlock ≠ u.ownBlock := by
  cases hob : v.ownBlock with
  | none => exact .inl rfl
  | some b =>
    refine .inr fun e => ?_
    have h1 := (hv.lt b hob).2
    have h2 := (hu.lt b e.symm).1
    omega
theorem Row.max {w : World} {lo n c : Nat} {A : Option Addr} {xs : List Int} (h : Row w lo (.slice A n c) xs) : xs.length ≤ 9223372036854775807 := by
  obtain ⟨A', c', _, h1, h2⟩ := h.form
  unfold maxLen at h2; omega
theorem eqIntS_same (w : World) (lo lo' : Nat) (A A' : Option Addr) (c c' : Nat) (xs : List Int) (h : Row w lo (.slice A xs.length c) xs) (h' : Row w lo' (.slice A' xs.length c') xs) :
    Calls Try.prog 16 #[.slice A xs.length c, .slice A' xs.length c'] w (RetB w true) :=
  (eqIntS_any w lo lo' A A' xs.length c xs.length c' xs xs h rfl h.max h' rfl h.max).mono fun _ _ ⟨he, nq, hw⟩ => ⟨by rw [he]; simp, by rw [hw]; exact below_drewN (Below.refl _ _) _⟩
theorem markR1 (xs : List Int) (hm : xs.length ≤ 1048576) :
    ∃ N : Int, ¬ (N < 0) ∧ (N != N) = false ∧
      (∀ (w : World) (lo : Nat) (A : Option Addr) (c : Nat), Row w lo (.slice A xs.length c) xs → Calls Try.prog 19 #[.slice A xs.length c, .int .i64 1] w
        (fun e w' => e = .returned (.int .i64 N) ∧ Row w' lo (.slice A xs.length c) (seqI 1 xs.length) ∧ w.grownBy w' (Value.slice A xs.length c).ownBlock)) ∧
      (∀ (w : World) (lo : Nat) (A : Option Addr) (c : Nat), Row w lo (.slice A xs.length c) (seqI 1 xs.length) → Calls Try.prog 20 #[.slice A xs.length c, .int .i64 1] w (RetI w N)) := by
  refine ⟨((1 + xs.length : Nat) : Int), by omega, by simp, fun w lo A c h => ?_, fun w lo A c h => ?_⟩
  · exact (markIntS_any w lo A xs.length c xs h rfl hm 1 (by omega)).mono fun _ _ ⟨a, b, c, _⟩ => ⟨a, b, c⟩
  · refine (heldIntS_any w lo A xs.length c (seqI 1 xs.length) h (seqI_len _ _) hm 1 (by omega)).mono fun e w' ⟨a, b⟩ => ⟨?_, ?_⟩
    · rw [a]
      unfold heldR
      rw [seqI_len, if_pos rfl]
    · subst b; exact Below.refl _ _
end Go.Proofs.Ytapkhgpifpgleaa

