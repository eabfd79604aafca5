/- spec.l3Case and the draws of chapter 3: colored heaps, whatever they are. -/
import Derived.Test.YtmngkjcdaaladaaWrongC
import Derived.Test.YtmngkjcdaaladaaDraws
namespace Go.Proofs.Ytmngkjcdaaladaa
open Go.RowKit

/-- A colored heap comes back, and nothing that was there has turned. -/
def DrawnK (w : World) (e : Ending) (w' : World) : Prop := ∃ v C, e = .returned v ∧ Cv w' w.heap.size v C ∧ Below w.heap.size w w'
/-- .. and a number. -/
def DrawnKI (w : World) (e : Ending) (w' : World) : Prop := ∃ v C x, e = .returned (.tuple #[v, .int .i64 x]) ∧ Cv w' w.heap.size v C ∧ Below w.heap.size w w'
/-- Two colored heaps come back. -/
def DrawnKK (w : World) (e : Ending) (w' : World) : Prop := ∃ v C v' C', e = .returned (.tuple #[v, v']) ∧ Cv w' w.heap.size v C ∧ Cv w' w.heap.size v' C' ∧ Below w.heap.size w w'
/-- A colored heap below the reader's block stays. -/
theorem Cv.kept_up {w w' W : World} {lo rb : Nat} {v : Value} {C : Cp} (hv : Cv w lo v C) (hW : Cv W lo v C) (hg : w.grownBy w' (some rb)) (hrb : W.heap.size ≤ rb) : Cv w' lo v C := by
  obtain ⟨v0, v1, v2, v3, rfl, ⟨_, _, _, e', r0, r1, r2, a⟩, r3, b⟩ := hv
  cases e'
  obtain ⟨_, _, _, _, e, ⟨_, _, _, e2, q0, q1, q2, _⟩, q3, _⟩ := hW
  cases e; cases e2
  exact ⟨v0, v1, v2, v3, rfl, ⟨_, _, _, rfl, r0.kept hg (.inr fun e => by have := (q0.lt _ e).2; omega), r1.kept hg (.inr fun e => by have := (q1.lt _ e).2; omega), r2.kept hg (.inr fun e => by have := (q2.lt _ e).2; omega), a⟩, r3.kept hg (.inr fun e => by have := (q3.lt _ e).2; omega), b⟩
/-- A colored heap is laid into the result's block. -/
theorem laidC {w w3 : World} {b : Nat} {v0 v1 v2 v3 : Value} {C : Cp} (hb : w.heap.size ≤ b) (hc : Cv w3 (b + 1) (.agg #[v0, v1, v2, v3]) C) (hB : Below w.heap.size w w3) :
    Cv ((((w3.setCell ⟨b, 0, none⟩ v0).setCell ⟨b, 1, none⟩ v1).setCell ⟨b, 2, none⟩ v2).setCell ⟨b, 3, none⟩ v3) w.heap.size (.agg #[v0, v1, v2, v3]) C ∧ Below w.heap.size w ((((w3.setCell ⟨b, 0, none⟩ v0).setCell ⟨b, 1, none⟩ v1).setCell ⟨b, 2, none⟩ v2).setCell ⟨b, 3, none⟩ v3) := by
  have lt : b < b + 1 := by omega
  exact ⟨((((hc.set_low (p := ⟨b, 0, none⟩) lt _).set_low (p := ⟨b, 1, none⟩) lt _).set_low (p := ⟨b, 2, none⟩) lt _).set_low (p := ⟨b, 3, none⟩) lt _).mono (by omega), (((hB.setCell hb _).setCell hb _).setCell hb _).setCell hb _⟩

set_option maxHeartbeats 1000000 in
theorem l3Case_any (w : World) (A : Option Addr) (n c : Nat) (h : Inp w A n c) :
    Calls Try.prog 39 #[.slice A n c] w (DrawnK w) := by
  have h0 := inp_alloc h (.cells #[.slice none 0 0, .slice none 0 0, .slice none 0 0, .slice none 0 0] 27)
  have Y0 := Blk4.new w (.slice none 0 0) (.slice none 0 0) (.slice none 0 0) (.slice none 0 0) 27
  have B0 : Below w.heap.size w (w.alloc (.cells #[.slice none 0 0, .slice none 0 0, .slice none 0 0, .slice none 0 0] 27)) := (Below.refl _ _).alloc (Nat.le_refl _) _
  have s0 : (w.alloc (.cells #[.slice none 0 0, .slice none 0 0, .slice none 0 0, .slice none 0 0] 27)).heap.size = w.heap.size + 1 := by simp
  go_enter Try.func39, Try.ntmps39
  go_wp2_with fail
  generalize w.alloc (.cells #[.slice none 0 0, .slice none 0 0, .slice none 0 0, .slice none 0 0] 27) = W at h0 Y0 B0 s0 ⊢
  refine (l13Open_any _ _ _ _ h0).mono ?_; rintro e w1 ⟨rb, A1, n1, c1, rfl, hR1, hb1⟩
  have hB := hR1.2.2.1
  have z1 := hb1.size
  go_wp2_with fail
  refine (l3Draw_any _ _ _ _ _ _ _ hR1 (by omega)).mono ?_; rintro e w2 ⟨v2, C2, p2, rfl, hv2, hC2, hR2, hp2, hg2⟩
  have z2 := hg2.size
  go_wp2_with fail
  refine (l3Wrong_any _ _ _ _ _ _ _ hR2 (by omega) _ _ _ hv2 hC2).mono ?_; rintro e w3 ⟨v3, C3, p3, rfl, hv3, hR3, hp3, hg3⟩
  have z3 := hg3.size
  have hl1 := hR1.lt
  have Y3 := ((Y0.below hb1).kept hg2 (by omega)).kept hg3 (by omega)
  have B3 := ((B0.trans (hb1.mono (by omega))).trans (below_row hg2 (by omega) (by omega))).trans (below_row hg3 (by omega) (by omega))
  obtain ⟨A0, n0, k0, A1, n1, k1, A2, n2, k2, A3, n3, k3, rfl, _⟩ := hv3.open_
  obtain ⟨hH, hBf⟩ := laidC (w := w) (b := w.heap.size) (Nat.le_refl _) (hv3.mono (by omega)) B3
  obtain ⟨y0, y1, y2, y3, i0, i1, i2, i3⟩ := Y3.cells
  clear hv2 hv3 Y0 Y3 B3 hR1 hR2 hR3
  go_wp2_with fail
  refine bodyPost_ret (v := .agg #[.slice A0 n0 k0, .slice A1 n1 k1, .slice A2 n2 k2, .slice A3 n3 k3]) ?_ rfl ⟨_, C3, rfl, hH, hBf⟩
  simp [results, Try.results39, go_sem, y0, y1, y2, y3]


set_option maxHeartbeats 1000000 in
theorem drawShadeRoots_any (w : World) (A : Option Addr) (n c : Nat) (h : Inp w A n c) :
    Calls Try.prog 25 #[.slice A n c] w (DrawnK w) := by
  have h0 := inp_alloc h (.cells #[.slice none 0 0, .slice none 0 0, .slice none 0 0, .slice none 0 0] 27)
  have Y0 := Blk4.new w (.slice none 0 0) (.slice none 0 0) (.slice none 0 0) (.slice none 0 0) 27
  have B0 : Below w.heap.size w (w.alloc (.cells #[.slice none 0 0, .slice none 0 0, .slice none 0 0, .slice none 0 0] 27)) := (Below.refl _ _).alloc (Nat.le_refl _) _
  have s0 : (w.alloc (.cells #[.slice none 0 0, .slice none 0 0, .slice none 0 0, .slice none 0 0] 27)).heap.size = w.heap.size + 1 := by simp
  go_enter Try.func25, Try.ntmps25
  go_wp2_with fail
  generalize w.alloc (.cells #[.slice none 0 0, .slice none 0 0, .slice none 0 0, .slice none 0 0] 27) = W at h0 Y0 B0 s0 ⊢
  refine (l3Case_any _ _ _ _ h0).mono ?_; rintro e w1 ⟨v3, C3, rfl, hv3, hb1⟩
  have B3 := B0.trans (hb1.mono (by omega))
  obtain ⟨A0, n0, k0, A1, n1, k1, A2, n2, k2, A3, n3, k3, rfl, _⟩ := hv3.open_
  obtain ⟨hH, hBf⟩ := laidC (w := w) (b := w.heap.size) (Nat.le_refl _) (hv3.mono (by omega)) B3
  obtain ⟨y0, y1, y2, y3, i0, i1, i2, i3⟩ := (Y0.below hb1).cells
  clear hv3 Y0 B3
  go_wp2_with fail
  refine bodyPost_ret (v := .agg #[.slice A0 n0 k0, .slice A1 n1 k1, .slice A2 n2 k2, .slice A3 n3 k3]) ?_ rfl ⟨_, C3, rfl, hH, hBf⟩
  simp [results, Try.results25, go_sem, y0, y1, y2, y3]


set_option maxHeartbeats 1000000 in
theorem drawMarkStep_any (w : World) (A : Option Addr) (n c : Nat) (h : Inp w A n c) :
    Calls Try.prog 15 #[.slice A n c] w (DrawnK w) := by
  have h0 := inp_alloc h (.cells #[.slice none 0 0, .slice none 0 0, .slice none 0 0, .slice none 0 0] 27)
  have Y0 := Blk4.new w (.slice none 0 0) (.slice none 0 0) (.slice none 0 0) (.slice none 0 0) 27
  have B0 : Below w.heap.size w (w.alloc (.cells #[.slice none 0 0, .slice none 0 0, .slice none 0 0, .slice none 0 0] 27)) := (Below.refl _ _).alloc (Nat.le_refl _) _
  have s0 : (w.alloc (.cells #[.slice none 0 0, .slice none 0 0, .slice none 0 0, .slice none 0 0] 27)).heap.size = w.heap.size + 1 := by simp
  go_enter Try.func15, Try.ntmps15
  go_wp2_with fail
  generalize w.alloc (.cells #[.slice none 0 0, .slice none 0 0, .slice none 0 0, .slice none 0 0] 27) = W at h0 Y0 B0 s0 ⊢
  refine (l3Case_any _ _ _ _ h0).mono ?_; rintro e w1 ⟨v3, C3, rfl, hv3, hb1⟩
  have B3 := B0.trans (hb1.mono (by omega))
  obtain ⟨A0, n0, k0, A1, n1, k1, A2, n2, k2, A3, n3, k3, rfl, _⟩ := hv3.open_
  obtain ⟨hH, hBf⟩ := laidC (w := w) (b := w.heap.size) (Nat.le_refl _) (hv3.mono (by omega)) B3
  obtain ⟨y0, y1, y2, y3, i0, i1, i2, i3⟩ := (Y0.below hb1).cells
  clear hv3 Y0 B3
  go_wp2_with fail
  refine bodyPost_ret (v := .agg #[.slice A0 n0 k0, .slice A1 n1 k1, .slice A2 n2 k2, .slice A3 n3 k3]) ?_ rfl ⟨_, C3, rfl, hH, hBf⟩
  simp [results, Try.results15, go_sem, y0, y1, y2, y3]


set_option maxHeartbeats 1000000 in
theorem drawMarkAll_any (w : World) (A : Option Addr) (n c : Nat) (h : Inp w A n c) :
    Calls Try.prog 22 #[.slice A n c] w (DrawnK w) := by
  have h0 := inp_alloc h (.cells #[.slice none 0 0, .slice none 0 0, .slice none 0 0, .slice none 0 0] 27)
  have Y0 := Blk4.new w (.slice none 0 0) (.slice none 0 0) (.slice none 0 0) (.slice none 0 0) 27
  have B0 : Below w.heap.size w (w.alloc (.cells #[.slice none 0 0, .slice none 0 0, .slice none 0 0, .slice none 0 0] 27)) := (Below.refl _ _).alloc (Nat.le_refl _) _
  have s0 : (w.alloc (.cells #[.slice none 0 0, .slice none 0 0, .slice none 0 0, .slice none 0 0] 27)).heap.size = w.heap.size + 1 := by simp
  go_enter Try.func22, Try.ntmps22
  go_wp2_with fail
  generalize w.alloc (.cells #[.slice none 0 0, .slice none 0 0, .slice none 0 0, .slice none 0 0] 27) = W at h0 Y0 B0 s0 ⊢
  refine (l3Case_any _ _ _ _ h0).mono ?_; rintro e w1 ⟨v3, C3, rfl, hv3, hb1⟩
  have B3 := B0.trans (hb1.mono (by omega))
  obtain ⟨A0, n0, k0, A1, n1, k1, A2, n2, k2, A3, n3, k3, rfl, _⟩ := hv3.open_
  obtain ⟨hH, hBf⟩ := laidC (w := w) (b := w.heap.size) (Nat.le_refl _) (hv3.mono (by omega)) B3
  obtain ⟨y0, y1, y2, y3, i0, i1, i2, i3⟩ := (Y0.below hb1).cells
  clear hv3 Y0 B3
  go_wp2_with fail
  refine bodyPost_ret (v := .agg #[.slice A0 n0 k0, .slice A1 n1 k1, .slice A2 n2 k2, .slice A3 n3 k3]) ?_ rfl ⟨_, C3, rfl, hH, hBf⟩
  simp [results, Try.results22, go_sem, y0, y1, y2, y3]


set_option maxHeartbeats 1000000 in
theorem drawColorHolds_any (w : World) (A : Option Addr) (n c : Nat) (h : Inp w A n c) :
    Calls Try.prog 31 #[.slice A n c] w (DrawnK w) := by
  have h0 := inp_alloc h (.cells #[.slice none 0 0, .slice none 0 0, .slice none 0 0, .slice none 0 0] 27)
  have Y0 := Blk4.new w (.slice none 0 0) (.slice none 0 0) (.slice none 0 0) (.slice none 0 0) 27
  have B0 : Below w.heap.size w (w.alloc (.cells #[.slice none 0 0, .slice none 0 0, .slice none 0 0, .slice none 0 0] 27)) := (Below.refl _ _).alloc (Nat.le_refl _) _
  have s0 : (w.alloc (.cells #[.slice none 0 0, .slice none 0 0, .slice none 0 0, .slice none 0 0] 27)).heap.size = w.heap.size + 1 := by simp
  go_enter Try.func31, Try.ntmps31
  go_wp2_with fail
  generalize w.alloc (.cells #[.slice none 0 0, .slice none 0 0, .slice none 0 0, .slice none 0 0] 27) = W at h0 Y0 B0 s0 ⊢
  refine (l3Case_any _ _ _ _ h0).mono ?_; rintro e w1 ⟨v3, C3, rfl, hv3, hb1⟩
  have B3 := B0.trans (hb1.mono (by omega))
  obtain ⟨A0, n0, k0, A1, n1, k1, A2, n2, k2, A3, n3, k3, rfl, _⟩ := hv3.open_
  obtain ⟨hH, hBf⟩ := laidC (w := w) (b := w.heap.size) (Nat.le_refl _) (hv3.mono (by omega)) B3
  obtain ⟨y0, y1, y2, y3, i0, i1, i2, i3⟩ := (Y0.below hb1).cells
  clear hv3 Y0 B3
  go_wp2_with fail
  refine bodyPost_ret (v := .agg #[.slice A0 n0 k0, .slice A1 n1 k1, .slice A2 n2 k2, .slice A3 n3 k3]) ?_ rfl ⟨_, C3, rfl, hH, hBf⟩
  simp [results, Try.results31, go_sem, y0, y1, y2, y3]


set_option maxHeartbeats 1000000 in
theorem drawShadeCell_any (w : World) (A : Option Addr) (n c : Nat) (h : Inp w A n c) :
    Calls Try.prog 28 #[.slice A n c] w (DrawnKI w) := by
  have h0 := inp_alloc h (.cells #[.slice none 0 0, .slice none 0 0, .slice none 0 0, .slice none 0 0] 27)
  have Y0 := Blk4.new w (.slice none 0 0) (.slice none 0 0) (.slice none 0 0) (.slice none 0 0) 27
  have B0 : Below w.heap.size w (w.alloc (.cells #[.slice none 0 0, .slice none 0 0, .slice none 0 0, .slice none 0 0] 27)) := (Below.refl _ _).alloc (Nat.le_refl _) _
  have s0 : (w.alloc (.cells #[.slice none 0 0, .slice none 0 0, .slice none 0 0, .slice none 0 0] 27)).heap.size = w.heap.size + 1 := by simp
  go_enter Try.func28, Try.ntmps28
  go_wp2_with fail
  generalize w.alloc (.cells #[.slice none 0 0, .slice none 0 0, .slice none 0 0, .slice none 0 0] 27) = W at h0 Y0 B0 s0 ⊢
  refine (l3Case_any _ _ _ _ h0).mono ?_; rintro e w1 ⟨v3, C3, rfl, hv3, hb1⟩
  have z1 := hb1.size
  have hi1 : Inp w1 A n c := by
    obtain ⟨hb, h1, h2⟩ := h0
    refine ⟨?_, h1, h2⟩
    have hb' := hb.below (hb1.mono (Nat.le_refl _))
    rcases hb' with h | ⟨b, off, e, hlt, hc⟩
    · exact .inl h
    · exact .inr ⟨b, off, e, by omega, hc⟩
  go_wp2_with fail
  refine (l13Open_any _ _ _ _ hi1).mono ?_; rintro e w2 ⟨rb, A1, n1, c1, rfl, hR2, hb2⟩
  have hB := hR2.2.2.1
  have z2 := hb2.size
  have L := Row.lit_at (w := w2) (g := w2.heap.size) rfl [0, 1, 2, 3, 8, -1] (by decide)
  have N := num_any _ _ _ _ _ _ _ (hR2.alloc (.cells #[.int .i64 0, .int .i64 1, .int .i64 2, .int .i64 3, .int .i64 8, .int .i64 (-1)] 3)) (by omega) w2.heap.size 6 6 [0, 1, 2, 3, 8, -1] 0 (by exact L) rfl (by decide) (by decide) (Nat.ne_of_gt hR2.lt)
  go_wp2_with fail
  refine N.mono ?_; rintro e w4 ⟨x, hx, rfl, hR4, hO4⟩
  have g4 : w2.grownBy w4 (some rb) := grown_trans (grown_alloc (World.grownBy.refl w2 _) _) hO4.1
  have B3 := ((B0.trans (hb1.mono (by omega))).trans (hb2.mono (by omega))).trans (below_row g4 (by omega) (by omega))
  have Y4 := ((Y0.below hb1).below hb2).kept g4 (by omega)
  have hv4 := (hv3.below hb2).kept_up hv3 g4 (by omega)
  obtain ⟨A0, n0, k0, A1, n1, k1, A2, n2, k2, A3, n3, k3, rfl, _⟩ := hv3.open_
  obtain ⟨hH, hBf⟩ := laidC (w := w) (b := w.heap.size) (Nat.le_refl _) (hv4.mono (by omega)) B3
  obtain ⟨y0, y1, y2, y3, i0, i1, i2, i3⟩ := Y4.cells
  clear hv3 hv4 Y0 Y4 B3 hR2 hR4 L N
  go_wp2_with fail
  refine bodyPost_ret (v := .tuple #[.agg #[.slice A0 n0 k0, .slice A1 n1 k1, .slice A2 n2 k2, .slice A3 n3 k3], .int .i64 x]) ?_ rfl ⟨_, C3, x, rfl, hH, hBf⟩
  simp [results, Try.results28, go_sem, y0, y1, y2, y3]


set_option maxHeartbeats 1000000 in
theorem drawCountColor_any (w : World) (A : Option Addr) (n c : Nat) (h : Inp w A n c) :
    Calls Try.prog 33 #[.slice A n c] w (DrawnKI w) := by
  have h0 := inp_alloc h (.cells #[.slice none 0 0, .slice none 0 0, .slice none 0 0, .slice none 0 0] 27)
  have Y0 := Blk4.new w (.slice none 0 0) (.slice none 0 0) (.slice none 0 0) (.slice none 0 0) 27
  have B0 : Below w.heap.size w (w.alloc (.cells #[.slice none 0 0, .slice none 0 0, .slice none 0 0, .slice none 0 0] 27)) := (Below.refl _ _).alloc (Nat.le_refl _) _
  have s0 : (w.alloc (.cells #[.slice none 0 0, .slice none 0 0, .slice none 0 0, .slice none 0 0] 27)).heap.size = w.heap.size + 1 := by simp
  go_enter Try.func33, Try.ntmps33
  go_wp2_with fail
  generalize w.alloc (.cells #[.slice none 0 0, .slice none 0 0, .slice none 0 0, .slice none 0 0] 27) = W at h0 Y0 B0 s0 ⊢
  refine (l3Case_any _ _ _ _ h0).mono ?_; rintro e w1 ⟨v3, C3, rfl, hv3, hb1⟩
  have z1 := hb1.size
  have hi1 : Inp w1 A n c := by
    obtain ⟨hb, h1, h2⟩ := h0
    refine ⟨?_, h1, h2⟩
    have hb' := hb.below (hb1.mono (Nat.le_refl _))
    rcases hb' with h | ⟨b, off, e, hlt, hc⟩
    · exact .inl h
    · exact .inr ⟨b, off, e, by omega, hc⟩
  go_wp2_with fail
  refine (l13Open_any _ _ _ _ hi1).mono ?_; rintro e w2 ⟨rb, A1, n1, c1, rfl, hR2, hb2⟩
  have hB := hR2.2.2.1
  have z2 := hb2.size
  have L := Row.lit_at (w := w2) (g := w2.heap.size) rfl [0, 1, 2, 3] (by decide)
  have N := num_any _ _ _ _ _ _ _ (hR2.alloc (.cells #[.int .i64 0, .int .i64 1, .int .i64 2, .int .i64 3] 3)) (by omega) w2.heap.size 4 4 [0, 1, 2, 3] 0 (by exact L) rfl (by decide) (by decide) (Nat.ne_of_gt hR2.lt)
  go_wp2_with fail
  refine N.mono ?_; rintro e w4 ⟨x, hx, rfl, hR4, hO4⟩
  have g4 : w2.grownBy w4 (some rb) := grown_trans (grown_alloc (World.grownBy.refl w2 _) _) hO4.1
  have B3 := ((B0.trans (hb1.mono (by omega))).trans (hb2.mono (by omega))).trans (below_row g4 (by omega) (by omega))
  have Y4 := ((Y0.below hb1).below hb2).kept g4 (by omega)
  have hv4 := (hv3.below hb2).kept_up hv3 g4 (by omega)
  obtain ⟨A0, n0, k0, A1, n1, k1, A2, n2, k2, A3, n3, k3, rfl, _⟩ := hv3.open_
  obtain ⟨hH, hBf⟩ := laidC (w := w) (b := w.heap.size) (Nat.le_refl _) (hv4.mono (by omega)) B3
  obtain ⟨y0, y1, y2, y3, i0, i1, i2, i3⟩ := Y4.cells
  clear hv3 hv4 Y0 Y4 B3 hR2 hR4 L N
  go_wp2_with fail
  refine bodyPost_ret (v := .tuple #[.agg #[.slice A0 n0 k0, .slice A1 n1 k1, .slice A2 n2 k2, .slice A3 n3 k3], .int .i64 x]) ?_ rfl ⟨_, C3, x, rfl, hH, hBf⟩
  simp [results, Try.results33, go_sem, y0, y1, y2, y3]

end Go.Proofs.Ytmngkjcdaaladaa
