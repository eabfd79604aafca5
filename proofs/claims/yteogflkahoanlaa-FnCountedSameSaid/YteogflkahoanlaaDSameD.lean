/- DrawCountedSame. -/
import Derived.Test.YteogflkahoanlaaWrgDs
namespace Go.Proofs.Yteogflkahoanlaa
open Go.RowKit

theorem Blk5.oth {w : World} {b c : Nat} {x0 x1 x2 x3 x4 : Value} {t : TypeId} (h : Blk5 w b x0 x1 x2 x3 x4 t) (hn : b ≠ c) (k : Nat) (u : Value) : Blk5 (w.setCell ⟨c, k, none⟩ u) b x0 x1 x2 x3 x4 t := h.other (p := ⟨c, k, none⟩) hn u
set_option maxRecDepth 100000 in
set_option maxHeartbeats 3000000 in
theorem drawCountedSame_any (w : World) (A : Option Addr) (n c : Nat) (h : Inp w A n c) : Calls Try.prog 41 #[.slice A n c] w (DrawnDD w) := by
  have h0 := inp_alloc (inp_alloc h (.cells #[.slice none 0 0, .slice none 0 0, .slice none 0 0, .slice none 0 0, .slice none 0 0] 29)) (.cells #[.slice none 0 0, .slice none 0 0, .slice none 0 0, .slice none 0 0, .slice none 0 0] 29)
  have YA := (Blk5.new w (.slice none 0 0) (.slice none 0 0) (.slice none 0 0) (.slice none 0 0) (.slice none 0 0) 29).alloc (.cells #[.slice none 0 0, .slice none 0 0, .slice none 0 0, .slice none 0 0, .slice none 0 0] 29)
  have YB := Blk5.new_at (w := w.alloc (.cells #[.slice none 0 0, .slice none 0 0, .slice none 0 0, .slice none 0 0, .slice none 0 0] 29)) (b := w.heap.size + 1) (by simp) (.slice none 0 0) (.slice none 0 0) (.slice none 0 0) (.slice none 0 0) (.slice none 0 0) 29
  have B0 : Below w.heap.size w ((w.alloc (.cells #[.slice none 0 0, .slice none 0 0, .slice none 0 0, .slice none 0 0, .slice none 0 0] 29)).alloc (.cells #[.slice none 0 0, .slice none 0 0, .slice none 0 0, .slice none 0 0, .slice none 0 0] 29)) := ((Below.refl _ _).alloc (Nat.le_refl _) _).alloc (by simp) _
  have s0 : ((w.alloc (.cells #[.slice none 0 0, .slice none 0 0, .slice none 0 0, .slice none 0 0, .slice none 0 0] 29)).alloc (.cells #[.slice none 0 0, .slice none 0 0, .slice none 0 0, .slice none 0 0, .slice none 0 0] 29)).heap.size = w.heap.size + 2 := by simp
  go_enter Try.func41, Try.ntmps41
  go_wp2_with fail
  generalize ((w.alloc (.cells #[.slice none 0 0, .slice none 0 0, .slice none 0 0, .slice none 0 0, .slice none 0 0] 29)).alloc (.cells #[.slice none 0 0, .slice none 0 0, .slice none 0 0, .slice none 0 0, .slice none 0 0] 29)) = W at h0 YA YB B0 s0 ⊢
  refine (l13Open_any _ _ _ _ h0).mono ?_; rintro e w1 ⟨rb, A1, n1, c1, rfl, hR1, hb1⟩
  have hB := hR1.2.2.1
  have z1 := hb1.size
  have hl1 := hR1.lt
  go_wp2_with fail
  refine (l9Draw_any _ _ _ _ _ _ _ hR1 (by omega)).mono ?_; rintro e w2 ⟨v2, D2, p2, rfl, hv2, hC2, hR2, hp2, hg2⟩
  have z2 := hg2.size
  obtain ⟨A0, n0, k0, A1, n1, k1, A2, n2, k2, A3, n3, k3, A4, n4, k4, rfl, -⟩ := hv2.open_
  have hz2 := szD_valid hC2
  have X2 := Blk5.new w2 (.slice A0 n0 k0) (.slice A1 n1 k1) (.slice A2 n2 k2) (.slice A3 n3 k3) (.slice A4 n4 k4) 29
  have V2 := hv2.alloc (.cells #[.slice A0 n0 k0, .slice A1 n1 k1, .slice A2 n2 k2, .slice A3 n3 k3, .slice A4 n4 k4] 29)
  have R2 := hR2.alloc (.cells #[.slice A0 n0 k0, .slice A1 n1 k1, .slice A2 n2 k2, .slice A3 n3 k3, .slice A4 n4 k4] 29)
  have YA2 := ((YA.below hb1).kept hg2 (by omega)).alloc (.cells #[.slice A0 n0 k0, .slice A1 n1 k1, .slice A2 n2 k2, .slice A3 n3 k3, .slice A4 n4 k4] 29)
  have YB2 := ((YB.below hb1).kept hg2 (by omega)).alloc (.cells #[.slice A0 n0 k0, .slice A1 n1 k1, .slice A2 n2 k2, .slice A3 n3 k3, .slice A4 n4 k4] 29)
  have B2 := ((B0.trans (hb1.mono (by omega))).trans (below_row hg2 (by omega) (by omega))).alloc (by omega) (.cells #[.slice A0 n0 k0, .slice A1 n1 k1, .slice A2 n2 k2, .slice A3 n3 k3, .slice A4 n4 k4] 29)
  have s2 : (w2.alloc (.cells #[.slice A0 n0 k0, .slice A1 n1 k1, .slice A2 n2 k2, .slice A3 n3 k3, .slice A4 n4 k4] 29)).heap.size = w2.heap.size + 1 := by simp
  clear hv2 hR1 hR2 h0 YA YB B0 hb1 hg2 h
  go_wp2_with fail
  generalize w2.alloc (.cells #[.slice A0 n0 k0, .slice A1 n1 k1, .slice A2 n2 k2, .slice A3 n3 k3, .slice A4 n4 k4] 29) = W2 at X2 V2 R2 YA2 YB2 B2 s2 ⊢
  have SO : ∀ w' : World, Blk5 w' w2.heap.size (.slice A0 n0 k0) (.slice A1 n1 k1) (.slice A2 n2 k2) (.slice A3 n3 k3) (.slice A4 n4 k4) 29 → w'.cell? ⟨w2.heap.size, 0, none⟩ = some (.slice A0 n0 k0) ∧ w'.cell? ⟨w2.heap.size, 1, none⟩ = some (.slice A1 n1 k1) ∧ w'.cell? ⟨w2.heap.size, 2, none⟩ = some (.slice A2 n2 k2) ∧ w'.cell? ⟨w2.heap.size, 3, none⟩ = some (.slice A3 n3 k3) ∧ w'.cell? ⟨w2.heap.size, 4, none⟩ = some (.slice A4 n4 k4) := fun w' hb => ⟨hb.cells.1, hb.cells.2.1, hb.cells.2.2.1, hb.cells.2.2.2.1, hb.cells.2.2.2.2.1⟩
  have hn0 : w2.heap.size ≠ w.heap.size := by omega
  have hn1 : w2.heap.size ≠ w.heap.size + 1 := by omega
  go_region_held3 (fun w' => w'.cell? ⟨w2.heap.size, 0, none⟩ = some (.slice A0 n0 k0) ∧ w'.cell? ⟨w2.heap.size, 1, none⟩ = some (.slice A1 n1 k1) ∧ w'.cell? ⟨w2.heap.size, 2, none⟩ = some (.slice A2 n2 k2) ∧ w'.cell? ⟨w2.heap.size, 3, none⟩ = some (.slice A3 n3 k3) ∧ w'.cell? ⟨w2.heap.size, 4, none⟩ = some (.slice A4 n4 k4))
    (((try dsimp only); (refine SO _ ?_); (repeat (with_reducible (first | exact X5 | exact X4 | exact X3 | exact X2 | exact X2.drew | refine Blk5.oth ?_ hn0 _ _ | refine Blk5.oth ?_ hn1 _ _)))))
    (first
      | (go_at_call_of 65 (Value.agg #[.slice A0 n0 k0, .slice A1 n1 k1, .slice A2 n2 k2, .slice A3 n3 k3, .slice A4 n4 k4]); (with_reducible refine (l9Wrong_any 8 (by omega) W2.drew _ _ _ _ _ _ R2.drew (by omega) _ _ _ V2.drew hz2).mono ?_); rintro e w3 ⟨v3, D3, p3, rfl, hv3, hz3, hR3, hp3, hg3⟩; (obtain ⟨E0, u0, e0, E1, u1, e1, E2, u2, e2, E3, u3, e3, E4, u4, e4, rfl, -⟩ := hv3.open_); (have X3 := X2.drew.kept hg3 (by omega)))
      | (go_at_call_of 65 (Value.agg #[.slice E0 u0 e0, .slice E1 u1 e1, .slice E2 u2 e2, .slice E3 u3 e3, .slice E4 u4 e4]); (with_reducible refine (l9Wrong_any 12 (by omega) _ _ _ _ _ _ _ hR3 (by omega) _ _ _ hv3 hz3).mono ?_); rintro e w4 ⟨v4, D4, p4, rfl, hv4, hz4, hR4, hp4, hg4⟩; (obtain ⟨G0, s0, g0, G1, s1, g1, G2, s2, g2, G3, s3, g3, G4, s4, g4, rfl, -⟩ := hv4.open_); (have X4 := X3.kept hg4 (by omega)))
      | (go_at_call_of 65 (Value.agg #[.slice G0 s0 g0, .slice G1 s1 g1, .slice G2 s2 g2, .slice G3 s3 g3, .slice G4 s4 g4]); (with_reducible refine (l9Wrong_any 16 (by omega) _ _ _ _ _ _ _ hR4 (by omega) _ _ _ hv4 hz4).mono ?_); rintro e w5 ⟨v5, D5, p5, rfl, hv5, hz5, hR5, hp5, hg5⟩; (obtain ⟨J0, q0, j0, J1, q1, j1, J2, q2, j2, J3, q3, j3, J4, q4, j4, rfl, -⟩ := hv5.open_); (have X5 := X4.kept hg5 (by omega)); (have YA5 := (((YA2.drew.kept hg3 (by omega)).kept hg4 (by omega)).kept hg5 (by omega))); (have YB5 := (((YB2.drew.kept hg3 (by omega)).kept hg4 (by omega)).kept hg5 (by omega))); (obtain ⟨a0, a1, a2, a3, a4, af0, af1, af2, af3, af4⟩ := YA5.cells); (obtain ⟨b0, b1, b2, b3, b4, bf0, bf1, bf2, bf3, bf4⟩ := YB5.cells)))
  all_goals
    rename_i hHeld
    clear hHeld
    have zd : W2.drew.heap.size = W2.heap.size := rfl
    have z3 := hg3.size
    have z4 := hg4.size
    have z5 := hg5.size
    have V5 := (((V2.drew.kept_low hg3 (by omega)).kept_low hg4 (by omega)).kept_low hg5 (by omega)).mono (lo' := w.heap.size + 2) (by omega)
    have B5 := ((B2.drew.trans (below_row hg3 (by omega) (by omega))).trans (below_row hg4 (by omega) (by omega))).trans (below_row hg5 (by omega) (by omega))
    have hne : w.heap.size ≠ w.heap.size + 1 := by omega
    have hne' : w.heap.size + 1 ≠ w.heap.size := by omega
    have YAF := (YA5.set5 (.slice A0 n0 k0) (.slice A1 n1 k1) (.slice A2 n2 k2) (.slice A3 n3 k3) (.slice A4 n4 k4)).far5 hne (.slice J0 q0 j0) (.slice J1 q1 j1) (.slice J2 q2 j2) (.slice J3 q3 j3) (.slice J4 q4 j4)
    have YBF := (YB5.far5 hne' (.slice A0 n0 k0) (.slice A1 n1 k1) (.slice A2 n2 k2) (.slice A3 n3 k3) (.slice A4 n4 k4)).set5 (.slice J0 q0 j0) (.slice J1 q1 j1) (.slice J2 q2 j2) (.slice J3 q3 j3) (.slice J4 q4 j4)
    have VF := ((V5.low5 (c := w.heap.size) (by omega) (.slice A0 n0 k0) (.slice A1 n1 k1) (.slice A2 n2 k2) (.slice A3 n3 k3) (.slice A4 n4 k4)).low5 (c := w.heap.size + 1) (by omega) (.slice J0 q0 j0) (.slice J1 q1 j1) (.slice J2 q2 j2) (.slice J3 q3 j3) (.slice J4 q4 j4)).mono (lo' := w.heap.size) (by omega)
    have UF := ((hv5.low5 (c := w.heap.size) (by omega) (.slice A0 n0 k0) (.slice A1 n1 k1) (.slice A2 n2 k2) (.slice A3 n3 k3) (.slice A4 n4 k4)).low5 (c := w.heap.size + 1) (by omega) (.slice J0 q0 j0) (.slice J1 q1 j1) (.slice J2 q2 j2) (.slice J3 q3 j3) (.slice J4 q4 j4)).mono (lo' := w.heap.size) (by omega)
    have BF := below_set5 (below_set5 B5 (c := w.heap.size) (Nat.le_refl _) (.slice A0 n0 k0) (.slice A1 n1 k1) (.slice A2 n2 k2) (.slice A3 n3 k3) (.slice A4 n4 k4)) (c := w.heap.size + 1) (by omega) (.slice J0 q0 j0) (.slice J1 q1 j1) (.slice J2 q2 j2) (.slice J3 q3 j3) (.slice J4 q4 j4)
    clear V2 R2 YA2 YB2 B2 hv3 hv4 hv5 hR3 hR4 hR5 X2 X3 X4 X5 V5 B5 YA5 YB5 SO a0 a1 a2 a3 a4 af0 af1 af2 af3 af4 b0 b1 b2 b3 b4 bf0 bf1 bf2 bf3 bf4
    obtain ⟨a0, a1, a2, a3, a4, -⟩ := YAF.cells
    obtain ⟨b0, b1, b2, b3, b4, -⟩ := YBF.cells
    go_wp2_with fail
    refine bodyPost_ret (v := .tuple #[.agg #[.slice A0 n0 k0, .slice A1 n1 k1, .slice A2 n2 k2, .slice A3 n3 k3, .slice A4 n4 k4], .agg #[.slice J0 q0 j0, .slice J1 q1 j1, .slice J2 q2 j2, .slice J3 q3 j3, .slice J4 q4 j4]]) ?_ rfl ⟨_, D2, _, D5, rfl, VF, UF, BF⟩
    simp [results, Try.results41, go_sem, a0, a1, a2, a3, a4, b0, b1, b2, b3, b4]

end Go.Proofs.Yteogflkahoanlaa
