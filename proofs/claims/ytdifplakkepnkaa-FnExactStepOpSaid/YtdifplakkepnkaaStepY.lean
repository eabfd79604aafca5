import Derived.Test.YtdifplakkepnkaaStepOS
import Derived.Test.YtdifplakkepnkaaStepOI
/- StepOp of spec. -/
namespace Go.Proofs.Ytdifplakkepnkaa
open Go.RowKit

set_option maxRecDepth 100000 in
set_option maxHeartbeats 6000000 in
theorem specStepOp_any (w : World) (lo : Nat) (v : Value) (B : Bp) (h : Bv w lo v B) (b : Bool) : Calls Try.prog 30 #[v, .bool b] w (OptBv w (stepOO B b)) := by
  obtain ⟨A0, n0, c0, A1, n1, c1, A2, n2, c2, A3, n3, c3, A4, n4, c4, A5, n5, c5, C, p, cc, a, os, i, z, rfl, rfl, hc, ho, ⟨l0, l1, l2, l3, l4, l5⟩, ⟨m0, m1, m2, m3, m4, m5⟩⟩ := h.open_
  have X := (Blk10.new w (.slice A0 n0 c0) (.slice A1 n1 c1) (.slice A2 n2 c2) (.slice A3 n3 c3) (.int .i64 p) (.slice A4 n4 c4) (.int .i64 a) (.slice A5 n5 c5) (.int .i64 i) (.bool z) 34).alloc (.cells #[.slice none 0 0, .slice none 0 0, .slice none 0 0, .slice none 0 0, .int .i64 0, .slice none 0 0, .int .i64 0, .slice none 0 0, .int .i64 0, .bool false] 34)
  have Y := Blk10.new_at (w := w.alloc (.cells #[.slice A0 n0 c0, .slice A1 n1 c1, .slice A2 n2 c2, .slice A3 n3 c3, .int .i64 p, .slice A4 n4 c4, .int .i64 a, .slice A5 n5 c5, .int .i64 i, .bool z] 34)) (b := w.heap.size + 1) (by simp) (.slice none 0 0) (.slice none 0 0) (.slice none 0 0) (.slice none 0 0) (.int .i64 0) (.slice none 0 0) (.int .i64 0) (.slice none 0 0) (.int .i64 0) (.bool false) 34
  have HB := (h.alloc (.cells #[.slice A0 n0 c0, .slice A1 n1 c1, .slice A2 n2 c2, .slice A3 n3 c3, .int .i64 p, .slice A4 n4 c4, .int .i64 a, .slice A5 n5 c5, .int .i64 i, .bool z] 34)).alloc (.cells #[.slice none 0 0, .slice none 0 0, .slice none 0 0, .slice none 0 0, .int .i64 0, .slice none 0 0, .int .i64 0, .slice none 0 0, .int .i64 0, .bool false] 34)
  have HC := (hc.alloc (.cells #[.slice A0 n0 c0, .slice A1 n1 c1, .slice A2 n2 c2, .slice A3 n3 c3, .int .i64 p, .slice A4 n4 c4, .int .i64 a, .slice A5 n5 c5, .int .i64 i, .bool z] 34)).alloc (.cells #[.slice none 0 0, .slice none 0 0, .slice none 0 0, .slice none 0 0, .int .i64 0, .slice none 0 0, .int .i64 0, .slice none 0 0, .int .i64 0, .bool false] 34)
  have HO := (ho.alloc (.cells #[.slice A0 n0 c0, .slice A1 n1 c1, .slice A2 n2 c2, .slice A3 n3 c3, .int .i64 p, .slice A4 n4 c4, .int .i64 a, .slice A5 n5 c5, .int .i64 i, .bool z] 34)).alloc (.cells #[.slice none 0 0, .slice none 0 0, .slice none 0 0, .slice none 0 0, .int .i64 0, .slice none 0 0, .int .i64 0, .slice none 0 0, .int .i64 0, .bool false] 34)
  have BB : Below w.heap.size w ((w.alloc (.cells #[.slice A0 n0 c0, .slice A1 n1 c1, .slice A2 n2 c2, .slice A3 n3 c3, .int .i64 p, .slice A4 n4 c4, .int .i64 a, .slice A5 n5 c5, .int .i64 i, .bool z] 34)).alloc (.cells #[.slice none 0 0, .slice none 0 0, .slice none 0 0, .slice none 0 0, .int .i64 0, .slice none 0 0, .int .i64 0, .slice none 0 0, .int .i64 0, .bool false] 34)) := ((Below.refl _ _).alloc (Nat.le_refl _) _).alloc (by simp) _
  have sz : w.heap.size + 2 ≤ ((w.alloc (.cells #[.slice A0 n0 c0, .slice A1 n1 c1, .slice A2 n2 c2, .slice A3 n3 c3, .int .i64 p, .slice A4 n4 c4, .int .i64 a, .slice A5 n5 c5, .int .i64 i, .bool z] 34)).alloc (.cells #[.slice none 0 0, .slice none 0 0, .slice none 0 0, .slice none 0 0, .int .i64 0, .slice none 0 0, .int .i64 0, .slice none 0 0, .int .i64 0, .bool false] 34)).heap.size := by simp
  clear hc ho h
  generalize hW : (w.alloc (.cells #[.slice A0 n0 c0, .slice A1 n1 c1, .slice A2 n2 c2, .slice A3 n3 c3, .int .i64 p, .slice A4 n4 c4, .int .i64 a, .slice A5 n5 c5, .int .i64 i, .bool z] 34)).alloc (.cells #[.slice none 0 0, .slice none 0 0, .slice none 0 0, .slice none 0 0, .int .i64 0, .slice none 0 0, .int .i64 0, .slice none 0 0, .int .i64 0, .bool false] 34) = W at X Y HB HC HO BB sz
  obtain ⟨⟨x0, x1, x2, x3, x4, x5, x6, x7, x8, x9⟩, -⟩ := X.cells
  have V := specBothValid_any _ lo _ _ HB
  rcases eb : bothB ⟨C, ⟨p, cc, a⟩, os, i, z⟩
  · rw [show stepOO ⟨C, ⟨p, cc, a⟩, os, i, z⟩ b = none by unfold stepOO; rw [eb]; rfl]
    rw [eb] at V
    clear eb HB HC HO
    go_enter Try.func30, Try.ntmps30
    go_wp2_with fail
    (try rw [hW])
    refine V.mono ?_; rintro e w1 ⟨rfl, hb1⟩
    have s1 := hb1.size
    obtain ⟨⟨y0, y1, y2, y3, y4, y5, y6, y7, y8, y9⟩, -⟩ := (X.below hb1).cells
    obtain ⟨⟨q0, q1, q2, q3, q4, q5, q6, q7, q8, q9⟩, ⟨k0, k1, k2, k3, k4, k5, k6, k7, k8, k9⟩⟩ := (Y.below hb1).cells
    have YF := (Y.below hb1).set10 (.slice none 0 0) (.slice none 0 0) (.slice none 0 0) (.slice none 0 0) (.int .i64 0) (.slice none 0 0) (.int .i64 0) (.slice none 0 0) (.int .i64 0) (.bool false)
    have FF := below_set10 (BB.trans (hb1.mono BB.size)) (c := w.heap.size + 1) (by omega) (.slice none 0 0) (.slice none 0 0) (.slice none 0 0) (.slice none 0 0) (.int .i64 0) (.slice none 0 0) (.int .i64 0) (.slice none 0 0) (.int .i64 0) (.bool false)
    clear x0 x1 x2 x3 x4 x5 x6 x7 x8 x9 V
    go_wp2_with fail
    generalize ((((((((((w1.setCell ⟨w.heap.size + 1, 0, none⟩ (.slice none 0 0)).setCell ⟨w.heap.size + 1, 1, none⟩ (.slice none 0 0)).setCell ⟨w.heap.size + 1, 2, none⟩ (.slice none 0 0)).setCell ⟨w.heap.size + 1, 3, none⟩ (.slice none 0 0)).setCell ⟨w.heap.size + 1, 4, none⟩ (.int .i64 0)).setCell ⟨w.heap.size + 1, 5, none⟩ (.slice none 0 0)).setCell ⟨w.heap.size + 1, 6, none⟩ (.int .i64 0)).setCell ⟨w.heap.size + 1, 7, none⟩ (.slice none 0 0)).setCell ⟨w.heap.size + 1, 8, none⟩ (.int .i64 0)).setCell ⟨w.heap.size + 1, 9, none⟩ (.bool false)) = WF at YF FF ⊢
    obtain ⟨⟨v0, v1, v2, v3, v4, v5, v6, v7, v8, v9⟩, -⟩ := YF.cells
    refine bodyPost_ret (v := .tuple #[.agg #[.slice none 0 0, .slice none 0 0, .slice none 0 0, .slice none 0 0, .int .i64 0, .slice none 0 0, .int .i64 0, .slice none 0 0, .int .i64 0, .bool false], .bool false]) ?_ rfl ⟨_, rfl, Bv.zero _ _, FF⟩
    simp [results, Try.results30, go_sem, v0, v1, v2, v3, v4, v5, v6, v7, v8, v9]
  rw [eb] at V
  cases z
  rotate_left
  · rw [show stepOO ⟨C, ⟨p, cc, a⟩, os, i, true⟩ b = none by unfold stepOO; rw [eb]; rfl]
    clear eb HB HC HO
    go_enter Try.func30, Try.ntmps30
    go_wp2_with fail
    (try rw [hW])
    refine V.mono ?_; rintro e w1 ⟨rfl, hb1⟩
    have s1 := hb1.size
    obtain ⟨⟨y0, y1, y2, y3, y4, y5, y6, y7, y8, y9⟩, -⟩ := (X.below hb1).cells
    obtain ⟨⟨q0, q1, q2, q3, q4, q5, q6, q7, q8, q9⟩, ⟨k0, k1, k2, k3, k4, k5, k6, k7, k8, k9⟩⟩ := (Y.below hb1).cells
    have YF := (Y.below hb1).set10 (.slice none 0 0) (.slice none 0 0) (.slice none 0 0) (.slice none 0 0) (.int .i64 0) (.slice none 0 0) (.int .i64 0) (.slice none 0 0) (.int .i64 0) (.bool false)
    have FF := below_set10 (BB.trans (hb1.mono BB.size)) (c := w.heap.size + 1) (by omega) (.slice none 0 0) (.slice none 0 0) (.slice none 0 0) (.slice none 0 0) (.int .i64 0) (.slice none 0 0) (.int .i64 0) (.slice none 0 0) (.int .i64 0) (.bool false)
    clear x0 x1 x2 x3 x4 x5 x6 x7 x8 x9 V
    go_wp2_with fail
    generalize ((((((((((w1.setCell ⟨w.heap.size + 1, 0, none⟩ (.slice none 0 0)).setCell ⟨w.heap.size + 1, 1, none⟩ (.slice none 0 0)).setCell ⟨w.heap.size + 1, 2, none⟩ (.slice none 0 0)).setCell ⟨w.heap.size + 1, 3, none⟩ (.slice none 0 0)).setCell ⟨w.heap.size + 1, 4, none⟩ (.int .i64 0)).setCell ⟨w.heap.size + 1, 5, none⟩ (.slice none 0 0)).setCell ⟨w.heap.size + 1, 6, none⟩ (.int .i64 0)).setCell ⟨w.heap.size + 1, 7, none⟩ (.slice none 0 0)).setCell ⟨w.heap.size + 1, 8, none⟩ (.int .i64 0)).setCell ⟨w.heap.size + 1, 9, none⟩ (.bool false)) = WF at YF FF ⊢
    obtain ⟨⟨v0, v1, v2, v3, v4, v5, v6, v7, v8, v9⟩, -⟩ := YF.cells
    refine bodyPost_ret (v := .tuple #[.agg #[.slice none 0 0, .slice none 0 0, .slice none 0 0, .slice none 0 0, .int .i64 0, .slice none 0 0, .int .i64 0, .slice none 0 0, .int .i64 0, .bool false], .bool false]) ?_ rfl ⟨_, rfl, Bv.zero _ _, FF⟩
    simp [results, Try.results30, go_sem, v0, v1, v2, v3, v4, v5, v6, v7, v8, v9]
  by_cases hi : i = (n5 : Int)
  · rw [show stepOO ⟨C, ⟨p, cc, a⟩, os, i, false⟩ b = none by unfold stepOO; rw [eb]; dsimp only; rw [l5.out, decide_eq_true hi]; rfl]
    have hi2 : (i == (n5 : Int)) = true := by rw [beq_iff_eq]; exact hi
    clear eb HB HC HO hi
    go_enter Try.func30, Try.ntmps30
    go_wp2_with fail
    (try rw [hW])
    refine V.mono ?_; rintro e w1 ⟨rfl, hb1⟩
    have s1 := hb1.size
    obtain ⟨⟨y0, y1, y2, y3, y4, y5, y6, y7, y8, y9⟩, -⟩ := (X.below hb1).cells
    obtain ⟨⟨q0, q1, q2, q3, q4, q5, q6, q7, q8, q9⟩, ⟨k0, k1, k2, k3, k4, k5, k6, k7, k8, k9⟩⟩ := (Y.below hb1).cells
    have YF := (Y.below hb1).set10 (.slice none 0 0) (.slice none 0 0) (.slice none 0 0) (.slice none 0 0) (.int .i64 0) (.slice none 0 0) (.int .i64 0) (.slice none 0 0) (.int .i64 0) (.bool false)
    have FF := below_set10 (BB.trans (hb1.mono BB.size)) (c := w.heap.size + 1) (by omega) (.slice none 0 0) (.slice none 0 0) (.slice none 0 0) (.slice none 0 0) (.int .i64 0) (.slice none 0 0) (.int .i64 0) (.slice none 0 0) (.int .i64 0) (.bool false)
    clear x0 x1 x2 x3 x4 x5 x6 x7 x8 x9 V
    go_wp2_with fail
    generalize ((((((((((w1.setCell ⟨w.heap.size + 1, 0, none⟩ (.slice none 0 0)).setCell ⟨w.heap.size + 1, 1, none⟩ (.slice none 0 0)).setCell ⟨w.heap.size + 1, 2, none⟩ (.slice none 0 0)).setCell ⟨w.heap.size + 1, 3, none⟩ (.slice none 0 0)).setCell ⟨w.heap.size + 1, 4, none⟩ (.int .i64 0)).setCell ⟨w.heap.size + 1, 5, none⟩ (.slice none 0 0)).setCell ⟨w.heap.size + 1, 6, none⟩ (.int .i64 0)).setCell ⟨w.heap.size + 1, 7, none⟩ (.slice none 0 0)).setCell ⟨w.heap.size + 1, 8, none⟩ (.int .i64 0)).setCell ⟨w.heap.size + 1, 9, none⟩ (.bool false)) = WF at YF FF ⊢
    obtain ⟨⟨v0, v1, v2, v3, v4, v5, v6, v7, v8, v9⟩, -⟩ := YF.cells
    refine bodyPost_ret (v := .tuple #[.agg #[.slice none 0 0, .slice none 0 0, .slice none 0 0, .slice none 0 0, .int .i64 0, .slice none 0 0, .int .i64 0, .slice none 0 0, .int .i64 0, .bool false], .bool false]) ?_ rfl ⟨_, rfl, Bv.zero _ _, FF⟩
    simp [results, Try.results30, go_sem, v0, v1, v2, v3, v4, v5, v6, v7, v8, v9]
  have hi2 : (i == (n5 : Int)) = false := by rw [beq_eq_false_iff_ne]; exact hi
  have hsome : stepOO ⟨C, ⟨p, cc, a⟩, os, i, false⟩ b = some (stepOB ⟨C, ⟨p, cc, a⟩, os, i, false⟩ b) := by
    unfold stepOO; rw [eb]; dsimp only; rw [l5.out, decide_eq_false hi]; rfl
  rw [hsome]
  have L := fun W v h => l7Op_any W lo v ⟨C, ⟨p, cc, a⟩, os, i, false⟩ h eb rfl (by dsimp only; rw [l5.out]; exact hi) b
  generalize stepOB ⟨C, ⟨p, cc, a⟩, os, i, false⟩ b = R at L ⊢
  obtain ⟨rC, ⟨rp, rcc, ra⟩, ros, ri, rz⟩ := R
  clear hsome hi eb HC HO
  go_enter Try.func30, Try.ntmps30
  go_wp2_with fail
  (try rw [hW])
  refine V.mono ?_; rintro e w1 ⟨rfl, hb1⟩
  have s1 := hb1.size
  have HB1 := HB.below hb1
  have Y1 := Y.below hb1
  have B1 := BB.trans (hb1.mono BB.size)
  obtain ⟨⟨y0, y1, y2, y3, y4, y5, y6, y7, y8, y9⟩, -⟩ := (X.below hb1).cells
  clear x0 x1 x2 x3 x4 x5 x6 x7 x8 x9 V X HB Y
  go_wp2_with fail
  refine (L _ _ HB1).mono ?_; rintro e w2 ⟨v2, rfl, HR, hb2⟩
  obtain ⟨D0, e0, d0, D1, e1, d1, D2, e2, d2, D3, e3, d3, D4, e4, d4, D5, e5, d5, rfl⟩ := HR.shape
  have s2 := hb2.size
  obtain ⟨⟨q0, q1, q2, q3, q4, q5, q6, q7, q8, q9⟩, ⟨k0, k1, k2, k3, k4, k5, k6, k7, k8, k9⟩⟩ := (Y1.below hb2).cells
  have YF := (Y1.below hb2).set10 (.slice D0 e0 d0) (.slice D1 e1 d1) (.slice D2 e2 d2) (.slice D3 e3 d3) (.int .i64 rp) (.slice D4 e4 d4) (.int .i64 ra) (.slice D5 e5 d5) (.int .i64 ri) (.bool rz)
  obtain ⟨HF, FF⟩ := both_done (w := w) (b := w.heap.size + 1) HR (by omega) (by omega) (B1.trans (hb2.mono B1.size)) (.slice D0 e0 d0) (.slice D1 e1 d1) (.slice D2 e2 d2) (.slice D3 e3 d3) (.int .i64 rp) (.slice D4 e4 d4) (.int .i64 ra) (.slice D5 e5 d5) (.int .i64 ri) (.bool rz)
  clear y0 y1 y2 y3 y4 y5 y6 y7 y8 y9 L
  go_wp2_with fail
  generalize ((((((((((w2.setCell ⟨w.heap.size + 1, 0, none⟩ (.slice D0 e0 d0)).setCell ⟨w.heap.size + 1, 1, none⟩ (.slice D1 e1 d1)).setCell ⟨w.heap.size + 1, 2, none⟩ (.slice D2 e2 d2)).setCell ⟨w.heap.size + 1, 3, none⟩ (.slice D3 e3 d3)).setCell ⟨w.heap.size + 1, 4, none⟩ (.int .i64 rp)).setCell ⟨w.heap.size + 1, 5, none⟩ (.slice D4 e4 d4)).setCell ⟨w.heap.size + 1, 6, none⟩ (.int .i64 ra)).setCell ⟨w.heap.size + 1, 7, none⟩ (.slice D5 e5 d5)).setCell ⟨w.heap.size + 1, 8, none⟩ (.int .i64 ri)).setCell ⟨w.heap.size + 1, 9, none⟩ (.bool rz)) = WF at YF HF FF ⊢
  obtain ⟨⟨v0, v1, v2, v3, v4, v5, v6, v7, v8, v9⟩, -⟩ := YF.cells
  refine bodyPost_ret (v := .tuple #[.agg #[.slice D0 e0 d0, .slice D1 e1 d1, .slice D2 e2 d2, .slice D3 e3 d3, .int .i64 rp, .slice D4 e4 d4, .int .i64 ra, .slice D5 e5 d5, .int .i64 ri, .bool rz], .bool true]) ?_ rfl ⟨_, rfl, HF, FF⟩
  simp [results, Try.results30, go_sem, v0, v1, v2, v3, v4, v5, v6, v7, v8, v9]

end Go.Proofs.Ytdifplakkepnkaa

/- StepOp of both. -/
namespace Go.Proofs.Ytdifplakkepnkaa
open Go.RowKit


end Go.Proofs.Ytdifplakkepnkaa

