/- DropRoot of spec. -/
import Derived.Test.YteogflkahoanlaaCpyD
import Derived.Test.YteogflkahoanlaaDown
namespace Go.Proofs.Yteogflkahoanlaa
open Go.RowKit

set_option maxRecDepth 100000 in
set_option maxHeartbeats 4000000 in
theorem specDropRoot_any (w : World) (lo : Nat) (v : Value) (D : Dp) (hv : Dv w lo v D) (k : Int) : Calls Try.prog 17 #[v, .int .i64 k] w (OptDv w (dropO D k)) := by
  have hvo := hv
  obtain ⟨A0, n0, c0, A1, n1, c1, A2, n2, c2, A3, n3, c3, A4, n4, c4, rfl, -, -, -, ⟨l0, l1, l2, l3, l4⟩, -⟩ := hvo.open_
  have X := (Blk5.new w (.slice A0 n0 c0) (.slice A1 n1 c1) (.slice A2 n2 c2) (.slice A3 n3 c3) (.slice A4 n4 c4) 29).alloc (.cells #[.slice none 0 0, .slice none 0 0, .slice none 0 0, .slice none 0 0, .slice none 0 0] 29)
  have Y := Blk5.new_at (w := w.alloc (.cells #[.slice A0 n0 c0, .slice A1 n1 c1, .slice A2 n2 c2, .slice A3 n3 c3, .slice A4 n4 c4] 29)) (b := w.heap.size + 1) (by simp) (.slice none 0 0) (.slice none 0 0) (.slice none 0 0) (.slice none 0 0) (.slice none 0 0) 29
  have DD := (hv.alloc (.cells #[.slice A0 n0 c0, .slice A1 n1 c1, .slice A2 n2 c2, .slice A3 n3 c3, .slice A4 n4 c4] 29)).alloc (.cells #[.slice none 0 0, .slice none 0 0, .slice none 0 0, .slice none 0 0, .slice none 0 0] 29)
  have BB : Below w.heap.size w ((w.alloc (.cells #[.slice A0 n0 c0, .slice A1 n1 c1, .slice A2 n2 c2, .slice A3 n3 c3, .slice A4 n4 c4] 29)).alloc (.cells #[.slice none 0 0, .slice none 0 0, .slice none 0 0, .slice none 0 0, .slice none 0 0] 29)) := ((Below.refl _ _).alloc (Nat.le_refl _) _).alloc (by simp) _
  have sz : w.heap.size + 2 ≤ ((w.alloc (.cells #[.slice A0 n0 c0, .slice A1 n1 c1, .slice A2 n2 c2, .slice A3 n3 c3, .slice A4 n4 c4] 29)).alloc (.cells #[.slice none 0 0, .slice none 0 0, .slice none 0 0, .slice none 0 0, .slice none 0 0] 29)).heap.size := by simp
  clear hv hvo
  generalize hW : ((w.alloc (.cells #[.slice A0 n0 c0, .slice A1 n1 c1, .slice A2 n2 c2, .slice A3 n3 c3, .slice A4 n4 c4] 29)).alloc (.cells #[.slice none 0 0, .slice none 0 0, .slice none 0 0, .slice none 0 0, .slice none 0 0] 29)) = W at X Y DD BB sz
  obtain ⟨x0, x1, x2, x3, x4, -⟩ := X.cells
  have V := l9Root_any W lo _ D DD k
  rcases ev : (dpB D && plB k D.C.h.t.length)
  · have hf : Hid (dropO D k = none) := by unfold Hid dropO; rw [ev]; rfl
    rw [ev] at V
    clear ev
    go_enter Try.func17, Try.ntmps17
    go_wp2_with fail
    (try rw [hW])
    refine V.mono ?_; rintro e w1 ⟨rfl, hb1⟩
    obtain ⟨y0, y1, y2, y3, y4, f0, f1, f2, f3, f4⟩ := (Y.below hb1).cells
    obtain ⟨hZ, hB⟩ := dv_zero (w := w) (b := w.heap.size + 1) (by omega) (BB.trans (hb1.mono BB.size))
    go_wp2_with fail
    rw [hf.out]
    refine bodyPost_ret (v := .tuple #[.agg #[.slice none 0 0, .slice none 0 0, .slice none 0 0, .slice none 0 0, .slice none 0 0], .bool false]) ?_ rfl ⟨_, rfl, hZ, hB⟩
    simp [results, Try.results17, go_sem, y0, y1, y2, y3, y4]
  · rw [Bool.and_eq_true] at ev
    obtain ⟨evd, evp⟩ := ev
    have hk : 0 ≤ k ∧ k < D.C.h.t.length := by simpa [plB] using evp
    obtain ⟨j, rfl⟩ := Int.eq_ofNat_of_zero_le hk.1
    have hj : j < D.C.h.t.length := by omega
    obtain ⟨old, hold⟩ : ∃ old, D.C.h.t[j]? = some old := ⟨_, List.getElem?_eq_getElem hj⟩
    have hf := Lib.hid (dropO_some evd hold)
    have hI := Lib.hid (drop_inv evd hold)
    rw [evd, evp] at V
    have vT : (true && true) = true := rfl
    rw [vT] at V
    have hj2 : (j : Int) < (n2 : Int) := by rw [← l2.out]; omega
    obtain ⟨-, -, r2, -, -⟩ := DD.rows
    obtain ⟨g2, u, rfl, hg1, hg2, hu, hcu, -⟩ := r2.get (k := j) hj
    obtain rfl : u = old := by have h9 := hu.out; rw [hold] at h9; cases h9; rfl
    clear evp hk vT hu
    have hold' := Lib.hid hold
    clear hold
    go_enter Try.func17, Try.ntmps17
    go_wp2_with fail
    (try rw [hW])
    refine V.mono ?_; rintro e w1 ⟨rfl, hb1⟩
    have X1 := X.below hb1
    have Y1 := Y.below hb1
    have D1 := DD.below hb1
    have B1 := BB.trans (hb1.mono BB.size)
    have z1 := hb1.size
    have hcu1 := cell_bl hb1 hg2 hcu
    clear hcu
    have CP := l9Copy_any w1 lo _ D D1 evd
    clear x0 x1 x2 x3 x4 X Y DD V
    obtain ⟨x0, x1, x2, x3, x4, -⟩ := X1.cells
    go_wp2_with fail
    refine CP.mono ?_; rintro e w2 ⟨vv, rfl, HD, hb2⟩
    have HDo := HD
    obtain ⟨Q0, q0, k0, Q1, q1, k1, Q2, q2, k2, Q3, q3, k3, Q4, q4, k4, rfl, -⟩ := HDo.open_
    obtain ⟨M, hb3⟩ := mat_out HD
    have X3 := (X1.below hb2).below hb3
    have Y3 := (Y1.below hb2).below hb3
    have D3 := (D1.below hb2).below hb3
    have B3 := (B1.trans (hb2.mono B1.size)).trans (hb3.mono (by have := B1.size; have := hb2.size; omega))
    have z2 := hb2.size
    have z3 : w2.heap.size + 1 ≤ (w2.alloc (.cells #[.slice Q0 q0 k0, .slice Q1 q1 k1, .slice Q2 q2 k2, .slice Q3 q3 k3, .slice Q4 q4 k4] 29)).heap.size := M.blk.lt
    clear x0 x1 x2 x3 x4 X1 Y1 D1 CP HDo HD
    obtain ⟨x0, x1, x2, x3, x4, -⟩ := X3.cells
    have hcu3 := cell_bl hb3 (by omega) (cell_bl hb2 (by omega) hcu1)
    obtain ⟨gt, u', hQ2, hg3, hg4, hu', hcu', hfu'⟩ := M.r2.get (k := j) hj
    have hq2 : (j : Int) < (q2 : Int) := by have : D.C.h.t.length = q2 := (RowC.ofRow M.r2).form.1; omega
    subst hQ2
    obtain ⟨b0, b1, b2, b3, b4, -⟩ := M.blk.cells
    clear hcu1
    have M9 := M.setT rfl j (-1)
    have n9 : gt ≠ w2.heap.size := fun e => M.o2 (by rw [← e]; rfl)
    have n9' : w2.heap.size ≠ gt := fun e => n9 e.symm
    obtain ⟨d0, d1, d2, d3, d4, -⟩ := M9.blk.cells
    have s9 := M9.own
    have X9 := X3.other (p := ⟨gt, j, none⟩) (by show w.heap.size ≠ gt; omega) (.int .i64 (-1))
    have Y9 := Y3.other (p := ⟨gt, j, none⟩) (by show w.heap.size + 1 ≠ gt; omega) (.int .i64 (-1))
    have B9 := B3.setCell (p := ⟨gt, j, none⟩) (by show w.heap.size ≤ gt; omega) (.int .i64 (-1))
    have z9 : w2.heap.size + 1 ≤ ((w2.alloc (.cells #[.slice Q0 q0 k0, .slice Q1 q1 k1, .slice (some ⟨gt, 0, none⟩) q2 k2, .slice Q3 q3 k3, .slice Q4 q4 k4] 29)).setCell ⟨gt, j, none⟩ (.int .i64 (-1))).heap.size := M9.blk.lt
    have z9e : ((w2.alloc (.cells #[.slice Q0 q0 k0, .slice Q1 q1 k1, .slice (some ⟨gt, 0, none⟩) q2 k2, .slice Q3 q3 k3, .slice Q4 q4 k4] 29)).setCell ⟨gt, j, none⟩ (.int .i64 (-1))).heap.size = w2.heap.size + 1 := by simp [World.setCell]
    go_wp2_with fail
    clear M X3 Y3 D3 B3 z3 x0 x1 x2 x3 x4 hcu3 hcu' hfu' b0 b1 b2 b3 b4
    generalize (w2.alloc (.cells #[.slice Q0 q0 k0, .slice Q1 q1 k1, .slice (some ⟨gt, 0, none⟩) q2 k2, .slice Q3 q3 k3, .slice Q4 q4 k4] 29)).setCell ⟨gt, j, none⟩ (.int .i64 (-1)) = W9 at M9 d0 d1 d2 d3 d4 s9 X9 Y9 B9 z9 z9e ⊢
    have DN := l9Down_any (W9.alloc (.cells #[.int .i64 u] 3)) w1.heap.size W9.heap.size W9.heap.size 1 Q0 Q1 (some ⟨gt, 0, none⟩) Q3 Q4 q0 k0 q1 k1 q2 k2 q3 k3 q4 k4 _ (M9.dv.alloc (.cells #[.int .i64 u] 3)) u (lit1_ W9 u) ⟨fun e => by have := (M9.r0.lt _ e).2; omega, fun e => by have := (M9.r1.lt _ e).2; omega, fun e => by have := (M9.r2.lt _ e).2; omega, fun e => by have := (M9.r3.lt _ e).2; omega, fun e => by have := (M9.r4.lt _ e).2; omega⟩ hI
    have low : ∀ q, OwnV (.slice Q0 q0 k0) (.slice Q1 q1 k1) (.slice (some ⟨gt, 0, none⟩) q2 k2) (.slice Q3 q3 k3) (.slice Q4 q4 k4) (.slice (some ⟨W9.heap.size, 0, none⟩) 1 1) q → w1.heap.size ≤ q := fun q e => by
      rcases e with e | e | e | e | e | e
      · exact (M9.r0.lt _ e).1
      · exact (M9.r1.lt _ e).1
      · exact (M9.r2.lt _ e).1
      · exact (M9.r3.lt _ e).1
      · exact (M9.r4.lt _ e).1
      · have e' : W9.heap.size = q := by simpa [Value.ownBlock] using e
        omega
    have YA := Y9.alloc (.cells #[.int .i64 u] 3)
    have BA := B9.alloc (by have := B9.size; omega) (.cells #[.int .i64 u] 3)
    have sA : W9.heap.size + 1 ≤ (W9.alloc (.cells #[.int .i64 u] 3)).heap.size := by simp
    clear M9 d0 d1 d2 d3 d4 X9 Y9 B9 s9
    rw [z9e] at DN low
    refine DN.mono ?_; rintro e w5 ⟨A', n', c', rfl, DF, F9⟩
    have hb9 : Below w1.heap.size (W9.alloc (.cells #[.int .i64 u] 3)) w5 := F9.below low (by omega)
    obtain ⟨y0, y1, y2, y3, y4, f0, f1, f2, f3, f4⟩ := (YA.far hb9 (by omega)).cells
    obtain ⟨hZ, hB⟩ := dv_done (w := w) (b := w.heap.size + 1) DF (by omega) (by omega) (BA.trans (hb9.mono (by omega))) (.slice Q0 q0 k0) (.slice Q1 q1 k1) (.slice (some ⟨gt, 0, none⟩) q2 k2) (.slice A' n' c') (.slice Q4 q4 k4)
    clear YA BA DF F9 DN
    go_wp2_with fail
    rw [hf.out]
    refine bodyPost_ret (v := .tuple #[.agg #[.slice Q0 q0 k0, .slice Q1 q1 k1, .slice (some ⟨gt, 0, none⟩) q2 k2, .slice A' n' c', .slice Q4 q4 k4], .bool true]) ?_ rfl ⟨_, rfl, hZ, hB⟩
    simp [results, Try.results17, go_sem, y0, y1, y2, y3, y4]

end Go.Proofs.Yteogflkahoanlaa
