/- The exact law of NewStore, walked. -/
import Derived.Test.YtpipagcpgjoigaaExactE
import Derived.Test.YtpipagcpgjoigaaSNewS
import Derived.Test.YtpipagcpgjoigaaINewS
namespace Go.Proofs.Ytpipagcpgjoigaa
open Go.RowKit

set_option maxRecDepth 100000 in
set_option maxHeartbeats 4000000 in
theorem lawExactNewStore_walk (w : World) (x y : Int) : Calls Try.prog 3 #[.int .i64 x, .int .i64 y] w (LawTrue w) := by
  have sh := newSO_short x y
  have S := fun W => optC_of (specNewStore_any W x y)
  have I := fun W => optC_of (implNewStore_any W x y)
  generalize (newSO x y).isSome = ok at S I
  generalize (newSO x y).getD Cp.zero = hr at S I sh
  obtain ⟨N2, n3, n4, MG, QG⟩ := markC1 hr sh.1 sh.2.1 sh.2.2.1 sh.2.2.2
  have hne : (ok != ok) = false := by simp
  clear sh
  go_enter Try.func3, Try.ntmps3
  go_wp2_with fail
  refine (S _).mono ?_; rintro e w1 ⟨v, rfl, H3, hb1⟩
  have BW1 : Below w.heap.size w w1 := (Below.refl w.heap.size w).trans (hb1.mono (Below.refl w.heap.size w).size)
  have zz1 : w.heap.size ≤ w1.heap.size := hb1.size
  have H3o := H3
  obtain ⟨rA0, rn0, rk0, rA1, rn1, rk1, rA2, rn2, rk2, rA3, rn3, rk3, rfl, _⟩ := Cv.open_ H3
  go_wp2_with fail
  refine (I _).mono ?_; rintro e w2 ⟨v, rfl, H5, hb2⟩
  have BW2 : Below w.heap.size w w2 := (BW1.alloc BW1.size (.cells #[.slice rA0 rn0 rk0, .slice rA1 rn1 rk1, .slice rA2 rn2 rk2, .slice rA3 rn3 rk3] 26)).trans (hb2.mono (BW1.alloc BW1.size (.cells #[.slice rA0 rn0 rk0, .slice rA1 rn1 rk1, .slice rA2 rn2 rk2, .slice rA3 rn3 rk3] 26)).size)
  have zz2 : w1.heap.size + 1 ≤ w2.heap.size := by have := hb2.size; simp at this; omega
  have H3_2 := Cv.below (by exact (H3.alloc (.cells #[.slice rA0 rn0 rk0, .slice rA1 rn1 rk1, .slice rA2 rn2 rk2, .slice rA3 rn3 rk3] 26))) hb2
  have R_2 := Blk4.below (by exact (Blk4.new w1 (.slice rA0 rn0 rk0) (.slice rA1 rn1 rk1) (.slice rA2 rn2 rk2) (.slice rA3 rn3 rk3) 26)) hb2
  obtain ⟨cR_2_0, cR_2_1, cR_2_2, cR_2_3, _⟩ := R_2.cells
  have lR_2 := R_2.lt
  replace H5 := Cv.mono H5 (lo' := w1.heap.size + 1) (by simp)
  have H5o := H5
  obtain ⟨gA0, gn0, gk0, gA1, gn1, gk1, gA2, gn2, gk2, gA3, gn3, gk3, rfl, _⟩ := Cv.open_ H5
  go_wp2_with fail
  refine (eqColored_same _ _ _ _ _ _ (H5.alloc (.cells #[.slice gA0 gn0 gk0, .slice gA1 gn1 gk1, .slice gA2 gn2 gk2, .slice gA3 gn3 gk3] 26)) (H3_2.alloc (.cells #[.slice gA0 gn0 gk0, .slice gA1 gn1 gk1, .slice gA2 gn2 gk2, .slice gA3 gn3 gk3] 26))).mono ?_; rintro e w3 ⟨rfl, hb3⟩
  have BW3 : Below w.heap.size w w3 := (BW2.alloc BW2.size (.cells #[.slice gA0 gn0 gk0, .slice gA1 gn1 gk1, .slice gA2 gn2 gk2, .slice gA3 gn3 gk3] 26)).trans (hb3.mono (BW2.alloc BW2.size (.cells #[.slice gA0 gn0 gk0, .slice gA1 gn1 gk1, .slice gA2 gn2 gk2, .slice gA3 gn3 gk3] 26)).size)
  have zz3 : w2.heap.size + 1 ≤ w3.heap.size := by have := hb3.size; simp at this; omega
  have H3_3 := Cv.below (by exact (H3_2.alloc (.cells #[.slice gA0 gn0 gk0, .slice gA1 gn1 gk1, .slice gA2 gn2 gk2, .slice gA3 gn3 gk3] 26))) hb3
  have R_3 := Blk4.below (by exact (R_2.alloc (.cells #[.slice gA0 gn0 gk0, .slice gA1 gn1 gk1, .slice gA2 gn2 gk2, .slice gA3 gn3 gk3] 26))) hb3
  obtain ⟨cR_3_0, cR_3_1, cR_3_2, cR_3_3, _⟩ := R_3.cells
  have lR_3 := R_3.lt
  have H5_3 := Cv.below (by exact (H5.alloc (.cells #[.slice gA0 gn0 gk0, .slice gA1 gn1 gk1, .slice gA2 gn2 gk2, .slice gA3 gn3 gk3] 26))) hb3
  have G_3 := Blk4.below (by exact (Blk4.new w2 (.slice gA0 gn0 gk0) (.slice gA1 gn1 gk1) (.slice gA2 gn2 gk2) (.slice gA3 gn3 gk3) 26)) hb3
  obtain ⟨cG_3_0, cG_3_1, cG_3_2, cG_3_3, _⟩ := G_3.cells
  have lG_3 := G_3.lt
  go_wp2_with fail
  refine (MG _ _ _ H5_3 (by omega)).mono ?_; rintro e w4 ⟨rfl, HM5, hb4, fr4⟩
  have BW4 : Below w.heap.size w w4 := BW3.trans (hb4.mono (by omega))
  have zz4 : w3.heap.size ≤ w4.heap.size := hb4.size
  have H3_4 := Cv.keptFar H3_3 hb4 H3o (by omega)
  have R_4 := Blk4.frame R_3 fr4 (notC_old H5o (by omega))
  obtain ⟨cR_4_0, cR_4_1, cR_4_2, cR_4_3, _⟩ := R_4.cells
  have lR_4 := R_4.lt
  have G_4 := Blk4.frame G_3 fr4 (notC_new H5o (by omega))
  obtain ⟨cG_4_0, cG_4_1, cG_4_2, cG_4_3, _⟩ := G_4.cells
  have lG_4 := G_4.lt
  go_wp2_with fail
  refine (QG _ _ _ HM5).mono ?_; rintro e w5 ⟨rfl, hb5⟩
  have BW5 : Below w.heap.size w w5 := BW4.trans (hb5.mono BW4.size)
  have zz5 : w4.heap.size ≤ w5.heap.size := hb5.size
  have H3_5 := Cv.below (by exact H3_4) hb5
  have R_5 := Blk4.below (by exact R_4) hb5
  obtain ⟨cR_5_0, cR_5_1, cR_5_2, cR_5_3, _⟩ := R_5.cells
  have lR_5 := R_5.lt
  have H5_5 := Cv.below (by exact HM5) hb5
  have G_5 := Blk4.below (by exact G_4) hb5
  obtain ⟨cG_5_0, cG_5_1, cG_5_2, cG_5_3, _⟩ := G_5.cells
  have lG_5 := G_5.lt
  go_wp2_with fail
  refine (I _).mono ?_; rintro e w6 ⟨v, rfl, H14, hb6⟩
  have BW6 : Below w.heap.size w w6 := BW5.trans (hb6.mono BW5.size)
  have zz6 : w5.heap.size ≤ w6.heap.size := hb6.size
  have H3_6 := Cv.below (by exact H3_5) hb6
  have R_6 := Blk4.below (by exact R_5) hb6
  obtain ⟨cR_6_0, cR_6_1, cR_6_2, cR_6_3, _⟩ := R_6.cells
  have lR_6 := R_6.lt
  have H5_6 := Cv.below (by exact H5_5) hb6
  have G_6 := Blk4.below (by exact G_5) hb6
  obtain ⟨cG_6_0, cG_6_1, cG_6_2, cG_6_3, _⟩ := G_6.cells
  have lG_6 := G_6.lt
  have H14o := H14
  obtain ⟨kA0, kn0, kk0, kA1, kn1, kk1, kA2, kn2, kk2, kA3, kn3, kk3, rfl, _⟩ := Cv.open_ H14
  go_wp2_with fail
  refine (eqColored_same _ _ _ _ _ _ (H14.alloc (.cells #[.slice kA0 kn0 kk0, .slice kA1 kn1 kk1, .slice kA2 kn2 kk2, .slice kA3 kn3 kk3] 26)) (H3_6.alloc (.cells #[.slice kA0 kn0 kk0, .slice kA1 kn1 kk1, .slice kA2 kn2 kk2, .slice kA3 kn3 kk3] 26))).mono ?_; rintro e w7 ⟨rfl, hb7⟩
  have BW7 : Below w.heap.size w w7 := (BW6.alloc BW6.size (.cells #[.slice kA0 kn0 kk0, .slice kA1 kn1 kk1, .slice kA2 kn2 kk2, .slice kA3 kn3 kk3] 26)).trans (hb7.mono (BW6.alloc BW6.size (.cells #[.slice kA0 kn0 kk0, .slice kA1 kn1 kk1, .slice kA2 kn2 kk2, .slice kA3 kn3 kk3] 26)).size)
  have zz7 : w6.heap.size + 1 ≤ w7.heap.size := by have := hb7.size; simp at this; omega
  have H3_7 := Cv.below (by exact (H3_6.alloc (.cells #[.slice kA0 kn0 kk0, .slice kA1 kn1 kk1, .slice kA2 kn2 kk2, .slice kA3 kn3 kk3] 26))) hb7
  have R_7 := Blk4.below (by exact (R_6.alloc (.cells #[.slice kA0 kn0 kk0, .slice kA1 kn1 kk1, .slice kA2 kn2 kk2, .slice kA3 kn3 kk3] 26))) hb7
  obtain ⟨cR_7_0, cR_7_1, cR_7_2, cR_7_3, _⟩ := R_7.cells
  have lR_7 := R_7.lt
  have H5_7 := Cv.below (by exact (H5_6.alloc (.cells #[.slice kA0 kn0 kk0, .slice kA1 kn1 kk1, .slice kA2 kn2 kk2, .slice kA3 kn3 kk3] 26))) hb7
  have G_7 := Blk4.below (by exact (G_6.alloc (.cells #[.slice kA0 kn0 kk0, .slice kA1 kn1 kk1, .slice kA2 kn2 kk2, .slice kA3 kn3 kk3] 26))) hb7
  obtain ⟨cG_7_0, cG_7_1, cG_7_2, cG_7_3, _⟩ := G_7.cells
  have lG_7 := G_7.lt
  have H14_7 := Cv.below (by exact (H14.alloc (.cells #[.slice kA0 kn0 kk0, .slice kA1 kn1 kk1, .slice kA2 kn2 kk2, .slice kA3 kn3 kk3] 26))) hb7
  have K_7 := Blk4.below (by exact (Blk4.new w6 (.slice kA0 kn0 kk0) (.slice kA1 kn1 kk1) (.slice kA2 kn2 kk2) (.slice kA3 kn3 kk3) 26)) hb7
  obtain ⟨cK_7_0, cK_7_1, cK_7_2, cK_7_3, _⟩ := K_7.cells
  have lK_7 := K_7.lt
  go_wp2_with fail
  refine (QG _ _ _ H5_7).mono ?_; rintro e w8 ⟨rfl, hb8⟩
  have BW8 : Below w.heap.size w w8 := BW7.trans (hb8.mono BW7.size)
  have zz8 : w7.heap.size ≤ w8.heap.size := hb8.size
  have H3_8 := Cv.below (by exact H3_7) hb8
  have R_8 := Blk4.below (by exact R_7) hb8
  obtain ⟨cR_8_0, cR_8_1, cR_8_2, cR_8_3, _⟩ := R_8.cells
  have lR_8 := R_8.lt
  have H5_8 := Cv.below (by exact H5_7) hb8
  have G_8 := Blk4.below (by exact G_7) hb8
  obtain ⟨cG_8_0, cG_8_1, cG_8_2, cG_8_3, _⟩ := G_8.cells
  have lG_8 := G_8.lt
  have H14_8 := Cv.below (by exact H14_7) hb8
  have K_8 := Blk4.below (by exact K_7) hb8
  obtain ⟨cK_8_0, cK_8_1, cK_8_2, cK_8_3, _⟩ := K_8.cells
  have lK_8 := K_8.lt
  go_wp2_with fail
  go_ret
  exact ⟨rfl, BW8⟩
end Go.Proofs.Ytpipagcpgjoigaa
