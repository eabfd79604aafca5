/- The exact law of AllocCell, walked. -/
import Derived.Test.YtpipagcpgjoigaaExactE
import Derived.Test.YtpipagcpgjoigaaStoA
import Derived.Test.YtpipagcpgjoigaaIAlloc
namespace Go.Proofs.Ytpipagcpgjoigaa
open Go.RowKit

set_option maxRecDepth 100000 in
set_option maxHeartbeats 4000000 in
theorem lawExactAllocCell_walk (w : World) (v : Value) (C : Cp) (hv : CIn w v C) (x : Int) : Calls Try.prog 6 #[v, .int .i64 x] w (LawTrue w) := by
  obtain ⟨ha, m0, m1, m2, m3⟩ := hv
  have ha2 := ha
  obtain ⟨A0, c0, A1, c1, A2, c2, A3, c3, rfl, _, _, _, _⟩ := ha2
  have SZ := szColored_any (w.alloc (.cells #[.slice A0 C.h.l.length c0, .slice A1 C.h.r.length c1, .slice A2 C.h.t.length c2, .slice A3 C.c.length c3] 34)) A0 A1 A2 A3 C.h.l.length c0 C.h.r.length c1 C.h.t.length c2 C.c.length c3 1048576 (by omega) (by omega) m0 m1 m2 m3
  by_cases hsz : ((C.h.l.length + C.h.r.length + C.h.t.length + C.c.length : Nat) : Int) ≤ 1048576
  · have hszv : szV (C.h.l.length + C.h.r.length + C.h.t.length + C.c.length) 1048576 = 1048576 - ((C.h.l.length + C.h.r.length + C.h.t.length + C.c.length : Nat) : Int) := by unfold szV; rw [if_pos hsz]
    rw [hszv] at SZ
    have b0 : C.h.l.length ≤ 1048576 := by omega
    have b1 : C.h.r.length ≤ 1048576 := by omega
    have b2 : C.h.t.length ≤ 1048576 := by omega
    have b3 : C.c.length ≤ 1048576 := by omega
    have s0 : ¬ (1048576 - ((C.h.l.length + C.h.r.length + C.h.t.length + C.c.length : Nat) : Int) < 0) := by omega
    generalize 1048576 - ((C.h.l.length + C.h.r.length + C.h.t.length + C.c.length : Nat) : Int) = sz at SZ s0
    clear hszv hsz m0 m1 m2 m3
    have T := fun W (hW : CArg W w.heap.size (.agg #[.slice A0 C.h.l.length c0, .slice A1 C.h.r.length c1, .slice A2 C.h.t.length c2, .slice A3 C.c.length c3]) C) (hB : w.heap.size ≤ W.heap.size) => toColored_any W w.heap.size hB _ C hW b0 b1 b2 b3
    obtain ⟨N1, n1, n2, MX, _⟩ := markC1 C b0 b1 b2 b3
    have sh := allocC_short C x
    have S := fun W lo v hW => specAllocCell_any W lo v C hW x
    have I := fun W lo v hW => implAllocCell_any W lo v C hW x
    generalize allocB C x = ok1 at S I
    generalize allocX C x = ok2 at S I
    generalize allocC C x = hr at S I sh
    obtain ⟨N2, n3, n4, MG, QG⟩ := markC1 hr sh.1 sh.2.1 sh.2.2.1 sh.2.2.2
    have hne0 : (ok1 != ok1) = false := by simp
    have hne1 : (ok2 != ok2) = false := by simp
    clear sh
    go_enter Try.func6, Try.ntmps6
    go_wp2_with fail
    refine SZ.mono ?_; rintro e w1 ⟨rfl, hb1⟩
    have BW1 : Below w.heap.size w w1 := ((Below.refl w.heap.size w).alloc (Below.refl w.heap.size w).size (.cells #[.slice A0 C.h.l.length c0, .slice A1 C.h.r.length c1, .slice A2 C.h.t.length c2, .slice A3 C.c.length c3] 34)).trans (hb1.mono ((Below.refl w.heap.size w).alloc (Below.refl w.heap.size w).size (.cells #[.slice A0 C.h.l.length c0, .slice A1 C.h.r.length c1, .slice A2 C.h.t.length c2, .slice A3 C.c.length c3] 34)).size)
    have zz1 : w.heap.size + 1 ≤ w1.heap.size := by have := hb1.size; simp at this; omega
    have AC_1 := CArg.below (by exact (ha.alloc (Below.refl w.heap.size w).size (.cells #[.slice A0 C.h.l.length c0, .slice A1 C.h.r.length c1, .slice A2 C.h.t.length c2, .slice A3 C.c.length c3] 34))) (hb1.mono ((Below.refl w.heap.size w).alloc (Below.refl w.heap.size w).size (.cells #[.slice A0 C.h.l.length c0, .slice A1 C.h.r.length c1, .slice A2 C.h.t.length c2, .slice A3 C.c.length c3] 34)).size)
    have P_1 := Blk4.below (by exact (Blk4.new w (.slice A0 C.h.l.length c0) (.slice A1 C.h.r.length c1) (.slice A2 C.h.t.length c2) (.slice A3 C.c.length c3) 34)) hb1
    obtain ⟨cP_1_0, cP_1_1, cP_1_2, cP_1_3, _⟩ := P_1.cells
    have lP_1 := P_1.lt
    go_wp2_with fail
    refine (T _ AC_1 BW1.size).mono ?_; rintro e w2 ⟨v, rfl, H2, hb2⟩
    have BW2 : Below w.heap.size w w2 := BW1.trans (hb2.mono BW1.size)
    have zz2 : w1.heap.size ≤ w2.heap.size := hb2.size
    have AC_2 := CArg.below (by exact AC_1) (hb2.mono BW1.size)
    have P_2 := Blk4.below (by exact P_1) hb2
    obtain ⟨cP_2_0, cP_2_1, cP_2_2, cP_2_3, _⟩ := P_2.cells
    have lP_2 := P_2.lt
    have H2o := H2
    go_wp2_with fail
    refine (S _ _ _ H2).mono ?_; rintro e w3 ⟨v, rfl, H3, hb3⟩
    have BW3 : Below w.heap.size w w3 := BW2.trans (hb3.mono BW2.size)
    have zz3 : w2.heap.size ≤ w3.heap.size := hb3.size
    have AC_3 := CArg.below (by exact AC_2) (hb3.mono BW2.size)
    have P_3 := Blk4.below (by exact P_2) hb3
    obtain ⟨cP_3_0, cP_3_1, cP_3_2, cP_3_3, _⟩ := P_3.cells
    have lP_3 := P_3.lt
    have H2_3 := Cv.below (by exact H2) hb3
    have H3o := H3
    obtain ⟨rA0, rn0, rk0, rA1, rn1, rk1, rA2, rn2, rk2, rA3, rn3, rk3, rfl, _⟩ := Cv.open_ H3
    go_wp2_with fail
    refine (T _ (AC_3.alloc BW3.size (.cells #[.slice rA0 rn0 rk0, .slice rA1 rn1 rk1, .slice rA2 rn2 rk2, .slice rA3 rn3 rk3] 26)) (BW3.alloc BW3.size (.cells #[.slice rA0 rn0 rk0, .slice rA1 rn1 rk1, .slice rA2 rn2 rk2, .slice rA3 rn3 rk3] 26)).size).mono ?_; rintro e w4 ⟨v, rfl, H4, hb4⟩
    have BW4 : Below w.heap.size w w4 := (BW3.alloc BW3.size (.cells #[.slice rA0 rn0 rk0, .slice rA1 rn1 rk1, .slice rA2 rn2 rk2, .slice rA3 rn3 rk3] 26)).trans (hb4.mono (BW3.alloc BW3.size (.cells #[.slice rA0 rn0 rk0, .slice rA1 rn1 rk1, .slice rA2 rn2 rk2, .slice rA3 rn3 rk3] 26)).size)
    have zz4 : w3.heap.size + 1 ≤ w4.heap.size := by have := hb4.size; simp at this; omega
    have AC_4 := CArg.below (by exact (AC_3.alloc BW3.size (.cells #[.slice rA0 rn0 rk0, .slice rA1 rn1 rk1, .slice rA2 rn2 rk2, .slice rA3 rn3 rk3] 26))) (hb4.mono (BW3.alloc BW3.size (.cells #[.slice rA0 rn0 rk0, .slice rA1 rn1 rk1, .slice rA2 rn2 rk2, .slice rA3 rn3 rk3] 26)).size)
    have P_4 := Blk4.below (by exact (P_3.alloc (.cells #[.slice rA0 rn0 rk0, .slice rA1 rn1 rk1, .slice rA2 rn2 rk2, .slice rA3 rn3 rk3] 26))) hb4
    obtain ⟨cP_4_0, cP_4_1, cP_4_2, cP_4_3, _⟩ := P_4.cells
    have lP_4 := P_4.lt
    have H3_4 := Cv.below (by exact (H3.alloc (.cells #[.slice rA0 rn0 rk0, .slice rA1 rn1 rk1, .slice rA2 rn2 rk2, .slice rA3 rn3 rk3] 26))) hb4
    have R_4 := Blk4.below (by exact (Blk4.new w3 (.slice rA0 rn0 rk0) (.slice rA1 rn1 rk1) (.slice rA2 rn2 rk2) (.slice rA3 rn3 rk3) 26)) hb4
    obtain ⟨cR_4_0, cR_4_1, cR_4_2, cR_4_3, _⟩ := R_4.cells
    have lR_4 := R_4.lt
    replace H4 := Cv.mono H4 (lo' := w3.heap.size + 1) (by simp)
    have H4o := H4
    obtain ⟨xA0, xn0, xk0, xA1, xn1, xk1, xA2, xn2, xk2, xA3, xn3, xk3, rfl, _⟩ := Cv.open_ H4
    go_wp2_with fail
    refine (I _ _ _ (H4.alloc (.cells #[.slice xA0 xn0 xk0, .slice xA1 xn1 xk1, .slice xA2 xn2 xk2, .slice xA3 xn3 xk3] 26))).mono ?_; rintro e w5 ⟨v, rfl, H5, hb5⟩
    have BW5 : Below w.heap.size w w5 := (BW4.alloc BW4.size (.cells #[.slice xA0 xn0 xk0, .slice xA1 xn1 xk1, .slice xA2 xn2 xk2, .slice xA3 xn3 xk3] 26)).trans (hb5.mono (BW4.alloc BW4.size (.cells #[.slice xA0 xn0 xk0, .slice xA1 xn1 xk1, .slice xA2 xn2 xk2, .slice xA3 xn3 xk3] 26)).size)
    have zz5 : w4.heap.size + 1 ≤ w5.heap.size := by have := hb5.size; simp at this; omega
    have AC_5 := CArg.below (by exact (AC_4.alloc BW4.size (.cells #[.slice xA0 xn0 xk0, .slice xA1 xn1 xk1, .slice xA2 xn2 xk2, .slice xA3 xn3 xk3] 26))) (hb5.mono (BW4.alloc BW4.size (.cells #[.slice xA0 xn0 xk0, .slice xA1 xn1 xk1, .slice xA2 xn2 xk2, .slice xA3 xn3 xk3] 26)).size)
    have P_5 := Blk4.below (by exact (P_4.alloc (.cells #[.slice xA0 xn0 xk0, .slice xA1 xn1 xk1, .slice xA2 xn2 xk2, .slice xA3 xn3 xk3] 26))) hb5
    obtain ⟨cP_5_0, cP_5_1, cP_5_2, cP_5_3, _⟩ := P_5.cells
    have lP_5 := P_5.lt
    have H3_5 := Cv.below (by exact (H3_4.alloc (.cells #[.slice xA0 xn0 xk0, .slice xA1 xn1 xk1, .slice xA2 xn2 xk2, .slice xA3 xn3 xk3] 26))) hb5
    have R_5 := Blk4.below (by exact (R_4.alloc (.cells #[.slice xA0 xn0 xk0, .slice xA1 xn1 xk1, .slice xA2 xn2 xk2, .slice xA3 xn3 xk3] 26))) hb5
    obtain ⟨cR_5_0, cR_5_1, cR_5_2, cR_5_3, _⟩ := R_5.cells
    have lR_5 := R_5.lt
    have H4_5 := Cv.below (by exact (H4.alloc (.cells #[.slice xA0 xn0 xk0, .slice xA1 xn1 xk1, .slice xA2 xn2 xk2, .slice xA3 xn3 xk3] 26))) hb5
    have X_5 := Blk4.below (by exact (Blk4.new w4 (.slice xA0 xn0 xk0) (.slice xA1 xn1 xk1) (.slice xA2 xn2 xk2) (.slice xA3 xn3 xk3) 26)) hb5
    obtain ⟨cX_5_0, cX_5_1, cX_5_2, cX_5_3, _⟩ := X_5.cells
    have lX_5 := X_5.lt
    replace H5 := Cv.mono H5 (lo' := w4.heap.size + 1) (by simp)
    have H5o := H5
    obtain ⟨gA0, gn0, gk0, gA1, gn1, gk1, gA2, gn2, gk2, gA3, gn3, gk3, rfl, _⟩ := Cv.open_ H5
    go_wp2_with fail
    refine (eqColored_same _ _ _ _ _ _ (H5.alloc (.cells #[.slice gA0 gn0 gk0, .slice gA1 gn1 gk1, .slice gA2 gn2 gk2, .slice gA3 gn3 gk3] 26)) (H3_5.alloc (.cells #[.slice gA0 gn0 gk0, .slice gA1 gn1 gk1, .slice gA2 gn2 gk2, .slice gA3 gn3 gk3] 26))).mono ?_; rintro e w6 ⟨rfl, hb6⟩
    have BW6 : Below w.heap.size w w6 := (BW5.alloc BW5.size (.cells #[.slice gA0 gn0 gk0, .slice gA1 gn1 gk1, .slice gA2 gn2 gk2, .slice gA3 gn3 gk3] 26)).trans (hb6.mono (BW5.alloc BW5.size (.cells #[.slice gA0 gn0 gk0, .slice gA1 gn1 gk1, .slice gA2 gn2 gk2, .slice gA3 gn3 gk3] 26)).size)
    have zz6 : w5.heap.size + 1 ≤ w6.heap.size := by have := hb6.size; simp at this; omega
    have AC_6 := CArg.below (by exact (AC_5.alloc BW5.size (.cells #[.slice gA0 gn0 gk0, .slice gA1 gn1 gk1, .slice gA2 gn2 gk2, .slice gA3 gn3 gk3] 26))) (hb6.mono (BW5.alloc BW5.size (.cells #[.slice gA0 gn0 gk0, .slice gA1 gn1 gk1, .slice gA2 gn2 gk2, .slice gA3 gn3 gk3] 26)).size)
    have P_6 := Blk4.below (by exact (P_5.alloc (.cells #[.slice gA0 gn0 gk0, .slice gA1 gn1 gk1, .slice gA2 gn2 gk2, .slice gA3 gn3 gk3] 26))) hb6
    obtain ⟨cP_6_0, cP_6_1, cP_6_2, cP_6_3, _⟩ := P_6.cells
    have lP_6 := P_6.lt
    have H3_6 := Cv.below (by exact (H3_5.alloc (.cells #[.slice gA0 gn0 gk0, .slice gA1 gn1 gk1, .slice gA2 gn2 gk2, .slice gA3 gn3 gk3] 26))) hb6
    have R_6 := Blk4.below (by exact (R_5.alloc (.cells #[.slice gA0 gn0 gk0, .slice gA1 gn1 gk1, .slice gA2 gn2 gk2, .slice gA3 gn3 gk3] 26))) hb6
    obtain ⟨cR_6_0, cR_6_1, cR_6_2, cR_6_3, _⟩ := R_6.cells
    have lR_6 := R_6.lt
    have H4_6 := Cv.below (by exact (H4_5.alloc (.cells #[.slice gA0 gn0 gk0, .slice gA1 gn1 gk1, .slice gA2 gn2 gk2, .slice gA3 gn3 gk3] 26))) hb6
    have X_6 := Blk4.below (by exact (X_5.alloc (.cells #[.slice gA0 gn0 gk0, .slice gA1 gn1 gk1, .slice gA2 gn2 gk2, .slice gA3 gn3 gk3] 26))) hb6
    obtain ⟨cX_6_0, cX_6_1, cX_6_2, cX_6_3, _⟩ := X_6.cells
    have lX_6 := X_6.lt
    have H5_6 := Cv.below (by exact (H5.alloc (.cells #[.slice gA0 gn0 gk0, .slice gA1 gn1 gk1, .slice gA2 gn2 gk2, .slice gA3 gn3 gk3] 26))) hb6
    have G_6 := Blk4.below (by exact (Blk4.new w5 (.slice gA0 gn0 gk0) (.slice gA1 gn1 gk1) (.slice gA2 gn2 gk2) (.slice gA3 gn3 gk3) 26)) hb6
    obtain ⟨cG_6_0, cG_6_1, cG_6_2, cG_6_3, _⟩ := G_6.cells
    have lG_6 := G_6.lt
    go_wp2_with fail
    go_region_held3 (fun w' => w'.cell? ⟨w4.heap.size, 0, none⟩ = some (.slice xA0 xn0 xk0) ∧ w'.cell? ⟨w4.heap.size, 1, none⟩ = some (.slice xA1 xn1 xk1) ∧ w'.cell? ⟨w4.heap.size, 2, none⟩ = some (.slice xA2 xn2 xk2) ∧ w'.cell? ⟨w4.heap.size, 3, none⟩ = some (.slice xA3 xn3 xk3) ∧ w'.cell? ⟨w.heap.size, 0, none⟩ = some (.slice A0 C.h.l.length c0) ∧ w'.cell? ⟨w.heap.size, 1, none⟩ = some (.slice A1 C.h.r.length c1) ∧ w'.cell? ⟨w.heap.size, 2, none⟩ = some (.slice A2 C.h.t.length c2) ∧ w'.cell? ⟨w.heap.size, 3, none⟩ = some (.slice A3 C.c.length c3))
      (((try dsimp only); (repeat' apply And.intro) <;> (with_reducible (first | exact cP_8_3 | exact cP_8_2 | exact cP_8_1 | exact cP_8_0 | exact cX_8_3 | exact cX_8_2 | exact cX_8_1 | exact cX_8_0 | exact cP_7_3 | exact cP_7_2 | exact cP_7_1 | exact cP_7_0 | exact cX_7_3 | exact cX_7_2 | exact cX_7_1 | exact cX_7_0 | exact cellD cP_6_3 | exact cellD cP_6_2 | exact cellD cP_6_1 | exact cellD cP_6_0 | exact cellD cX_6_3 | exact cellD cX_6_2 | exact cellD cX_6_1 | exact cellD cX_6_0 | exact cP_6_3 | exact cP_6_2 | exact cP_6_1 | exact cP_6_0 | exact cX_6_3 | exact cX_6_2 | exact cX_6_1 | exact cX_6_0))))
      (first
        | (go_at_call 18; (with_reducible refine (T _ (AC_6.drew) (Below.drew BW6).size).mono ?_); rintro e w7 ⟨v7, rfl, HN7, hb7⟩; have BW7 : Below w.heap.size w w7 := (Below.drew BW6).trans (hb7.mono (Below.drew BW6).size); have zz7 : w6.heap.size ≤ w7.heap.size := hb7.size; have AC_7 := CArg.below (by exact (AC_6.drew)) (hb7.mono (Below.drew BW6).size); have P_7 := Blk4.below (by exact (P_6.drew)) hb7; obtain ⟨cP_7_0, cP_7_1, cP_7_2, cP_7_3, _⟩ := P_7.cells; have lP_7 := P_7.lt; have H3_7 := Cv.below (by exact (H3_6.drew)) hb7; have R_7 := Blk4.below (by exact (R_6.drew)) hb7; obtain ⟨cR_7_0, cR_7_1, cR_7_2, cR_7_3, _⟩ := R_7.cells; have lR_7 := R_7.lt; have H4_7 := Cv.below (by exact (H4_6.drew)) hb7; have X_7 := Blk4.below (by exact (X_6.drew)) hb7; obtain ⟨cX_7_0, cX_7_1, cX_7_2, cX_7_3, _⟩ := X_7.cells; have lX_7 := X_7.lt; have H5_7 := Cv.below (by exact (H5_6.drew)) hb7; have G_7 := Blk4.below (by exact (G_6.drew)) hb7; obtain ⟨cG_7_0, cG_7_1, cG_7_2, cG_7_3, _⟩ := G_7.cells; have lG_7 := G_7.lt)
        | (go_at_call 13; (with_reducible refine (eqColored_same _ _ _ _ _ _ H4_7 HN7).mono ?_); rintro e w8 ⟨rfl, hb8⟩; have BW8 : Below w.heap.size w w8 := BW7.trans (hb8.mono BW7.size); have zz8 : w7.heap.size ≤ w8.heap.size := hb8.size; have AC_8 := CArg.below (by exact AC_7) (hb8.mono BW7.size); have P_8 := Blk4.below (by exact P_7) hb8; obtain ⟨cP_8_0, cP_8_1, cP_8_2, cP_8_3, _⟩ := P_8.cells; have lP_8 := P_8.lt; have H3_8 := Cv.below (by exact H3_7) hb8; have R_8 := Blk4.below (by exact R_7) hb8; obtain ⟨cR_8_0, cR_8_1, cR_8_2, cR_8_3, _⟩ := R_8.cells; have lR_8 := R_8.lt; have H4_8 := Cv.below (by exact H4_7) hb8; have X_8 := Blk4.below (by exact X_7) hb8; obtain ⟨cX_8_0, cX_8_1, cX_8_2, cX_8_3, _⟩ := X_8.cells; have lX_8 := X_8.lt; have H5_8 := Cv.below (by exact H5_7) hb8; have G_8 := Blk4.below (by exact G_7) hb8; obtain ⟨cG_8_0, cG_8_1, cG_8_2, cG_8_3, _⟩ := G_8.cells; have lG_8 := G_8.lt; have HN7_8 := Cv.below (by exact HN7) hb8))
    rename_i hHeld1
    clear hHeld1
    go_wp2_with fail
    refine (MX _ _ _ H4_8 (by omega)).mono ?_; rintro e w9 ⟨rfl, HM4, hb9, fr9⟩
    have BW9 : Below w.heap.size w w9 := BW8.trans (hb9.mono (by omega))
    have zz9 : w8.heap.size ≤ w9.heap.size := hb9.size
    have AC_9 := CArg.below AC_8 (hb9.mono (by omega))
    have P_9 := Blk4.frame P_8 fr9 (notC_old H4o (by omega))
    obtain ⟨cP_9_0, cP_9_1, cP_9_2, cP_9_3, _⟩ := P_9.cells
    have lP_9 := P_9.lt
    have H3_9 := Cv.keptFar H3_8 hb9 H3o (by omega)
    have R_9 := Blk4.frame R_8 fr9 (notC_old H4o (by omega))
    obtain ⟨cR_9_0, cR_9_1, cR_9_2, cR_9_3, _⟩ := R_9.cells
    have lR_9 := R_9.lt
    have X_9 := Blk4.frame X_8 fr9 (notC_new H4o (by omega))
    obtain ⟨cX_9_0, cX_9_1, cX_9_2, cX_9_3, _⟩ := X_9.cells
    have lX_9 := X_9.lt
    have H5_9 := Cv.keptC H5_8 fr9 (fun b h1 _ => notC_new H4o (by omega))
    have G_9 := Blk4.frame G_8 fr9 (notC_new H4o (by omega))
    obtain ⟨cG_9_0, cG_9_1, cG_9_2, cG_9_3, _⟩ := G_9.cells
    have lG_9 := G_9.lt
    go_wp2_with fail
    refine (eqColored_same _ _ _ _ _ _ H5_9 H3_9).mono ?_; rintro e w10 ⟨rfl, hb10⟩
    have BW10 : Below w.heap.size w w10 := BW9.trans (hb10.mono BW9.size)
    have zz10 : w9.heap.size ≤ w10.heap.size := hb10.size
    have AC_10 := CArg.below (by exact AC_9) (hb10.mono BW9.size)
    have P_10 := Blk4.below (by exact P_9) hb10
    obtain ⟨cP_10_0, cP_10_1, cP_10_2, cP_10_3, _⟩ := P_10.cells
    have lP_10 := P_10.lt
    have H3_10 := Cv.below (by exact H3_9) hb10
    have R_10 := Blk4.below (by exact R_9) hb10
    obtain ⟨cR_10_0, cR_10_1, cR_10_2, cR_10_3, _⟩ := R_10.cells
    have lR_10 := R_10.lt
    have H5_10 := Cv.below (by exact H5_9) hb10
    have G_10 := Blk4.below (by exact G_9) hb10
    obtain ⟨cG_10_0, cG_10_1, cG_10_2, cG_10_3, _⟩ := G_10.cells
    have lG_10 := G_10.lt
    go_wp2_with fail
    refine (MG _ _ _ H5_10 (by omega)).mono ?_; rintro e w11 ⟨rfl, HM5, hb11, fr11⟩
    have BW11 : Below w.heap.size w w11 := BW10.trans (hb11.mono (by omega))
    have zz11 : w10.heap.size ≤ w11.heap.size := hb11.size
    have AC_11 := CArg.below AC_10 (hb11.mono (by omega))
    have P_11 := Blk4.frame P_10 fr11 (notC_old H5o (by omega))
    obtain ⟨cP_11_0, cP_11_1, cP_11_2, cP_11_3, _⟩ := P_11.cells
    have lP_11 := P_11.lt
    have H3_11 := Cv.keptFar H3_10 hb11 H3o (by omega)
    have R_11 := Blk4.frame R_10 fr11 (notC_old H5o (by omega))
    obtain ⟨cR_11_0, cR_11_1, cR_11_2, cR_11_3, _⟩ := R_11.cells
    have lR_11 := R_11.lt
    have G_11 := Blk4.frame G_10 fr11 (notC_new H5o (by omega))
    obtain ⟨cG_11_0, cG_11_1, cG_11_2, cG_11_3, _⟩ := G_11.cells
    have lG_11 := G_11.lt
    go_wp2_with fail
    refine (QG _ _ _ HM5).mono ?_; rintro e w12 ⟨rfl, hb12⟩
    have BW12 : Below w.heap.size w w12 := BW11.trans (hb12.mono BW11.size)
    have zz12 : w11.heap.size ≤ w12.heap.size := hb12.size
    have AC_12 := CArg.below (by exact AC_11) (hb12.mono BW11.size)
    have P_12 := Blk4.below (by exact P_11) hb12
    obtain ⟨cP_12_0, cP_12_1, cP_12_2, cP_12_3, _⟩ := P_12.cells
    have lP_12 := P_12.lt
    have H3_12 := Cv.below (by exact H3_11) hb12
    have R_12 := Blk4.below (by exact R_11) hb12
    obtain ⟨cR_12_0, cR_12_1, cR_12_2, cR_12_3, _⟩ := R_12.cells
    have lR_12 := R_12.lt
    have H5_12 := Cv.below (by exact HM5) hb12
    have G_12 := Blk4.below (by exact G_11) hb12
    obtain ⟨cG_12_0, cG_12_1, cG_12_2, cG_12_3, _⟩ := G_12.cells
    have lG_12 := G_12.lt
    go_wp2_with fail
    refine (T _ AC_12 BW12.size).mono ?_; rintro e w13 ⟨v, rfl, H13, hb13⟩
    have BW13 : Below w.heap.size w w13 := BW12.trans (hb13.mono BW12.size)
    have zz13 : w12.heap.size ≤ w13.heap.size := hb13.size
    have AC_13 := CArg.below (by exact AC_12) (hb13.mono BW12.size)
    have P_13 := Blk4.below (by exact P_12) hb13
    obtain ⟨cP_13_0, cP_13_1, cP_13_2, cP_13_3, _⟩ := P_13.cells
    have lP_13 := P_13.lt
    have H3_13 := Cv.below (by exact H3_12) hb13
    have R_13 := Blk4.below (by exact R_12) hb13
    obtain ⟨cR_13_0, cR_13_1, cR_13_2, cR_13_3, _⟩ := R_13.cells
    have lR_13 := R_13.lt
    have H5_13 := Cv.below (by exact H5_12) hb13
    have G_13 := Blk4.below (by exact G_12) hb13
    obtain ⟨cG_13_0, cG_13_1, cG_13_2, cG_13_3, _⟩ := G_13.cells
    have lG_13 := G_13.lt
    have H13o := H13
    go_wp2_with fail
    refine (I _ _ _ H13).mono ?_; rintro e w14 ⟨v, rfl, H14, hb14⟩
    have BW14 : Below w.heap.size w w14 := BW13.trans (hb14.mono BW13.size)
    have zz14 : w13.heap.size ≤ w14.heap.size := hb14.size
    have AC_14 := CArg.below (by exact AC_13) (hb14.mono BW13.size)
    have P_14 := Blk4.below (by exact P_13) hb14
    obtain ⟨cP_14_0, cP_14_1, cP_14_2, cP_14_3, _⟩ := P_14.cells
    have lP_14 := P_14.lt
    have H3_14 := Cv.below (by exact H3_13) hb14
    have R_14 := Blk4.below (by exact R_13) hb14
    obtain ⟨cR_14_0, cR_14_1, cR_14_2, cR_14_3, _⟩ := R_14.cells
    have lR_14 := R_14.lt
    have H5_14 := Cv.below (by exact H5_13) hb14
    have G_14 := Blk4.below (by exact G_13) hb14
    obtain ⟨cG_14_0, cG_14_1, cG_14_2, cG_14_3, _⟩ := G_14.cells
    have lG_14 := G_14.lt
    have H13_14 := Cv.below (by exact H13) hb14
    have H14o := H14
    obtain ⟨kA0, kn0, kk0, kA1, kn1, kk1, kA2, kn2, kk2, kA3, kn3, kk3, rfl, _⟩ := Cv.open_ H14
    go_wp2_with fail
    refine (eqColored_same _ _ _ _ _ _ (H14.alloc (.cells #[.slice kA0 kn0 kk0, .slice kA1 kn1 kk1, .slice kA2 kn2 kk2, .slice kA3 kn3 kk3] 26)) (H3_14.alloc (.cells #[.slice kA0 kn0 kk0, .slice kA1 kn1 kk1, .slice kA2 kn2 kk2, .slice kA3 kn3 kk3] 26))).mono ?_; rintro e w15 ⟨rfl, hb15⟩
    have BW15 : Below w.heap.size w w15 := (BW14.alloc BW14.size (.cells #[.slice kA0 kn0 kk0, .slice kA1 kn1 kk1, .slice kA2 kn2 kk2, .slice kA3 kn3 kk3] 26)).trans (hb15.mono (BW14.alloc BW14.size (.cells #[.slice kA0 kn0 kk0, .slice kA1 kn1 kk1, .slice kA2 kn2 kk2, .slice kA3 kn3 kk3] 26)).size)
    have zz15 : w14.heap.size + 1 ≤ w15.heap.size := by have := hb15.size; simp at this; omega
    have AC_15 := CArg.below (by exact (AC_14.alloc BW14.size (.cells #[.slice kA0 kn0 kk0, .slice kA1 kn1 kk1, .slice kA2 kn2 kk2, .slice kA3 kn3 kk3] 26))) (hb15.mono (BW14.alloc BW14.size (.cells #[.slice kA0 kn0 kk0, .slice kA1 kn1 kk1, .slice kA2 kn2 kk2, .slice kA3 kn3 kk3] 26)).size)
    have H3_15 := Cv.below (by exact (H3_14.alloc (.cells #[.slice kA0 kn0 kk0, .slice kA1 kn1 kk1, .slice kA2 kn2 kk2, .slice kA3 kn3 kk3] 26))) hb15
    have R_15 := Blk4.below (by exact (R_14.alloc (.cells #[.slice kA0 kn0 kk0, .slice kA1 kn1 kk1, .slice kA2 kn2 kk2, .slice kA3 kn3 kk3] 26))) hb15
    obtain ⟨cR_15_0, cR_15_1, cR_15_2, cR_15_3, _⟩ := R_15.cells
    have lR_15 := R_15.lt
    have H5_15 := Cv.below (by exact (H5_14.alloc (.cells #[.slice kA0 kn0 kk0, .slice kA1 kn1 kk1, .slice kA2 kn2 kk2, .slice kA3 kn3 kk3] 26))) hb15
    have G_15 := Blk4.below (by exact (G_14.alloc (.cells #[.slice kA0 kn0 kk0, .slice kA1 kn1 kk1, .slice kA2 kn2 kk2, .slice kA3 kn3 kk3] 26))) hb15
    obtain ⟨cG_15_0, cG_15_1, cG_15_2, cG_15_3, _⟩ := G_15.cells
    have lG_15 := G_15.lt
    have H14_15 := Cv.below (by exact (H14.alloc (.cells #[.slice kA0 kn0 kk0, .slice kA1 kn1 kk1, .slice kA2 kn2 kk2, .slice kA3 kn3 kk3] 26))) hb15
    have K_15 := Blk4.below (by exact (Blk4.new w14 (.slice kA0 kn0 kk0) (.slice kA1 kn1 kk1) (.slice kA2 kn2 kk2) (.slice kA3 kn3 kk3) 26)) hb15
    obtain ⟨cK_15_0, cK_15_1, cK_15_2, cK_15_3, _⟩ := K_15.cells
    have lK_15 := K_15.lt
    go_wp2_with fail
    refine (QG _ _ _ H5_15).mono ?_; rintro e w16 ⟨rfl, hb16⟩
    have BW16 : Below w.heap.size w w16 := BW15.trans (hb16.mono BW15.size)
    have zz16 : w15.heap.size ≤ w16.heap.size := hb16.size
    have AC_16 := CArg.below (by exact AC_15) (hb16.mono BW15.size)
    have H3_16 := Cv.below (by exact H3_15) hb16
    have R_16 := Blk4.below (by exact R_15) hb16
    obtain ⟨cR_16_0, cR_16_1, cR_16_2, cR_16_3, _⟩ := R_16.cells
    have lR_16 := R_16.lt
    have H5_16 := Cv.below (by exact H5_15) hb16
    have G_16 := Blk4.below (by exact G_15) hb16
    obtain ⟨cG_16_0, cG_16_1, cG_16_2, cG_16_3, _⟩ := G_16.cells
    have lG_16 := G_16.lt
    have H14_16 := Cv.below (by exact H14_15) hb16
    have K_16 := Blk4.below (by exact K_15) hb16
    obtain ⟨cK_16_0, cK_16_1, cK_16_2, cK_16_3, _⟩ := K_16.cells
    have lK_16 := K_16.lt
    go_wp2_with fail
    go_ret
    exact ⟨rfl, BW16⟩
  · have hszv : szV (C.h.l.length + C.h.r.length + C.h.t.length + C.c.length) 1048576 = -1 := by unfold szV; rw [if_neg hsz]
    rw [hszv] at SZ
    clear hsz hszv
    go_enter Try.func6, Try.ntmps6
    go_wp2_with fail
    refine SZ.mono ?_; rintro e w1 ⟨rfl, hb1⟩
    go_wp2_with fail
    go_ret
    exact ⟨rfl, ((Below.refl _ _).alloc (Nat.le_refl _) _).trans (hb1.mono (by simp))⟩
end Go.Proofs.Ytpipagcpgjoigaa
