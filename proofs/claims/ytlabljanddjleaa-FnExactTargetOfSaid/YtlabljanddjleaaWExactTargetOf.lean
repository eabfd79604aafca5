/- The exact law of TargetOf, walked. -/
import Derived.Test.YtlabljanddjleaaExactO
import Derived.Test.YtlabljanddjleaaTgt
namespace Go.Proofs.Ytlabljanddjleaa
open Go.RowKit

set_option maxRecDepth 100000 in
set_option maxHeartbeats 4000000 in
theorem lawExactTargetOf_walk (w : World) (v : Value) (C : Cp) (hv : CIn w v C) (o : Opv) : Calls Try.prog 6 #[v, opV o] w (LawTrue w) := by
  obtain ⟨k, a, q⟩ := o
  show Calls Try.prog 6 #[v, .agg #[.int .i64 k, .int .i64 a, .int .i64 q]] w _
  obtain ⟨ha, m0, m1, m2, m3⟩ := hv
  have ha2 := ha
  obtain ⟨A0, c0, A1, c1, A2, c2, A3, c3, rfl, _, _, _, _⟩ := ha2
  have SZ := szColored_any ((w.alloc (.cells #[.slice A0 C.h.l.length c0, .slice A1 C.h.r.length c1, .slice A2 C.h.t.length c2, .slice A3 C.c.length c3] 32)).alloc (.cells #[.int .i64 k, .int .i64 a, .int .i64 q] 23)) A0 A1 A2 A3 C.h.l.length c0 C.h.r.length c1 C.h.t.length c2 C.c.length c3 1048576 (by omega) (by omega) m0 m1 m2 m3
  by_cases hsz : ((C.h.l.length + C.h.r.length + C.h.t.length + C.c.length : Nat) : Int) ≤ 1048576
  · have hszv : szV (C.h.l.length + C.h.r.length + C.h.t.length + C.c.length) 1048576 = 1048576 - ((C.h.l.length + C.h.r.length + C.h.t.length + C.c.length : Nat) : Int) := by unfold szV; rw [if_pos hsz]
    rw [hszv] at SZ
    have b0 : C.h.l.length ≤ 1048576 := by omega
    have b1 : C.h.r.length ≤ 1048576 := by omega
    have b2 : C.h.t.length ≤ 1048576 := by omega
    have b3 : C.c.length ≤ 1048576 := by omega
    have s0 : ¬ (1048576 - ((C.h.l.length + C.h.r.length + C.h.t.length + C.c.length : Nat) : Int) < 0) := by omega
    generalize 1048576 - ((C.h.l.length + C.h.r.length + C.h.t.length + C.c.length : Nat) : Int) = sz at SZ s0
    clear hszv hsz m0 m1 m2 m3
    have T := fun W (hW : CArg W w.heap.size (.agg #[.slice A0 C.h.l.length c0, .slice A1 C.h.r.length c1, .slice A2 C.h.t.length c2, .slice A3 C.c.length c3]) C) (hB : w.heap.size ≤ W.heap.size) => toColored_any W w.heap.size hB _ C hW b0 b1 b2 b3
    have S := fun W lo v hW => specTargetOf_any W lo v C hW ⟨k, a, q⟩
    have I := fun W lo v hW => implTargetOf_any W lo v C hW ⟨k, a, q⟩
    have TO := fun W => toOp_any W ⟨k, a, q⟩
    generalize tgtX C ⟨k, a, q⟩ = r at S I
    have hne : (r != r) = false := by simp
    go_enter Try.func6, Try.ntmps6
    go_wp2_with fail
    refine SZ.mono ?_; rintro e w1 ⟨rfl, hb1⟩
    have BW1 : Below w.heap.size w w1 := (((Below.refl w.heap.size w).alloc (Below.refl w.heap.size w).size (.cells #[.slice A0 C.h.l.length c0, .slice A1 C.h.r.length c1, .slice A2 C.h.t.length c2, .slice A3 C.c.length c3] 32)).alloc ((Below.refl w.heap.size w).alloc (Below.refl w.heap.size w).size (.cells #[.slice A0 C.h.l.length c0, .slice A1 C.h.r.length c1, .slice A2 C.h.t.length c2, .slice A3 C.c.length c3] 32)).size (.cells #[.int .i64 k, .int .i64 a, .int .i64 q] 23)).trans (hb1.mono (((Below.refl w.heap.size w).alloc (Below.refl w.heap.size w).size (.cells #[.slice A0 C.h.l.length c0, .slice A1 C.h.r.length c1, .slice A2 C.h.t.length c2, .slice A3 C.c.length c3] 32)).alloc ((Below.refl w.heap.size w).alloc (Below.refl w.heap.size w).size (.cells #[.slice A0 C.h.l.length c0, .slice A1 C.h.r.length c1, .slice A2 C.h.t.length c2, .slice A3 C.c.length c3] 32)).size (.cells #[.int .i64 k, .int .i64 a, .int .i64 q] 23)).size)
    have zz1 : w.heap.size + 2 ≤ w1.heap.size := by have := hb1.size; simp at this; omega
    have AC_1 := CArg.below (by exact ((ha.alloc (Below.refl w.heap.size w).size (.cells #[.slice A0 C.h.l.length c0, .slice A1 C.h.r.length c1, .slice A2 C.h.t.length c2, .slice A3 C.c.length c3] 32)).alloc ((Below.refl w.heap.size w).alloc (Below.refl w.heap.size w).size (.cells #[.slice A0 C.h.l.length c0, .slice A1 C.h.r.length c1, .slice A2 C.h.t.length c2, .slice A3 C.c.length c3] 32)).size (.cells #[.int .i64 k, .int .i64 a, .int .i64 q] 23))) (hb1.mono (((Below.refl w.heap.size w).alloc (Below.refl w.heap.size w).size (.cells #[.slice A0 C.h.l.length c0, .slice A1 C.h.r.length c1, .slice A2 C.h.t.length c2, .slice A3 C.c.length c3] 32)).alloc ((Below.refl w.heap.size w).alloc (Below.refl w.heap.size w).size (.cells #[.slice A0 C.h.l.length c0, .slice A1 C.h.r.length c1, .slice A2 C.h.t.length c2, .slice A3 C.c.length c3] 32)).size (.cells #[.int .i64 k, .int .i64 a, .int .i64 q] 23)).size)
    have P_1 := Blk4.below (by exact ((Blk4.new w (.slice A0 C.h.l.length c0) (.slice A1 C.h.r.length c1) (.slice A2 C.h.t.length c2) (.slice A3 C.c.length c3) 32).alloc (.cells #[.int .i64 k, .int .i64 a, .int .i64 q] 23))) hb1
    obtain ⟨cP_1_0, cP_1_1, cP_1_2, cP_1_3, _⟩ := P_1.cells
    have lP_1 := P_1.lt
    have Y_1 := Blk3.below (by exact (Blk3.new_at (w := w.alloc (.cells #[.slice A0 C.h.l.length c0, .slice A1 C.h.r.length c1, .slice A2 C.h.t.length c2, .slice A3 C.c.length c3] 32)) (b := w.heap.size + 1) (by simp) (.int .i64 k) (.int .i64 a) (.int .i64 q) 23)) hb1
    obtain ⟨cY_1_0, cY_1_1, cY_1_2, _⟩ := Y_1.cells
    have lY_1 := Y_1.lt
    go_wp2_with fail
    go_region_held3 (fun w' => w'.cell? ⟨w.heap.size, 0, none⟩ = some (.slice A0 C.h.l.length c0) ∧ w'.cell? ⟨w.heap.size, 1, none⟩ = some (.slice A1 C.h.r.length c1) ∧ w'.cell? ⟨w.heap.size, 2, none⟩ = some (.slice A2 C.h.t.length c2) ∧ w'.cell? ⟨w.heap.size, 3, none⟩ = some (.slice A3 C.c.length c3) ∧ w'.cell? ⟨(w.heap.size + 1), 0, none⟩ = some (.int .i64 k) ∧ w'.cell? ⟨(w.heap.size + 1), 1, none⟩ = some (.int .i64 a) ∧ w'.cell? ⟨(w.heap.size + 1), 2, none⟩ = some (.int .i64 q))
      (((try dsimp only); (repeat' apply And.intro) <;> (with_reducible (first | exact cY_4_2 | exact cY_4_1 | exact cY_4_0 | exact cP_4_3 | exact cP_4_2 | exact cP_4_1 | exact cP_4_0 | exact cY_3_2 | exact cY_3_1 | exact cY_3_0 | exact cP_3_3 | exact cP_3_2 | exact cP_3_1 | exact cP_3_0 | exact cY_2_2 | exact cY_2_1 | exact cY_2_0 | exact cP_2_3 | exact cP_2_2 | exact cP_2_1 | exact cP_2_0 | exact cellD cY_1_2 | exact cellD cY_1_1 | exact cellD cY_1_0 | exact cellD cP_1_3 | exact cellD cP_1_2 | exact cellD cP_1_1 | exact cellD cP_1_0 | exact cY_1_2 | exact cY_1_1 | exact cY_1_0 | exact cP_1_3 | exact cP_1_2 | exact cP_1_1 | exact cP_1_0))))
      (first
        | (go_at_call 13; (with_reducible refine (T _ (AC_1.drew) (Below.drew BW1).size).mono ?_); rintro e w2 ⟨v2, rfl, H2, hb2⟩; have BW2 : Below w.heap.size w w2 := (Below.drew BW1).trans (hb2.mono (Below.drew BW1).size); have zz2 : w1.heap.size ≤ w2.heap.size := hb2.size; have AC_2 := CArg.below (by exact (AC_1.drew)) (hb2.mono (Below.drew BW1).size); have P_2 := Blk4.below (by exact (P_1.drew)) hb2; obtain ⟨cP_2_0, cP_2_1, cP_2_2, cP_2_3, _⟩ := P_2.cells; have lP_2 := P_2.lt; have Y_2 := Blk3.below (by exact (Y_1.drew)) hb2; obtain ⟨cY_2_0, cY_2_1, cY_2_2, _⟩ := Y_2.cells; have lY_2 := Y_2.lt)
        | (go_at_call 9; (with_reducible refine (TO _).mono ?_); rintro e w3 ⟨rfl, hb3⟩; have BW3 : Below w.heap.size w w3 := BW2.trans (hb3.mono BW2.size); have zz3 : w2.heap.size ≤ w3.heap.size := hb3.size; have AC_3 := CArg.below (by exact AC_2) (hb3.mono BW2.size); have P_3 := Blk4.below (by exact P_2) hb3; obtain ⟨cP_3_0, cP_3_1, cP_3_2, cP_3_3, _⟩ := P_3.cells; have lP_3 := P_3.lt; have Y_3 := Blk3.below (by exact Y_2) hb3; obtain ⟨cY_3_0, cY_3_1, cY_3_2, _⟩ := Y_3.cells; have lY_3 := Y_3.lt; have H2_3 := Cv.below (by exact H2) hb3)
        | (go_at_call 24; (with_reducible refine (S _ _ _ H2_3).mono ?_); rintro e w4 ⟨rfl, hb4⟩; have BW4 : Below w.heap.size w w4 := BW3.trans (hb4.mono BW3.size); have zz4 : w3.heap.size ≤ w4.heap.size := hb4.size; have AC_4 := CArg.below (by exact AC_3) (hb4.mono BW3.size); have P_4 := Blk4.below (by exact P_3) hb4; obtain ⟨cP_4_0, cP_4_1, cP_4_2, cP_4_3, _⟩ := P_4.cells; have lP_4 := P_4.lt; have Y_4 := Blk3.below (by exact Y_3) hb4; obtain ⟨cY_4_0, cY_4_1, cY_4_2, _⟩ := Y_4.cells; have lY_4 := Y_4.lt; have H2_4 := Cv.below (by exact H2_3) hb4))
    rename_i hHeld1
    clear hHeld1
    go_wp2_with fail
    refine (T _ AC_4 BW4.size).mono ?_; rintro e w5 ⟨v, rfl, H5, hb5⟩
    have BW5 : Below w.heap.size w w5 := BW4.trans (hb5.mono BW4.size)
    have zz5 : w4.heap.size ≤ w5.heap.size := hb5.size
    have AC_5 := CArg.below (by exact AC_4) (hb5.mono BW4.size)
    have P_5 := Blk4.below (by exact P_4) hb5
    obtain ⟨cP_5_0, cP_5_1, cP_5_2, cP_5_3, _⟩ := P_5.cells
    have lP_5 := P_5.lt
    have Y_5 := Blk3.below (by exact Y_4) hb5
    obtain ⟨cY_5_0, cY_5_1, cY_5_2, _⟩ := Y_5.cells
    have lY_5 := Y_5.lt
    obtain ⟨xA0, xn0, xk0, xA1, xn1, xk1, xA2, xn2, xk2, xA3, xn3, xk3, rfl, _⟩ := Cv.open_ H5
    have AC_6s := (AC_5.alloc BW5.size (.cells #[.slice xA0 xn0 xk0, .slice xA1 xn1 xk1, .slice xA2 xn2 xk2, .slice xA3 xn3 xk3] 36))
    have P_6s := (P_5.alloc (.cells #[.slice xA0 xn0 xk0, .slice xA1 xn1 xk1, .slice xA2 xn2 xk2, .slice xA3 xn3 xk3] 36))
    obtain ⟨cP_6s_0, cP_6s_1, cP_6s_2, cP_6s_3, _⟩ := P_6s.cells
    have lP_6s := P_6s.lt
    have Y_6s := (Y_5.alloc (.cells #[.slice xA0 xn0 xk0, .slice xA1 xn1 xk1, .slice xA2 xn2 xk2, .slice xA3 xn3 xk3] 36))
    obtain ⟨cY_6s_0, cY_6s_1, cY_6s_2, _⟩ := Y_6s.cells
    have lY_6s := Y_6s.lt
    have H5_6s := (H5.alloc (.cells #[.slice xA0 xn0 xk0, .slice xA1 xn1 xk1, .slice xA2 xn2 xk2, .slice xA3 xn3 xk3] 36))
    have X_6s := (Blk4.new w5 (.slice xA0 xn0 xk0) (.slice xA1 xn1 xk1) (.slice xA2 xn2 xk2) (.slice xA3 xn3 xk3) 36)
    obtain ⟨cX_6s_0, cX_6s_1, cX_6s_2, cX_6s_3, _⟩ := X_6s.cells
    have lX_6s := X_6s.lt
    have BW6 := (BW5.alloc BW5.size (.cells #[.slice xA0 xn0 xk0, .slice xA1 xn1 xk1, .slice xA2 xn2 xk2, .slice xA3 xn3 xk3] 36))
    go_wp2_with fail
    go_region_held3 (fun w' => w'.cell? ⟨w5.heap.size, 0, none⟩ = some (.slice xA0 xn0 xk0) ∧ w'.cell? ⟨w5.heap.size, 1, none⟩ = some (.slice xA1 xn1 xk1) ∧ w'.cell? ⟨w5.heap.size, 2, none⟩ = some (.slice xA2 xn2 xk2) ∧ w'.cell? ⟨w5.heap.size, 3, none⟩ = some (.slice xA3 xn3 xk3) ∧ w'.cell? ⟨(w.heap.size + 1), 0, none⟩ = some (.int .i64 k) ∧ w'.cell? ⟨(w.heap.size + 1), 1, none⟩ = some (.int .i64 a) ∧ w'.cell? ⟨(w.heap.size + 1), 2, none⟩ = some (.int .i64 q))
      (((try dsimp only); (repeat' apply And.intro) <;> (with_reducible (first | exact cY_8_2 | exact cY_8_1 | exact cY_8_0 | exact cX_8_3 | exact cX_8_2 | exact cX_8_1 | exact cX_8_0 | exact cY_7_2 | exact cY_7_1 | exact cY_7_0 | exact cX_7_3 | exact cX_7_2 | exact cX_7_1 | exact cX_7_0 | exact cellD cY_6s_2 | exact cellD cY_6s_1 | exact cellD cY_6s_0 | exact cellD cX_6s_3 | exact cellD cX_6s_2 | exact cellD cX_6s_1 | exact cellD cX_6s_0 | exact cY_6s_2 | exact cY_6s_1 | exact cY_6s_0 | exact cX_6s_3 | exact cX_6s_2 | exact cX_6s_1 | exact cX_6s_0))))
      (first
        | (go_at_call 9; (with_reducible refine (TO _).mono ?_); rintro e w6 ⟨rfl, hb6⟩; have BW7 : Below w.heap.size w w6 := (Below.drew BW6).trans (hb6.mono (Below.drew BW6).size); (have zz7 : w5.heap.size + 1 ≤ w6.heap.size := by have := hb6.size; simp at this; omega); have AC_7 := CArg.below (by exact (AC_6s.drew)) (hb6.mono (Below.drew BW6).size); have P_7 := Blk4.below (by exact (P_6s.drew)) hb6; obtain ⟨cP_7_0, cP_7_1, cP_7_2, cP_7_3, _⟩ := P_7.cells; have lP_7 := P_7.lt; have Y_7 := Blk3.below (by exact (Y_6s.drew)) hb6; obtain ⟨cY_7_0, cY_7_1, cY_7_2, _⟩ := Y_7.cells; have lY_7 := Y_7.lt; have H5_7 := Cv.below (by exact (H5_6s.drew)) hb6; have X_7 := Blk4.below (by exact (X_6s.drew)) hb6; obtain ⟨cX_7_0, cX_7_1, cX_7_2, cX_7_3, _⟩ := X_7.cells; have lX_7 := X_7.lt)
        | (go_at_call 25; (with_reducible refine (I _ _ _ H5_7).mono ?_); rintro e w7 ⟨rfl, hb7⟩; have BW8 : Below w.heap.size w w7 := BW7.trans (hb7.mono BW7.size); have zz8 : w6.heap.size ≤ w7.heap.size := hb7.size; have AC_8 := CArg.below (by exact AC_7) (hb7.mono BW7.size); have P_8 := Blk4.below (by exact P_7) hb7; obtain ⟨cP_8_0, cP_8_1, cP_8_2, cP_8_3, _⟩ := P_8.cells; have lP_8 := P_8.lt; have Y_8 := Blk3.below (by exact Y_7) hb7; obtain ⟨cY_8_0, cY_8_1, cY_8_2, _⟩ := Y_8.cells; have lY_8 := Y_8.lt; have H5_8 := Cv.below (by exact H5_7) hb7; have X_8 := Blk4.below (by exact X_7) hb7; obtain ⟨cX_8_0, cX_8_1, cX_8_2, cX_8_3, _⟩ := X_8.cells; have lX_8 := X_8.lt))
    rename_i hHeld2
    clear hHeld2
    go_wp2_with fail
    go_region_held3 (fun w' => w'.cell? ⟨w5.heap.size, 0, none⟩ = some (.slice xA0 xn0 xk0) ∧ w'.cell? ⟨w5.heap.size, 1, none⟩ = some (.slice xA1 xn1 xk1) ∧ w'.cell? ⟨w5.heap.size, 2, none⟩ = some (.slice xA2 xn2 xk2) ∧ w'.cell? ⟨w5.heap.size, 3, none⟩ = some (.slice xA3 xn3 xk3) ∧ w'.cell? ⟨w.heap.size, 0, none⟩ = some (.slice A0 C.h.l.length c0) ∧ w'.cell? ⟨w.heap.size, 1, none⟩ = some (.slice A1 C.h.r.length c1) ∧ w'.cell? ⟨w.heap.size, 2, none⟩ = some (.slice A2 C.h.t.length c2) ∧ w'.cell? ⟨w.heap.size, 3, none⟩ = some (.slice A3 C.c.length c3))
      (((try dsimp only); (repeat' apply And.intro) <;> (with_reducible (first | exact cP_10_3 | exact cP_10_2 | exact cP_10_1 | exact cP_10_0 | exact cX_10_3 | exact cX_10_2 | exact cX_10_1 | exact cX_10_0 | exact cP_9_3 | exact cP_9_2 | exact cP_9_1 | exact cP_9_0 | exact cX_9_3 | exact cX_9_2 | exact cX_9_1 | exact cX_9_0 | exact cellD cP_8_3 | exact cellD cP_8_2 | exact cellD cP_8_1 | exact cellD cP_8_0 | exact cellD cX_8_3 | exact cellD cX_8_2 | exact cellD cX_8_1 | exact cellD cX_8_0 | exact cP_8_3 | exact cP_8_2 | exact cP_8_1 | exact cP_8_0 | exact cX_8_3 | exact cX_8_2 | exact cX_8_1 | exact cX_8_0))))
      (first
        | (go_at_call 13; (with_reducible refine (T _ (AC_8.drew) (Below.drew BW8).size).mono ?_); rintro e w8 ⟨v8, rfl, HN8, hb8⟩; have BW9 : Below w.heap.size w w8 := (Below.drew BW8).trans (hb8.mono (Below.drew BW8).size); have zz9 : w7.heap.size ≤ w8.heap.size := hb8.size; have AC_9 := CArg.below (by exact (AC_8.drew)) (hb8.mono (Below.drew BW8).size); have P_9 := Blk4.below (by exact (P_8.drew)) hb8; obtain ⟨cP_9_0, cP_9_1, cP_9_2, cP_9_3, _⟩ := P_9.cells; have lP_9 := P_9.lt; have Y_9 := Blk3.below (by exact (Y_8.drew)) hb8; obtain ⟨cY_9_0, cY_9_1, cY_9_2, _⟩ := Y_9.cells; have lY_9 := Y_9.lt; have H5_9 := Cv.below (by exact (H5_8.drew)) hb8; have X_9 := Blk4.below (by exact (X_8.drew)) hb8; obtain ⟨cX_9_0, cX_9_1, cX_9_2, cX_9_3, _⟩ := X_9.cells; have lX_9 := X_9.lt)
        | (go_at_call 15; (with_reducible refine (eqColored_same _ _ _ _ _ _ H5_9 HN8).mono ?_); rintro e w9 ⟨rfl, hb9⟩; have BW10 : Below w.heap.size w w9 := BW9.trans (hb9.mono BW9.size); have zz10 : w8.heap.size ≤ w9.heap.size := hb9.size; have AC_10 := CArg.below (by exact AC_9) (hb9.mono BW9.size); have P_10 := Blk4.below (by exact P_9) hb9; obtain ⟨cP_10_0, cP_10_1, cP_10_2, cP_10_3, _⟩ := P_10.cells; have lP_10 := P_10.lt; have Y_10 := Blk3.below (by exact Y_9) hb9; obtain ⟨cY_10_0, cY_10_1, cY_10_2, _⟩ := Y_10.cells; have lY_10 := Y_10.lt; have H5_10 := Cv.below (by exact H5_9) hb9; have X_10 := Blk4.below (by exact X_9) hb9; obtain ⟨cX_10_0, cX_10_1, cX_10_2, cX_10_3, _⟩ := X_10.cells; have lX_10 := X_10.lt; have HN8_10 := Cv.below (by exact HN8) hb9))
    rename_i hHeld3
    clear hHeld3
    go_wp2_with fail
    go_ret
    exact ⟨rfl, BW10⟩
  · have hszv : szV (C.h.l.length + C.h.r.length + C.h.t.length + C.c.length) 1048576 = -1 := by unfold szV; rw [if_neg hsz]
    rw [hszv] at SZ
    clear hsz hszv
    go_enter Try.func6, Try.ntmps6
    go_wp2_with fail
    refine SZ.mono ?_; rintro e w1 ⟨rfl, hb1⟩
    go_wp2_with fail
    go_ret
    exact ⟨rfl, (((Below.refl _ _).alloc (Nat.le_refl _) _).alloc (by simp) _).trans (hb1.mono (by simp; omega))⟩
end Go.Proofs.Ytlabljanddjleaa
