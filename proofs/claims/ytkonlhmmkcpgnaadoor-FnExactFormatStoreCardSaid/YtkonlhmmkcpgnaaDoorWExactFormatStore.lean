/- The exact law of FormatStore, walked. -/
import Derived.Test.YtkonlhmmkcpgnaaDoorExactE
import Derived.Test.YtkonlhmmkcpgnaaDoorSFmtS
namespace Go.Proofs.YtkonlhmmkcpgnaaDoor
open Go.RowKit

set_option maxRecDepth 100000 in
set_option maxHeartbeats 4000000 in
theorem lawExactFormatStore_walk (w : World) (v : Value) (C : Cp) (hv : CIn w v C) : Calls Tryd.prog 6 #[v] w (LawTrue w) := by
  obtain ⟨ha, m0, m1, m2, m3⟩ := hv
  have ha2 := ha
  obtain ⟨A0, c0, A1, c1, A2, c2, A3, c3, rfl, _, _, _, _⟩ := ha2
  have SZ := szColored_any (w.alloc (.cells #[.slice A0 C.h.l.length c0, .slice A1 C.h.r.length c1, .slice A2 C.h.t.length c2, .slice A3 C.c.length c3] 38)) A0 A1 A2 A3 C.h.l.length c0 C.h.r.length c1 C.h.t.length c2 C.c.length c3 1048576 (by omega) (by omega) m0 m1 m2 m3
  by_cases hsz : ((C.h.l.length + C.h.r.length + C.h.t.length + C.c.length : Nat) : Int) ≤ 1048576
  · have hszv : szV (C.h.l.length + C.h.r.length + C.h.t.length + C.c.length) 1048576 = 1048576 - ((C.h.l.length + C.h.r.length + C.h.t.length + C.c.length : Nat) : Int) := by unfold szV; rw [if_pos hsz]
    rw [hszv] at SZ
    have b0 : C.h.l.length ≤ 1048576 := by omega
    have b1 : C.h.r.length ≤ 1048576 := by omega
    have b2 : C.h.t.length ≤ 1048576 := by omega
    have b3 : C.c.length ≤ 1048576 := by omega
    have s0 : ¬ (1048576 - ((C.h.l.length + C.h.r.length + C.h.t.length + C.c.length : Nat) : Int) < 0) := by omega
    generalize 1048576 - ((C.h.l.length + C.h.r.length + C.h.t.length + C.c.length : Nat) : Int) = sz at SZ s0
    clear hszv hsz m0 m1 m2 m3
    have T := fun W (hW : CArg W w.heap.size (.agg #[.slice A0 C.h.l.length c0, .slice A1 C.h.r.length c1, .slice A2 C.h.t.length c2, .slice A3 C.c.length c3]) C) (hB : w.heap.size ≤ W.heap.size) => toColored_any W w.heap.size hB _ C hW b0 b1 b2 b3
    have S := fun W lo v hW => specFmtS_any W lo v C hW
    have I := fun W lo v hW => implFmtS_any W lo v C hW
    generalize fmtS C = r at S I
    have hne : (r != r) = false := by simp
    go_enter Tryd.func6, Tryd.ntmps6
    go_wp2_with fail
    refine SZ.mono ?_; rintro e w1 ⟨rfl, hb1⟩
    have BW1 : Below w.heap.size w w1 := ((Below.refl w.heap.size w).alloc (Below.refl w.heap.size w).size (.cells #[.slice A0 C.h.l.length c0, .slice A1 C.h.r.length c1, .slice A2 C.h.t.length c2, .slice A3 C.c.length c3] 38)).trans (hb1.mono ((Below.refl w.heap.size w).alloc (Below.refl w.heap.size w).size (.cells #[.slice A0 C.h.l.length c0, .slice A1 C.h.r.length c1, .slice A2 C.h.t.length c2, .slice A3 C.c.length c3] 38)).size)
    have zz1 : w.heap.size + 1 ≤ w1.heap.size := by have := hb1.size; simp at this; omega
    have AC_1 := CArg.below (by exact (ha.alloc (Below.refl w.heap.size w).size (.cells #[.slice A0 C.h.l.length c0, .slice A1 C.h.r.length c1, .slice A2 C.h.t.length c2, .slice A3 C.c.length c3] 38))) (hb1.mono ((Below.refl w.heap.size w).alloc (Below.refl w.heap.size w).size (.cells #[.slice A0 C.h.l.length c0, .slice A1 C.h.r.length c1, .slice A2 C.h.t.length c2, .slice A3 C.c.length c3] 38)).size)
    have P_1 := Blk4.below (by exact (Blk4.new w (.slice A0 C.h.l.length c0) (.slice A1 C.h.r.length c1) (.slice A2 C.h.t.length c2) (.slice A3 C.c.length c3) 38)) hb1
    obtain ⟨cP_1_0, cP_1_1, cP_1_2, cP_1_3, _⟩ := P_1.cells
    have lP_1 := P_1.lt
    go_wp2_with fail
    refine (T _ AC_1 BW1.size).mono ?_; rintro e w2 ⟨v, rfl, H2, hb2⟩
    have BW2 : Below w.heap.size w w2 := BW1.trans (hb2.mono BW1.size)
    have zz2 : w1.heap.size ≤ w2.heap.size := hb2.size
    have AC_2 := CArg.below (by exact AC_1) (hb2.mono BW1.size)
    have P_2 := Blk4.below (by exact P_1) hb2
    obtain ⟨cP_2_0, cP_2_1, cP_2_2, cP_2_3, _⟩ := P_2.cells
    have lP_2 := P_2.lt
    go_wp2_with fail
    refine (S _ _ _ H2).mono ?_; rintro e w3 ⟨rfl, hb3⟩
    have BW3 : Below w.heap.size w w3 := BW2.trans (hb3.mono BW2.size)
    have zz3 : w2.heap.size ≤ w3.heap.size := hb3.size
    have AC_3 := CArg.below (by exact AC_2) (hb3.mono BW2.size)
    have P_3 := Blk4.below (by exact P_2) hb3
    obtain ⟨cP_3_0, cP_3_1, cP_3_2, cP_3_3, _⟩ := P_3.cells
    have lP_3 := P_3.lt
    have H2_3 := Cv.below (by exact H2) hb3
    go_wp2_with fail
    refine (T _ AC_3 BW3.size).mono ?_; rintro e w4 ⟨v, rfl, H4, hb4⟩
    have BW4 : Below w.heap.size w w4 := BW3.trans (hb4.mono BW3.size)
    have zz4 : w3.heap.size ≤ w4.heap.size := hb4.size
    have AC_4 := CArg.below (by exact AC_3) (hb4.mono BW3.size)
    have P_4 := Blk4.below (by exact P_3) hb4
    obtain ⟨cP_4_0, cP_4_1, cP_4_2, cP_4_3, _⟩ := P_4.cells
    have lP_4 := P_4.lt
    obtain ⟨xA0, xn0, xk0, xA1, xn1, xk1, xA2, xn2, xk2, xA3, xn3, xk3, rfl, _⟩ := Cv.open_ H4
    go_wp2_with fail
    refine (I _ _ _ (H4.alloc (.cells #[.slice xA0 xn0 xk0, .slice xA1 xn1 xk1, .slice xA2 xn2 xk2, .slice xA3 xn3 xk3] 27))).mono ?_; rintro e w5 ⟨rfl, hb5⟩
    have BW5 : Below w.heap.size w w5 := (BW4.alloc BW4.size (.cells #[.slice xA0 xn0 xk0, .slice xA1 xn1 xk1, .slice xA2 xn2 xk2, .slice xA3 xn3 xk3] 27)).trans (hb5.mono (BW4.alloc BW4.size (.cells #[.slice xA0 xn0 xk0, .slice xA1 xn1 xk1, .slice xA2 xn2 xk2, .slice xA3 xn3 xk3] 27)).size)
    have zz5 : w4.heap.size + 1 ≤ w5.heap.size := by have := hb5.size; simp at this; omega
    have AC_5 := CArg.below (by exact (AC_4.alloc BW4.size (.cells #[.slice xA0 xn0 xk0, .slice xA1 xn1 xk1, .slice xA2 xn2 xk2, .slice xA3 xn3 xk3] 27))) (hb5.mono (BW4.alloc BW4.size (.cells #[.slice xA0 xn0 xk0, .slice xA1 xn1 xk1, .slice xA2 xn2 xk2, .slice xA3 xn3 xk3] 27)).size)
    have P_5 := Blk4.below (by exact (P_4.alloc (.cells #[.slice xA0 xn0 xk0, .slice xA1 xn1 xk1, .slice xA2 xn2 xk2, .slice xA3 xn3 xk3] 27))) hb5
    obtain ⟨cP_5_0, cP_5_1, cP_5_2, cP_5_3, _⟩ := P_5.cells
    have lP_5 := P_5.lt
    have H4_5 := Cv.below (by exact (H4.alloc (.cells #[.slice xA0 xn0 xk0, .slice xA1 xn1 xk1, .slice xA2 xn2 xk2, .slice xA3 xn3 xk3] 27))) hb5
    have X_5 := Blk4.below (by exact (Blk4.new w4 (.slice xA0 xn0 xk0) (.slice xA1 xn1 xk1) (.slice xA2 xn2 xk2) (.slice xA3 xn3 xk3) 27)) hb5
    obtain ⟨cX_5_0, cX_5_1, cX_5_2, cX_5_3, _⟩ := X_5.cells
    have lX_5 := X_5.lt
    go_wp2_with fail
    go_region_held3 (fun w' => w'.cell? ⟨w4.heap.size, 0, none⟩ = some (.slice xA0 xn0 xk0) ∧ w'.cell? ⟨w4.heap.size, 1, none⟩ = some (.slice xA1 xn1 xk1) ∧ w'.cell? ⟨w4.heap.size, 2, none⟩ = some (.slice xA2 xn2 xk2) ∧ w'.cell? ⟨w4.heap.size, 3, none⟩ = some (.slice xA3 xn3 xk3) ∧ w'.cell? ⟨w.heap.size, 0, none⟩ = some (.slice A0 C.h.l.length c0) ∧ w'.cell? ⟨w.heap.size, 1, none⟩ = some (.slice A1 C.h.r.length c1) ∧ w'.cell? ⟨w.heap.size, 2, none⟩ = some (.slice A2 C.h.t.length c2) ∧ w'.cell? ⟨w.heap.size, 3, none⟩ = some (.slice A3 C.c.length c3))
      (((try dsimp only); (repeat' apply And.intro) <;> (with_reducible (first | exact cP_7_3 | exact cP_7_2 | exact cP_7_1 | exact cP_7_0 | exact cX_7_3 | exact cX_7_2 | exact cX_7_1 | exact cX_7_0 | exact cP_6_3 | exact cP_6_2 | exact cP_6_1 | exact cP_6_0 | exact cX_6_3 | exact cX_6_2 | exact cX_6_1 | exact cX_6_0 | exact cellD cP_5_3 | exact cellD cP_5_2 | exact cellD cP_5_1 | exact cellD cP_5_0 | exact cellD cX_5_3 | exact cellD cX_5_2 | exact cellD cX_5_1 | exact cellD cX_5_0 | exact cP_5_3 | exact cP_5_2 | exact cP_5_1 | exact cP_5_0 | exact cX_5_3 | exact cX_5_2 | exact cX_5_1 | exact cX_5_0))))
      (first
        | (go_at_call 17; (with_reducible refine (T _ (AC_5.drew) (Below.drew BW5).size).mono ?_); rintro e w6 ⟨v6, rfl, HN6, hb6⟩; have BW6 : Below w.heap.size w w6 := (Below.drew BW5).trans (hb6.mono (Below.drew BW5).size); have zz6 : w5.heap.size ≤ w6.heap.size := hb6.size; have AC_6 := CArg.below (by exact (AC_5.drew)) (hb6.mono (Below.drew BW5).size); have P_6 := Blk4.below (by exact (P_5.drew)) hb6; obtain ⟨cP_6_0, cP_6_1, cP_6_2, cP_6_3, _⟩ := P_6.cells; have lP_6 := P_6.lt; have H4_6 := Cv.below (by exact (H4_5.drew)) hb6; have X_6 := Blk4.below (by exact (X_5.drew)) hb6; obtain ⟨cX_6_0, cX_6_1, cX_6_2, cX_6_3, _⟩ := X_6.cells; have lX_6 := X_6.lt)
        | (go_at_call 18; (with_reducible refine (eqColored_same _ _ _ _ _ _ H4_6 HN6).mono ?_); rintro e w7 ⟨rfl, hb7⟩; have BW7 : Below w.heap.size w w7 := BW6.trans (hb7.mono BW6.size); have zz7 : w6.heap.size ≤ w7.heap.size := hb7.size; have AC_7 := CArg.below (by exact AC_6) (hb7.mono BW6.size); have P_7 := Blk4.below (by exact P_6) hb7; obtain ⟨cP_7_0, cP_7_1, cP_7_2, cP_7_3, _⟩ := P_7.cells; have lP_7 := P_7.lt; have H4_7 := Cv.below (by exact H4_6) hb7; have X_7 := Blk4.below (by exact X_6) hb7; obtain ⟨cX_7_0, cX_7_1, cX_7_2, cX_7_3, _⟩ := X_7.cells; have lX_7 := X_7.lt; have HN6_7 := Cv.below (by exact HN6) hb7))
    rename_i hHeld1
    clear hHeld1
    go_wp2_with fail
    go_ret
    exact ⟨rfl, BW7⟩
  · have hszv : szV (C.h.l.length + C.h.r.length + C.h.t.length + C.c.length) 1048576 = -1 := by unfold szV; rw [if_neg hsz]
    rw [hszv] at SZ
    clear hsz hszv
    go_enter Tryd.func6, Tryd.ntmps6
    go_wp2_with fail
    refine SZ.mono ?_; rintro e w1 ⟨rfl, hb1⟩
    go_wp2_with fail
    go_ret
    exact ⟨rfl, ((Below.refl _ _).alloc (Nat.le_refl _) _).trans (hb1.mono (by simp))⟩
end Go.Proofs.YtkonlhmmkcpgnaaDoor
