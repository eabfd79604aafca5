/- The exact law of RunOps, walked. -/
import Derived.Test.YtlabljanddjleaaExactOs
import Derived.Test.YtlabljanddjleaaIRuns
import Derived.Test.YtlabljanddjleaaSRuns
namespace Go.Proofs.Ytlabljanddjleaa
open Go.RowKit

set_option maxRecDepth 100000 in
set_option maxHeartbeats 4000000 in
theorem lawExactRunOps_walk (w : World) (v : Value) (C : Cp) (hv : CIn w v C) (u : Value) (os : List Opv) (hu : OsIn w u os) : Calls Try.prog 5 #[v, u] w (LawTrue w) := by
  obtain ⟨LA, lc, rfl, hL, hl63⟩ := hu
  obtain ⟨nl, hnl⟩ : ∃ nl, Hid (os.length = nl) := ⟨_, rfl⟩
  rw [hnl.out] at hL hl63 ⊢
  obtain ⟨ha, m0, m1, m2, m3⟩ := hv
  have ha2 := ha
  obtain ⟨A0, c0, A1, c1, A2, c2, A3, c3, rfl, _, _, _, _⟩ := ha2
  have SZ := szColored_any (w.alloc (.cells #[.slice A0 C.h.l.length c0, .slice A1 C.h.r.length c1, .slice A2 C.h.t.length c2, .slice A3 C.c.length c3] 32)) A0 A1 A2 A3 C.h.l.length c0 C.h.r.length c1 C.h.t.length c2 C.c.length c3 1048576 (by omega) (by omega) m0 m1 m2 m3
  by_cases hsz : ((C.h.l.length + C.h.r.length + C.h.t.length + C.c.length : Nat) : Int) ≤ 1048576
  · have hszv : szV (C.h.l.length + C.h.r.length + C.h.t.length + C.c.length) 1048576 = 1048576 - ((C.h.l.length + C.h.r.length + C.h.t.length + C.c.length : Nat) : Int) := by unfold szV; rw [if_pos hsz]
    rw [hszv] at SZ
    have b0 : C.h.l.length ≤ 1048576 := by omega
    have b1 : C.h.r.length ≤ 1048576 := by omega
    have b2 : C.h.t.length ≤ 1048576 := by omega
    have b3 : C.c.length ≤ 1048576 := by omega
    have s0 : ¬ (1048576 - ((C.h.l.length + C.h.r.length + C.h.t.length + C.c.length : Nat) : Int) < 0) := by omega
    have s1 : 1048576 - ((C.h.l.length + C.h.r.length + C.h.t.length + C.c.length : Nat) : Int) ≤ 1048576 := by omega
    generalize 1048576 - ((C.h.l.length + C.h.r.length + C.h.t.length + C.c.length : Nat) : Int) = sz at SZ s0 s1
    clear hszv hsz m0 m1 m2 m3
    have T := fun W (hW : CArg W w.heap.size (.agg #[.slice A0 C.h.l.length c0, .slice A1 C.h.r.length c1, .slice A2 C.h.t.length c2, .slice A3 C.c.length c3]) C) (hB : w.heap.size ≤ W.heap.size) => toColored_any W w.heap.size hB _ C hW b0 b1 b2 b3
    have ZO := fun W => szOpS_any W LA nl lc sz (by omega) s1 hl63
    by_cases hno : (nl : Int) ≤ sz
    · have hszo : szV nl sz = sz - nl := by unfold szV; rw [if_pos hno]
      rw [hszo] at ZO
      have s2 : ¬ (sz - (nl : Int) < 0) := by omega
      have b4 : os.length ≤ 1048576 := by rw [hnl.out]; omega
      have b4n : nl ≤ 1048576 := by omega
      generalize sz - (nl : Int) = sz2 at ZO s2
      clear hszo hno s1
      obtain ⟨N1, M1, n2, MX, MO⟩ := markOC C os b0 b1 b2 b3 b4
      have TO := fun W (h : OIn W w.heap.size LA nl os) (hs : w.heap.size ≤ W.heap.size) => toOpS_any W LA nl lc os (h.up hs) b4n
      have sh := prog_short C os
      have S := fun W lo lo2 v u hW hU => specRunOps_any W lo lo2 v u C os hW hU
      have I := fun W lo lo2 v u hW hU => implRunOps_any W lo lo2 v u C os hW hU
      have EO := fun W lo lo' A A' c c' h h' => eqOpS_same W lo lo' A A' c c' os (by omega) h h'
      unfold NewORow at TO
      rw [hnl.out] at EO MO TO
      generalize progC C os = hr at S I sh
      generalize progN C os = x at S I
      generalize progB C os = bo at S I
      obtain ⟨N2, n3, n4, MG, QG⟩ := markC1 hr sh.1 sh.2.1 sh.2.2.1 sh.2.2.2
      have hne0 : (x != x) = false := by simp
      have hne1 : (bo != bo) = false := by simp
      clear sh b4
      go_enter Try.func5, Try.ntmps5
      go_wp2_with fail
      refine SZ.mono ?_; rintro e w1 ⟨rfl, hb1⟩
      have BW1 : Below w.heap.size w w1 := ((Below.refl w.heap.size w).alloc (Below.refl w.heap.size w).size (.cells #[.slice A0 C.h.l.length c0, .slice A1 C.h.r.length c1, .slice A2 C.h.t.length c2, .slice A3 C.c.length c3] 32)).trans (hb1.mono ((Below.refl w.heap.size w).alloc (Below.refl w.heap.size w).size (.cells #[.slice A0 C.h.l.length c0, .slice A1 C.h.r.length c1, .slice A2 C.h.t.length c2, .slice A3 C.c.length c3] 32)).size)
      have zz1 : w.heap.size + 1 ≤ w1.heap.size := by have := hb1.size; simp at this; omega
      have AC_1 := CArg.below (by exact (ha.alloc (Below.refl w.heap.size w).size (.cells #[.slice A0 C.h.l.length c0, .slice A1 C.h.r.length c1, .slice A2 C.h.t.length c2, .slice A3 C.c.length c3] 32))) (hb1.mono ((Below.refl w.heap.size w).alloc (Below.refl w.heap.size w).size (.cells #[.slice A0 C.h.l.length c0, .slice A1 C.h.r.length c1, .slice A2 C.h.t.length c2, .slice A3 C.c.length c3] 32)).size)
      have P_1 := Blk4.below (by exact (Blk4.new w (.slice A0 C.h.l.length c0) (.slice A1 C.h.r.length c1) (.slice A2 C.h.t.length c2) (.slice A3 C.c.length c3) 32)) hb1
      obtain ⟨cP_1_0, cP_1_1, cP_1_2, cP_1_3, _⟩ := P_1.cells
      have lP_1 := P_1.lt
      have AL_1 := OIn.below (by exact (hL.alloc (Below.refl w.heap.size w).size (.cells #[.slice A0 C.h.l.length c0, .slice A1 C.h.r.length c1, .slice A2 C.h.t.length c2, .slice A3 C.c.length c3] 32))) (hb1.mono ((Below.refl w.heap.size w).alloc (Below.refl w.heap.size w).size (.cells #[.slice A0 C.h.l.length c0, .slice A1 C.h.r.length c1, .slice A2 C.h.t.length c2, .slice A3 C.c.length c3] 32)).size)
      go_wp2_with fail
      refine (ZO _).mono ?_; rintro e w' ⟨rfl, rfl⟩
      go_wp2_with fail
      refine (T _ AC_1 BW1.size).mono ?_; rintro e w2 ⟨v, rfl, H2, hb2⟩
      have BW2 : Below w.heap.size w w2 := BW1.trans (hb2.mono BW1.size)
      have zz2 : w1.heap.size ≤ w2.heap.size := hb2.size
      have AC_2 := CArg.below (by exact AC_1) (hb2.mono BW1.size)
      have P_2 := Blk4.below (by exact P_1) hb2
      obtain ⟨cP_2_0, cP_2_1, cP_2_2, cP_2_3, _⟩ := P_2.cells
      have lP_2 := P_2.lt
      have AL_2 := OIn.below (by exact AL_1) (hb2.mono BW1.size)
      have H2o := H2
      go_wp2_with fail
      refine (TO _ AL_2 BW2.size).mono ?_; rintro e w3 ⟨AU2, kU2, rfl, U2, hb3⟩
      have BW3 : Below w.heap.size w w3 := BW2.trans (hb3.mono BW2.size)
      have zz3 : w2.heap.size ≤ w3.heap.size := hb3.size
      have AC_3 := CArg.below (by exact AC_2) (hb3.mono BW2.size)
      have P_3 := Blk4.below (by exact P_2) hb3
      obtain ⟨cP_3_0, cP_3_1, cP_3_2, cP_3_3, _⟩ := P_3.cells
      have lP_3 := P_3.lt
      have H2_3 := Cv.below (by exact H2) hb3
      have AL_3 := OIn.below (by exact AL_2) (hb3.mono BW2.size)
      have U2o := U2
      go_wp2_with fail
      refine (S _ _ _ _ _ H2_3 U2).mono ?_; rintro e w4 ⟨v, rfl, H3, hb4⟩
      have BW4 : Below w.heap.size w w4 := BW3.trans (hb4.mono BW3.size)
      have zz4 : w3.heap.size ≤ w4.heap.size := hb4.size
      have AC_4 := CArg.below (by exact AC_3) (hb4.mono BW3.size)
      have P_4 := Blk4.below (by exact P_3) hb4
      obtain ⟨cP_4_0, cP_4_1, cP_4_2, cP_4_3, _⟩ := P_4.cells
      have lP_4 := P_4.lt
      have H2_4 := Cv.below (by exact H2_3) hb4
      have AL_4 := OIn.below (by exact AL_3) (hb4.mono BW3.size)
      have U2_4 := ORow.below (by exact U2) hb4
      have H3o := H3
      obtain ⟨rA0, rn0, rk0, rA1, rn1, rk1, rA2, rn2, rk2, rA3, rn3, rk3, rfl, _⟩ := Cv.open_ H3
      go_wp2_with fail
      refine (T _ (AC_4.alloc BW4.size (.cells #[.slice rA0 rn0 rk0, .slice rA1 rn1 rk1, .slice rA2 rn2 rk2, .slice rA3 rn3 rk3] 36)) (BW4.alloc BW4.size (.cells #[.slice rA0 rn0 rk0, .slice rA1 rn1 rk1, .slice rA2 rn2 rk2, .slice rA3 rn3 rk3] 36)).size).mono ?_; rintro e w5 ⟨v, rfl, H4, hb5⟩
      have BW5 : Below w.heap.size w w5 := (BW4.alloc BW4.size (.cells #[.slice rA0 rn0 rk0, .slice rA1 rn1 rk1, .slice rA2 rn2 rk2, .slice rA3 rn3 rk3] 36)).trans (hb5.mono (BW4.alloc BW4.size (.cells #[.slice rA0 rn0 rk0, .slice rA1 rn1 rk1, .slice rA2 rn2 rk2, .slice rA3 rn3 rk3] 36)).size)
      have zz5 : w4.heap.size + 1 ≤ w5.heap.size := by have := hb5.size; simp at this; omega
      have AC_5 := CArg.below (by exact (AC_4.alloc BW4.size (.cells #[.slice rA0 rn0 rk0, .slice rA1 rn1 rk1, .slice rA2 rn2 rk2, .slice rA3 rn3 rk3] 36))) (hb5.mono (BW4.alloc BW4.size (.cells #[.slice rA0 rn0 rk0, .slice rA1 rn1 rk1, .slice rA2 rn2 rk2, .slice rA3 rn3 rk3] 36)).size)
      have P_5 := Blk4.below (by exact (P_4.alloc (.cells #[.slice rA0 rn0 rk0, .slice rA1 rn1 rk1, .slice rA2 rn2 rk2, .slice rA3 rn3 rk3] 36))) hb5
      obtain ⟨cP_5_0, cP_5_1, cP_5_2, cP_5_3, _⟩ := P_5.cells
      have lP_5 := P_5.lt
      have H3_5 := Cv.below (by exact (H3.alloc (.cells #[.slice rA0 rn0 rk0, .slice rA1 rn1 rk1, .slice rA2 rn2 rk2, .slice rA3 rn3 rk3] 36))) hb5
      have R_5 := Blk4.below (by exact (Blk4.new w4 (.slice rA0 rn0 rk0) (.slice rA1 rn1 rk1) (.slice rA2 rn2 rk2) (.slice rA3 rn3 rk3) 36)) hb5
      obtain ⟨cR_5_0, cR_5_1, cR_5_2, cR_5_3, _⟩ := R_5.cells
      have lR_5 := R_5.lt
      have AL_5 := OIn.below (by exact (AL_4.alloc BW4.size (.cells #[.slice rA0 rn0 rk0, .slice rA1 rn1 rk1, .slice rA2 rn2 rk2, .slice rA3 rn3 rk3] 36))) (hb5.mono (BW4.alloc BW4.size (.cells #[.slice rA0 rn0 rk0, .slice rA1 rn1 rk1, .slice rA2 rn2 rk2, .slice rA3 rn3 rk3] 36)).size)
      replace H4 := Cv.mono H4 (lo' := w4.heap.size + 1) (by simp)
      have H4o := H4
      obtain ⟨xA0, xn0, xk0, xA1, xn1, xk1, xA2, xn2, xk2, xA3, xn3, xk3, rfl, _⟩ := Cv.open_ H4
      go_wp2_with fail
      refine (TO _ (AL_5.alloc BW5.size (.cells #[.slice xA0 xn0 xk0, .slice xA1 xn1 xk1, .slice xA2 xn2 xk2, .slice xA3 xn3 xk3] 36)) (BW5.alloc BW5.size (.cells #[.slice xA0 xn0 xk0, .slice xA1 xn1 xk1, .slice xA2 xn2 xk2, .slice xA3 xn3 xk3] 36)).size).mono ?_; rintro e w6 ⟨AU, kU, rfl, U, hb6⟩
      have BW6 : Below w.heap.size w w6 := (BW5.alloc BW5.size (.cells #[.slice xA0 xn0 xk0, .slice xA1 xn1 xk1, .slice xA2 xn2 xk2, .slice xA3 xn3 xk3] 36)).trans (hb6.mono (BW5.alloc BW5.size (.cells #[.slice xA0 xn0 xk0, .slice xA1 xn1 xk1, .slice xA2 xn2 xk2, .slice xA3 xn3 xk3] 36)).size)
      have zz6 : w5.heap.size + 1 ≤ w6.heap.size := by have := hb6.size; simp at this; omega
      have AC_6 := CArg.below (by exact (AC_5.alloc BW5.size (.cells #[.slice xA0 xn0 xk0, .slice xA1 xn1 xk1, .slice xA2 xn2 xk2, .slice xA3 xn3 xk3] 36))) (hb6.mono (BW5.alloc BW5.size (.cells #[.slice xA0 xn0 xk0, .slice xA1 xn1 xk1, .slice xA2 xn2 xk2, .slice xA3 xn3 xk3] 36)).size)
      have P_6 := Blk4.below (by exact (P_5.alloc (.cells #[.slice xA0 xn0 xk0, .slice xA1 xn1 xk1, .slice xA2 xn2 xk2, .slice xA3 xn3 xk3] 36))) hb6
      obtain ⟨cP_6_0, cP_6_1, cP_6_2, cP_6_3, _⟩ := P_6.cells
      have lP_6 := P_6.lt
      have H3_6 := Cv.below (by exact (H3_5.alloc (.cells #[.slice xA0 xn0 xk0, .slice xA1 xn1 xk1, .slice xA2 xn2 xk2, .slice xA3 xn3 xk3] 36))) hb6
      have R_6 := Blk4.below (by exact (R_5.alloc (.cells #[.slice xA0 xn0 xk0, .slice xA1 xn1 xk1, .slice xA2 xn2 xk2, .slice xA3 xn3 xk3] 36))) hb6
      obtain ⟨cR_6_0, cR_6_1, cR_6_2, cR_6_3, _⟩ := R_6.cells
      have lR_6 := R_6.lt
      have H4_6 := Cv.below (by exact (H4.alloc (.cells #[.slice xA0 xn0 xk0, .slice xA1 xn1 xk1, .slice xA2 xn2 xk2, .slice xA3 xn3 xk3] 36))) hb6
      have X_6 := Blk4.below (by exact (Blk4.new w5 (.slice xA0 xn0 xk0) (.slice xA1 xn1 xk1) (.slice xA2 xn2 xk2) (.slice xA3 xn3 xk3) 36)) hb6
      obtain ⟨cX_6_0, cX_6_1, cX_6_2, cX_6_3, _⟩ := X_6.cells
      have lX_6 := X_6.lt
      have AL_6 := OIn.below (by exact (AL_5.alloc BW5.size (.cells #[.slice xA0 xn0 xk0, .slice xA1 xn1 xk1, .slice xA2 xn2 xk2, .slice xA3 xn3 xk3] 36))) (hb6.mono (BW5.alloc BW5.size (.cells #[.slice xA0 xn0 xk0, .slice xA1 xn1 xk1, .slice xA2 xn2 xk2, .slice xA3 xn3 xk3] 36)).size)
      replace U := ORow.mono U (lo' := w5.heap.size + 1) (by simp)
      have Uo := U
      go_wp2_with fail
      refine (I _ _ _ _ _ H4_6 U).mono ?_; rintro e w7 ⟨v, rfl, H5, hb7⟩
      have BW7 : Below w.heap.size w w7 := BW6.trans (hb7.mono BW6.size)
      have zz7 : w6.heap.size ≤ w7.heap.size := hb7.size
      have AC_7 := CArg.below (by exact AC_6) (hb7.mono BW6.size)
      have P_7 := Blk4.below (by exact P_6) hb7
      obtain ⟨cP_7_0, cP_7_1, cP_7_2, cP_7_3, _⟩ := P_7.cells
      have lP_7 := P_7.lt
      have H3_7 := Cv.below (by exact H3_6) hb7
      have R_7 := Blk4.below (by exact R_6) hb7
      obtain ⟨cR_7_0, cR_7_1, cR_7_2, cR_7_3, _⟩ := R_7.cells
      have lR_7 := R_7.lt
      have H4_7 := Cv.below (by exact H4_6) hb7
      have X_7 := Blk4.below (by exact X_6) hb7
      obtain ⟨cX_7_0, cX_7_1, cX_7_2, cX_7_3, _⟩ := X_7.cells
      have lX_7 := X_7.lt
      have AL_7 := OIn.below (by exact AL_6) (hb7.mono BW6.size)
      have U_7 := ORow.below (by exact U) hb7
      have H5o := H5
      obtain ⟨gA0, gn0, gk0, gA1, gn1, gk1, gA2, gn2, gk2, gA3, gn3, gk3, rfl, _⟩ := Cv.open_ H5
      go_wp2_with fail
      refine (eqColored_same _ _ _ _ _ _ (H5.alloc (.cells #[.slice gA0 gn0 gk0, .slice gA1 gn1 gk1, .slice gA2 gn2 gk2, .slice gA3 gn3 gk3] 36)) (H3_7.alloc (.cells #[.slice gA0 gn0 gk0, .slice gA1 gn1 gk1, .slice gA2 gn2 gk2, .slice gA3 gn3 gk3] 36))).mono ?_; rintro e w8 ⟨rfl, hb8⟩
      have BW8 : Below w.heap.size w w8 := (BW7.alloc BW7.size (.cells #[.slice gA0 gn0 gk0, .slice gA1 gn1 gk1, .slice gA2 gn2 gk2, .slice gA3 gn3 gk3] 36)).trans (hb8.mono (BW7.alloc BW7.size (.cells #[.slice gA0 gn0 gk0, .slice gA1 gn1 gk1, .slice gA2 gn2 gk2, .slice gA3 gn3 gk3] 36)).size)
      have zz8 : w7.heap.size + 1 ≤ w8.heap.size := by have := hb8.size; simp at this; omega
      have AC_8 := CArg.below (by exact (AC_7.alloc BW7.size (.cells #[.slice gA0 gn0 gk0, .slice gA1 gn1 gk1, .slice gA2 gn2 gk2, .slice gA3 gn3 gk3] 36))) (hb8.mono (BW7.alloc BW7.size (.cells #[.slice gA0 gn0 gk0, .slice gA1 gn1 gk1, .slice gA2 gn2 gk2, .slice gA3 gn3 gk3] 36)).size)
      have P_8 := Blk4.below (by exact (P_7.alloc (.cells #[.slice gA0 gn0 gk0, .slice gA1 gn1 gk1, .slice gA2 gn2 gk2, .slice gA3 gn3 gk3] 36))) hb8
      obtain ⟨cP_8_0, cP_8_1, cP_8_2, cP_8_3, _⟩ := P_8.cells
      have lP_8 := P_8.lt
      have H3_8 := Cv.below (by exact (H3_7.alloc (.cells #[.slice gA0 gn0 gk0, .slice gA1 gn1 gk1, .slice gA2 gn2 gk2, .slice gA3 gn3 gk3] 36))) hb8
      have R_8 := Blk4.below (by exact (R_7.alloc (.cells #[.slice gA0 gn0 gk0, .slice gA1 gn1 gk1, .slice gA2 gn2 gk2, .slice gA3 gn3 gk3] 36))) hb8
      obtain ⟨cR_8_0, cR_8_1, cR_8_2, cR_8_3, _⟩ := R_8.cells
      have lR_8 := R_8.lt
      have H4_8 := Cv.below (by exact (H4_7.alloc (.cells #[.slice gA0 gn0 gk0, .slice gA1 gn1 gk1, .slice gA2 gn2 gk2, .slice gA3 gn3 gk3] 36))) hb8
      have X_8 := Blk4.below (by exact (X_7.alloc (.cells #[.slice gA0 gn0 gk0, .slice gA1 gn1 gk1, .slice gA2 gn2 gk2, .slice gA3 gn3 gk3] 36))) hb8
      obtain ⟨cX_8_0, cX_8_1, cX_8_2, cX_8_3, _⟩ := X_8.cells
      have lX_8 := X_8.lt
      have H5_8 := Cv.below (by exact (H5.alloc (.cells #[.slice gA0 gn0 gk0, .slice gA1 gn1 gk1, .slice gA2 gn2 gk2, .slice gA3 gn3 gk3] 36))) hb8
      have G_8 := Blk4.below (by exact (Blk4.new w7 (.slice gA0 gn0 gk0) (.slice gA1 gn1 gk1) (.slice gA2 gn2 gk2) (.slice gA3 gn3 gk3) 36)) hb8
      obtain ⟨cG_8_0, cG_8_1, cG_8_2, cG_8_3, _⟩ := G_8.cells
      have lG_8 := G_8.lt
      have AL_8 := OIn.below (by exact (AL_7.alloc BW7.size (.cells #[.slice gA0 gn0 gk0, .slice gA1 gn1 gk1, .slice gA2 gn2 gk2, .slice gA3 gn3 gk3] 36))) (hb8.mono (BW7.alloc BW7.size (.cells #[.slice gA0 gn0 gk0, .slice gA1 gn1 gk1, .slice gA2 gn2 gk2, .slice gA3 gn3 gk3] 36)).size)
      have U_8 := ORow.below (by exact (U_7.alloc (.cells #[.slice gA0 gn0 gk0, .slice gA1 gn1 gk1, .slice gA2 gn2 gk2, .slice gA3 gn3 gk3] 36))) hb8
      go_wp2_with fail
      go_region_held3 (fun w' => w'.cell? ⟨w5.heap.size, 0, none⟩ = some (.slice xA0 xn0 xk0) ∧ w'.cell? ⟨w5.heap.size, 1, none⟩ = some (.slice xA1 xn1 xk1) ∧ w'.cell? ⟨w5.heap.size, 2, none⟩ = some (.slice xA2 xn2 xk2) ∧ w'.cell? ⟨w5.heap.size, 3, none⟩ = some (.slice xA3 xn3 xk3) ∧ w'.cell? ⟨w.heap.size, 0, none⟩ = some (.slice A0 C.h.l.length c0) ∧ w'.cell? ⟨w.heap.size, 1, none⟩ = some (.slice A1 C.h.r.length c1) ∧ w'.cell? ⟨w.heap.size, 2, none⟩ = some (.slice A2 C.h.t.length c2) ∧ w'.cell? ⟨w.heap.size, 3, none⟩ = some (.slice A3 C.c.length c3))
        (((try dsimp only); (repeat' apply And.intro) <;> (with_reducible (first | exact cP_10_3 | exact cP_10_2 | exact cP_10_1 | exact cP_10_0 | exact cX_10_3 | exact cX_10_2 | exact cX_10_1 | exact cX_10_0 | exact cP_9_3 | exact cP_9_2 | exact cP_9_1 | exact cP_9_0 | exact cX_9_3 | exact cX_9_2 | exact cX_9_1 | exact cX_9_0 | exact cellD cP_8_3 | exact cellD cP_8_2 | exact cellD cP_8_1 | exact cellD cP_8_0 | exact cellD cX_8_3 | exact cellD cX_8_2 | exact cellD cX_8_1 | exact cellD cX_8_0 | exact cP_8_3 | exact cP_8_2 | exact cP_8_1 | exact cP_8_0 | exact cX_8_3 | exact cX_8_2 | exact cX_8_1 | exact cX_8_0))))
        (first
          | (go_at_call 13; (with_reducible refine (T _ (AC_8.drew) (Below.drew BW8).size).mono ?_); rintro e w9 ⟨v7, rfl, HN7, hb9⟩; have BW9 : Below w.heap.size w w9 := (Below.drew BW8).trans (hb9.mono (Below.drew BW8).size); have zz9 : w8.heap.size ≤ w9.heap.size := hb9.size; have AC_9 := CArg.below (by exact (AC_8.drew)) (hb9.mono (Below.drew BW8).size); have P_9 := Blk4.below (by exact (P_8.drew)) hb9; obtain ⟨cP_9_0, cP_9_1, cP_9_2, cP_9_3, _⟩ := P_9.cells; have lP_9 := P_9.lt; have H3_9 := Cv.below (by exact (H3_8.drew)) hb9; have R_9 := Blk4.below (by exact (R_8.drew)) hb9; obtain ⟨cR_9_0, cR_9_1, cR_9_2, cR_9_3, _⟩ := R_9.cells; have lR_9 := R_9.lt; have H4_9 := Cv.below (by exact (H4_8.drew)) hb9; have X_9 := Blk4.below (by exact (X_8.drew)) hb9; obtain ⟨cX_9_0, cX_9_1, cX_9_2, cX_9_3, _⟩ := X_9.cells; have lX_9 := X_9.lt; have H5_9 := Cv.below (by exact (H5_8.drew)) hb9; have G_9 := Blk4.below (by exact (G_8.drew)) hb9; obtain ⟨cG_9_0, cG_9_1, cG_9_2, cG_9_3, _⟩ := G_9.cells; have lG_9 := G_9.lt; have AL_9 := OIn.below (by exact (AL_8.drew)) (hb9.mono (Below.drew BW8).size); have U_9 := ORow.below (by exact (U_8.drew)) hb9)
          | (go_at_call 15; (with_reducible refine (eqColored_same _ _ _ _ _ _ H4_9 HN7).mono ?_); rintro e w10 ⟨rfl, hb10⟩; have BW10 : Below w.heap.size w w10 := BW9.trans (hb10.mono BW9.size); have zz10 : w9.heap.size ≤ w10.heap.size := hb10.size; have AC_10 := CArg.below (by exact AC_9) (hb10.mono BW9.size); have P_10 := Blk4.below (by exact P_9) hb10; obtain ⟨cP_10_0, cP_10_1, cP_10_2, cP_10_3, _⟩ := P_10.cells; have lP_10 := P_10.lt; have H3_10 := Cv.below (by exact H3_9) hb10; have R_10 := Blk4.below (by exact R_9) hb10; obtain ⟨cR_10_0, cR_10_1, cR_10_2, cR_10_3, _⟩ := R_10.cells; have lR_10 := R_10.lt; have H4_10 := Cv.below (by exact H4_9) hb10; have X_10 := Blk4.below (by exact X_9) hb10; obtain ⟨cX_10_0, cX_10_1, cX_10_2, cX_10_3, _⟩ := X_10.cells; have lX_10 := X_10.lt; have H5_10 := Cv.below (by exact H5_9) hb10; have G_10 := Blk4.below (by exact G_9) hb10; obtain ⟨cG_10_0, cG_10_1, cG_10_2, cG_10_3, _⟩ := G_10.cells; have lG_10 := G_10.lt; have HN7_10 := Cv.below (by exact HN7) hb10; have AL_10 := OIn.below (by exact AL_9) (hb10.mono BW9.size); have U_10 := ORow.below (by exact U_9) hb10))
      rename_i hHeld1
      clear hHeld1
      go_wp2_with fail
      refine (TO _ AL_10 BW10.size).mono ?_; rintro e w11 ⟨AU9, kU9, rfl, U9, hb11⟩
      have BW11 : Below w.heap.size w w11 := BW10.trans (hb11.mono BW10.size)
      have zz11 : w10.heap.size ≤ w11.heap.size := hb11.size
      have AC_11 := CArg.below (by exact AC_10) (hb11.mono BW10.size)
      have P_11 := Blk4.below (by exact P_10) hb11
      obtain ⟨cP_11_0, cP_11_1, cP_11_2, cP_11_3, _⟩ := P_11.cells
      have lP_11 := P_11.lt
      have H3_11 := Cv.below (by exact H3_10) hb11
      have R_11 := Blk4.below (by exact R_10) hb11
      obtain ⟨cR_11_0, cR_11_1, cR_11_2, cR_11_3, _⟩ := R_11.cells
      have lR_11 := R_11.lt
      have H4_11 := Cv.below (by exact H4_10) hb11
      have X_11 := Blk4.below (by exact X_10) hb11
      obtain ⟨cX_11_0, cX_11_1, cX_11_2, cX_11_3, _⟩ := X_11.cells
      have lX_11 := X_11.lt
      have H5_11 := Cv.below (by exact H5_10) hb11
      have G_11 := Blk4.below (by exact G_10) hb11
      obtain ⟨cG_11_0, cG_11_1, cG_11_2, cG_11_3, _⟩ := G_11.cells
      have lG_11 := G_11.lt
      have AL_11 := OIn.below (by exact AL_10) (hb11.mono BW10.size)
      have U_11 := ORow.below (by exact U_10) hb11
      have U9o := U9
      go_wp2_with fail
      refine (EO _ _ _ _ _ _ _ U_11 U9).mono ?_; rintro e w12 ⟨rfl, hb12⟩
      have BW12 : Below w.heap.size w w12 := BW11.trans (hb12.mono BW11.size)
      have zz12 : w11.heap.size ≤ w12.heap.size := hb12.size
      have AC_12 := CArg.below (by exact AC_11) (hb12.mono BW11.size)
      have P_12 := Blk4.below (by exact P_11) hb12
      obtain ⟨cP_12_0, cP_12_1, cP_12_2, cP_12_3, _⟩ := P_12.cells
      have lP_12 := P_12.lt
      have H3_12 := Cv.below (by exact H3_11) hb12
      have R_12 := Blk4.below (by exact R_11) hb12
      obtain ⟨cR_12_0, cR_12_1, cR_12_2, cR_12_3, _⟩ := R_12.cells
      have lR_12 := R_12.lt
      have H4_12 := Cv.below (by exact H4_11) hb12
      have X_12 := Blk4.below (by exact X_11) hb12
      obtain ⟨cX_12_0, cX_12_1, cX_12_2, cX_12_3, _⟩ := X_12.cells
      have lX_12 := X_12.lt
      have H5_12 := Cv.below (by exact H5_11) hb12
      have G_12 := Blk4.below (by exact G_11) hb12
      obtain ⟨cG_12_0, cG_12_1, cG_12_2, cG_12_3, _⟩ := G_12.cells
      have lG_12 := G_12.lt
      have AL_12 := OIn.below (by exact AL_11) (hb12.mono BW11.size)
      have U_12 := ORow.below (by exact U_11) hb12
      have U9_12 := ORow.below (by exact U9) hb12
      go_wp2_with fail
      refine (MX _ _ _ H4_12 (by omega)).mono ?_; rintro e w13 ⟨rfl, HM4, hb13, fr13⟩
      have BW13 : Below w.heap.size w w13 := BW12.trans (hb13.mono (by omega))
      have zz13 : w12.heap.size ≤ w13.heap.size := hb13.size
      have AC_13 := CArg.below AC_12 (hb13.mono (by omega))
      have P_13 := Blk4.frame P_12 fr13 (notC_old H4o (by omega))
      obtain ⟨cP_13_0, cP_13_1, cP_13_2, cP_13_3, _⟩ := P_13.cells
      have lP_13 := P_13.lt
      have H3_13 := Cv.keptFar H3_12 hb13 H3o (by omega)
      have R_13 := Blk4.frame R_12 fr13 (notC_old H4o (by omega))
      obtain ⟨cR_13_0, cR_13_1, cR_13_2, cR_13_3, _⟩ := R_13.cells
      have lR_13 := R_13.lt
      have X_13 := Blk4.frame X_12 fr13 (notC_new H4o (by omega))
      obtain ⟨cX_13_0, cX_13_1, cX_13_2, cX_13_3, _⟩ := X_13.cells
      have lX_13 := X_13.lt
      have H5_13 := Cv.keptC H5_12 fr13 (fun b h1 _ => notC_new H4o (by omega))
      have G_13 := Blk4.frame G_12 fr13 (notC_new H4o (by omega))
      obtain ⟨cG_13_0, cG_13_1, cG_13_2, cG_13_3, _⟩ := G_13.cells
      have lG_13 := G_13.lt
      have AL_13 := OIn.below AL_12 (hb13.mono (by omega))
      have U_13 := ORow.keptC U_12 fr13 (fun b e => notC_new H4o (by have := (Uo.lt b e).1; omega))
      go_wp2_with fail
      refine (MO _ _ _ _ U_13).mono ?_; rintro e w14 ⟨rfl, hb14, hzhb14⟩
      have zz14 : w13.heap.size ≤ w14.heap.size := hb14.size
      have BU := belowRowP hb14 (lo := w5.heap.size + 1) (by omega) (fun k e => (Uo.lt k e).1)
      have BW14 : Below w.heap.size w w14 := BW13.trans (BU.mono (by omega))
      have AC_14 := CArg.below AC_13 (BU.mono (by omega))
      have AL_14 := OIn.below AL_13 (BU.mono (by omega))
      have P_14 := Blk4.keptR P_13 hb14 (fun e => by have := Uo.lt _ e.symm; omega)
      obtain ⟨cP_14_0, cP_14_1, cP_14_2, cP_14_3, _⟩ := P_14.cells
      have lP_14 := P_14.lt
      have H3_14 := Cv.keptFar H3_13 BU H3o (by omega)
      have R_14 := Blk4.keptR R_13 hb14 (fun e => by have := Uo.lt _ e.symm; omega)
      obtain ⟨cR_14_0, cR_14_1, cR_14_2, cR_14_3, _⟩ := R_14.cells
      have lR_14 := R_14.lt
      have H5_14 := Cv.keptO H5_13 hb14 Uo (by omega)
      have G_14 := Blk4.keptR G_13 hb14 (fun e => by have := Uo.lt _ e.symm; omega)
      obtain ⟨cG_14_0, cG_14_1, cG_14_2, cG_14_3, _⟩ := G_14.cells
      have lG_14 := G_14.lt
      go_wp2_with fail
      refine (eqColored_same _ _ _ _ _ _ H5_14 H3_14).mono ?_; rintro e w15 ⟨rfl, hb15⟩
      have BW15 : Below w.heap.size w w15 := BW14.trans (hb15.mono BW14.size)
      have zz15 : w14.heap.size ≤ w15.heap.size := hb15.size
      have AC_15 := CArg.below (by exact AC_14) (hb15.mono BW14.size)
      have P_15 := Blk4.below (by exact P_14) hb15
      obtain ⟨cP_15_0, cP_15_1, cP_15_2, cP_15_3, _⟩ := P_15.cells
      have lP_15 := P_15.lt
      have H3_15 := Cv.below (by exact H3_14) hb15
      have R_15 := Blk4.below (by exact R_14) hb15
      obtain ⟨cR_15_0, cR_15_1, cR_15_2, cR_15_3, _⟩ := R_15.cells
      have lR_15 := R_15.lt
      have H5_15 := Cv.below (by exact H5_14) hb15
      have G_15 := Blk4.below (by exact G_14) hb15
      obtain ⟨cG_15_0, cG_15_1, cG_15_2, cG_15_3, _⟩ := G_15.cells
      have lG_15 := G_15.lt
      have AL_15 := OIn.below (by exact AL_14) (hb15.mono BW14.size)
      go_wp2_with fail
      refine (MG _ _ _ H5_15 (by omega)).mono ?_; rintro e w16 ⟨rfl, HM5, hb16, fr16⟩
      have BW16 : Below w.heap.size w w16 := BW15.trans (hb16.mono (by omega))
      have zz16 : w15.heap.size ≤ w16.heap.size := hb16.size
      have AC_16 := CArg.below AC_15 (hb16.mono (by omega))
      have P_16 := Blk4.frame P_15 fr16 (notC_old H5o (by omega))
      obtain ⟨cP_16_0, cP_16_1, cP_16_2, cP_16_3, _⟩ := P_16.cells
      have lP_16 := P_16.lt
      have H3_16 := Cv.keptFar H3_15 hb16 H3o (by omega)
      have R_16 := Blk4.frame R_15 fr16 (notC_old H5o (by omega))
      obtain ⟨cR_16_0, cR_16_1, cR_16_2, cR_16_3, _⟩ := R_16.cells
      have lR_16 := R_16.lt
      have G_16 := Blk4.frame G_15 fr16 (notC_new H5o (by omega))
      obtain ⟨cG_16_0, cG_16_1, cG_16_2, cG_16_3, _⟩ := G_16.cells
      have lG_16 := G_16.lt
      have AL_16 := OIn.below AL_15 (hb16.mono (by omega))
      go_wp2_with fail
      refine (QG _ _ _ HM5).mono ?_; rintro e w17 ⟨rfl, hb17⟩
      have BW17 : Below w.heap.size w w17 := BW16.trans (hb17.mono BW16.size)
      have zz17 : w16.heap.size ≤ w17.heap.size := hb17.size
      have AC_17 := CArg.below (by exact AC_16) (hb17.mono BW16.size)
      have P_17 := Blk4.below (by exact P_16) hb17
      obtain ⟨cP_17_0, cP_17_1, cP_17_2, cP_17_3, _⟩ := P_17.cells
      have lP_17 := P_17.lt
      have H3_17 := Cv.below (by exact H3_16) hb17
      have R_17 := Blk4.below (by exact R_16) hb17
      obtain ⟨cR_17_0, cR_17_1, cR_17_2, cR_17_3, _⟩ := R_17.cells
      have lR_17 := R_17.lt
      have H5_17 := Cv.below (by exact HM5) hb17
      have G_17 := Blk4.below (by exact G_16) hb17
      obtain ⟨cG_17_0, cG_17_1, cG_17_2, cG_17_3, _⟩ := G_17.cells
      have lG_17 := G_17.lt
      have AL_17 := OIn.below (by exact AL_16) (hb17.mono BW16.size)
      go_wp2_with fail
      refine (T _ AC_17 BW17.size).mono ?_; rintro e w18 ⟨v, rfl, H18, hb18⟩
      have BW18 : Below w.heap.size w w18 := BW17.trans (hb18.mono BW17.size)
      have zz18 : w17.heap.size ≤ w18.heap.size := hb18.size
      have AC_18 := CArg.below (by exact AC_17) (hb18.mono BW17.size)
      have P_18 := Blk4.below (by exact P_17) hb18
      obtain ⟨cP_18_0, cP_18_1, cP_18_2, cP_18_3, _⟩ := P_18.cells
      have lP_18 := P_18.lt
      have H3_18 := Cv.below (by exact H3_17) hb18
      have R_18 := Blk4.below (by exact R_17) hb18
      obtain ⟨cR_18_0, cR_18_1, cR_18_2, cR_18_3, _⟩ := R_18.cells
      have lR_18 := R_18.lt
      have H5_18 := Cv.below (by exact H5_17) hb18
      have G_18 := Blk4.below (by exact G_17) hb18
      obtain ⟨cG_18_0, cG_18_1, cG_18_2, cG_18_3, _⟩ := G_18.cells
      have lG_18 := G_18.lt
      have AL_18 := OIn.below (by exact AL_17) (hb18.mono BW17.size)
      have H18o := H18
      go_wp2_with fail
      refine (TO _ AL_18 BW18.size).mono ?_; rintro e w19 ⟨AU19, kU19, rfl, U19, hb19⟩
      have BW19 : Below w.heap.size w w19 := BW18.trans (hb19.mono BW18.size)
      have zz19 : w18.heap.size ≤ w19.heap.size := hb19.size
      have AC_19 := CArg.below (by exact AC_18) (hb19.mono BW18.size)
      have P_19 := Blk4.below (by exact P_18) hb19
      obtain ⟨cP_19_0, cP_19_1, cP_19_2, cP_19_3, _⟩ := P_19.cells
      have lP_19 := P_19.lt
      have H3_19 := Cv.below (by exact H3_18) hb19
      have R_19 := Blk4.below (by exact R_18) hb19
      obtain ⟨cR_19_0, cR_19_1, cR_19_2, cR_19_3, _⟩ := R_19.cells
      have lR_19 := R_19.lt
      have H5_19 := Cv.below (by exact H5_18) hb19
      have G_19 := Blk4.below (by exact G_18) hb19
      obtain ⟨cG_19_0, cG_19_1, cG_19_2, cG_19_3, _⟩ := G_19.cells
      have lG_19 := G_19.lt
      have H18_19 := Cv.below (by exact H18) hb19
      have AL_19 := OIn.below (by exact AL_18) (hb19.mono BW18.size)
      have U19o := U19
      go_wp2_with fail
      refine (I _ _ _ _ _ H18_19 U19).mono ?_; rintro e w20 ⟨v, rfl, H20, hb20⟩
      have BW20 : Below w.heap.size w w20 := BW19.trans (hb20.mono BW19.size)
      have zz20 : w19.heap.size ≤ w20.heap.size := hb20.size
      have AC_20 := CArg.below (by exact AC_19) (hb20.mono BW19.size)
      have P_20 := Blk4.below (by exact P_19) hb20
      obtain ⟨cP_20_0, cP_20_1, cP_20_2, cP_20_3, _⟩ := P_20.cells
      have lP_20 := P_20.lt
      have H3_20 := Cv.below (by exact H3_19) hb20
      have R_20 := Blk4.below (by exact R_19) hb20
      obtain ⟨cR_20_0, cR_20_1, cR_20_2, cR_20_3, _⟩ := R_20.cells
      have lR_20 := R_20.lt
      have H5_20 := Cv.below (by exact H5_19) hb20
      have G_20 := Blk4.below (by exact G_19) hb20
      obtain ⟨cG_20_0, cG_20_1, cG_20_2, cG_20_3, _⟩ := G_20.cells
      have lG_20 := G_20.lt
      have H18_20 := Cv.below (by exact H18_19) hb20
      have AL_20 := OIn.below (by exact AL_19) (hb20.mono BW19.size)
      have U19_20 := ORow.below (by exact U19) hb20
      have H20o := H20
      obtain ⟨kA0, kn0, kk0, kA1, kn1, kk1, kA2, kn2, kk2, kA3, kn3, kk3, rfl, _⟩ := Cv.open_ H20
      go_wp2_with fail
      refine (eqColored_same _ _ _ _ _ _ (H20.alloc (.cells #[.slice kA0 kn0 kk0, .slice kA1 kn1 kk1, .slice kA2 kn2 kk2, .slice kA3 kn3 kk3] 36)) (H3_20.alloc (.cells #[.slice kA0 kn0 kk0, .slice kA1 kn1 kk1, .slice kA2 kn2 kk2, .slice kA3 kn3 kk3] 36))).mono ?_; rintro e w21 ⟨rfl, hb21⟩
      have BW21 : Below w.heap.size w w21 := (BW20.alloc BW20.size (.cells #[.slice kA0 kn0 kk0, .slice kA1 kn1 kk1, .slice kA2 kn2 kk2, .slice kA3 kn3 kk3] 36)).trans (hb21.mono (BW20.alloc BW20.size (.cells #[.slice kA0 kn0 kk0, .slice kA1 kn1 kk1, .slice kA2 kn2 kk2, .slice kA3 kn3 kk3] 36)).size)
      have zz21 : w20.heap.size + 1 ≤ w21.heap.size := by have := hb21.size; simp at this; omega
      have AC_21 := CArg.below (by exact (AC_20.alloc BW20.size (.cells #[.slice kA0 kn0 kk0, .slice kA1 kn1 kk1, .slice kA2 kn2 kk2, .slice kA3 kn3 kk3] 36))) (hb21.mono (BW20.alloc BW20.size (.cells #[.slice kA0 kn0 kk0, .slice kA1 kn1 kk1, .slice kA2 kn2 kk2, .slice kA3 kn3 kk3] 36)).size)
      have H3_21 := Cv.below (by exact (H3_20.alloc (.cells #[.slice kA0 kn0 kk0, .slice kA1 kn1 kk1, .slice kA2 kn2 kk2, .slice kA3 kn3 kk3] 36))) hb21
      have R_21 := Blk4.below (by exact (R_20.alloc (.cells #[.slice kA0 kn0 kk0, .slice kA1 kn1 kk1, .slice kA2 kn2 kk2, .slice kA3 kn3 kk3] 36))) hb21
      obtain ⟨cR_21_0, cR_21_1, cR_21_2, cR_21_3, _⟩ := R_21.cells
      have lR_21 := R_21.lt
      have H5_21 := Cv.below (by exact (H5_20.alloc (.cells #[.slice kA0 kn0 kk0, .slice kA1 kn1 kk1, .slice kA2 kn2 kk2, .slice kA3 kn3 kk3] 36))) hb21
      have G_21 := Blk4.below (by exact (G_20.alloc (.cells #[.slice kA0 kn0 kk0, .slice kA1 kn1 kk1, .slice kA2 kn2 kk2, .slice kA3 kn3 kk3] 36))) hb21
      obtain ⟨cG_21_0, cG_21_1, cG_21_2, cG_21_3, _⟩ := G_21.cells
      have lG_21 := G_21.lt
      have H20_21 := Cv.below (by exact (H20.alloc (.cells #[.slice kA0 kn0 kk0, .slice kA1 kn1 kk1, .slice kA2 kn2 kk2, .slice kA3 kn3 kk3] 36))) hb21
      have K_21 := Blk4.below (by exact (Blk4.new w20 (.slice kA0 kn0 kk0) (.slice kA1 kn1 kk1) (.slice kA2 kn2 kk2) (.slice kA3 kn3 kk3) 36)) hb21
      obtain ⟨cK_21_0, cK_21_1, cK_21_2, cK_21_3, _⟩ := K_21.cells
      have lK_21 := K_21.lt
      have AL_21 := OIn.below (by exact (AL_20.alloc BW20.size (.cells #[.slice kA0 kn0 kk0, .slice kA1 kn1 kk1, .slice kA2 kn2 kk2, .slice kA3 kn3 kk3] 36))) (hb21.mono (BW20.alloc BW20.size (.cells #[.slice kA0 kn0 kk0, .slice kA1 kn1 kk1, .slice kA2 kn2 kk2, .slice kA3 kn3 kk3] 36)).size)
      go_wp2_with fail
      refine (QG _ _ _ H5_21).mono ?_; rintro e w22 ⟨rfl, hb22⟩
      have BW22 : Below w.heap.size w w22 := BW21.trans (hb22.mono BW21.size)
      have zz22 : w21.heap.size ≤ w22.heap.size := hb22.size
      have AC_22 := CArg.below (by exact AC_21) (hb22.mono BW21.size)
      have H3_22 := Cv.below (by exact H3_21) hb22
      have R_22 := Blk4.below (by exact R_21) hb22
      obtain ⟨cR_22_0, cR_22_1, cR_22_2, cR_22_3, _⟩ := R_22.cells
      have lR_22 := R_22.lt
      have H5_22 := Cv.below (by exact H5_21) hb22
      have G_22 := Blk4.below (by exact G_21) hb22
      obtain ⟨cG_22_0, cG_22_1, cG_22_2, cG_22_3, _⟩ := G_22.cells
      have lG_22 := G_22.lt
      have H20_22 := Cv.below (by exact H20_21) hb22
      have K_22 := Blk4.below (by exact K_21) hb22
      obtain ⟨cK_22_0, cK_22_1, cK_22_2, cK_22_3, _⟩ := K_22.cells
      have lK_22 := K_22.lt
      have AL_22 := OIn.below (by exact AL_21) (hb22.mono BW21.size)
      go_wp2_with fail
      go_ret
      exact ⟨rfl, BW22⟩
    · have hszo : szV nl sz = -1 := by unfold szV; rw [if_neg hno]
      rw [hszo] at ZO
      clear hszo hno s1
      go_enter Try.func5, Try.ntmps5
      go_wp2_with fail
      refine SZ.mono ?_; rintro e w1 ⟨rfl, hb1⟩
      go_wp2_with fail
      refine (ZO _).mono ?_; rintro e w' ⟨rfl, rfl⟩
      go_wp2_with fail
      go_ret
      exact ⟨rfl, ((Below.refl _ _).alloc (Nat.le_refl _) _).trans (hb1.mono (by simp))⟩
  · have hszv : szV (C.h.l.length + C.h.r.length + C.h.t.length + C.c.length) 1048576 = -1 := by unfold szV; rw [if_neg hsz]
    rw [hszv] at SZ
    clear hsz hszv
    go_enter Try.func5, Try.ntmps5
    go_wp2_with fail
    refine SZ.mono ?_; rintro e w1 ⟨rfl, hb1⟩
    go_wp2_with fail
    go_ret
    exact ⟨rfl, ((Below.refl _ _).alloc (Nat.le_refl _) _).trans (hb1.mono (by simp))⟩
end Go.Proofs.Ytlabljanddjleaa
