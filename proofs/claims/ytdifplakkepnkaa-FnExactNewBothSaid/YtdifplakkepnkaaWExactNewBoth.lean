/- The exact law of NewBoth, walked. -/
import Derived.Test.YtdifplakkepnkaaMarkB
import Derived.Test.YtdifplakkepnkaaNewB
import Derived.Test.YtdifplakkepnkaaMarkN
namespace Go.Proofs.Ytdifplakkepnkaa
open Go.RowKit

set_option maxRecDepth 100000 in
set_option maxHeartbeats 6000000 in
theorem lawExactNewBoth_walk (w : World) (v : Value) (C : Cp) (hv : CIn w v C) (u : Value) (os : List Opv) (hu : OsIn w u os) : Calls Try.prog 4 #[v, u] w (LawTrue w) := by
  obtain ⟨ha, m0, m1, m2, m3⟩ := hv
  have ha2 := ha
  obtain ⟨A0, c0, A1, c1, A2, c2, A3, c3, rfl, -⟩ := ha2
  obtain ⟨LA, lc, rfl, hL, hl63⟩ := hu
  obtain ⟨nl, hnl⟩ : ∃ nl, Hid (os.length = nl) := ⟨_, rfl⟩
  rw [hnl.out] at hL hl63 ⊢
  have SZ := szColored_any (w.alloc (.cells #[.slice A0 C.h.l.length c0, .slice A1 C.h.r.length c1, .slice A2 C.h.t.length c2, .slice A3 C.c.length c3] 44)) A0 A1 A2 A3 C.h.l.length c0 C.h.r.length c1 C.h.t.length c2 C.c.length c3 1048576 (by omega) (by omega) m0 m1 m2 m3
  have fin0 : Below w.heap.size w (w.alloc (.cells #[.slice A0 C.h.l.length c0, .slice A1 C.h.r.length c1, .slice A2 C.h.t.length c2, .slice A3 C.c.length c3] 44)) := B_al (Below.refl _ _) _
  by_cases hsz : ((C.h.l.length + C.h.r.length + C.h.t.length + C.c.length : Nat) : Int) ≤ 1048576
  · have hszv : szV (C.h.l.length + C.h.r.length + C.h.t.length + C.c.length) 1048576 = 1048576 - ((C.h.l.length + C.h.r.length + C.h.t.length + C.c.length : Nat) : Int) := by unfold szV; rw [if_pos hsz]
    rw [hszv] at SZ
    have b0 : C.h.l.length ≤ 1048576 := by omega
    have b1 : C.h.r.length ≤ 1048576 := by omega
    have b2 : C.h.t.length ≤ 1048576 := by omega
    have b3 : C.c.length ≤ 1048576 := by omega
    have s0 : ¬ (1048576 - ((C.h.l.length + C.h.r.length + C.h.t.length + C.c.length : Nat) : Int) < 0) := by omega
    have s1 : 1048576 - ((C.h.l.length + C.h.r.length + C.h.t.length + C.c.length : Nat) : Int) ≤ 1048576 := by omega
    generalize 1048576 - ((C.h.l.length + C.h.r.length + C.h.t.length + C.c.length : Nat) : Int) = sz at SZ s0 s1
    clear hszv hsz m0 m1 m2 m3
    have T := fun W (hW : CArg W w.heap.size (.agg #[.slice A0 C.h.l.length c0, .slice A1 C.h.r.length c1, .slice A2 C.h.t.length c2, .slice A3 C.c.length c3]) C) (hB : w.heap.size ≤ W.heap.size) => toColored_any W w.heap.size hB _ C hW b0 b1 b2 b3
    have ZO := fun W => szOpS_any W LA nl lc sz (by omega) s1 hl63
    by_cases hno : (nl : Int) ≤ sz
    · have hszo : szV nl sz = sz - nl := by unfold szV; rw [if_pos hno]
      rw [hszo] at ZO
      have s2 : ¬ (sz - (nl : Int) < 0) := by omega
      have b4 : os.length ≤ 1048576 := by rw [hnl.out]; omega
      have b4n : nl ≤ 1048576 := by omega
      generalize sz - (nl : Int) = sz2 at ZO s2
      clear hszo hno s1
      obtain ⟨N1, M1, n2, MX, MO⟩ := markOC C os b0 b1 b2 b3 b4
      have TO := fun W (h : OIn W w.heap.size LA nl os) (hs : w.heap.size ≤ W.heap.size) => toOpS_any W LA nl lc os (h.up hs) b4n
      have shr : ShortL ((newBo C os).getD Bp.zero) 1048576 := newBo_short C os
      have S := fun W lo lo2 v u hW hU => optB_of (specNewBoth_any W lo lo2 v u C os hW hU)
      have I := fun W lo lo2 v u hW hU => optB_of (implNewBoth_any W lo lo2 v u C os hW hU)
      have EO := fun W lo lo' A A' c c' h h' => eqOpS_same W lo lo' A A' c c' os (by omega) h h'
      unfold NewORow at TO
      rw [hnl.out] at EO MO TO
      generalize (newBo C os).isSome = ok at S I
      generalize (newBo C os).getD Bp.zero = Rg at S I shr
      obtain ⟨N2, n3, n4, MG, QG⟩ := markB1 Rg shr
      obtain ⟨rC, ⟨rp, rcc, ra⟩, ros, ri, rz⟩ := Rg
      have hne : (ok != ok) = false := by simp
      clear shr b4
      go_enter Try.func4, Try.ntmps4
      go_wp2_with fail
      refine SZ.mono ?_; rintro e w1 ⟨rfl, hb1⟩
      have BW1 : Below w.heap.size w w1 := B_th (B_al (Below.refl w.heap.size w) (.cells #[.slice A0 C.h.l.length c0, .slice A1 C.h.r.length c1, .slice A2 C.h.t.length c2, .slice A3 C.c.length c3] 44)) hb1
      have zz1 : w.heap.size + 1 ≤ w1.heap.size := by have := hb1.size; simp at this; omega
      have AC_1 := CArg.below (by exact (CArg.alloc ha (Below.refl w.heap.size w).size (.cells #[.slice A0 C.h.l.length c0, .slice A1 C.h.r.length c1, .slice A2 C.h.t.length c2, .slice A3 C.c.length c3] 44))) (hb1.mono (B_al (Below.refl w.heap.size w) (.cells #[.slice A0 C.h.l.length c0, .slice A1 C.h.r.length c1, .slice A2 C.h.t.length c2, .slice A3 C.c.length c3] 44)).size)
      have AL_1 := OIn.below (by exact (OIn.alloc hL (Below.refl w.heap.size w).size (.cells #[.slice A0 C.h.l.length c0, .slice A1 C.h.r.length c1, .slice A2 C.h.t.length c2, .slice A3 C.c.length c3] 44))) (hb1.mono (B_al (Below.refl w.heap.size w) (.cells #[.slice A0 C.h.l.length c0, .slice A1 C.h.r.length c1, .slice A2 C.h.t.length c2, .slice A3 C.c.length c3] 44)).size)
      have P_1 := Blk4.below (by exact (Blk4.new w (.slice A0 C.h.l.length c0) (.slice A1 C.h.r.length c1) (.slice A2 C.h.t.length c2) (.slice A3 C.c.length c3) 44)) hb1
      obtain ⟨cP_1_0, cP_1_1, cP_1_2, cP_1_3, _⟩ := P_1.cells
      have lP_1 := P_1.lt
      go_wp2_with fail
      refine (ZO _).mono ?_; rintro e w' ⟨rfl, rfl⟩
      go_wp2_with fail
      refine (T _ AC_1 BW1.size).mono ?_; rintro e w2 ⟨vH2, rfl, H2, hb2⟩
      have BW2 : Below w.heap.size w w2 := B_th BW1 hb2
      have zz2 : w1.heap.size ≤ w2.heap.size := hb2.size
      have AC_2 := CArg.below (by exact AC_1) (hb2.mono BW1.size)
      have AL_2 := OIn.below (by exact AL_1) (hb2.mono BW1.size)
      have P_2 := Blk4.below (by exact P_1) hb2
      obtain ⟨cP_2_0, cP_2_1, cP_2_2, cP_2_3, _⟩ := P_2.cells
      have lP_2 := P_2.lt
      clear AC_1 AL_1 P_1 cP_1_0 cP_1_1 cP_1_2 cP_1_3 lP_1
      have H2o := H2
      go_wp2_with fail
      refine (TO _ AL_2 BW2.size).mono ?_; rintro e w3 ⟨AU2, kU2, rfl, U2, hb3⟩
      have BW3 : Below w.heap.size w w3 := B_th BW2 hb3
      have zz3 : w2.heap.size ≤ w3.heap.size := hb3.size
      have AC_3 := CArg.below (by exact AC_2) (hb3.mono BW2.size)
      have AL_3 := OIn.below (by exact AL_2) (hb3.mono BW2.size)
      have P_3 := Blk4.below (by exact P_2) hb3
      obtain ⟨cP_3_0, cP_3_1, cP_3_2, cP_3_3, _⟩ := P_3.cells
      have lP_3 := P_3.lt
      have H2_3 := Cv.below (by exact H2) hb3
      clear AC_2 AL_2 P_2 cP_2_0 cP_2_1 cP_2_2 cP_2_3 lP_2
      have U2o := U2
      go_wp2_with fail
      refine (S _ _ _ _ _ H2_3 U2).mono ?_; rintro e w4 ⟨vRR, rfl, RR, hb4⟩
      have BW4 : Below w.heap.size w w4 := B_th BW3 hb4
      have zz4 : w3.heap.size ≤ w4.heap.size := hb4.size
      have AC_4 := CArg.below (by exact AC_3) (hb4.mono BW3.size)
      have AL_4 := OIn.below (by exact AL_3) (hb4.mono BW3.size)
      have P_4 := Blk4.below (by exact P_3) hb4
      obtain ⟨cP_4_0, cP_4_1, cP_4_2, cP_4_3, _⟩ := P_4.cells
      have lP_4 := P_4.lt
      have H2_4 := Cv.below (by exact H2_3) hb4
      have U2_4 := ORow.below (by exact U2) hb4
      clear AC_3 AL_3 P_3 cP_3_0 cP_3_1 cP_3_2 cP_3_3 lP_3 H2_3
      have RRo := RR
      obtain ⟨rA0, rn0, rk0, rA1, rn1, rk1, rA2, rn2, rk2, rA3, rn3, rk3, rA4, rn4, rk4, rA5, rn5, rk5, rfl⟩ := Bv.shape RR
      go_wp2_with fail
      refine (T _ (CArg.alloc AC_4 BW4.size (.cells #[.slice rA0 rn0 rk0, .slice rA1 rn1 rk1, .slice rA2 rn2 rk2, .slice rA3 rn3 rk3, .int .i64 rp, .slice rA4 rn4 rk4, .int .i64 ra, .slice rA5 rn5 rk5, .int .i64 ri, .bool rz] 34)) (B_al BW4 (.cells #[.slice rA0 rn0 rk0, .slice rA1 rn1 rk1, .slice rA2 rn2 rk2, .slice rA3 rn3 rk3, .int .i64 rp, .slice rA4 rn4 rk4, .int .i64 ra, .slice rA5 rn5 rk5, .int .i64 ri, .bool rz] 34)).size).mono ?_; rintro e w5 ⟨vH4, rfl, H4, hb5⟩
      have BW5 : Below w.heap.size w w5 := B_th (B_al BW4 (.cells #[.slice rA0 rn0 rk0, .slice rA1 rn1 rk1, .slice rA2 rn2 rk2, .slice rA3 rn3 rk3, .int .i64 rp, .slice rA4 rn4 rk4, .int .i64 ra, .slice rA5 rn5 rk5, .int .i64 ri, .bool rz] 34)) hb5
      have zz5 : w4.heap.size + 1 ≤ w5.heap.size := by have := hb5.size; simp at this; omega
      have AC_5 := CArg.below (by exact (CArg.alloc AC_4 BW4.size (.cells #[.slice rA0 rn0 rk0, .slice rA1 rn1 rk1, .slice rA2 rn2 rk2, .slice rA3 rn3 rk3, .int .i64 rp, .slice rA4 rn4 rk4, .int .i64 ra, .slice rA5 rn5 rk5, .int .i64 ri, .bool rz] 34))) (hb5.mono (B_al BW4 (.cells #[.slice rA0 rn0 rk0, .slice rA1 rn1 rk1, .slice rA2 rn2 rk2, .slice rA3 rn3 rk3, .int .i64 rp, .slice rA4 rn4 rk4, .int .i64 ra, .slice rA5 rn5 rk5, .int .i64 ri, .bool rz] 34)).size)
      have AL_5 := OIn.below (by exact (OIn.alloc AL_4 BW4.size (.cells #[.slice rA0 rn0 rk0, .slice rA1 rn1 rk1, .slice rA2 rn2 rk2, .slice rA3 rn3 rk3, .int .i64 rp, .slice rA4 rn4 rk4, .int .i64 ra, .slice rA5 rn5 rk5, .int .i64 ri, .bool rz] 34))) (hb5.mono (B_al BW4 (.cells #[.slice rA0 rn0 rk0, .slice rA1 rn1 rk1, .slice rA2 rn2 rk2, .slice rA3 rn3 rk3, .int .i64 rp, .slice rA4 rn4 rk4, .int .i64 ra, .slice rA5 rn5 rk5, .int .i64 ri, .bool rz] 34)).size)
      have P_5 := Blk4.below (by exact (P_4.alloc (.cells #[.slice rA0 rn0 rk0, .slice rA1 rn1 rk1, .slice rA2 rn2 rk2, .slice rA3 rn3 rk3, .int .i64 rp, .slice rA4 rn4 rk4, .int .i64 ra, .slice rA5 rn5 rk5, .int .i64 ri, .bool rz] 34))) hb5
      obtain ⟨cP_5_0, cP_5_1, cP_5_2, cP_5_3, _⟩ := P_5.cells
      have lP_5 := P_5.lt
      have RR_5 := Bv.below (by exact (RR.alloc (.cells #[.slice rA0 rn0 rk0, .slice rA1 rn1 rk1, .slice rA2 rn2 rk2, .slice rA3 rn3 rk3, .int .i64 rp, .slice rA4 rn4 rk4, .int .i64 ra, .slice rA5 rn5 rk5, .int .i64 ri, .bool rz] 34))) hb5
      have R_5 := Blk10.below (by exact (Blk10.new w4 (.slice rA0 rn0 rk0) (.slice rA1 rn1 rk1) (.slice rA2 rn2 rk2) (.slice rA3 rn3 rk3) (.int .i64 rp) (.slice rA4 rn4 rk4) (.int .i64 ra) (.slice rA5 rn5 rk5) (.int .i64 ri) (.bool rz) 34)) hb5
      obtain ⟨⟨cR_5_0, cR_5_1, cR_5_2, cR_5_3, cR_5_4, cR_5_5, cR_5_6, cR_5_7, cR_5_8, cR_5_9⟩, -⟩ := R_5.cells
      have lR_5 := R_5.lt
      replace H4 := Cv.mono H4 (lo' := w4.heap.size + 1) (by simp)
      have H4o := H4
      obtain ⟨xA0, xn0, xk0, xA1, xn1, xk1, xA2, xn2, xk2, xA3, xn3, xk3, rfl, -⟩ := Cv.open_ H4
      go_wp2_with fail
      refine (TO _ (OIn.alloc AL_5 BW5.size (.cells #[.slice xA0 xn0 xk0, .slice xA1 xn1 xk1, .slice xA2 xn2 xk2, .slice xA3 xn3 xk3] 27)) (B_al BW5 (.cells #[.slice xA0 xn0 xk0, .slice xA1 xn1 xk1, .slice xA2 xn2 xk2, .slice xA3 xn3 xk3] 27)).size).mono ?_; rintro e w6 ⟨AU, kU, rfl, U, hb6⟩
      have BW6 : Below w.heap.size w w6 := B_th (B_al BW5 (.cells #[.slice xA0 xn0 xk0, .slice xA1 xn1 xk1, .slice xA2 xn2 xk2, .slice xA3 xn3 xk3] 27)) hb6
      have zz6 : w5.heap.size + 1 ≤ w6.heap.size := by have := hb6.size; simp at this; omega
      have AC_6 := CArg.below (by exact (CArg.alloc AC_5 BW5.size (.cells #[.slice xA0 xn0 xk0, .slice xA1 xn1 xk1, .slice xA2 xn2 xk2, .slice xA3 xn3 xk3] 27))) (hb6.mono (B_al BW5 (.cells #[.slice xA0 xn0 xk0, .slice xA1 xn1 xk1, .slice xA2 xn2 xk2, .slice xA3 xn3 xk3] 27)).size)
      have AL_6 := OIn.below (by exact (OIn.alloc AL_5 BW5.size (.cells #[.slice xA0 xn0 xk0, .slice xA1 xn1 xk1, .slice xA2 xn2 xk2, .slice xA3 xn3 xk3] 27))) (hb6.mono (B_al BW5 (.cells #[.slice xA0 xn0 xk0, .slice xA1 xn1 xk1, .slice xA2 xn2 xk2, .slice xA3 xn3 xk3] 27)).size)
      have P_6 := Blk4.below (by exact (P_5.alloc (.cells #[.slice xA0 xn0 xk0, .slice xA1 xn1 xk1, .slice xA2 xn2 xk2, .slice xA3 xn3 xk3] 27))) hb6
      obtain ⟨cP_6_0, cP_6_1, cP_6_2, cP_6_3, _⟩ := P_6.cells
      have lP_6 := P_6.lt
      have RR_6 := Bv.below (by exact (RR_5.alloc (.cells #[.slice xA0 xn0 xk0, .slice xA1 xn1 xk1, .slice xA2 xn2 xk2, .slice xA3 xn3 xk3] 27))) hb6
      have R_6 := Blk10.below (by exact (R_5.alloc (.cells #[.slice xA0 xn0 xk0, .slice xA1 xn1 xk1, .slice xA2 xn2 xk2, .slice xA3 xn3 xk3] 27))) hb6
      obtain ⟨⟨cR_6_0, cR_6_1, cR_6_2, cR_6_3, cR_6_4, cR_6_5, cR_6_6, cR_6_7, cR_6_8, cR_6_9⟩, -⟩ := R_6.cells
      have lR_6 := R_6.lt
      have H4_6 := Cv.below (by exact (H4.alloc (.cells #[.slice xA0 xn0 xk0, .slice xA1 xn1 xk1, .slice xA2 xn2 xk2, .slice xA3 xn3 xk3] 27))) hb6
      have X_6 := Blk4.below (by exact (Blk4.new w5 (.slice xA0 xn0 xk0) (.slice xA1 xn1 xk1) (.slice xA2 xn2 xk2) (.slice xA3 xn3 xk3) 27)) hb6
      obtain ⟨cX_6_0, cX_6_1, cX_6_2, cX_6_3, _⟩ := X_6.cells
      have lX_6 := X_6.lt
      replace U := ORow.mono U (lo' := w5.heap.size + 1) (by simp)
      have Uo := U
      go_wp2_with fail
      refine (I _ _ _ _ _ H4_6 U).mono ?_; rintro e w7 ⟨vRG, rfl, RG, hb7⟩
      have BW7 : Below w.heap.size w w7 := B_th BW6 hb7
      have zz7 : w6.heap.size ≤ w7.heap.size := hb7.size
      have AC_7 := CArg.below (by exact AC_6) (hb7.mono BW6.size)
      have AL_7 := OIn.below (by exact AL_6) (hb7.mono BW6.size)
      have P_7 := Blk4.below (by exact P_6) hb7
      obtain ⟨cP_7_0, cP_7_1, cP_7_2, cP_7_3, _⟩ := P_7.cells
      have lP_7 := P_7.lt
      have RR_7 := Bv.below (by exact RR_6) hb7
      have R_7 := Blk10.below (by exact R_6) hb7
      obtain ⟨⟨cR_7_0, cR_7_1, cR_7_2, cR_7_3, cR_7_4, cR_7_5, cR_7_6, cR_7_7, cR_7_8, cR_7_9⟩, -⟩ := R_7.cells
      have lR_7 := R_7.lt
      have H4_7 := Cv.below (by exact H4_6) hb7
      have X_7 := Blk4.below (by exact X_6) hb7
      obtain ⟨cX_7_0, cX_7_1, cX_7_2, cX_7_3, _⟩ := X_7.cells
      have lX_7 := X_7.lt
      have U_7 := ORow.below (by exact U) hb7
      clear AC_6 AL_6 P_6 cP_6_0 cP_6_1 cP_6_2 cP_6_3 lP_6 RR_6 R_6 cR_6_0 cR_6_1 cR_6_2 cR_6_3 cR_6_4 cR_6_5 cR_6_6 cR_6_7 cR_6_8 cR_6_9 lR_6 H4_6 X_6 cX_6_0 cX_6_1 cX_6_2 cX_6_3 lX_6
      have RGo := RG
      obtain ⟨gA0, gn0, gk0, gA1, gn1, gk1, gA2, gn2, gk2, gA3, gn3, gk3, gA4, gn4, gk4, gA5, gn5, gk5, rfl⟩ := Bv.shape RG
      go_wp2_with fail
      refine (eqBoth_same _ _ _ _ _ _ (RG.alloc (.cells #[.slice gA0 gn0 gk0, .slice gA1 gn1 gk1, .slice gA2 gn2 gk2, .slice gA3 gn3 gk3, .int .i64 rp, .slice gA4 gn4 gk4, .int .i64 ra, .slice gA5 gn5 gk5, .int .i64 ri, .bool rz] 34)) (RR_7.alloc (.cells #[.slice gA0 gn0 gk0, .slice gA1 gn1 gk1, .slice gA2 gn2 gk2, .slice gA3 gn3 gk3, .int .i64 rp, .slice gA4 gn4 gk4, .int .i64 ra, .slice gA5 gn5 gk5, .int .i64 ri, .bool rz] 34))).mono ?_; rintro e w8 ⟨rfl, hb8⟩
      have BW8 : Below w.heap.size w w8 := B_th (B_al BW7 (.cells #[.slice gA0 gn0 gk0, .slice gA1 gn1 gk1, .slice gA2 gn2 gk2, .slice gA3 gn3 gk3, .int .i64 rp, .slice gA4 gn4 gk4, .int .i64 ra, .slice gA5 gn5 gk5, .int .i64 ri, .bool rz] 34)) hb8
      have zz8 : w7.heap.size + 1 ≤ w8.heap.size := by have := hb8.size; simp at this; omega
      have AC_8 := CArg.below (by exact (CArg.alloc AC_7 BW7.size (.cells #[.slice gA0 gn0 gk0, .slice gA1 gn1 gk1, .slice gA2 gn2 gk2, .slice gA3 gn3 gk3, .int .i64 rp, .slice gA4 gn4 gk4, .int .i64 ra, .slice gA5 gn5 gk5, .int .i64 ri, .bool rz] 34))) (hb8.mono (B_al BW7 (.cells #[.slice gA0 gn0 gk0, .slice gA1 gn1 gk1, .slice gA2 gn2 gk2, .slice gA3 gn3 gk3, .int .i64 rp, .slice gA4 gn4 gk4, .int .i64 ra, .slice gA5 gn5 gk5, .int .i64 ri, .bool rz] 34)).size)
      have AL_8 := OIn.below (by exact (OIn.alloc AL_7 BW7.size (.cells #[.slice gA0 gn0 gk0, .slice gA1 gn1 gk1, .slice gA2 gn2 gk2, .slice gA3 gn3 gk3, .int .i64 rp, .slice gA4 gn4 gk4, .int .i64 ra, .slice gA5 gn5 gk5, .int .i64 ri, .bool rz] 34))) (hb8.mono (B_al BW7 (.cells #[.slice gA0 gn0 gk0, .slice gA1 gn1 gk1, .slice gA2 gn2 gk2, .slice gA3 gn3 gk3, .int .i64 rp, .slice gA4 gn4 gk4, .int .i64 ra, .slice gA5 gn5 gk5, .int .i64 ri, .bool rz] 34)).size)
      have P_8 := Blk4.below (by exact (P_7.alloc (.cells #[.slice gA0 gn0 gk0, .slice gA1 gn1 gk1, .slice gA2 gn2 gk2, .slice gA3 gn3 gk3, .int .i64 rp, .slice gA4 gn4 gk4, .int .i64 ra, .slice gA5 gn5 gk5, .int .i64 ri, .bool rz] 34))) hb8
      obtain ⟨cP_8_0, cP_8_1, cP_8_2, cP_8_3, _⟩ := P_8.cells
      have lP_8 := P_8.lt
      have RR_8 := Bv.below (by exact (RR_7.alloc (.cells #[.slice gA0 gn0 gk0, .slice gA1 gn1 gk1, .slice gA2 gn2 gk2, .slice gA3 gn3 gk3, .int .i64 rp, .slice gA4 gn4 gk4, .int .i64 ra, .slice gA5 gn5 gk5, .int .i64 ri, .bool rz] 34))) hb8
      have R_8 := Blk10.below (by exact (R_7.alloc (.cells #[.slice gA0 gn0 gk0, .slice gA1 gn1 gk1, .slice gA2 gn2 gk2, .slice gA3 gn3 gk3, .int .i64 rp, .slice gA4 gn4 gk4, .int .i64 ra, .slice gA5 gn5 gk5, .int .i64 ri, .bool rz] 34))) hb8
      obtain ⟨⟨cR_8_0, cR_8_1, cR_8_2, cR_8_3, cR_8_4, cR_8_5, cR_8_6, cR_8_7, cR_8_8, cR_8_9⟩, -⟩ := R_8.cells
      have lR_8 := R_8.lt
      have H4_8 := Cv.below (by exact (H4_7.alloc (.cells #[.slice gA0 gn0 gk0, .slice gA1 gn1 gk1, .slice gA2 gn2 gk2, .slice gA3 gn3 gk3, .int .i64 rp, .slice gA4 gn4 gk4, .int .i64 ra, .slice gA5 gn5 gk5, .int .i64 ri, .bool rz] 34))) hb8
      have X_8 := Blk4.below (by exact (X_7.alloc (.cells #[.slice gA0 gn0 gk0, .slice gA1 gn1 gk1, .slice gA2 gn2 gk2, .slice gA3 gn3 gk3, .int .i64 rp, .slice gA4 gn4 gk4, .int .i64 ra, .slice gA5 gn5 gk5, .int .i64 ri, .bool rz] 34))) hb8
      obtain ⟨cX_8_0, cX_8_1, cX_8_2, cX_8_3, _⟩ := X_8.cells
      have lX_8 := X_8.lt
      have U_8 := ORow.below (by exact (U_7.alloc (.cells #[.slice gA0 gn0 gk0, .slice gA1 gn1 gk1, .slice gA2 gn2 gk2, .slice gA3 gn3 gk3, .int .i64 rp, .slice gA4 gn4 gk4, .int .i64 ra, .slice gA5 gn5 gk5, .int .i64 ri, .bool rz] 34))) hb8
      have RG_8 := Bv.below (by exact (RG.alloc (.cells #[.slice gA0 gn0 gk0, .slice gA1 gn1 gk1, .slice gA2 gn2 gk2, .slice gA3 gn3 gk3, .int .i64 rp, .slice gA4 gn4 gk4, .int .i64 ra, .slice gA5 gn5 gk5, .int .i64 ri, .bool rz] 34))) hb8
      have G_8 := Blk10.below (by exact (Blk10.new w7 (.slice gA0 gn0 gk0) (.slice gA1 gn1 gk1) (.slice gA2 gn2 gk2) (.slice gA3 gn3 gk3) (.int .i64 rp) (.slice gA4 gn4 gk4) (.int .i64 ra) (.slice gA5 gn5 gk5) (.int .i64 ri) (.bool rz) 34)) hb8
      obtain ⟨⟨cG_8_0, cG_8_1, cG_8_2, cG_8_3, cG_8_4, cG_8_5, cG_8_6, cG_8_7, cG_8_8, cG_8_9⟩, -⟩ := G_8.cells
      have lG_8 := G_8.lt
      go_wp2_with fail
      have SOw10 : ∀ w' : World, Below w8.heap.size w8 w' → w'.cell? ⟨w5.heap.size, 0, none⟩ = some (.slice xA0 xn0 xk0) ∧ w'.cell? ⟨w5.heap.size, 1, none⟩ = some (.slice xA1 xn1 xk1) ∧ w'.cell? ⟨w5.heap.size, 2, none⟩ = some (.slice xA2 xn2 xk2) ∧ w'.cell? ⟨w5.heap.size, 3, none⟩ = some (.slice xA3 xn3 xk3) ∧ w'.cell? ⟨w.heap.size, 0, none⟩ = some (.slice A0 C.h.l.length c0) ∧ w'.cell? ⟨w.heap.size, 1, none⟩ = some (.slice A1 C.h.r.length c1) ∧ w'.cell? ⟨w.heap.size, 2, none⟩ = some (.slice A2 C.h.t.length c2) ∧ w'.cell? ⟨w.heap.size, 3, none⟩ = some (.slice A3 C.c.length c3) := fun w' hb => ⟨(Blk4.below X_8 hb).cells.1, (Blk4.below X_8 hb).cells.2.1, (Blk4.below X_8 hb).cells.2.2.1, (Blk4.below X_8 hb).cells.2.2.2.1, (Blk4.below P_8 hb).cells.1, (Blk4.below P_8 hb).cells.2.1, (Blk4.below P_8 hb).cells.2.2.1, (Blk4.below P_8 hb).cells.2.2.2.1⟩
      have TSw10 := fun V (hV : Below w8.heap.size w8 V) => T V (CArg.below AC_8 (hV.mono BW8.size)) (Nat.le_trans BW8.size hV.size)
      go_region_held3 (fun w' => w'.cell? ⟨w5.heap.size, 0, none⟩ = some (.slice xA0 xn0 xk0) ∧ w'.cell? ⟨w5.heap.size, 1, none⟩ = some (.slice xA1 xn1 xk1) ∧ w'.cell? ⟨w5.heap.size, 2, none⟩ = some (.slice xA2 xn2 xk2) ∧ w'.cell? ⟨w5.heap.size, 3, none⟩ = some (.slice xA3 xn3 xk3) ∧ w'.cell? ⟨w.heap.size, 0, none⟩ = some (.slice A0 C.h.l.length c0) ∧ w'.cell? ⟨w.heap.size, 1, none⟩ = some (.slice A1 C.h.r.length c1) ∧ w'.cell? ⟨w.heap.size, 2, none⟩ = some (.slice A2 C.h.t.length c2) ∧ w'.cell? ⟨w.heap.size, 3, none⟩ = some (.slice A3 C.c.length c3))
        (((try dsimp only); (refine SOw10 _ ?_); (repeat (with_reducible (first | exact Below.refl _ _ | exact hRaw10 | exact hRbw10 | refine B_dr ?_ | refine B_al ?_ _ | refine B_set ?_ ?_ _ _)))))
        (first
          | (go_at_call 17; (refine Calls.mono (TSw10 _ ?_) ?_); (· repeat (with_reducible (first | exact Below.refl _ _ | refine B_dr ?_ | refine B_al ?_ _ | refine B_set ?_ ?_ _ _))); rintro e aw10 ⟨vaw10, rfl, Kaw10, hbaw10⟩; (have hRaw10 : Below w8.heap.size w8 aw10 := (by refine B_th ?_ hbaw10; repeat (with_reducible (first | exact Below.refl _ _ | refine B_dr ?_ | refine B_al ?_ _ | refine B_set ?_ ?_ _ _)))))
          | (go_at_call 20; (refine (eqColored_same _ _ _ _ _ _ (Cv.below (by exact H4_8) hRaw10) Kaw10).mono ?_); rintro e w10 ⟨rfl, hbbw10⟩; (have hRbw10 : Below w8.heap.size w8 w10 := B_th hRaw10 hbbw10)))
      try (rename_i hHeld; clear hHeld)
      have BW9 : Below w.heap.size w w10 := B_th BW8 hRbw10
      have zz9 : w8.heap.size ≤ w10.heap.size := hRbw10.size
      have AC_9 := CArg.below (by exact AC_8) (hRbw10.mono BW8.size)
      have AL_9 := OIn.below (by exact AL_8) (hRbw10.mono BW8.size)
      have P_9 := Blk4.below (by exact P_8) hRbw10
      obtain ⟨cP_9_0, cP_9_1, cP_9_2, cP_9_3, _⟩ := P_9.cells
      have lP_9 := P_9.lt
      have RR_9 := Bv.below (by exact RR_8) hRbw10
      have R_9 := Blk10.below (by exact R_8) hRbw10
      obtain ⟨⟨cR_9_0, cR_9_1, cR_9_2, cR_9_3, cR_9_4, cR_9_5, cR_9_6, cR_9_7, cR_9_8, cR_9_9⟩, -⟩ := R_9.cells
      have lR_9 := R_9.lt
      have H4_9 := Cv.below (by exact H4_8) hRbw10
      have X_9 := Blk4.below (by exact X_8) hRbw10
      obtain ⟨cX_9_0, cX_9_1, cX_9_2, cX_9_3, _⟩ := X_9.cells
      have lX_9 := X_9.lt
      have U_9 := ORow.below (by exact U_8) hRbw10
      have RG_9 := Bv.below (by exact RG_8) hRbw10
      have G_9 := Blk10.below (by exact G_8) hRbw10
      obtain ⟨⟨cG_9_0, cG_9_1, cG_9_2, cG_9_3, cG_9_4, cG_9_5, cG_9_6, cG_9_7, cG_9_8, cG_9_9⟩, -⟩ := G_9.cells
      have lG_9 := G_9.lt
      clear AC_8 AL_8 P_8 cP_8_0 cP_8_1 cP_8_2 cP_8_3 lP_8 RR_8 R_8 cR_8_0 cR_8_1 cR_8_2 cR_8_3 cR_8_4 cR_8_5 cR_8_6 cR_8_7 cR_8_8 cR_8_9 lR_8 H4_8 X_8 cX_8_0 cX_8_1 cX_8_2 cX_8_3 lX_8 U_8 RG_8 G_8 cG_8_0 cG_8_1 cG_8_2 cG_8_3 cG_8_4 cG_8_5 cG_8_6 cG_8_7 cG_8_8 cG_8_9 lG_8
      go_wp2_with fail
      refine (TO _ AL_9 BW9.size).mono ?_; rintro e w11 ⟨AU9, kU9, rfl, U9, hb11⟩
      have BW10 : Below w.heap.size w w11 := B_th BW9 hb11
      have zz10 : w10.heap.size ≤ w11.heap.size := hb11.size
      have AC_10 := CArg.below (by exact AC_9) (hb11.mono BW9.size)
      have AL_10 := OIn.below (by exact AL_9) (hb11.mono BW9.size)
      have P_10 := Blk4.below (by exact P_9) hb11
      obtain ⟨cP_10_0, cP_10_1, cP_10_2, cP_10_3, _⟩ := P_10.cells
      have lP_10 := P_10.lt
      have RR_10 := Bv.below (by exact RR_9) hb11
      have R_10 := Blk10.below (by exact R_9) hb11
      obtain ⟨⟨cR_10_0, cR_10_1, cR_10_2, cR_10_3, cR_10_4, cR_10_5, cR_10_6, cR_10_7, cR_10_8, cR_10_9⟩, -⟩ := R_10.cells
      have lR_10 := R_10.lt
      have H4_10 := Cv.below (by exact H4_9) hb11
      have X_10 := Blk4.below (by exact X_9) hb11
      obtain ⟨cX_10_0, cX_10_1, cX_10_2, cX_10_3, _⟩ := X_10.cells
      have lX_10 := X_10.lt
      have U_10 := ORow.below (by exact U_9) hb11
      have RG_10 := Bv.below (by exact RG_9) hb11
      have G_10 := Blk10.below (by exact G_9) hb11
      obtain ⟨⟨cG_10_0, cG_10_1, cG_10_2, cG_10_3, cG_10_4, cG_10_5, cG_10_6, cG_10_7, cG_10_8, cG_10_9⟩, -⟩ := G_10.cells
      have lG_10 := G_10.lt
      clear AC_9 AL_9 P_9 cP_9_0 cP_9_1 cP_9_2 cP_9_3 lP_9 RR_9 R_9 cR_9_0 cR_9_1 cR_9_2 cR_9_3 cR_9_4 cR_9_5 cR_9_6 cR_9_7 cR_9_8 cR_9_9 lR_9 H4_9 X_9 cX_9_0 cX_9_1 cX_9_2 cX_9_3 lX_9 U_9 RG_9 G_9 cG_9_0 cG_9_1 cG_9_2 cG_9_3 cG_9_4 cG_9_5 cG_9_6 cG_9_7 cG_9_8 cG_9_9 lG_9
      have U9o := U9
      go_wp2_with fail
      refine (EO _ _ _ _ _ _ _ U_10 U9).mono ?_; rintro e w12 ⟨rfl, hb12⟩
      have BW11 : Below w.heap.size w w12 := B_th BW10 hb12
      have zz11 : w11.heap.size ≤ w12.heap.size := hb12.size
      have AC_11 := CArg.below (by exact AC_10) (hb12.mono BW10.size)
      have AL_11 := OIn.below (by exact AL_10) (hb12.mono BW10.size)
      have P_11 := Blk4.below (by exact P_10) hb12
      obtain ⟨cP_11_0, cP_11_1, cP_11_2, cP_11_3, _⟩ := P_11.cells
      have lP_11 := P_11.lt
      have RR_11 := Bv.below (by exact RR_10) hb12
      have R_11 := Blk10.below (by exact R_10) hb12
      obtain ⟨⟨cR_11_0, cR_11_1, cR_11_2, cR_11_3, cR_11_4, cR_11_5, cR_11_6, cR_11_7, cR_11_8, cR_11_9⟩, -⟩ := R_11.cells
      have lR_11 := R_11.lt
      have H4_11 := Cv.below (by exact H4_10) hb12
      have X_11 := Blk4.below (by exact X_10) hb12
      obtain ⟨cX_11_0, cX_11_1, cX_11_2, cX_11_3, _⟩ := X_11.cells
      have lX_11 := X_11.lt
      have U_11 := ORow.below (by exact U_10) hb12
      have RG_11 := Bv.below (by exact RG_10) hb12
      have G_11 := Blk10.below (by exact G_10) hb12
      obtain ⟨⟨cG_11_0, cG_11_1, cG_11_2, cG_11_3, cG_11_4, cG_11_5, cG_11_6, cG_11_7, cG_11_8, cG_11_9⟩, -⟩ := G_11.cells
      have lG_11 := G_11.lt
      have U9_11 := ORow.below (by exact U9) hb12
      clear AC_10 AL_10 P_10 cP_10_0 cP_10_1 cP_10_2 cP_10_3 lP_10 RR_10 R_10 cR_10_0 cR_10_1 cR_10_2 cR_10_3 cR_10_4 cR_10_5 cR_10_6 cR_10_7 cR_10_8 cR_10_9 lR_10 H4_10 X_10 cX_10_0 cX_10_1 cX_10_2 cX_10_3 lX_10 U_10 RG_10 G_10 cG_10_0 cG_10_1 cG_10_2 cG_10_3 cG_10_4 cG_10_5 cG_10_6 cG_10_7 cG_10_8 cG_10_9 lG_10
      go_wp2_with fail
      refine (MX _ _ _ H4_11 (by omega)).mono ?_; rintro e w13 ⟨rfl, HM4, hb13, fr13⟩
      have BW12 : Below w.heap.size w w13 := BW11.trans (hb13.mono (by omega))
      have zz12 : w12.heap.size ≤ w13.heap.size := hb13.size
      have AC_12 := CArg.below AC_11 (hb13.mono (by omega))
      have AL_12 := OIn.below AL_11 (hb13.mono (by omega))
      have P_12 := Blk4.frame P_11 fr13 (notC_old H4o (by omega))
      obtain ⟨cP_12_0, cP_12_1, cP_12_2, cP_12_3, _⟩ := P_12.cells
      have lP_12 := P_12.lt
      have RR_12 := Bv.keptFar RR_11 hb13 RRo (by omega)
      have R_12 := Blk10.frameN R_11 fr13 (notC_old H4o (by omega))
      obtain ⟨⟨cR_12_0, cR_12_1, cR_12_2, cR_12_3, cR_12_4, cR_12_5, cR_12_6, cR_12_7, cR_12_8, cR_12_9⟩, -⟩ := R_12.cells
      have lR_12 := R_12.lt
      have H4_12 := HM4
      have X_12 := Blk4.frame X_11 fr13 (notC_new H4o (by omega))
      obtain ⟨cX_12_0, cX_12_1, cX_12_2, cX_12_3, _⟩ := X_12.cells
      have lX_12 := X_12.lt
      have U_12 := ORow.keptC U_11 fr13 (fun b e => notC_new H4o (by have := (Uo.lt b e).1; omega))
      have RG_12 := Bv.keptC RG_11 fr13 (fun b h1 _ => notC_new H4o (by omega))
      have G_12 := Blk10.frameN G_11 fr13 (notC_new H4o (by omega))
      obtain ⟨⟨cG_12_0, cG_12_1, cG_12_2, cG_12_3, cG_12_4, cG_12_5, cG_12_6, cG_12_7, cG_12_8, cG_12_9⟩, -⟩ := G_12.cells
      have lG_12 := G_12.lt
      clear AC_11 AL_11 P_11 cP_11_0 cP_11_1 cP_11_2 cP_11_3 lP_11 RR_11 R_11 cR_11_0 cR_11_1 cR_11_2 cR_11_3 cR_11_4 cR_11_5 cR_11_6 cR_11_7 cR_11_8 cR_11_9 lR_11 H4_11 X_11 cX_11_0 cX_11_1 cX_11_2 cX_11_3 lX_11 U_11 RG_11 G_11 cG_11_0 cG_11_1 cG_11_2 cG_11_3 cG_11_4 cG_11_5 cG_11_6 cG_11_7 cG_11_8 cG_11_9 lG_11
      go_wp2_with fail
      refine (MO _ _ _ _ U_12).mono ?_; rintro e w14 ⟨rfl, gr14, hzw14⟩
      have BU := belowRowP gr14 (lo := (w5.heap.size + 1)) (by omega) (fun k e => (Uo.lt k e).1)
      have BW13 : Below w.heap.size w w14 := BW12.trans (BU.mono (by omega))
      have zz13 : w13.heap.size ≤ w14.heap.size := gr14.size
      have AC_13 := CArg.below AC_12 (BU.mono (by omega))
      have AL_13 := OIn.below AL_12 (BU.mono (by omega))
      have P_13 := Blk4.keptG P_12 gr14 (fun e => by have := Uo.lt _ e.symm; omega)
      obtain ⟨cP_13_0, cP_13_1, cP_13_2, cP_13_3, _⟩ := P_13.cells
      have lP_13 := P_13.lt
      have RR_13 := Bv.keptFar RR_12 BU RRo (by omega)
      have R_13 := Blk10.keptG R_12 gr14 (fun e => by have := Uo.lt _ e.symm; omega)
      obtain ⟨⟨cR_13_0, cR_13_1, cR_13_2, cR_13_3, cR_13_4, cR_13_5, cR_13_6, cR_13_7, cR_13_8, cR_13_9⟩, -⟩ := R_13.cells
      have lR_13 := R_13.lt
      have RG_13 := Bv.keptO RG_12 gr14 (fun k h => by have := Uo.lt k h; omega)
      have G_13 := Blk10.keptG G_12 gr14 (fun e => by have := Uo.lt _ e.symm; omega)
      obtain ⟨⟨cG_13_0, cG_13_1, cG_13_2, cG_13_3, cG_13_4, cG_13_5, cG_13_6, cG_13_7, cG_13_8, cG_13_9⟩, -⟩ := G_13.cells
      have lG_13 := G_13.lt
      clear AC_12 AL_12 P_12 cP_12_0 cP_12_1 cP_12_2 cP_12_3 lP_12 RR_12 R_12 cR_12_0 cR_12_1 cR_12_2 cR_12_3 cR_12_4 cR_12_5 cR_12_6 cR_12_7 cR_12_8 cR_12_9 lR_12 RG_12 G_12 cG_12_0 cG_12_1 cG_12_2 cG_12_3 cG_12_4 cG_12_5 cG_12_6 cG_12_7 cG_12_8 cG_12_9 lG_12
      go_wp2_with fail
      refine (eqBoth_same _ _ _ _ _ _ RG_13 RR_13).mono ?_; rintro e w15 ⟨rfl, hb15⟩
      have BW14 : Below w.heap.size w w15 := B_th BW13 hb15
      have zz14 : w14.heap.size ≤ w15.heap.size := hb15.size
      have AC_14 := CArg.below (by exact AC_13) (hb15.mono BW13.size)
      have AL_14 := OIn.below (by exact AL_13) (hb15.mono BW13.size)
      have P_14 := Blk4.below (by exact P_13) hb15
      obtain ⟨cP_14_0, cP_14_1, cP_14_2, cP_14_3, _⟩ := P_14.cells
      have lP_14 := P_14.lt
      have RR_14 := Bv.below (by exact RR_13) hb15
      have R_14 := Blk10.below (by exact R_13) hb15
      obtain ⟨⟨cR_14_0, cR_14_1, cR_14_2, cR_14_3, cR_14_4, cR_14_5, cR_14_6, cR_14_7, cR_14_8, cR_14_9⟩, -⟩ := R_14.cells
      have lR_14 := R_14.lt
      have RG_14 := Bv.below (by exact RG_13) hb15
      have G_14 := Blk10.below (by exact G_13) hb15
      obtain ⟨⟨cG_14_0, cG_14_1, cG_14_2, cG_14_3, cG_14_4, cG_14_5, cG_14_6, cG_14_7, cG_14_8, cG_14_9⟩, -⟩ := G_14.cells
      have lG_14 := G_14.lt
      clear AC_13 AL_13 P_13 cP_13_0 cP_13_1 cP_13_2 cP_13_3 lP_13 RR_13 R_13 cR_13_0 cR_13_1 cR_13_2 cR_13_3 cR_13_4 cR_13_5 cR_13_6 cR_13_7 cR_13_8 cR_13_9 lR_13 RG_13 G_13 cG_13_0 cG_13_1 cG_13_2 cG_13_3 cG_13_4 cG_13_5 cG_13_6 cG_13_7 cG_13_8 cG_13_9 lG_13
      go_wp2_with fail
      refine (MG _ _ _ RG_14 (by omega)).mono ?_; rintro e w16 ⟨rfl, HMG, hb16, fr16⟩
      have BW15 : Below w.heap.size w w16 := BW14.trans (hb16.mono (by omega))
      have zz15 : w15.heap.size ≤ w16.heap.size := hb16.size
      have AC_15 := CArg.below AC_14 (hb16.mono (by omega))
      have AL_15 := OIn.below AL_14 (hb16.mono (by omega))
      have P_15 := Blk4.frameB P_14 fr16 (farB_old RGo (by omega))
      obtain ⟨cP_15_0, cP_15_1, cP_15_2, cP_15_3, _⟩ := P_15.cells
      have lP_15 := P_15.lt
      have RR_15 := Bv.keptFar RR_14 hb16 RRo (by omega)
      have R_15 := Blk10.frameB R_14 fr16 (farB_old RGo (by omega))
      obtain ⟨⟨cR_15_0, cR_15_1, cR_15_2, cR_15_3, cR_15_4, cR_15_5, cR_15_6, cR_15_7, cR_15_8, cR_15_9⟩, -⟩ := R_15.cells
      have lR_15 := R_15.lt
      have RG_15 := HMG
      have G_15 := Blk10.frameB G_14 fr16 (farB_new RGo (by omega))
      obtain ⟨⟨cG_15_0, cG_15_1, cG_15_2, cG_15_3, cG_15_4, cG_15_5, cG_15_6, cG_15_7, cG_15_8, cG_15_9⟩, -⟩ := G_15.cells
      have lG_15 := G_15.lt
      clear AC_14 AL_14 P_14 cP_14_0 cP_14_1 cP_14_2 cP_14_3 lP_14 RR_14 R_14 cR_14_0 cR_14_1 cR_14_2 cR_14_3 cR_14_4 cR_14_5 cR_14_6 cR_14_7 cR_14_8 cR_14_9 lR_14 RG_14 G_14 cG_14_0 cG_14_1 cG_14_2 cG_14_3 cG_14_4 cG_14_5 cG_14_6 cG_14_7 cG_14_8 cG_14_9 lG_14
      go_wp2_with fail
      refine (QG _ _ _ RG_15).mono ?_; rintro e w17 ⟨rfl, hb17⟩
      have BW16 : Below w.heap.size w w17 := B_th BW15 hb17
      have zz16 : w16.heap.size ≤ w17.heap.size := hb17.size
      have AC_16 := CArg.below (by exact AC_15) (hb17.mono BW15.size)
      have AL_16 := OIn.below (by exact AL_15) (hb17.mono BW15.size)
      have P_16 := Blk4.below (by exact P_15) hb17
      obtain ⟨cP_16_0, cP_16_1, cP_16_2, cP_16_3, _⟩ := P_16.cells
      have lP_16 := P_16.lt
      have RR_16 := Bv.below (by exact RR_15) hb17
      have R_16 := Blk10.below (by exact R_15) hb17
      obtain ⟨⟨cR_16_0, cR_16_1, cR_16_2, cR_16_3, cR_16_4, cR_16_5, cR_16_6, cR_16_7, cR_16_8, cR_16_9⟩, -⟩ := R_16.cells
      have lR_16 := R_16.lt
      have RG_16 := Bv.below (by exact RG_15) hb17
      have G_16 := Blk10.below (by exact G_15) hb17
      obtain ⟨⟨cG_16_0, cG_16_1, cG_16_2, cG_16_3, cG_16_4, cG_16_5, cG_16_6, cG_16_7, cG_16_8, cG_16_9⟩, -⟩ := G_16.cells
      have lG_16 := G_16.lt
      clear AC_15 AL_15 P_15 cP_15_0 cP_15_1 cP_15_2 cP_15_3 lP_15 RR_15 R_15 cR_15_0 cR_15_1 cR_15_2 cR_15_3 cR_15_4 cR_15_5 cR_15_6 cR_15_7 cR_15_8 cR_15_9 lR_15 RG_15 G_15 cG_15_0 cG_15_1 cG_15_2 cG_15_3 cG_15_4 cG_15_5 cG_15_6 cG_15_7 cG_15_8 cG_15_9 lG_15
      go_wp2_with fail
      refine (T _ AC_16 BW16.size).mono ?_; rintro e w18 ⟨vH18, rfl, H18, hb18⟩
      have BW17 : Below w.heap.size w w18 := B_th BW16 hb18
      have zz17 : w17.heap.size ≤ w18.heap.size := hb18.size
      have AC_17 := CArg.below (by exact AC_16) (hb18.mono BW16.size)
      have AL_17 := OIn.below (by exact AL_16) (hb18.mono BW16.size)
      have P_17 := Blk4.below (by exact P_16) hb18
      obtain ⟨cP_17_0, cP_17_1, cP_17_2, cP_17_3, _⟩ := P_17.cells
      have lP_17 := P_17.lt
      have RR_17 := Bv.below (by exact RR_16) hb18
      have R_17 := Blk10.below (by exact R_16) hb18
      obtain ⟨⟨cR_17_0, cR_17_1, cR_17_2, cR_17_3, cR_17_4, cR_17_5, cR_17_6, cR_17_7, cR_17_8, cR_17_9⟩, -⟩ := R_17.cells
      have lR_17 := R_17.lt
      have RG_17 := Bv.below (by exact RG_16) hb18
      have G_17 := Blk10.below (by exact G_16) hb18
      obtain ⟨⟨cG_17_0, cG_17_1, cG_17_2, cG_17_3, cG_17_4, cG_17_5, cG_17_6, cG_17_7, cG_17_8, cG_17_9⟩, -⟩ := G_17.cells
      have lG_17 := G_17.lt
      clear AC_16 AL_16 P_16 cP_16_0 cP_16_1 cP_16_2 cP_16_3 lP_16 RR_16 R_16 cR_16_0 cR_16_1 cR_16_2 cR_16_3 cR_16_4 cR_16_5 cR_16_6 cR_16_7 cR_16_8 cR_16_9 lR_16 RG_16 G_16 cG_16_0 cG_16_1 cG_16_2 cG_16_3 cG_16_4 cG_16_5 cG_16_6 cG_16_7 cG_16_8 cG_16_9 lG_16
      have H18o := H18
      go_wp2_with fail
      refine (TO _ AL_17 BW17.size).mono ?_; rintro e w19 ⟨AU19, kU19, rfl, U19, hb19⟩
      have BW18 : Below w.heap.size w w19 := B_th BW17 hb19
      have zz18 : w18.heap.size ≤ w19.heap.size := hb19.size
      have AC_18 := CArg.below (by exact AC_17) (hb19.mono BW17.size)
      have AL_18 := OIn.below (by exact AL_17) (hb19.mono BW17.size)
      have P_18 := Blk4.below (by exact P_17) hb19
      obtain ⟨cP_18_0, cP_18_1, cP_18_2, cP_18_3, _⟩ := P_18.cells
      have lP_18 := P_18.lt
      have RR_18 := Bv.below (by exact RR_17) hb19
      have R_18 := Blk10.below (by exact R_17) hb19
      obtain ⟨⟨cR_18_0, cR_18_1, cR_18_2, cR_18_3, cR_18_4, cR_18_5, cR_18_6, cR_18_7, cR_18_8, cR_18_9⟩, -⟩ := R_18.cells
      have lR_18 := R_18.lt
      have RG_18 := Bv.below (by exact RG_17) hb19
      have G_18 := Blk10.below (by exact G_17) hb19
      obtain ⟨⟨cG_18_0, cG_18_1, cG_18_2, cG_18_3, cG_18_4, cG_18_5, cG_18_6, cG_18_7, cG_18_8, cG_18_9⟩, -⟩ := G_18.cells
      have lG_18 := G_18.lt
      have H18_18 := Cv.below (by exact H18) hb19
      clear AC_17 AL_17 P_17 cP_17_0 cP_17_1 cP_17_2 cP_17_3 lP_17 RR_17 R_17 cR_17_0 cR_17_1 cR_17_2 cR_17_3 cR_17_4 cR_17_5 cR_17_6 cR_17_7 cR_17_8 cR_17_9 lR_17 RG_17 G_17 cG_17_0 cG_17_1 cG_17_2 cG_17_3 cG_17_4 cG_17_5 cG_17_6 cG_17_7 cG_17_8 cG_17_9 lG_17
      have U19o := U19
      go_wp2_with fail
      refine (I _ _ _ _ _ H18_18 U19).mono ?_; rintro e w20 ⟨vRK, rfl, RK, hb20⟩
      have BW19 : Below w.heap.size w w20 := B_th BW18 hb20
      have zz19 : w19.heap.size ≤ w20.heap.size := hb20.size
      have AC_19 := CArg.below (by exact AC_18) (hb20.mono BW18.size)
      have AL_19 := OIn.below (by exact AL_18) (hb20.mono BW18.size)
      have P_19 := Blk4.below (by exact P_18) hb20
      obtain ⟨cP_19_0, cP_19_1, cP_19_2, cP_19_3, _⟩ := P_19.cells
      have lP_19 := P_19.lt
      have RR_19 := Bv.below (by exact RR_18) hb20
      have R_19 := Blk10.below (by exact R_18) hb20
      obtain ⟨⟨cR_19_0, cR_19_1, cR_19_2, cR_19_3, cR_19_4, cR_19_5, cR_19_6, cR_19_7, cR_19_8, cR_19_9⟩, -⟩ := R_19.cells
      have lR_19 := R_19.lt
      have RG_19 := Bv.below (by exact RG_18) hb20
      have G_19 := Blk10.below (by exact G_18) hb20
      obtain ⟨⟨cG_19_0, cG_19_1, cG_19_2, cG_19_3, cG_19_4, cG_19_5, cG_19_6, cG_19_7, cG_19_8, cG_19_9⟩, -⟩ := G_19.cells
      have lG_19 := G_19.lt
      have H18_19 := Cv.below (by exact H18_18) hb20
      have U19_19 := ORow.below (by exact U19) hb20
      clear AC_18 AL_18 P_18 cP_18_0 cP_18_1 cP_18_2 cP_18_3 lP_18 RR_18 R_18 cR_18_0 cR_18_1 cR_18_2 cR_18_3 cR_18_4 cR_18_5 cR_18_6 cR_18_7 cR_18_8 cR_18_9 lR_18 RG_18 G_18 cG_18_0 cG_18_1 cG_18_2 cG_18_3 cG_18_4 cG_18_5 cG_18_6 cG_18_7 cG_18_8 cG_18_9 lG_18 H18_18
      have RKo := RK
      obtain ⟨kA0, kn0, kk0, kA1, kn1, kk1, kA2, kn2, kk2, kA3, kn3, kk3, kA4, kn4, kk4, kA5, kn5, kk5, rfl⟩ := Bv.shape RK
      go_wp2_with fail
      refine (eqBoth_same _ _ _ _ _ _ (RK.alloc (.cells #[.slice kA0 kn0 kk0, .slice kA1 kn1 kk1, .slice kA2 kn2 kk2, .slice kA3 kn3 kk3, .int .i64 rp, .slice kA4 kn4 kk4, .int .i64 ra, .slice kA5 kn5 kk5, .int .i64 ri, .bool rz] 34)) (RR_19.alloc (.cells #[.slice kA0 kn0 kk0, .slice kA1 kn1 kk1, .slice kA2 kn2 kk2, .slice kA3 kn3 kk3, .int .i64 rp, .slice kA4 kn4 kk4, .int .i64 ra, .slice kA5 kn5 kk5, .int .i64 ri, .bool rz] 34))).mono ?_; rintro e w21 ⟨rfl, hb21⟩
      have BW20 : Below w.heap.size w w21 := B_th (B_al BW19 (.cells #[.slice kA0 kn0 kk0, .slice kA1 kn1 kk1, .slice kA2 kn2 kk2, .slice kA3 kn3 kk3, .int .i64 rp, .slice kA4 kn4 kk4, .int .i64 ra, .slice kA5 kn5 kk5, .int .i64 ri, .bool rz] 34)) hb21
      have zz20 : w20.heap.size + 1 ≤ w21.heap.size := by have := hb21.size; simp at this; omega
      have AC_20 := CArg.below (by exact (CArg.alloc AC_19 BW19.size (.cells #[.slice kA0 kn0 kk0, .slice kA1 kn1 kk1, .slice kA2 kn2 kk2, .slice kA3 kn3 kk3, .int .i64 rp, .slice kA4 kn4 kk4, .int .i64 ra, .slice kA5 kn5 kk5, .int .i64 ri, .bool rz] 34))) (hb21.mono (B_al BW19 (.cells #[.slice kA0 kn0 kk0, .slice kA1 kn1 kk1, .slice kA2 kn2 kk2, .slice kA3 kn3 kk3, .int .i64 rp, .slice kA4 kn4 kk4, .int .i64 ra, .slice kA5 kn5 kk5, .int .i64 ri, .bool rz] 34)).size)
      have AL_20 := OIn.below (by exact (OIn.alloc AL_19 BW19.size (.cells #[.slice kA0 kn0 kk0, .slice kA1 kn1 kk1, .slice kA2 kn2 kk2, .slice kA3 kn3 kk3, .int .i64 rp, .slice kA4 kn4 kk4, .int .i64 ra, .slice kA5 kn5 kk5, .int .i64 ri, .bool rz] 34))) (hb21.mono (B_al BW19 (.cells #[.slice kA0 kn0 kk0, .slice kA1 kn1 kk1, .slice kA2 kn2 kk2, .slice kA3 kn3 kk3, .int .i64 rp, .slice kA4 kn4 kk4, .int .i64 ra, .slice kA5 kn5 kk5, .int .i64 ri, .bool rz] 34)).size)
      have P_20 := Blk4.below (by exact (P_19.alloc (.cells #[.slice kA0 kn0 kk0, .slice kA1 kn1 kk1, .slice kA2 kn2 kk2, .slice kA3 kn3 kk3, .int .i64 rp, .slice kA4 kn4 kk4, .int .i64 ra, .slice kA5 kn5 kk5, .int .i64 ri, .bool rz] 34))) hb21
      obtain ⟨cP_20_0, cP_20_1, cP_20_2, cP_20_3, _⟩ := P_20.cells
      have lP_20 := P_20.lt
      have RR_20 := Bv.below (by exact (RR_19.alloc (.cells #[.slice kA0 kn0 kk0, .slice kA1 kn1 kk1, .slice kA2 kn2 kk2, .slice kA3 kn3 kk3, .int .i64 rp, .slice kA4 kn4 kk4, .int .i64 ra, .slice kA5 kn5 kk5, .int .i64 ri, .bool rz] 34))) hb21
      have R_20 := Blk10.below (by exact (R_19.alloc (.cells #[.slice kA0 kn0 kk0, .slice kA1 kn1 kk1, .slice kA2 kn2 kk2, .slice kA3 kn3 kk3, .int .i64 rp, .slice kA4 kn4 kk4, .int .i64 ra, .slice kA5 kn5 kk5, .int .i64 ri, .bool rz] 34))) hb21
      obtain ⟨⟨cR_20_0, cR_20_1, cR_20_2, cR_20_3, cR_20_4, cR_20_5, cR_20_6, cR_20_7, cR_20_8, cR_20_9⟩, -⟩ := R_20.cells
      have lR_20 := R_20.lt
      have RG_20 := Bv.below (by exact (RG_19.alloc (.cells #[.slice kA0 kn0 kk0, .slice kA1 kn1 kk1, .slice kA2 kn2 kk2, .slice kA3 kn3 kk3, .int .i64 rp, .slice kA4 kn4 kk4, .int .i64 ra, .slice kA5 kn5 kk5, .int .i64 ri, .bool rz] 34))) hb21
      have G_20 := Blk10.below (by exact (G_19.alloc (.cells #[.slice kA0 kn0 kk0, .slice kA1 kn1 kk1, .slice kA2 kn2 kk2, .slice kA3 kn3 kk3, .int .i64 rp, .slice kA4 kn4 kk4, .int .i64 ra, .slice kA5 kn5 kk5, .int .i64 ri, .bool rz] 34))) hb21
      obtain ⟨⟨cG_20_0, cG_20_1, cG_20_2, cG_20_3, cG_20_4, cG_20_5, cG_20_6, cG_20_7, cG_20_8, cG_20_9⟩, -⟩ := G_20.cells
      have lG_20 := G_20.lt
      have RK_20 := Bv.below (by exact (RK.alloc (.cells #[.slice kA0 kn0 kk0, .slice kA1 kn1 kk1, .slice kA2 kn2 kk2, .slice kA3 kn3 kk3, .int .i64 rp, .slice kA4 kn4 kk4, .int .i64 ra, .slice kA5 kn5 kk5, .int .i64 ri, .bool rz] 34))) hb21
      have K_20 := Blk10.below (by exact (Blk10.new w20 (.slice kA0 kn0 kk0) (.slice kA1 kn1 kk1) (.slice kA2 kn2 kk2) (.slice kA3 kn3 kk3) (.int .i64 rp) (.slice kA4 kn4 kk4) (.int .i64 ra) (.slice kA5 kn5 kk5) (.int .i64 ri) (.bool rz) 34)) hb21
      obtain ⟨⟨cK_20_0, cK_20_1, cK_20_2, cK_20_3, cK_20_4, cK_20_5, cK_20_6, cK_20_7, cK_20_8, cK_20_9⟩, -⟩ := K_20.cells
      have lK_20 := K_20.lt
      go_wp2_with fail
      refine (QG _ _ _ RG_20).mono ?_; rintro e w22 ⟨rfl, hb22⟩
      have BW21 : Below w.heap.size w w22 := B_th BW20 hb22
      have zz21 : w21.heap.size ≤ w22.heap.size := hb22.size
      have AC_21 := CArg.below (by exact AC_20) (hb22.mono BW20.size)
      have AL_21 := OIn.below (by exact AL_20) (hb22.mono BW20.size)
      have P_21 := Blk4.below (by exact P_20) hb22
      obtain ⟨cP_21_0, cP_21_1, cP_21_2, cP_21_3, _⟩ := P_21.cells
      have lP_21 := P_21.lt
      have RR_21 := Bv.below (by exact RR_20) hb22
      have R_21 := Blk10.below (by exact R_20) hb22
      obtain ⟨⟨cR_21_0, cR_21_1, cR_21_2, cR_21_3, cR_21_4, cR_21_5, cR_21_6, cR_21_7, cR_21_8, cR_21_9⟩, -⟩ := R_21.cells
      have lR_21 := R_21.lt
      have RG_21 := Bv.below (by exact RG_20) hb22
      have G_21 := Blk10.below (by exact G_20) hb22
      obtain ⟨⟨cG_21_0, cG_21_1, cG_21_2, cG_21_3, cG_21_4, cG_21_5, cG_21_6, cG_21_7, cG_21_8, cG_21_9⟩, -⟩ := G_21.cells
      have lG_21 := G_21.lt
      have RK_21 := Bv.below (by exact RK_20) hb22
      have K_21 := Blk10.below (by exact K_20) hb22
      obtain ⟨⟨cK_21_0, cK_21_1, cK_21_2, cK_21_3, cK_21_4, cK_21_5, cK_21_6, cK_21_7, cK_21_8, cK_21_9⟩, -⟩ := K_21.cells
      have lK_21 := K_21.lt
      clear AC_20 AL_20 P_20 cP_20_0 cP_20_1 cP_20_2 cP_20_3 lP_20 RR_20 R_20 cR_20_0 cR_20_1 cR_20_2 cR_20_3 cR_20_4 cR_20_5 cR_20_6 cR_20_7 cR_20_8 cR_20_9 lR_20 RG_20 G_20 cG_20_0 cG_20_1 cG_20_2 cG_20_3 cG_20_4 cG_20_5 cG_20_6 cG_20_7 cG_20_8 cG_20_9 lG_20 RK_20 K_20 cK_20_0 cK_20_1 cK_20_2 cK_20_3 cK_20_4 cK_20_5 cK_20_6 cK_20_7 cK_20_8 cK_20_9 lK_20
      go_wp2_with fail
      go_ret
      exact ⟨rfl, BW21⟩
    · have hszo : szV nl sz = -1 := by unfold szV; rw [if_neg hno]
      rw [hszo] at ZO
      clear hszo hno s1
      go_enter Try.func4, Try.ntmps4
      go_wp2_with fail
      refine SZ.mono ?_; rintro e w1 ⟨rfl, hb1⟩
      go_wp2_with fail
      refine (ZO _).mono ?_; rintro e w' ⟨rfl, rfl⟩
      go_wp2_with fail
      go_ret
      exact ⟨rfl, B_th fin0 hb1⟩
  · have hszv : szV (C.h.l.length + C.h.r.length + C.h.t.length + C.c.length) 1048576 = -1 := by unfold szV; rw [if_neg hsz]
    rw [hszv] at SZ
    clear hsz hszv
    go_enter Try.func4, Try.ntmps4
    go_wp2_with fail
    refine SZ.mono ?_; rintro e w1 ⟨rfl, hb1⟩
    go_wp2_with fail
    go_ret
    exact ⟨rfl, B_th fin0 hb1⟩
end Go.Proofs.Ytdifplakkepnkaa
