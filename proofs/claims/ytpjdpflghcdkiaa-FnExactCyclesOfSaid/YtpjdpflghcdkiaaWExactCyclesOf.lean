/- The exact law of CyclesOf, walked. -/
import Derived.Test.YtpjdpflghcdkiaaExactV
import Derived.Test.YtpjdpflghcdkiaaCVal
namespace Go.Proofs.Ytpjdpflghcdkiaa
open Go.RowKit

set_option maxRecDepth 100000 in
set_option maxHeartbeats 6000000 in
theorem lawExactCyclesOf_walk (w : World) (v : Value) (D : Dp) (hv : DIn w v D) : Calls Try.prog 10 #[v] w (LawTrue w) := by
  obtain ⟨ha, m0, m1, m2, m3, m4⟩ := hv
  have ha2 := ha
  obtain ⟨A0, c0, A1, c1, A2, c2, A3, c3, A4, c4, rfl, -⟩ := ha2
  have SZ := szCounted_any (w.alloc (.cells #[.slice A0 D.C.h.l.length c0, .slice A1 D.C.h.r.length c1, .slice A2 D.C.h.t.length c2, .slice A3 D.C.c.length c3, .slice A4 D.n.length c4] 50)) A0 A1 A2 A3 A4 D.C.h.l.length c0 D.C.h.r.length c1 D.C.h.t.length c2 D.C.c.length c3 D.n.length c4 1048576 (by omega) (by omega) m0 m1 m2 m3 m4
  have fin0 : Below w.heap.size w (w.alloc (.cells #[.slice A0 D.C.h.l.length c0, .slice A1 D.C.h.r.length c1, .slice A2 D.C.h.t.length c2, .slice A3 D.C.c.length c3, .slice A4 D.n.length c4] 50)) := B5_al (Below.refl _ _) _
  by_cases hsz : ((((D.C.h.l.length + D.C.h.r.length + D.C.h.t.length + D.C.c.length) + D.n.length) : Nat) : Int) ≤ 1048576
  · have hszv : szV ((D.C.h.l.length + D.C.h.r.length + D.C.h.t.length + D.C.c.length) + D.n.length) 1048576 = 1048576 - ((((D.C.h.l.length + D.C.h.r.length + D.C.h.t.length + D.C.c.length) + D.n.length) : Nat) : Int) := by unfold szV; rw [if_pos hsz]
    rw [hszv] at SZ
    have sh : ShortD D 1048576 := by unfold ShortD; omega
    have s0 : ¬ (1048576 - ((((D.C.h.l.length + D.C.h.r.length + D.C.h.t.length + D.C.c.length) + D.n.length) : Nat) : Int) < 0) := by omega
    generalize 1048576 - ((((D.C.h.l.length + D.C.h.r.length + D.C.h.t.length + D.C.c.length) + D.n.length) : Nat) : Int) = sz at SZ s0
    clear hszv hsz m0 m1 m2 m3 m4
    have T := fun W (hW : DArg W w.heap.size (.agg #[.slice A0 D.C.h.l.length c0, .slice A1 D.C.h.r.length c1, .slice A2 D.C.h.t.length c2, .slice A3 D.C.c.length c3, .slice A4 D.n.length c4]) D) (hB : w.heap.size ≤ W.heap.size) => toCounted_any W w.heap.size hB _ D hW sh
    obtain ⟨N1, n1, _, MX, _⟩ := markD1 D sh
    have shr : (cycL D).length ≤ 1048576 := by unfold cycL; split; (· have := leak_len D.C; omega); (· simp)
    have S := fun W lo vs hW => specCyclesOf_any W lo vs D hW
    have I := fun W lo vs hW => implCyclesOf_any W lo vs D hW
    generalize cycL D = xs at S I shr
    obtain ⟨N2, n3, n4, MG, QG⟩ := markR1 xs shr
    clear sh shr
    go_enter Try.func10, Try.ntmps10
    go_wp2_with fail
    refine SZ.mono ?_; rintro e w1 ⟨rfl, hb1⟩
    have BW1 : Below w.heap.size w w1 := B5_th (B5_al (Below.refl w.heap.size w) (.cells #[.slice A0 D.C.h.l.length c0, .slice A1 D.C.h.r.length c1, .slice A2 D.C.h.t.length c2, .slice A3 D.C.c.length c3, .slice A4 D.n.length c4] 50)) hb1
    have zz1 : w.heap.size + 1 ≤ w1.heap.size := by have := hb1.size; simp at this; omega
    have AD_1 := DArg.below (by exact (DArg.alloc ha (Below.refl w.heap.size w).size (.cells #[.slice A0 D.C.h.l.length c0, .slice A1 D.C.h.r.length c1, .slice A2 D.C.h.t.length c2, .slice A3 D.C.c.length c3, .slice A4 D.n.length c4] 50))) (hb1.mono (B5_al (Below.refl w.heap.size w) (.cells #[.slice A0 D.C.h.l.length c0, .slice A1 D.C.h.r.length c1, .slice A2 D.C.h.t.length c2, .slice A3 D.C.c.length c3, .slice A4 D.n.length c4] 50)).size)
    have P_1 := Blk5.below (by exact (Blk5.new w (.slice A0 D.C.h.l.length c0) (.slice A1 D.C.h.r.length c1) (.slice A2 D.C.h.t.length c2) (.slice A3 D.C.c.length c3) (.slice A4 D.n.length c4) 50)) hb1
    obtain ⟨cP_1_0, cP_1_1, cP_1_2, cP_1_3, cP_1_4, _⟩ := P_1.cells
    have lP_1 := P_1.lt
    go_wp2_with fail
    refine (T _ AD_1 BW1.size).mono ?_; rintro e w2 ⟨vH2, rfl, H2, hb2⟩
    have BW2 : Below w.heap.size w w2 := B5_th BW1 hb2
    have zz2 : w1.heap.size ≤ w2.heap.size := hb2.size
    have AD_2 := DArg.below (by exact AD_1) (hb2.mono BW1.size)
    have P_2 := Blk5.below (by exact P_1) hb2
    obtain ⟨cP_2_0, cP_2_1, cP_2_2, cP_2_3, cP_2_4, _⟩ := P_2.cells
    have lP_2 := P_2.lt
    clear AD_1 P_1 cP_1_0 cP_1_1 cP_1_2 cP_1_3 cP_1_4 lP_1
    have H2o := H2
    go_wp2_with fail
    refine (S _ _ _ H2).mono ?_; rintro e w3 ⟨ARR, kRR, rfl, RR, hb3⟩
    have BW3 : Below w.heap.size w w3 := B5_th BW2 hb3
    have zz3 : w2.heap.size ≤ w3.heap.size := hb3.size
    have AD_3 := DArg.below (by exact AD_2) (hb3.mono BW2.size)
    have P_3 := Blk5.below (by exact P_2) hb3
    obtain ⟨cP_3_0, cP_3_1, cP_3_2, cP_3_3, cP_3_4, _⟩ := P_3.cells
    have lP_3 := P_3.lt
    have H2_3 := Dv.below (by exact H2) hb3
    clear AD_2 P_2 cP_2_0 cP_2_1 cP_2_2 cP_2_3 cP_2_4 lP_2
    have RRo := RR
    go_wp2_with fail
    refine (T _ AD_3 BW3.size).mono ?_; rintro e w4 ⟨vH4, rfl, H4, hb4⟩
    have BW4 : Below w.heap.size w w4 := B5_th BW3 hb4
    have zz4 : w3.heap.size ≤ w4.heap.size := hb4.size
    have AD_4 := DArg.below (by exact AD_3) (hb4.mono BW3.size)
    have P_4 := Blk5.below (by exact P_3) hb4
    obtain ⟨cP_4_0, cP_4_1, cP_4_2, cP_4_3, cP_4_4, _⟩ := P_4.cells
    have lP_4 := P_4.lt
    have RR_4 := Row.below (by exact RR) hb4
    clear AD_3 P_3 cP_3_0 cP_3_1 cP_3_2 cP_3_3 cP_3_4 lP_3
    have H4o := H4
    obtain ⟨xA0, xn0, xk0, xA1, xn1, xk1, xA2, xn2, xk2, xA3, xn3, xk3, xA4, xn4, xk4, rfl⟩ := Dv.shape H4
    go_wp2_with fail
    refine (I _ _ _ (H4.alloc (.cells #[.slice xA0 xn0 xk0, .slice xA1 xn1 xk1, .slice xA2 xn2 xk2, .slice xA3 xn3 xk3, .slice xA4 xn4 xk4] 40))).mono ?_; rintro e w5 ⟨ARG, kRG, rfl, RG, hb5⟩
    have BW5 : Below w.heap.size w w5 := B5_th (B5_al BW4 (.cells #[.slice xA0 xn0 xk0, .slice xA1 xn1 xk1, .slice xA2 xn2 xk2, .slice xA3 xn3 xk3, .slice xA4 xn4 xk4] 40)) hb5
    have zz5 : w4.heap.size + 1 ≤ w5.heap.size := by have := hb5.size; simp at this; omega
    have AD_5 := DArg.below (by exact (DArg.alloc AD_4 BW4.size (.cells #[.slice xA0 xn0 xk0, .slice xA1 xn1 xk1, .slice xA2 xn2 xk2, .slice xA3 xn3 xk3, .slice xA4 xn4 xk4] 40))) (hb5.mono (B5_al BW4 (.cells #[.slice xA0 xn0 xk0, .slice xA1 xn1 xk1, .slice xA2 xn2 xk2, .slice xA3 xn3 xk3, .slice xA4 xn4 xk4] 40)).size)
    have P_5 := Blk5.below (by exact (P_4.alloc (.cells #[.slice xA0 xn0 xk0, .slice xA1 xn1 xk1, .slice xA2 xn2 xk2, .slice xA3 xn3 xk3, .slice xA4 xn4 xk4] 40))) hb5
    obtain ⟨cP_5_0, cP_5_1, cP_5_2, cP_5_3, cP_5_4, _⟩ := P_5.cells
    have lP_5 := P_5.lt
    have RR_5 := Row.below (by exact (RR_4.alloc (.cells #[.slice xA0 xn0 xk0, .slice xA1 xn1 xk1, .slice xA2 xn2 xk2, .slice xA3 xn3 xk3, .slice xA4 xn4 xk4] 40))) hb5
    have H4_5 := Dv.below (by exact (H4.alloc (.cells #[.slice xA0 xn0 xk0, .slice xA1 xn1 xk1, .slice xA2 xn2 xk2, .slice xA3 xn3 xk3, .slice xA4 xn4 xk4] 40))) hb5
    have X_5 := Blk5.below (by exact (Blk5.new w4 (.slice xA0 xn0 xk0) (.slice xA1 xn1 xk1) (.slice xA2 xn2 xk2) (.slice xA3 xn3 xk3) (.slice xA4 xn4 xk4) 40)) hb5
    obtain ⟨cX_5_0, cX_5_1, cX_5_2, cX_5_3, cX_5_4, _⟩ := X_5.cells
    have lX_5 := X_5.lt
    replace RG := Row.mono RG (lo' := w4.heap.size + 1) (by simp)
    have RGo := RG
    go_wp2_with fail
    refine (eqIntS_same _ _ _ _ _ _ _ _ RG RR_5).mono ?_; rintro e w6 ⟨rfl, hb6⟩
    have BW6 : Below w.heap.size w w6 := B5_th BW5 hb6
    have zz6 : w5.heap.size ≤ w6.heap.size := hb6.size
    have AD_6 := DArg.below (by exact AD_5) (hb6.mono BW5.size)
    have P_6 := Blk5.below (by exact P_5) hb6
    obtain ⟨cP_6_0, cP_6_1, cP_6_2, cP_6_3, cP_6_4, _⟩ := P_6.cells
    have lP_6 := P_6.lt
    have RR_6 := Row.below (by exact RR_5) hb6
    have H4_6 := Dv.below (by exact H4_5) hb6
    have X_6 := Blk5.below (by exact X_5) hb6
    obtain ⟨cX_6_0, cX_6_1, cX_6_2, cX_6_3, cX_6_4, _⟩ := X_6.cells
    have lX_6 := X_6.lt
    have RG_6 := Row.below (by exact RG) hb6
    clear AD_5 P_5 cP_5_0 cP_5_1 cP_5_2 cP_5_3 cP_5_4 lP_5 RR_5 H4_5 X_5 cX_5_0 cX_5_1 cX_5_2 cX_5_3 cX_5_4 lX_5
    go_wp2_with fail
    have SOw8 : ∀ w' : World, Below w6.heap.size w6 w' → w'.cell? ⟨w4.heap.size, 0, none⟩ = some (.slice xA0 xn0 xk0) ∧ w'.cell? ⟨w4.heap.size, 1, none⟩ = some (.slice xA1 xn1 xk1) ∧ w'.cell? ⟨w4.heap.size, 2, none⟩ = some (.slice xA2 xn2 xk2) ∧ w'.cell? ⟨w4.heap.size, 3, none⟩ = some (.slice xA3 xn3 xk3) ∧ w'.cell? ⟨w4.heap.size, 4, none⟩ = some (.slice xA4 xn4 xk4) ∧ w'.cell? ⟨w.heap.size, 0, none⟩ = some (.slice A0 D.C.h.l.length c0) ∧ w'.cell? ⟨w.heap.size, 1, none⟩ = some (.slice A1 D.C.h.r.length c1) ∧ w'.cell? ⟨w.heap.size, 2, none⟩ = some (.slice A2 D.C.h.t.length c2) ∧ w'.cell? ⟨w.heap.size, 3, none⟩ = some (.slice A3 D.C.c.length c3) ∧ w'.cell? ⟨w.heap.size, 4, none⟩ = some (.slice A4 D.n.length c4) := fun w' hb => ⟨(Blk5.below X_6 hb).cells.1, (Blk5.below X_6 hb).cells.2.1, (Blk5.below X_6 hb).cells.2.2.1, (Blk5.below X_6 hb).cells.2.2.2.1, (Blk5.below X_6 hb).cells.2.2.2.2.1, (Blk5.below P_6 hb).cells.1, (Blk5.below P_6 hb).cells.2.1, (Blk5.below P_6 hb).cells.2.2.1, (Blk5.below P_6 hb).cells.2.2.2.1, (Blk5.below P_6 hb).cells.2.2.2.2.1⟩
    have TSw8 := fun V (hV : Below w6.heap.size w6 V) => T V (DArg.below AD_6 (hV.mono BW6.size)) (Nat.le_trans BW6.size hV.size)
    go_region_held3 (fun w' => w'.cell? ⟨w4.heap.size, 0, none⟩ = some (.slice xA0 xn0 xk0) ∧ w'.cell? ⟨w4.heap.size, 1, none⟩ = some (.slice xA1 xn1 xk1) ∧ w'.cell? ⟨w4.heap.size, 2, none⟩ = some (.slice xA2 xn2 xk2) ∧ w'.cell? ⟨w4.heap.size, 3, none⟩ = some (.slice xA3 xn3 xk3) ∧ w'.cell? ⟨w4.heap.size, 4, none⟩ = some (.slice xA4 xn4 xk4) ∧ w'.cell? ⟨w.heap.size, 0, none⟩ = some (.slice A0 D.C.h.l.length c0) ∧ w'.cell? ⟨w.heap.size, 1, none⟩ = some (.slice A1 D.C.h.r.length c1) ∧ w'.cell? ⟨w.heap.size, 2, none⟩ = some (.slice A2 D.C.h.t.length c2) ∧ w'.cell? ⟨w.heap.size, 3, none⟩ = some (.slice A3 D.C.c.length c3) ∧ w'.cell? ⟨w.heap.size, 4, none⟩ = some (.slice A4 D.n.length c4))
      (((try dsimp only); (refine SOw8 _ ?_); (repeat (with_reducible (first | exact Below.refl _ _ | exact hRaw8 | exact hRbw8 | refine B5_dr ?_ | refine B5_al ?_ _)))))
      (first
        | (go_at_call 33; (refine Calls.mono (TSw8 _ ?_) ?_); (· repeat (with_reducible (first | exact Below.refl _ _ | refine B5_dr ?_ | refine B5_al ?_ _))); rintro e aw8 ⟨vaw8, rfl, Kaw8, hbaw8⟩; (have hRaw8 : Below w6.heap.size w6 aw8 := (by refine B5_th ?_ hbaw8; repeat (with_reducible (first | exact Below.refl _ _ | refine B5_dr ?_ | refine B5_al ?_ _)))))
        | (go_at_call 26; (refine (eqCounted_same _ _ _ _ _ _ (Dv.below (by exact H4_6) hRaw8) Kaw8).mono ?_); rintro e w8 ⟨rfl, hbbw8⟩; (have hRbw8 : Below w6.heap.size w6 w8 := B5_th hRaw8 hbbw8)))
    try (rename_i hHeld; clear hHeld)
    have BW7 : Below w.heap.size w w8 := B5_th BW6 hRbw8
    have zz7 : w6.heap.size ≤ w8.heap.size := hRbw8.size
    have AD_7 := DArg.below (by exact AD_6) (hRbw8.mono BW6.size)
    have P_7 := Blk5.below (by exact P_6) hRbw8
    obtain ⟨cP_7_0, cP_7_1, cP_7_2, cP_7_3, cP_7_4, _⟩ := P_7.cells
    have lP_7 := P_7.lt
    have RR_7 := Row.below (by exact RR_6) hRbw8
    have H4_7 := Dv.below (by exact H4_6) hRbw8
    have X_7 := Blk5.below (by exact X_6) hRbw8
    obtain ⟨cX_7_0, cX_7_1, cX_7_2, cX_7_3, cX_7_4, _⟩ := X_7.cells
    have lX_7 := X_7.lt
    have RG_7 := Row.below (by exact RG_6) hRbw8
    clear AD_6 P_6 cP_6_0 cP_6_1 cP_6_2 cP_6_3 cP_6_4 lP_6 RR_6 H4_6 X_6 cX_6_0 cX_6_1 cX_6_2 cX_6_3 cX_6_4 lX_6 RG_6
    go_wp2_with fail
    refine (MX _ _ _ H4_7 (by omega)).mono ?_; rintro e w9 ⟨rfl, HM4, hb9, fr9⟩
    have BW8 : Below w.heap.size w w9 := BW7.trans (hb9.mono (by omega))
    have zz8 : w8.heap.size ≤ w9.heap.size := hb9.size
    have AD_8 := DArg.below AD_7 (hb9.mono (by omega))
    have P_8 := Blk5.frameD P_7 fr9 (farD_old H4o (by omega))
    obtain ⟨cP_8_0, cP_8_1, cP_8_2, cP_8_3, cP_8_4, _⟩ := P_8.cells
    have lP_8 := P_8.lt
    have RR_8 := Row.far RR_7 hb9 (fun k e => by have := (RRo.lt k e).2; omega)
    have H4_8 := HM4
    have X_8 := Blk5.frameD X_7 fr9 (farD_new H4o (by omega))
    obtain ⟨cX_8_0, cX_8_1, cX_8_2, cX_8_3, cX_8_4, _⟩ := X_8.cells
    have lX_8 := X_8.lt
    have RG_8 := Row.keptM RG_7 fr9 (fun b h1 _ => farD_new H4o (by omega))
    clear AD_7 P_7 cP_7_0 cP_7_1 cP_7_2 cP_7_3 cP_7_4 lP_7 RR_7 H4_7 X_7 cX_7_0 cX_7_1 cX_7_2 cX_7_3 cX_7_4 lX_7 RG_7
    go_wp2_with fail
    refine (eqIntS_same _ _ _ _ _ _ _ _ RG_8 RR_8).mono ?_; rintro e w10 ⟨rfl, hb10⟩
    have BW9 : Below w.heap.size w w10 := B5_th BW8 hb10
    have zz9 : w9.heap.size ≤ w10.heap.size := hb10.size
    have AD_9 := DArg.below (by exact AD_8) (hb10.mono BW8.size)
    have P_9 := Blk5.below (by exact P_8) hb10
    obtain ⟨cP_9_0, cP_9_1, cP_9_2, cP_9_3, cP_9_4, _⟩ := P_9.cells
    have lP_9 := P_9.lt
    have RR_9 := Row.below (by exact RR_8) hb10
    have RG_9 := Row.below (by exact RG_8) hb10
    clear AD_8 P_8 cP_8_0 cP_8_1 cP_8_2 cP_8_3 cP_8_4 lP_8 RR_8 RG_8
    go_wp2_with fail
    refine (MG _ _ _ _ RG_9).mono ?_; rintro e w11 ⟨rfl, HMG, gr11⟩
    have hlw11 : Below (w4.heap.size + 1) w10 w11 := Row.belowLo RG_9 (by omega) gr11
    have BW10 : Below w.heap.size w w11 := BW9.trans (hlw11.mono (by omega))
    have zz10 : w10.heap.size ≤ w11.heap.size := hlw11.size
    have AD_10 := DArg.below AD_9 (hlw11.mono (by omega))
    have P_10 := Blk5.keptG P_9 gr11 (fun e => by have := RGo.lt _ e.symm; omega)
    obtain ⟨cP_10_0, cP_10_1, cP_10_2, cP_10_3, cP_10_4, _⟩ := P_10.cells
    have lP_10 := P_10.lt
    have RR_10 := Row.kept RR_9 gr11 (row_apart RRo RG_9 (by omega))
    have RG_10 := HMG
    clear AD_9 P_9 cP_9_0 cP_9_1 cP_9_2 cP_9_3 cP_9_4 lP_9 RR_9 RG_9
    go_wp2_with fail
    refine (QG _ _ _ _ RG_10).mono ?_; rintro e w12 ⟨rfl, hb12⟩
    have BW11 : Below w.heap.size w w12 := B5_th BW10 hb12
    have zz11 : w11.heap.size ≤ w12.heap.size := hb12.size
    have AD_11 := DArg.below (by exact AD_10) (hb12.mono BW10.size)
    have P_11 := Blk5.below (by exact P_10) hb12
    obtain ⟨cP_11_0, cP_11_1, cP_11_2, cP_11_3, cP_11_4, _⟩ := P_11.cells
    have lP_11 := P_11.lt
    have RR_11 := Row.below (by exact RR_10) hb12
    have RG_11 := Row.below (by exact RG_10) hb12
    clear AD_10 P_10 cP_10_0 cP_10_1 cP_10_2 cP_10_3 cP_10_4 lP_10 RR_10 RG_10
    go_wp2_with fail
    refine (T _ AD_11 BW11.size).mono ?_; rintro e w13 ⟨vH13, rfl, H13, hb13⟩
    have BW12 : Below w.heap.size w w13 := B5_th BW11 hb13
    have zz12 : w12.heap.size ≤ w13.heap.size := hb13.size
    have AD_12 := DArg.below (by exact AD_11) (hb13.mono BW11.size)
    have P_12 := Blk5.below (by exact P_11) hb13
    obtain ⟨cP_12_0, cP_12_1, cP_12_2, cP_12_3, cP_12_4, _⟩ := P_12.cells
    have lP_12 := P_12.lt
    have RR_12 := Row.below (by exact RR_11) hb13
    have RG_12 := Row.below (by exact RG_11) hb13
    clear AD_11 P_11 cP_11_0 cP_11_1 cP_11_2 cP_11_3 cP_11_4 lP_11 RR_11 RG_11
    have H13o := H13
    go_wp2_with fail
    refine (I _ _ _ H13).mono ?_; rintro e w14 ⟨ARK, kRK, rfl, RK, hb14⟩
    have BW13 : Below w.heap.size w w14 := B5_th BW12 hb14
    have zz13 : w13.heap.size ≤ w14.heap.size := hb14.size
    have AD_13 := DArg.below (by exact AD_12) (hb14.mono BW12.size)
    have P_13 := Blk5.below (by exact P_12) hb14
    obtain ⟨cP_13_0, cP_13_1, cP_13_2, cP_13_3, cP_13_4, _⟩ := P_13.cells
    have lP_13 := P_13.lt
    have RR_13 := Row.below (by exact RR_12) hb14
    have RG_13 := Row.below (by exact RG_12) hb14
    have H13_13 := Dv.below (by exact H13) hb14
    clear AD_12 P_12 cP_12_0 cP_12_1 cP_12_2 cP_12_3 cP_12_4 lP_12 RR_12 RG_12
    have RKo := RK
    go_wp2_with fail
    refine (eqIntS_same _ _ _ _ _ _ _ _ RK RR_13).mono ?_; rintro e w15 ⟨rfl, hb15⟩
    have BW14 : Below w.heap.size w w15 := B5_th BW13 hb15
    have zz14 : w14.heap.size ≤ w15.heap.size := hb15.size
    have AD_14 := DArg.below (by exact AD_13) (hb15.mono BW13.size)
    have P_14 := Blk5.below (by exact P_13) hb15
    obtain ⟨cP_14_0, cP_14_1, cP_14_2, cP_14_3, cP_14_4, _⟩ := P_14.cells
    have lP_14 := P_14.lt
    have RR_14 := Row.below (by exact RR_13) hb15
    have RG_14 := Row.below (by exact RG_13) hb15
    have RK_14 := Row.below (by exact RK) hb15
    clear AD_13 P_13 cP_13_0 cP_13_1 cP_13_2 cP_13_3 cP_13_4 lP_13 RR_13 RG_13
    go_wp2_with fail
    refine (QG _ _ _ _ RG_14).mono ?_; rintro e w16 ⟨rfl, hb16⟩
    have BW15 : Below w.heap.size w w16 := B5_th BW14 hb16
    have zz15 : w15.heap.size ≤ w16.heap.size := hb16.size
    have AD_15 := DArg.below (by exact AD_14) (hb16.mono BW14.size)
    have P_15 := Blk5.below (by exact P_14) hb16
    obtain ⟨cP_15_0, cP_15_1, cP_15_2, cP_15_3, cP_15_4, _⟩ := P_15.cells
    have lP_15 := P_15.lt
    have RR_15 := Row.below (by exact RR_14) hb16
    have RG_15 := Row.below (by exact RG_14) hb16
    have RK_15 := Row.below (by exact RK_14) hb16
    clear AD_14 P_14 cP_14_0 cP_14_1 cP_14_2 cP_14_3 cP_14_4 lP_14 RR_14 RG_14 RK_14
    go_wp2_with fail
    go_ret
    exact ⟨rfl, BW15⟩
  · have hszv : szV ((D.C.h.l.length + D.C.h.r.length + D.C.h.t.length + D.C.c.length) + D.n.length) 1048576 = -1 := by unfold szV; rw [if_neg hsz]
    rw [hszv] at SZ
    clear hsz hszv
    go_enter Try.func10, Try.ntmps10
    go_wp2_with fail
    refine SZ.mono ?_; rintro e w1 ⟨rfl, hb1⟩
    go_wp2_with fail
    go_ret
    exact ⟨rfl, B5_th fin0 hb1⟩
end Go.Proofs.Ytpjdpflghcdkiaa
