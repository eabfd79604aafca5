/- The exact law of LinkCounted, walked. -/
import Derived.Test.YtpjdpflghcdkiaaExactV
import Derived.Test.YtpjdpflghcdkiaaLinkI
import Derived.Test.YtpjdpflghcdkiaaLinkS
import Derived.Test.YtpjdpflghcdkiaaShortD
namespace Go.Proofs.Ytpjdpflghcdkiaa
open Go.RowKit

set_option maxRecDepth 100000 in
set_option maxHeartbeats 6000000 in
theorem lawExactLinkCounted_walk (w : World) (v : Value) (D : Dp) (hv : DIn w v D) (k : Int) (j : Int) : Calls Try.prog 9 #[v, .int .i64 k, .int .i64 j] w (LawTrue w) := by
  obtain ⟨ha, m0, m1, m2, m3, m4⟩ := hv
  have ha2 := ha
  obtain ⟨A0, c0, A1, c1, A2, c2, A3, c3, A4, c4, rfl, -⟩ := ha2
  have SZ := szCounted_any (w.alloc (.cells #[.slice A0 D.C.h.l.length c0, .slice A1 D.C.h.r.length c1, .slice A2 D.C.h.t.length c2, .slice A3 D.C.c.length c3, .slice A4 D.n.length c4] 50)) A0 A1 A2 A3 A4 D.C.h.l.length c0 D.C.h.r.length c1 D.C.h.t.length c2 D.C.c.length c3 D.n.length c4 1048576 (by omega) (by omega) m0 m1 m2 m3 m4
  have fin0 : Below w.heap.size w (w.alloc (.cells #[.slice A0 D.C.h.l.length c0, .slice A1 D.C.h.r.length c1, .slice A2 D.C.h.t.length c2, .slice A3 D.C.c.length c3, .slice A4 D.n.length c4] 50)) := B5_al (Below.refl _ _) _
  by_cases hsz : ((((D.C.h.l.length + D.C.h.r.length + D.C.h.t.length + D.C.c.length) + D.n.length) : Nat) : Int) ≤ 1048576
  · have hszv : szV ((D.C.h.l.length + D.C.h.r.length + D.C.h.t.length + D.C.c.length) + D.n.length) 1048576 = 1048576 - ((((D.C.h.l.length + D.C.h.r.length + D.C.h.t.length + D.C.c.length) + D.n.length) : Nat) : Int) := by unfold szV; rw [if_pos hsz]
    rw [hszv] at SZ
    have sh : ShortD D 1048576 := by unfold ShortD; omega
    have s0 : ¬ (1048576 - ((((D.C.h.l.length + D.C.h.r.length + D.C.h.t.length + D.C.c.length) + D.n.length) : Nat) : Int) < 0) := by omega
    generalize 1048576 - ((((D.C.h.l.length + D.C.h.r.length + D.C.h.t.length + D.C.c.length) + D.n.length) : Nat) : Int) = sz at SZ s0
    clear hszv hsz m0 m1 m2 m3 m4
    have T := fun W (hW : DArg W w.heap.size (.agg #[.slice A0 D.C.h.l.length c0, .slice A1 D.C.h.r.length c1, .slice A2 D.C.h.t.length c2, .slice A3 D.C.c.length c3, .slice A4 D.n.length c4]) D) (hB : w.heap.size ≤ W.heap.size) => toCounted_any W w.heap.size hB _ D hW sh
    obtain ⟨N1, n1, _, MX, _⟩ := markD1 D sh
    have S := fun W lo vs hW => optD_of (specLinkCounted_any W lo vs D hW k j)
    have I := fun W lo vs hW => optD_of (implLinkCounted_any W lo vs D hW k j)
    have shr : ShortD ((linkO D k j).getD Dp.zero) 1048576 := linkO_short D k j
    generalize (linkO D k j).isSome = ok at S I
    generalize (linkO D k j).getD Dp.zero = Rg at S I shr
    obtain ⟨N2, n3, n4, MG, QG⟩ := markD1 Rg shr
    obtain ⟨RC, Rn⟩ := Rg
    have hne : (ok != ok) = false := by simp
    clear sh shr
    go_enter Try.func9, Try.ntmps9
    go_wp2_with fail
    refine SZ.mono ?_; rintro e w1 ⟨rfl, hb1⟩
    have BW1 : Below w.heap.size w w1 := B5_th (B5_al (Below.refl w.heap.size w) (.cells #[.slice A0 D.C.h.l.length c0, .slice A1 D.C.h.r.length c1, .slice A2 D.C.h.t.length c2, .slice A3 D.C.c.length c3, .slice A4 D.n.length c4] 50)) hb1
    have zz1 : w.heap.size + 1 ≤ w1.heap.size := by have := hb1.size; simp at this; omega
    have AD_1 := DArg.below (by exact (DArg.alloc ha (Below.refl w.heap.size w).size (.cells #[.slice A0 D.C.h.l.length c0, .slice A1 D.C.h.r.length c1, .slice A2 D.C.h.t.length c2, .slice A3 D.C.c.length c3, .slice A4 D.n.length c4] 50))) (hb1.mono (B5_al (Below.refl w.heap.size w) (.cells #[.slice A0 D.C.h.l.length c0, .slice A1 D.C.h.r.length c1, .slice A2 D.C.h.t.length c2, .slice A3 D.C.c.length c3, .slice A4 D.n.length c4] 50)).size)
    have P_1 := Blk5.below (by exact (Blk5.new w (.slice A0 D.C.h.l.length c0) (.slice A1 D.C.h.r.length c1) (.slice A2 D.C.h.t.length c2) (.slice A3 D.C.c.length c3) (.slice A4 D.n.length c4) 50)) hb1
    obtain ⟨cP_1_0, cP_1_1, cP_1_2, cP_1_3, cP_1_4, _⟩ := P_1.cells
    have lP_1 := P_1.lt
    go_wp2_with fail
    refine (T _ AD_1 BW1.size).mono ?_; rintro e w2 ⟨vH2, rfl, H2, hb2⟩
    have BW2 : Below w.heap.size w w2 := B5_th BW1 hb2
    have zz2 : w1.heap.size ≤ w2.heap.size := hb2.size
    have AD_2 := DArg.below (by exact AD_1) (hb2.mono BW1.size)
    have P_2 := Blk5.below (by exact P_1) hb2
    obtain ⟨cP_2_0, cP_2_1, cP_2_2, cP_2_3, cP_2_4, _⟩ := P_2.cells
    have lP_2 := P_2.lt
    clear AD_1 P_1 cP_1_0 cP_1_1 cP_1_2 cP_1_3 cP_1_4 lP_1
    have H2o := H2
    go_wp2_with fail
    refine (S _ _ _ H2).mono ?_; rintro e w3 ⟨vRR, rfl, RR, hb3⟩
    have BW3 : Below w.heap.size w w3 := B5_th BW2 hb3
    have zz3 : w2.heap.size ≤ w3.heap.size := hb3.size
    have AD_3 := DArg.below (by exact AD_2) (hb3.mono BW2.size)
    have P_3 := Blk5.below (by exact P_2) hb3
    obtain ⟨cP_3_0, cP_3_1, cP_3_2, cP_3_3, cP_3_4, _⟩ := P_3.cells
    have lP_3 := P_3.lt
    have H2_3 := Dv.below (by exact H2) hb3
    clear AD_2 P_2 cP_2_0 cP_2_1 cP_2_2 cP_2_3 cP_2_4 lP_2
    have RRo := RR
    obtain ⟨rA0, rn0, rk0, rA1, rn1, rk1, rA2, rn2, rk2, rA3, rn3, rk3, rA4, rn4, rk4, rfl⟩ := Dv.shape RR
    go_wp2_with fail
    refine (T _ (DArg.alloc AD_3 BW3.size (.cells #[.slice rA0 rn0 rk0, .slice rA1 rn1 rk1, .slice rA2 rn2 rk2, .slice rA3 rn3 rk3, .slice rA4 rn4 rk4] 40)) (B5_al BW3 (.cells #[.slice rA0 rn0 rk0, .slice rA1 rn1 rk1, .slice rA2 rn2 rk2, .slice rA3 rn3 rk3, .slice rA4 rn4 rk4] 40)).size).mono ?_; rintro e w4 ⟨vH4, rfl, H4, hb4⟩
    have BW4 : Below w.heap.size w w4 := B5_th (B5_al BW3 (.cells #[.slice rA0 rn0 rk0, .slice rA1 rn1 rk1, .slice rA2 rn2 rk2, .slice rA3 rn3 rk3, .slice rA4 rn4 rk4] 40)) hb4
    have zz4 : w3.heap.size + 1 ≤ w4.heap.size := by have := hb4.size; simp at this; omega
    have AD_4 := DArg.below (by exact (DArg.alloc AD_3 BW3.size (.cells #[.slice rA0 rn0 rk0, .slice rA1 rn1 rk1, .slice rA2 rn2 rk2, .slice rA3 rn3 rk3, .slice rA4 rn4 rk4] 40))) (hb4.mono (B5_al BW3 (.cells #[.slice rA0 rn0 rk0, .slice rA1 rn1 rk1, .slice rA2 rn2 rk2, .slice rA3 rn3 rk3, .slice rA4 rn4 rk4] 40)).size)
    have P_4 := Blk5.below (by exact (P_3.alloc (.cells #[.slice rA0 rn0 rk0, .slice rA1 rn1 rk1, .slice rA2 rn2 rk2, .slice rA3 rn3 rk3, .slice rA4 rn4 rk4] 40))) hb4
    obtain ⟨cP_4_0, cP_4_1, cP_4_2, cP_4_3, cP_4_4, _⟩ := P_4.cells
    have lP_4 := P_4.lt
    have RR_4 := Dv.below (by exact (RR.alloc (.cells #[.slice rA0 rn0 rk0, .slice rA1 rn1 rk1, .slice rA2 rn2 rk2, .slice rA3 rn3 rk3, .slice rA4 rn4 rk4] 40))) hb4
    have R_4 := Blk5.below (by exact (Blk5.new w3 (.slice rA0 rn0 rk0) (.slice rA1 rn1 rk1) (.slice rA2 rn2 rk2) (.slice rA3 rn3 rk3) (.slice rA4 rn4 rk4) 40)) hb4
    obtain ⟨cR_4_0, cR_4_1, cR_4_2, cR_4_3, cR_4_4, _⟩ := R_4.cells
    have lR_4 := R_4.lt
    replace H4 := Dv.mono H4 (lo' := w3.heap.size + 1) (by simp)
    have H4o := H4
    obtain ⟨xA0, xn0, xk0, xA1, xn1, xk1, xA2, xn2, xk2, xA3, xn3, xk3, xA4, xn4, xk4, rfl⟩ := Dv.shape H4
    go_wp2_with fail
    refine (I _ _ _ (H4.alloc (.cells #[.slice xA0 xn0 xk0, .slice xA1 xn1 xk1, .slice xA2 xn2 xk2, .slice xA3 xn3 xk3, .slice xA4 xn4 xk4] 40))).mono ?_; rintro e w6 ⟨vRG, rfl, RG, hb6⟩
    have BW5 : Below w.heap.size w w6 := B5_th (B5_al BW4 (.cells #[.slice xA0 xn0 xk0, .slice xA1 xn1 xk1, .slice xA2 xn2 xk2, .slice xA3 xn3 xk3, .slice xA4 xn4 xk4] 40)) hb6
    have zz5 : w4.heap.size + 1 ≤ w6.heap.size := by have := hb6.size; simp at this; omega
    have AD_5 := DArg.below (by exact (DArg.alloc AD_4 BW4.size (.cells #[.slice xA0 xn0 xk0, .slice xA1 xn1 xk1, .slice xA2 xn2 xk2, .slice xA3 xn3 xk3, .slice xA4 xn4 xk4] 40))) (hb6.mono (B5_al BW4 (.cells #[.slice xA0 xn0 xk0, .slice xA1 xn1 xk1, .slice xA2 xn2 xk2, .slice xA3 xn3 xk3, .slice xA4 xn4 xk4] 40)).size)
    have P_5 := Blk5.below (by exact (P_4.alloc (.cells #[.slice xA0 xn0 xk0, .slice xA1 xn1 xk1, .slice xA2 xn2 xk2, .slice xA3 xn3 xk3, .slice xA4 xn4 xk4] 40))) hb6
    obtain ⟨cP_5_0, cP_5_1, cP_5_2, cP_5_3, cP_5_4, _⟩ := P_5.cells
    have lP_5 := P_5.lt
    have RR_5 := Dv.below (by exact (RR_4.alloc (.cells #[.slice xA0 xn0 xk0, .slice xA1 xn1 xk1, .slice xA2 xn2 xk2, .slice xA3 xn3 xk3, .slice xA4 xn4 xk4] 40))) hb6
    have R_5 := Blk5.below (by exact (R_4.alloc (.cells #[.slice xA0 xn0 xk0, .slice xA1 xn1 xk1, .slice xA2 xn2 xk2, .slice xA3 xn3 xk3, .slice xA4 xn4 xk4] 40))) hb6
    obtain ⟨cR_5_0, cR_5_1, cR_5_2, cR_5_3, cR_5_4, _⟩ := R_5.cells
    have lR_5 := R_5.lt
    have H4_5 := Dv.below (by exact (H4.alloc (.cells #[.slice xA0 xn0 xk0, .slice xA1 xn1 xk1, .slice xA2 xn2 xk2, .slice xA3 xn3 xk3, .slice xA4 xn4 xk4] 40))) hb6
    have X_5 := Blk5.below (by exact (Blk5.new w4 (.slice xA0 xn0 xk0) (.slice xA1 xn1 xk1) (.slice xA2 xn2 xk2) (.slice xA3 xn3 xk3) (.slice xA4 xn4 xk4) 40)) hb6
    obtain ⟨cX_5_0, cX_5_1, cX_5_2, cX_5_3, cX_5_4, _⟩ := X_5.cells
    have lX_5 := X_5.lt
    replace RG := Dv.mono RG (lo' := w4.heap.size + 1) (by simp)
    have RGo := RG
    obtain ⟨gA0, gn0, gk0, gA1, gn1, gk1, gA2, gn2, gk2, gA3, gn3, gk3, gA4, gn4, gk4, rfl⟩ := Dv.shape RG
    go_wp2_with fail
    refine (eqCounted_same _ _ _ _ _ _ (RG.alloc (.cells #[.slice gA0 gn0 gk0, .slice gA1 gn1 gk1, .slice gA2 gn2 gk2, .slice gA3 gn3 gk3, .slice gA4 gn4 gk4] 40)) (RR_5.alloc (.cells #[.slice gA0 gn0 gk0, .slice gA1 gn1 gk1, .slice gA2 gn2 gk2, .slice gA3 gn3 gk3, .slice gA4 gn4 gk4] 40))).mono ?_; rintro e w7 ⟨rfl, hb7⟩
    have BW6 : Below w.heap.size w w7 := B5_th (B5_al BW5 (.cells #[.slice gA0 gn0 gk0, .slice gA1 gn1 gk1, .slice gA2 gn2 gk2, .slice gA3 gn3 gk3, .slice gA4 gn4 gk4] 40)) hb7
    have zz6 : w6.heap.size + 1 ≤ w7.heap.size := by have := hb7.size; simp at this; omega
    have AD_6 := DArg.below (by exact (DArg.alloc AD_5 BW5.size (.cells #[.slice gA0 gn0 gk0, .slice gA1 gn1 gk1, .slice gA2 gn2 gk2, .slice gA3 gn3 gk3, .slice gA4 gn4 gk4] 40))) (hb7.mono (B5_al BW5 (.cells #[.slice gA0 gn0 gk0, .slice gA1 gn1 gk1, .slice gA2 gn2 gk2, .slice gA3 gn3 gk3, .slice gA4 gn4 gk4] 40)).size)
    have P_6 := Blk5.below (by exact (P_5.alloc (.cells #[.slice gA0 gn0 gk0, .slice gA1 gn1 gk1, .slice gA2 gn2 gk2, .slice gA3 gn3 gk3, .slice gA4 gn4 gk4] 40))) hb7
    obtain ⟨cP_6_0, cP_6_1, cP_6_2, cP_6_3, cP_6_4, _⟩ := P_6.cells
    have lP_6 := P_6.lt
    have RR_6 := Dv.below (by exact (RR_5.alloc (.cells #[.slice gA0 gn0 gk0, .slice gA1 gn1 gk1, .slice gA2 gn2 gk2, .slice gA3 gn3 gk3, .slice gA4 gn4 gk4] 40))) hb7
    have R_6 := Blk5.below (by exact (R_5.alloc (.cells #[.slice gA0 gn0 gk0, .slice gA1 gn1 gk1, .slice gA2 gn2 gk2, .slice gA3 gn3 gk3, .slice gA4 gn4 gk4] 40))) hb7
    obtain ⟨cR_6_0, cR_6_1, cR_6_2, cR_6_3, cR_6_4, _⟩ := R_6.cells
    have lR_6 := R_6.lt
    have H4_6 := Dv.below (by exact (H4_5.alloc (.cells #[.slice gA0 gn0 gk0, .slice gA1 gn1 gk1, .slice gA2 gn2 gk2, .slice gA3 gn3 gk3, .slice gA4 gn4 gk4] 40))) hb7
    have X_6 := Blk5.below (by exact (X_5.alloc (.cells #[.slice gA0 gn0 gk0, .slice gA1 gn1 gk1, .slice gA2 gn2 gk2, .slice gA3 gn3 gk3, .slice gA4 gn4 gk4] 40))) hb7
    obtain ⟨cX_6_0, cX_6_1, cX_6_2, cX_6_3, cX_6_4, _⟩ := X_6.cells
    have lX_6 := X_6.lt
    have RG_6 := Dv.below (by exact (RG.alloc (.cells #[.slice gA0 gn0 gk0, .slice gA1 gn1 gk1, .slice gA2 gn2 gk2, .slice gA3 gn3 gk3, .slice gA4 gn4 gk4] 40))) hb7
    have G_6 := Blk5.below (by exact (Blk5.new w6 (.slice gA0 gn0 gk0) (.slice gA1 gn1 gk1) (.slice gA2 gn2 gk2) (.slice gA3 gn3 gk3) (.slice gA4 gn4 gk4) 40)) hb7
    obtain ⟨cG_6_0, cG_6_1, cG_6_2, cG_6_3, cG_6_4, _⟩ := G_6.cells
    have lG_6 := G_6.lt
    go_wp2_with fail
    have SOw9 : ∀ w' : World, Below w7.heap.size w7 w' → w'.cell? ⟨w4.heap.size, 0, none⟩ = some (.slice xA0 xn0 xk0) ∧ w'.cell? ⟨w4.heap.size, 1, none⟩ = some (.slice xA1 xn1 xk1) ∧ w'.cell? ⟨w4.heap.size, 2, none⟩ = some (.slice xA2 xn2 xk2) ∧ w'.cell? ⟨w4.heap.size, 3, none⟩ = some (.slice xA3 xn3 xk3) ∧ w'.cell? ⟨w4.heap.size, 4, none⟩ = some (.slice xA4 xn4 xk4) ∧ w'.cell? ⟨w.heap.size, 0, none⟩ = some (.slice A0 D.C.h.l.length c0) ∧ w'.cell? ⟨w.heap.size, 1, none⟩ = some (.slice A1 D.C.h.r.length c1) ∧ w'.cell? ⟨w.heap.size, 2, none⟩ = some (.slice A2 D.C.h.t.length c2) ∧ w'.cell? ⟨w.heap.size, 3, none⟩ = some (.slice A3 D.C.c.length c3) ∧ w'.cell? ⟨w.heap.size, 4, none⟩ = some (.slice A4 D.n.length c4) := fun w' hb => ⟨(Blk5.below X_6 hb).cells.1, (Blk5.below X_6 hb).cells.2.1, (Blk5.below X_6 hb).cells.2.2.1, (Blk5.below X_6 hb).cells.2.2.2.1, (Blk5.below X_6 hb).cells.2.2.2.2.1, (Blk5.below P_6 hb).cells.1, (Blk5.below P_6 hb).cells.2.1, (Blk5.below P_6 hb).cells.2.2.1, (Blk5.below P_6 hb).cells.2.2.2.1, (Blk5.below P_6 hb).cells.2.2.2.2.1⟩
    have TSw9 := fun V (hV : Below w7.heap.size w7 V) => T V (DArg.below AD_6 (hV.mono BW6.size)) (Nat.le_trans BW6.size hV.size)
    go_region_held3 (fun w' => w'.cell? ⟨w4.heap.size, 0, none⟩ = some (.slice xA0 xn0 xk0) ∧ w'.cell? ⟨w4.heap.size, 1, none⟩ = some (.slice xA1 xn1 xk1) ∧ w'.cell? ⟨w4.heap.size, 2, none⟩ = some (.slice xA2 xn2 xk2) ∧ w'.cell? ⟨w4.heap.size, 3, none⟩ = some (.slice xA3 xn3 xk3) ∧ w'.cell? ⟨w4.heap.size, 4, none⟩ = some (.slice xA4 xn4 xk4) ∧ w'.cell? ⟨w.heap.size, 0, none⟩ = some (.slice A0 D.C.h.l.length c0) ∧ w'.cell? ⟨w.heap.size, 1, none⟩ = some (.slice A1 D.C.h.r.length c1) ∧ w'.cell? ⟨w.heap.size, 2, none⟩ = some (.slice A2 D.C.h.t.length c2) ∧ w'.cell? ⟨w.heap.size, 3, none⟩ = some (.slice A3 D.C.c.length c3) ∧ w'.cell? ⟨w.heap.size, 4, none⟩ = some (.slice A4 D.n.length c4))
      (((try dsimp only); (refine SOw9 _ ?_); (repeat (with_reducible (first | exact Below.refl _ _ | exact hRaw9 | exact hRbw9 | refine B5_dr ?_ | refine B5_al ?_ _)))))
      (first
        | (go_at_call 33; (refine Calls.mono (TSw9 _ ?_) ?_); (· repeat (with_reducible (first | exact Below.refl _ _ | refine B5_dr ?_ | refine B5_al ?_ _))); rintro e aw9 ⟨vaw9, rfl, Kaw9, hbaw9⟩; (have hRaw9 : Below w7.heap.size w7 aw9 := (by refine B5_th ?_ hbaw9; repeat (with_reducible (first | exact Below.refl _ _ | refine B5_dr ?_ | refine B5_al ?_ _)))))
        | (go_at_call 26; (refine (eqCounted_same _ _ _ _ _ _ (Dv.below (by exact H4_6) hRaw9) Kaw9).mono ?_); rintro e w9 ⟨rfl, hbbw9⟩; (have hRbw9 : Below w7.heap.size w7 w9 := B5_th hRaw9 hbbw9)))
    try (rename_i hHeld; clear hHeld)
    have BW7 : Below w.heap.size w w9 := B5_th BW6 hRbw9
    have zz7 : w7.heap.size ≤ w9.heap.size := hRbw9.size
    have AD_7 := DArg.below (by exact AD_6) (hRbw9.mono BW6.size)
    have P_7 := Blk5.below (by exact P_6) hRbw9
    obtain ⟨cP_7_0, cP_7_1, cP_7_2, cP_7_3, cP_7_4, _⟩ := P_7.cells
    have lP_7 := P_7.lt
    have RR_7 := Dv.below (by exact RR_6) hRbw9
    have R_7 := Blk5.below (by exact R_6) hRbw9
    obtain ⟨cR_7_0, cR_7_1, cR_7_2, cR_7_3, cR_7_4, _⟩ := R_7.cells
    have lR_7 := R_7.lt
    have H4_7 := Dv.below (by exact H4_6) hRbw9
    have X_7 := Blk5.below (by exact X_6) hRbw9
    obtain ⟨cX_7_0, cX_7_1, cX_7_2, cX_7_3, cX_7_4, _⟩ := X_7.cells
    have lX_7 := X_7.lt
    have RG_7 := Dv.below (by exact RG_6) hRbw9
    have G_7 := Blk5.below (by exact G_6) hRbw9
    obtain ⟨cG_7_0, cG_7_1, cG_7_2, cG_7_3, cG_7_4, _⟩ := G_7.cells
    have lG_7 := G_7.lt
    clear AD_6 P_6 cP_6_0 cP_6_1 cP_6_2 cP_6_3 cP_6_4 lP_6 RR_6 R_6 cR_6_0 cR_6_1 cR_6_2 cR_6_3 cR_6_4 lR_6 H4_6 X_6 cX_6_0 cX_6_1 cX_6_2 cX_6_3 cX_6_4 lX_6 RG_6 G_6 cG_6_0 cG_6_1 cG_6_2 cG_6_3 cG_6_4 lG_6
    go_wp2_with fail
    refine (MX _ _ _ H4_7 (by omega)).mono ?_; rintro e w12 ⟨rfl, HM4, hb12, fr12⟩
    have BW8 : Below w.heap.size w w12 := BW7.trans (hb12.mono (by omega))
    have zz8 : w9.heap.size ≤ w12.heap.size := hb12.size
    have AD_8 := DArg.below AD_7 (hb12.mono (by omega))
    have P_8 := Blk5.frameD P_7 fr12 (farD_old H4o (by omega))
    obtain ⟨cP_8_0, cP_8_1, cP_8_2, cP_8_3, cP_8_4, _⟩ := P_8.cells
    have lP_8 := P_8.lt
    have RR_8 := Dv.keptFar RR_7 hb12 RRo (by omega)
    have R_8 := Blk5.frameD R_7 fr12 (farD_old H4o (by omega))
    obtain ⟨cR_8_0, cR_8_1, cR_8_2, cR_8_3, cR_8_4, _⟩ := R_8.cells
    have lR_8 := R_8.lt
    have H4_8 := HM4
    have X_8 := Blk5.frameD X_7 fr12 (farD_new H4o (by omega))
    obtain ⟨cX_8_0, cX_8_1, cX_8_2, cX_8_3, cX_8_4, _⟩ := X_8.cells
    have lX_8 := X_8.lt
    have RG_8 := Dv.keptM RG_7 fr12 (fun b h1 _ => farD_new H4o (by omega))
    have G_8 := Blk5.frameD G_7 fr12 (farD_new H4o (by omega))
    obtain ⟨cG_8_0, cG_8_1, cG_8_2, cG_8_3, cG_8_4, _⟩ := G_8.cells
    have lG_8 := G_8.lt
    clear AD_7 P_7 cP_7_0 cP_7_1 cP_7_2 cP_7_3 cP_7_4 lP_7 RR_7 R_7 cR_7_0 cR_7_1 cR_7_2 cR_7_3 cR_7_4 lR_7 H4_7 X_7 cX_7_0 cX_7_1 cX_7_2 cX_7_3 cX_7_4 lX_7 RG_7 G_7 cG_7_0 cG_7_1 cG_7_2 cG_7_3 cG_7_4 lG_7
    go_wp2_with fail
    refine (eqCounted_same _ _ _ _ _ _ RG_8 RR_8).mono ?_; rintro e w14 ⟨rfl, hb14⟩
    have BW9 : Below w.heap.size w w14 := B5_th BW8 hb14
    have zz9 : w12.heap.size ≤ w14.heap.size := hb14.size
    have AD_9 := DArg.below (by exact AD_8) (hb14.mono BW8.size)
    have P_9 := Blk5.below (by exact P_8) hb14
    obtain ⟨cP_9_0, cP_9_1, cP_9_2, cP_9_3, cP_9_4, _⟩ := P_9.cells
    have lP_9 := P_9.lt
    have RR_9 := Dv.below (by exact RR_8) hb14
    have R_9 := Blk5.below (by exact R_8) hb14
    obtain ⟨cR_9_0, cR_9_1, cR_9_2, cR_9_3, cR_9_4, _⟩ := R_9.cells
    have lR_9 := R_9.lt
    have RG_9 := Dv.below (by exact RG_8) hb14
    have G_9 := Blk5.below (by exact G_8) hb14
    obtain ⟨cG_9_0, cG_9_1, cG_9_2, cG_9_3, cG_9_4, _⟩ := G_9.cells
    have lG_9 := G_9.lt
    clear AD_8 P_8 cP_8_0 cP_8_1 cP_8_2 cP_8_3 cP_8_4 lP_8 RR_8 R_8 cR_8_0 cR_8_1 cR_8_2 cR_8_3 cR_8_4 lR_8 RG_8 G_8 cG_8_0 cG_8_1 cG_8_2 cG_8_3 cG_8_4 lG_8
    go_wp2_with fail
    refine (MG _ _ _ RG_9 (by omega)).mono ?_; rintro e w15 ⟨rfl, HMG, hb15, fr15⟩
    have BW10 : Below w.heap.size w w15 := BW9.trans (hb15.mono (by omega))
    have zz10 : w14.heap.size ≤ w15.heap.size := hb15.size
    have AD_10 := DArg.below AD_9 (hb15.mono (by omega))
    have P_10 := Blk5.frameD P_9 fr15 (farD_old RGo (by omega))
    obtain ⟨cP_10_0, cP_10_1, cP_10_2, cP_10_3, cP_10_4, _⟩ := P_10.cells
    have lP_10 := P_10.lt
    have RR_10 := Dv.keptFar RR_9 hb15 RRo (by omega)
    have R_10 := Blk5.frameD R_9 fr15 (farD_old RGo (by omega))
    obtain ⟨cR_10_0, cR_10_1, cR_10_2, cR_10_3, cR_10_4, _⟩ := R_10.cells
    have lR_10 := R_10.lt
    have RG_10 := HMG
    have G_10 := Blk5.frameD G_9 fr15 (farD_new RGo (by omega))
    obtain ⟨cG_10_0, cG_10_1, cG_10_2, cG_10_3, cG_10_4, _⟩ := G_10.cells
    have lG_10 := G_10.lt
    clear AD_9 P_9 cP_9_0 cP_9_1 cP_9_2 cP_9_3 cP_9_4 lP_9 RR_9 R_9 cR_9_0 cR_9_1 cR_9_2 cR_9_3 cR_9_4 lR_9 RG_9 G_9 cG_9_0 cG_9_1 cG_9_2 cG_9_3 cG_9_4 lG_9
    go_wp2_with fail
    refine (QG _ _ _ RG_10).mono ?_; rintro e w16 ⟨rfl, hb16⟩
    have BW11 : Below w.heap.size w w16 := B5_th BW10 hb16
    have zz11 : w15.heap.size ≤ w16.heap.size := hb16.size
    have AD_11 := DArg.below (by exact AD_10) (hb16.mono BW10.size)
    have P_11 := Blk5.below (by exact P_10) hb16
    obtain ⟨cP_11_0, cP_11_1, cP_11_2, cP_11_3, cP_11_4, _⟩ := P_11.cells
    have lP_11 := P_11.lt
    have RR_11 := Dv.below (by exact RR_10) hb16
    have R_11 := Blk5.below (by exact R_10) hb16
    obtain ⟨cR_11_0, cR_11_1, cR_11_2, cR_11_3, cR_11_4, _⟩ := R_11.cells
    have lR_11 := R_11.lt
    have RG_11 := Dv.below (by exact RG_10) hb16
    have G_11 := Blk5.below (by exact G_10) hb16
    obtain ⟨cG_11_0, cG_11_1, cG_11_2, cG_11_3, cG_11_4, _⟩ := G_11.cells
    have lG_11 := G_11.lt
    clear AD_10 P_10 cP_10_0 cP_10_1 cP_10_2 cP_10_3 cP_10_4 lP_10 RR_10 R_10 cR_10_0 cR_10_1 cR_10_2 cR_10_3 cR_10_4 lR_10 RG_10 G_10 cG_10_0 cG_10_1 cG_10_2 cG_10_3 cG_10_4 lG_10
    go_wp2_with fail
    refine (T _ AD_11 BW11.size).mono ?_; rintro e w13x ⟨vH13, rfl, H13, hb13x⟩
    have BW12 : Below w.heap.size w w13x := B5_th BW11 hb13x
    have zz12 : w16.heap.size ≤ w13x.heap.size := hb13x.size
    have AD_12 := DArg.below (by exact AD_11) (hb13x.mono BW11.size)
    have P_12 := Blk5.below (by exact P_11) hb13x
    obtain ⟨cP_12_0, cP_12_1, cP_12_2, cP_12_3, cP_12_4, _⟩ := P_12.cells
    have lP_12 := P_12.lt
    have RR_12 := Dv.below (by exact RR_11) hb13x
    have R_12 := Blk5.below (by exact R_11) hb13x
    obtain ⟨cR_12_0, cR_12_1, cR_12_2, cR_12_3, cR_12_4, _⟩ := R_12.cells
    have lR_12 := R_12.lt
    have RG_12 := Dv.below (by exact RG_11) hb13x
    have G_12 := Blk5.below (by exact G_11) hb13x
    obtain ⟨cG_12_0, cG_12_1, cG_12_2, cG_12_3, cG_12_4, _⟩ := G_12.cells
    have lG_12 := G_12.lt
    clear AD_11 P_11 cP_11_0 cP_11_1 cP_11_2 cP_11_3 cP_11_4 lP_11 RR_11 R_11 cR_11_0 cR_11_1 cR_11_2 cR_11_3 cR_11_4 lR_11 RG_11 G_11 cG_11_0 cG_11_1 cG_11_2 cG_11_3 cG_11_4 lG_11
    have H13o := H13
    go_wp2_with fail
    refine (I _ _ _ H13).mono ?_; rintro e w17 ⟨vRK, rfl, RK, hb17⟩
    have BW13 : Below w.heap.size w w17 := B5_th BW12 hb17
    have zz13 : w13x.heap.size ≤ w17.heap.size := hb17.size
    have AD_13 := DArg.below (by exact AD_12) (hb17.mono BW12.size)
    have P_13 := Blk5.below (by exact P_12) hb17
    obtain ⟨cP_13_0, cP_13_1, cP_13_2, cP_13_3, cP_13_4, _⟩ := P_13.cells
    have lP_13 := P_13.lt
    have RR_13 := Dv.below (by exact RR_12) hb17
    have R_13 := Blk5.below (by exact R_12) hb17
    obtain ⟨cR_13_0, cR_13_1, cR_13_2, cR_13_3, cR_13_4, _⟩ := R_13.cells
    have lR_13 := R_13.lt
    have RG_13 := Dv.below (by exact RG_12) hb17
    have G_13 := Blk5.below (by exact G_12) hb17
    obtain ⟨cG_13_0, cG_13_1, cG_13_2, cG_13_3, cG_13_4, _⟩ := G_13.cells
    have lG_13 := G_13.lt
    have H13_13 := Dv.below (by exact H13) hb17
    clear AD_12 P_12 cP_12_0 cP_12_1 cP_12_2 cP_12_3 cP_12_4 lP_12 RR_12 R_12 cR_12_0 cR_12_1 cR_12_2 cR_12_3 cR_12_4 lR_12 RG_12 G_12 cG_12_0 cG_12_1 cG_12_2 cG_12_3 cG_12_4 lG_12
    have RKo := RK
    obtain ⟨kA0, kn0, kk0, kA1, kn1, kk1, kA2, kn2, kk2, kA3, kn3, kk3, kA4, kn4, kk4, rfl⟩ := Dv.shape RK
    go_wp2_with fail
    refine (eqCounted_same _ _ _ _ _ _ (RK.alloc (.cells #[.slice kA0 kn0 kk0, .slice kA1 kn1 kk1, .slice kA2 kn2 kk2, .slice kA3 kn3 kk3, .slice kA4 kn4 kk4] 40)) (RR_13.alloc (.cells #[.slice kA0 kn0 kk0, .slice kA1 kn1 kk1, .slice kA2 kn2 kk2, .slice kA3 kn3 kk3, .slice kA4 kn4 kk4] 40))).mono ?_; rintro e w18 ⟨rfl, hb18⟩
    have BW14 : Below w.heap.size w w18 := B5_th (B5_al BW13 (.cells #[.slice kA0 kn0 kk0, .slice kA1 kn1 kk1, .slice kA2 kn2 kk2, .slice kA3 kn3 kk3, .slice kA4 kn4 kk4] 40)) hb18
    have zz14 : w17.heap.size + 1 ≤ w18.heap.size := by have := hb18.size; simp at this; omega
    have AD_14 := DArg.below (by exact (DArg.alloc AD_13 BW13.size (.cells #[.slice kA0 kn0 kk0, .slice kA1 kn1 kk1, .slice kA2 kn2 kk2, .slice kA3 kn3 kk3, .slice kA4 kn4 kk4] 40))) (hb18.mono (B5_al BW13 (.cells #[.slice kA0 kn0 kk0, .slice kA1 kn1 kk1, .slice kA2 kn2 kk2, .slice kA3 kn3 kk3, .slice kA4 kn4 kk4] 40)).size)
    have P_14 := Blk5.below (by exact (P_13.alloc (.cells #[.slice kA0 kn0 kk0, .slice kA1 kn1 kk1, .slice kA2 kn2 kk2, .slice kA3 kn3 kk3, .slice kA4 kn4 kk4] 40))) hb18
    obtain ⟨cP_14_0, cP_14_1, cP_14_2, cP_14_3, cP_14_4, _⟩ := P_14.cells
    have lP_14 := P_14.lt
    have RR_14 := Dv.below (by exact (RR_13.alloc (.cells #[.slice kA0 kn0 kk0, .slice kA1 kn1 kk1, .slice kA2 kn2 kk2, .slice kA3 kn3 kk3, .slice kA4 kn4 kk4] 40))) hb18
    have R_14 := Blk5.below (by exact (R_13.alloc (.cells #[.slice kA0 kn0 kk0, .slice kA1 kn1 kk1, .slice kA2 kn2 kk2, .slice kA3 kn3 kk3, .slice kA4 kn4 kk4] 40))) hb18
    obtain ⟨cR_14_0, cR_14_1, cR_14_2, cR_14_3, cR_14_4, _⟩ := R_14.cells
    have lR_14 := R_14.lt
    have RG_14 := Dv.below (by exact (RG_13.alloc (.cells #[.slice kA0 kn0 kk0, .slice kA1 kn1 kk1, .slice kA2 kn2 kk2, .slice kA3 kn3 kk3, .slice kA4 kn4 kk4] 40))) hb18
    have G_14 := Blk5.below (by exact (G_13.alloc (.cells #[.slice kA0 kn0 kk0, .slice kA1 kn1 kk1, .slice kA2 kn2 kk2, .slice kA3 kn3 kk3, .slice kA4 kn4 kk4] 40))) hb18
    obtain ⟨cG_14_0, cG_14_1, cG_14_2, cG_14_3, cG_14_4, _⟩ := G_14.cells
    have lG_14 := G_14.lt
    have RK_14 := Dv.below (by exact (RK.alloc (.cells #[.slice kA0 kn0 kk0, .slice kA1 kn1 kk1, .slice kA2 kn2 kk2, .slice kA3 kn3 kk3, .slice kA4 kn4 kk4] 40))) hb18
    have K_14 := Blk5.below (by exact (Blk5.new w17 (.slice kA0 kn0 kk0) (.slice kA1 kn1 kk1) (.slice kA2 kn2 kk2) (.slice kA3 kn3 kk3) (.slice kA4 kn4 kk4) 40)) hb18
    obtain ⟨cK_14_0, cK_14_1, cK_14_2, cK_14_3, cK_14_4, _⟩ := K_14.cells
    have lK_14 := K_14.lt
    go_wp2_with fail
    refine (QG _ _ _ RG_14).mono ?_; rintro e w19 ⟨rfl, hb19⟩
    have BW15 : Below w.heap.size w w19 := B5_th BW14 hb19
    have zz15 : w18.heap.size ≤ w19.heap.size := hb19.size
    have AD_15 := DArg.below (by exact AD_14) (hb19.mono BW14.size)
    have P_15 := Blk5.below (by exact P_14) hb19
    obtain ⟨cP_15_0, cP_15_1, cP_15_2, cP_15_3, cP_15_4, _⟩ := P_15.cells
    have lP_15 := P_15.lt
    have RR_15 := Dv.below (by exact RR_14) hb19
    have R_15 := Blk5.below (by exact R_14) hb19
    obtain ⟨cR_15_0, cR_15_1, cR_15_2, cR_15_3, cR_15_4, _⟩ := R_15.cells
    have lR_15 := R_15.lt
    have RG_15 := Dv.below (by exact RG_14) hb19
    have G_15 := Blk5.below (by exact G_14) hb19
    obtain ⟨cG_15_0, cG_15_1, cG_15_2, cG_15_3, cG_15_4, _⟩ := G_15.cells
    have lG_15 := G_15.lt
    have RK_15 := Dv.below (by exact RK_14) hb19
    have K_15 := Blk5.below (by exact K_14) hb19
    obtain ⟨cK_15_0, cK_15_1, cK_15_2, cK_15_3, cK_15_4, _⟩ := K_15.cells
    have lK_15 := K_15.lt
    clear AD_14 P_14 cP_14_0 cP_14_1 cP_14_2 cP_14_3 cP_14_4 lP_14 RR_14 R_14 cR_14_0 cR_14_1 cR_14_2 cR_14_3 cR_14_4 lR_14 RG_14 G_14 cG_14_0 cG_14_1 cG_14_2 cG_14_3 cG_14_4 lG_14 RK_14 K_14 cK_14_0 cK_14_1 cK_14_2 cK_14_3 cK_14_4 lK_14
    go_wp2_with fail
    go_ret
    exact ⟨rfl, BW15⟩
  · have hszv : szV ((D.C.h.l.length + D.C.h.r.length + D.C.h.t.length + D.C.c.length) + D.n.length) 1048576 = -1 := by unfold szV; rw [if_neg hsz]
    rw [hszv] at SZ
    clear hsz hszv
    go_enter Try.func9, Try.ntmps9
    go_wp2_with fail
    refine SZ.mono ?_; rintro e w1 ⟨rfl, hb1⟩
    go_wp2_with fail
    go_ret
    exact ⟨rfl, B5_th fin0 hb1⟩
end Go.Proofs.Ytpjdpflghcdkiaa
