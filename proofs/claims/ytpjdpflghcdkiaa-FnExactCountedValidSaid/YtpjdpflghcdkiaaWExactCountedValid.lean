/- The exact law of CountedValid, walked. -/
import Derived.Test.YtpjdpflghcdkiaaExactV
import Derived.Test.YtpjdpflghcdkiaaCVal
namespace Go.Proofs.Ytpjdpflghcdkiaa
open Go.RowKit

set_option maxRecDepth 100000 in
set_option maxHeartbeats 6000000 in
theorem lawExactCountedValid_walk (w : World) (v : Value) (D : Dp) (hv : DIn w v D) : Calls Try.prog 5 #[v] w (LawTrue w) := by
  obtain ⟨ha, m0, m1, m2, m3, m4⟩ := hv
  have ha2 := ha
  obtain ⟨A0, c0, A1, c1, A2, c2, A3, c3, A4, c4, rfl, -⟩ := ha2
  have SZ := szCounted_any (w.alloc (.cells #[.slice A0 D.C.h.l.length c0, .slice A1 D.C.h.r.length c1, .slice A2 D.C.h.t.length c2, .slice A3 D.C.c.length c3, .slice A4 D.n.length c4] 50)) A0 A1 A2 A3 A4 D.C.h.l.length c0 D.C.h.r.length c1 D.C.h.t.length c2 D.C.c.length c3 D.n.length c4 1048576 (by omega) (by omega) m0 m1 m2 m3 m4
  have fin0 : Below w.heap.size w (w.alloc (.cells #[.slice A0 D.C.h.l.length c0, .slice A1 D.C.h.r.length c1, .slice A2 D.C.h.t.length c2, .slice A3 D.C.c.length c3, .slice A4 D.n.length c4] 50)) := B5_al (Below.refl _ _) _
  by_cases hsz : ((((D.C.h.l.length + D.C.h.r.length + D.C.h.t.length + D.C.c.length) + D.n.length) : Nat) : Int) ≤ 1048576
  · have hszv : szV ((D.C.h.l.length + D.C.h.r.length + D.C.h.t.length + D.C.c.length) + D.n.length) 1048576 = 1048576 - ((((D.C.h.l.length + D.C.h.r.length + D.C.h.t.length + D.C.c.length) + D.n.length) : Nat) : Int) := by unfold szV; rw [if_pos hsz]
    rw [hszv] at SZ
    have sh : ShortD D 1048576 := by unfold ShortD; omega
    have s0 : ¬ (1048576 - ((((D.C.h.l.length + D.C.h.r.length + D.C.h.t.length + D.C.c.length) + D.n.length) : Nat) : Int) < 0) := by omega
    generalize 1048576 - ((((D.C.h.l.length + D.C.h.r.length + D.C.h.t.length + D.C.c.length) + D.n.length) : Nat) : Int) = sz at SZ s0
    clear hszv hsz m0 m1 m2 m3 m4
    have T := fun W (hW : DArg W w.heap.size (.agg #[.slice A0 D.C.h.l.length c0, .slice A1 D.C.h.r.length c1, .slice A2 D.C.h.t.length c2, .slice A3 D.C.c.length c3, .slice A4 D.n.length c4]) D) (hB : w.heap.size ≤ W.heap.size) => toCounted_any W w.heap.size hB _ D hW sh
    have S := fun W lo vs hW => specCountedValid_any W lo vs D hW
    have I := fun W lo vs hW => implCountedValid_any W lo vs D hW
    generalize dpB D = r at S I
    have hne : (r != r) = false := by simp
    go_enter Try.func5, Try.ntmps5
    go_wp2_with fail
    refine SZ.mono ?_; rintro e w1 ⟨rfl, hb1⟩
    have BW1 : Below w.heap.size w w1 := B5_th (B5_al (Below.refl w.heap.size w) (.cells #[.slice A0 D.C.h.l.length c0, .slice A1 D.C.h.r.length c1, .slice A2 D.C.h.t.length c2, .slice A3 D.C.c.length c3, .slice A4 D.n.length c4] 50)) hb1
    have zz1 : w.heap.size + 1 ≤ w1.heap.size := by have := hb1.size; simp at this; omega
    have AD_1 := DArg.below (by exact (DArg.alloc ha (Below.refl w.heap.size w).size (.cells #[.slice A0 D.C.h.l.length c0, .slice A1 D.C.h.r.length c1, .slice A2 D.C.h.t.length c2, .slice A3 D.C.c.length c3, .slice A4 D.n.length c4] 50))) (hb1.mono (B5_al (Below.refl w.heap.size w) (.cells #[.slice A0 D.C.h.l.length c0, .slice A1 D.C.h.r.length c1, .slice A2 D.C.h.t.length c2, .slice A3 D.C.c.length c3, .slice A4 D.n.length c4] 50)).size)
    have P_1 := Blk5.below (by exact (Blk5.new w (.slice A0 D.C.h.l.length c0) (.slice A1 D.C.h.r.length c1) (.slice A2 D.C.h.t.length c2) (.slice A3 D.C.c.length c3) (.slice A4 D.n.length c4) 50)) hb1
    obtain ⟨cP_1_0, cP_1_1, cP_1_2, cP_1_3, cP_1_4, _⟩ := P_1.cells
    have lP_1 := P_1.lt
    go_wp2_with fail
    refine (T _ AD_1 BW1.size).mono ?_; rintro e w2 ⟨vH2, rfl, H2, hb2⟩
    have BW2 : Below w.heap.size w w2 := B5_th BW1 hb2
    have zz2 : w1.heap.size ≤ w2.heap.size := hb2.size
    have AD_2 := DArg.below (by exact AD_1) (hb2.mono BW1.size)
    have P_2 := Blk5.below (by exact P_1) hb2
    obtain ⟨cP_2_0, cP_2_1, cP_2_2, cP_2_3, cP_2_4, _⟩ := P_2.cells
    have lP_2 := P_2.lt
    clear AD_1 P_1 cP_1_0 cP_1_1 cP_1_2 cP_1_3 cP_1_4 lP_1
    have H2o := H2
    go_wp2_with fail
    refine (S _ _ _ H2).mono ?_; rintro e w3 ⟨rfl, hb3⟩
    have BW3 : Below w.heap.size w w3 := B5_th BW2 hb3
    have zz3 : w2.heap.size ≤ w3.heap.size := hb3.size
    have AD_3 := DArg.below (by exact AD_2) (hb3.mono BW2.size)
    have P_3 := Blk5.below (by exact P_2) hb3
    obtain ⟨cP_3_0, cP_3_1, cP_3_2, cP_3_3, cP_3_4, _⟩ := P_3.cells
    have lP_3 := P_3.lt
    have H2_3 := Dv.below (by exact H2) hb3
    clear AD_2 P_2 cP_2_0 cP_2_1 cP_2_2 cP_2_3 cP_2_4 lP_2
    go_wp2_with fail
    refine (T _ AD_3 BW3.size).mono ?_; rintro e w4 ⟨vH4, rfl, H4, hb4⟩
    have BW4 : Below w.heap.size w w4 := B5_th BW3 hb4
    have zz4 : w3.heap.size ≤ w4.heap.size := hb4.size
    have AD_4 := DArg.below (by exact AD_3) (hb4.mono BW3.size)
    have P_4 := Blk5.below (by exact P_3) hb4
    obtain ⟨cP_4_0, cP_4_1, cP_4_2, cP_4_3, cP_4_4, _⟩ := P_4.cells
    have lP_4 := P_4.lt
    clear AD_3 P_3 cP_3_0 cP_3_1 cP_3_2 cP_3_3 cP_3_4 lP_3
    have H4o := H4
    obtain ⟨xA0, xn0, xk0, xA1, xn1, xk1, xA2, xn2, xk2, xA3, xn3, xk3, xA4, xn4, xk4, rfl⟩ := Dv.shape H4
    go_wp2_with fail
    refine (I _ _ _ (H4.alloc (.cells #[.slice xA0 xn0 xk0, .slice xA1 xn1 xk1, .slice xA2 xn2 xk2, .slice xA3 xn3 xk3, .slice xA4 xn4 xk4] 40))).mono ?_; rintro e w5 ⟨rfl, hb5⟩
    have BW5 : Below w.heap.size w w5 := B5_th (B5_al BW4 (.cells #[.slice xA0 xn0 xk0, .slice xA1 xn1 xk1, .slice xA2 xn2 xk2, .slice xA3 xn3 xk3, .slice xA4 xn4 xk4] 40)) hb5
    have zz5 : w4.heap.size + 1 ≤ w5.heap.size := by have := hb5.size; simp at this; omega
    have AD_5 := DArg.below (by exact (DArg.alloc AD_4 BW4.size (.cells #[.slice xA0 xn0 xk0, .slice xA1 xn1 xk1, .slice xA2 xn2 xk2, .slice xA3 xn3 xk3, .slice xA4 xn4 xk4] 40))) (hb5.mono (B5_al BW4 (.cells #[.slice xA0 xn0 xk0, .slice xA1 xn1 xk1, .slice xA2 xn2 xk2, .slice xA3 xn3 xk3, .slice xA4 xn4 xk4] 40)).size)
    have P_5 := Blk5.below (by exact (P_4.alloc (.cells #[.slice xA0 xn0 xk0, .slice xA1 xn1 xk1, .slice xA2 xn2 xk2, .slice xA3 xn3 xk3, .slice xA4 xn4 xk4] 40))) hb5
    obtain ⟨cP_5_0, cP_5_1, cP_5_2, cP_5_3, cP_5_4, _⟩ := P_5.cells
    have lP_5 := P_5.lt
    have H4_5 := Dv.below (by exact (H4.alloc (.cells #[.slice xA0 xn0 xk0, .slice xA1 xn1 xk1, .slice xA2 xn2 xk2, .slice xA3 xn3 xk3, .slice xA4 xn4 xk4] 40))) hb5
    have X_5 := Blk5.below (by exact (Blk5.new w4 (.slice xA0 xn0 xk0) (.slice xA1 xn1 xk1) (.slice xA2 xn2 xk2) (.slice xA3 xn3 xk3) (.slice xA4 xn4 xk4) 40)) hb5
    obtain ⟨cX_5_0, cX_5_1, cX_5_2, cX_5_3, cX_5_4, _⟩ := X_5.cells
    have lX_5 := X_5.lt
    go_wp2_with fail
    have SOw6 : ∀ w' : World, Below w5.heap.size w5 w' → w'.cell? ⟨w4.heap.size, 0, none⟩ = some (.slice xA0 xn0 xk0) ∧ w'.cell? ⟨w4.heap.size, 1, none⟩ = some (.slice xA1 xn1 xk1) ∧ w'.cell? ⟨w4.heap.size, 2, none⟩ = some (.slice xA2 xn2 xk2) ∧ w'.cell? ⟨w4.heap.size, 3, none⟩ = some (.slice xA3 xn3 xk3) ∧ w'.cell? ⟨w4.heap.size, 4, none⟩ = some (.slice xA4 xn4 xk4) ∧ w'.cell? ⟨w.heap.size, 0, none⟩ = some (.slice A0 D.C.h.l.length c0) ∧ w'.cell? ⟨w.heap.size, 1, none⟩ = some (.slice A1 D.C.h.r.length c1) ∧ w'.cell? ⟨w.heap.size, 2, none⟩ = some (.slice A2 D.C.h.t.length c2) ∧ w'.cell? ⟨w.heap.size, 3, none⟩ = some (.slice A3 D.C.c.length c3) ∧ w'.cell? ⟨w.heap.size, 4, none⟩ = some (.slice A4 D.n.length c4) := fun w' hb => ⟨(Blk5.below X_5 hb).cells.1, (Blk5.below X_5 hb).cells.2.1, (Blk5.below X_5 hb).cells.2.2.1, (Blk5.below X_5 hb).cells.2.2.2.1, (Blk5.below X_5 hb).cells.2.2.2.2.1, (Blk5.below P_5 hb).cells.1, (Blk5.below P_5 hb).cells.2.1, (Blk5.below P_5 hb).cells.2.2.1, (Blk5.below P_5 hb).cells.2.2.2.1, (Blk5.below P_5 hb).cells.2.2.2.2.1⟩
    have TSw6 := fun V (hV : Below w5.heap.size w5 V) => T V (DArg.below AD_5 (hV.mono BW5.size)) (Nat.le_trans BW5.size hV.size)
    go_region_held3 (fun w' => w'.cell? ⟨w4.heap.size, 0, none⟩ = some (.slice xA0 xn0 xk0) ∧ w'.cell? ⟨w4.heap.size, 1, none⟩ = some (.slice xA1 xn1 xk1) ∧ w'.cell? ⟨w4.heap.size, 2, none⟩ = some (.slice xA2 xn2 xk2) ∧ w'.cell? ⟨w4.heap.size, 3, none⟩ = some (.slice xA3 xn3 xk3) ∧ w'.cell? ⟨w4.heap.size, 4, none⟩ = some (.slice xA4 xn4 xk4) ∧ w'.cell? ⟨w.heap.size, 0, none⟩ = some (.slice A0 D.C.h.l.length c0) ∧ w'.cell? ⟨w.heap.size, 1, none⟩ = some (.slice A1 D.C.h.r.length c1) ∧ w'.cell? ⟨w.heap.size, 2, none⟩ = some (.slice A2 D.C.h.t.length c2) ∧ w'.cell? ⟨w.heap.size, 3, none⟩ = some (.slice A3 D.C.c.length c3) ∧ w'.cell? ⟨w.heap.size, 4, none⟩ = some (.slice A4 D.n.length c4))
      (((try dsimp only); (refine SOw6 _ ?_); (repeat (with_reducible (first | exact Below.refl _ _ | exact hRaw6 | exact hRbw6 | refine B5_dr ?_ | refine B5_al ?_ _)))))
      (first
        | (go_at_call 33; (refine Calls.mono (TSw6 _ ?_) ?_); (· repeat (with_reducible (first | exact Below.refl _ _ | refine B5_dr ?_ | refine B5_al ?_ _))); rintro e aw6 ⟨vaw6, rfl, Kaw6, hbaw6⟩; (have hRaw6 : Below w5.heap.size w5 aw6 := (by refine B5_th ?_ hbaw6; repeat (with_reducible (first | exact Below.refl _ _ | refine B5_dr ?_ | refine B5_al ?_ _)))))
        | (go_at_call 26; (refine (eqCounted_same _ _ _ _ _ _ (Dv.below (by exact H4_5) hRaw6) Kaw6).mono ?_); rintro e w6 ⟨rfl, hbbw6⟩; (have hRbw6 : Below w5.heap.size w5 w6 := B5_th hRaw6 hbbw6)))
    try (rename_i hHeld; clear hHeld)
    have BW6 : Below w.heap.size w w6 := B5_th BW5 hRbw6
    have zz6 : w5.heap.size ≤ w6.heap.size := hRbw6.size
    have AD_6 := DArg.below (by exact AD_5) (hRbw6.mono BW5.size)
    have P_6 := Blk5.below (by exact P_5) hRbw6
    obtain ⟨cP_6_0, cP_6_1, cP_6_2, cP_6_3, cP_6_4, _⟩ := P_6.cells
    have lP_6 := P_6.lt
    have H4_6 := Dv.below (by exact H4_5) hRbw6
    have X_6 := Blk5.below (by exact X_5) hRbw6
    obtain ⟨cX_6_0, cX_6_1, cX_6_2, cX_6_3, cX_6_4, _⟩ := X_6.cells
    have lX_6 := X_6.lt
    clear AD_5 P_5 cP_5_0 cP_5_1 cP_5_2 cP_5_3 cP_5_4 lP_5 H4_5 X_5 cX_5_0 cX_5_1 cX_5_2 cX_5_3 cX_5_4 lX_5
    go_wp2_with fail
    go_ret
    exact ⟨rfl, BW6⟩
  · have hszv : szV ((D.C.h.l.length + D.C.h.r.length + D.C.h.t.length + D.C.c.length) + D.n.length) 1048576 = -1 := by unfold szV; rw [if_neg hsz]
    rw [hszv] at SZ
    clear hsz hszv
    go_enter Try.func5, Try.ntmps5
    go_wp2_with fail
    refine SZ.mono ?_; rintro e w1 ⟨rfl, hb1⟩
    go_wp2_with fail
    go_ret
    exact ⟨rfl, B5_th fin0 hb1⟩
end Go.Proofs.Ytpjdpflghcdkiaa
