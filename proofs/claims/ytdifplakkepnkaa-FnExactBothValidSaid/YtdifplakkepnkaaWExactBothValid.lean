/- The exact law of BothValid, walked. -/
import Derived.Test.YtdifplakkepnkaaMarkB
import Derived.Test.YtdifplakkepnkaaBVal
namespace Go.Proofs.Ytdifplakkepnkaa
open Go.RowKit

set_option maxRecDepth 100000 in
set_option maxHeartbeats 6000000 in
theorem lawExactBothValid_walk (w : World) (v : Value) (B : Bp) (hv : BIn w v B) : Calls Try.prog 5 #[v] w (LawTrue w) := by
  obtain ⟨C, ⟨p, cc, a⟩, os, i, z⟩ := B
  obtain ⟨ha, m0, m1, m2, m3, m4, m5⟩ := hv
  have ha2 := ha
  obtain ⟨A0, c0, A1, c1, A2, c2, A3, c3, A4, c4, A5, c5, rfl, -⟩ := ha2
  dsimp only at *
  have SZ := szBoth_any (w.alloc (.cells #[.slice A0 C.h.l.length c0, .slice A1 C.h.r.length c1, .slice A2 C.h.t.length c2, .slice A3 C.c.length c3, .int .i64 p, .slice A4 cc.length c4, .int .i64 a, .slice A5 os.length c5, .int .i64 i, .bool z] 56)) A0 A1 A2 A3 A4 A5 C.h.l.length c0 C.h.r.length c1 C.h.t.length c2 C.c.length c3 cc.length c4 os.length c5 p a i z 1048576 (by omega) (by omega) m0 m1 m2 m3 m4 m5
  have fin0 : Below w.heap.size w (w.alloc (.cells #[.slice A0 C.h.l.length c0, .slice A1 C.h.r.length c1, .slice A2 C.h.t.length c2, .slice A3 C.c.length c3, .int .i64 p, .slice A4 cc.length c4, .int .i64 a, .slice A5 os.length c5, .int .i64 i, .bool z] 56)) := B_al (Below.refl _ _) _
  by_cases hsz : ((((C.h.l.length + C.h.r.length + C.h.t.length + C.c.length) + cc.length + os.length) : Nat) : Int) ≤ 1048576
  · have hszv : szV ((C.h.l.length + C.h.r.length + C.h.t.length + C.c.length) + cc.length + os.length) 1048576 = 1048576 - ((((C.h.l.length + C.h.r.length + C.h.t.length + C.c.length) + cc.length + os.length) : Nat) : Int) := by unfold szV; rw [if_pos hsz]
    rw [hszv] at SZ
    have sh : ShortL ⟨C, ⟨p, cc, a⟩, os, i, z⟩ 1048576 := by unfold ShortL; dsimp only; omega
    have s0 : ¬ (1048576 - ((((C.h.l.length + C.h.r.length + C.h.t.length + C.c.length) + cc.length + os.length) : Nat) : Int) < 0) := by omega
    generalize 1048576 - ((((C.h.l.length + C.h.r.length + C.h.t.length + C.c.length) + cc.length + os.length) : Nat) : Int) = sz at SZ s0
    clear hszv hsz m0 m1 m2 m3 m4 m5
    have T := fun W (hW : BArg W w.heap.size (.agg #[.slice A0 C.h.l.length c0, .slice A1 C.h.r.length c1, .slice A2 C.h.t.length c2, .slice A3 C.c.length c3, .int .i64 p, .slice A4 cc.length c4, .int .i64 a, .slice A5 os.length c5, .int .i64 i, .bool z]) ⟨C, ⟨p, cc, a⟩, os, i, z⟩) (hB : w.heap.size ≤ W.heap.size) => toBoth_any W w.heap.size hB _ ⟨C, ⟨p, cc, a⟩, os, i, z⟩ hW sh
    have S := fun W lo vs hW => specBothValid_any W lo vs ⟨C, ⟨p, cc, a⟩, os, i, z⟩ hW
    have I := fun W lo vs hW => implBothValid_any W lo vs ⟨C, ⟨p, cc, a⟩, os, i, z⟩ hW
    generalize bothB ⟨C, ⟨p, cc, a⟩, os, i, z⟩ = r at S I
    have hne : (r != r) = false := by simp
    go_enter Try.func5, Try.ntmps5
    go_wp2_with fail
    refine SZ.mono ?_; rintro e w1 ⟨rfl, hb1⟩
    have BW1 : Below w.heap.size w w1 := B_th (B_al (Below.refl w.heap.size w) (.cells #[.slice A0 C.h.l.length c0, .slice A1 C.h.r.length c1, .slice A2 C.h.t.length c2, .slice A3 C.c.length c3, .int .i64 p, .slice A4 cc.length c4, .int .i64 a, .slice A5 os.length c5, .int .i64 i, .bool z] 56)) hb1
    have zz1 : w.heap.size + 1 ≤ w1.heap.size := by have := hb1.size; simp at this; omega
    have AB_1 := BArg.below (by exact (BArg.alloc ha (Below.refl w.heap.size w).size (.cells #[.slice A0 C.h.l.length c0, .slice A1 C.h.r.length c1, .slice A2 C.h.t.length c2, .slice A3 C.c.length c3, .int .i64 p, .slice A4 cc.length c4, .int .i64 a, .slice A5 os.length c5, .int .i64 i, .bool z] 56))) (hb1.mono (B_al (Below.refl w.heap.size w) (.cells #[.slice A0 C.h.l.length c0, .slice A1 C.h.r.length c1, .slice A2 C.h.t.length c2, .slice A3 C.c.length c3, .int .i64 p, .slice A4 cc.length c4, .int .i64 a, .slice A5 os.length c5, .int .i64 i, .bool z] 56)).size)
    have P_1 := Blk10.below (by exact (Blk10.new w (.slice A0 C.h.l.length c0) (.slice A1 C.h.r.length c1) (.slice A2 C.h.t.length c2) (.slice A3 C.c.length c3) (.int .i64 p) (.slice A4 cc.length c4) (.int .i64 a) (.slice A5 os.length c5) (.int .i64 i) (.bool z) 56)) hb1
    obtain ⟨⟨cP_1_0, cP_1_1, cP_1_2, cP_1_3, cP_1_4, cP_1_5, cP_1_6, cP_1_7, cP_1_8, cP_1_9⟩, -⟩ := P_1.cells
    have lP_1 := P_1.lt
    go_wp2_with fail
    refine (T _ AB_1 BW1.size).mono ?_; rintro e w2 ⟨v2, rfl, H2, hb2⟩
    have BW2 : Below w.heap.size w w2 := B_th BW1 hb2
    have zz2 : w1.heap.size ≤ w2.heap.size := hb2.size
    have AB_2 := BArg.below (by exact AB_1) (hb2.mono BW1.size)
    have P_2 := Blk10.below (by exact P_1) hb2
    obtain ⟨⟨cP_2_0, cP_2_1, cP_2_2, cP_2_3, cP_2_4, cP_2_5, cP_2_6, cP_2_7, cP_2_8, cP_2_9⟩, -⟩ := P_2.cells
    have lP_2 := P_2.lt
    clear AB_1 P_1 cP_1_0 cP_1_1 cP_1_2 cP_1_3 cP_1_4 cP_1_5 cP_1_6 cP_1_7 cP_1_8 cP_1_9 lP_1
    have H2o := H2
    go_wp2_with fail
    refine (S _ _ _ H2).mono ?_; rintro e w3 ⟨rfl, hb3⟩
    have BW3 : Below w.heap.size w w3 := B_th BW2 hb3
    have zz3 : w2.heap.size ≤ w3.heap.size := hb3.size
    have AB_3 := BArg.below (by exact AB_2) (hb3.mono BW2.size)
    have P_3 := Blk10.below (by exact P_2) hb3
    obtain ⟨⟨cP_3_0, cP_3_1, cP_3_2, cP_3_3, cP_3_4, cP_3_5, cP_3_6, cP_3_7, cP_3_8, cP_3_9⟩, -⟩ := P_3.cells
    have lP_3 := P_3.lt
    have H2_3 := Bv.below (by exact H2) hb3
    clear AB_2 P_2 cP_2_0 cP_2_1 cP_2_2 cP_2_3 cP_2_4 cP_2_5 cP_2_6 cP_2_7 cP_2_8 cP_2_9 lP_2
    go_wp2_with fail
    refine (T _ AB_3 BW3.size).mono ?_; rintro e w4 ⟨v4, rfl, H4, hb4⟩
    have BW4 : Below w.heap.size w w4 := B_th BW3 hb4
    have zz4 : w3.heap.size ≤ w4.heap.size := hb4.size
    have AB_4 := BArg.below (by exact AB_3) (hb4.mono BW3.size)
    have P_4 := Blk10.below (by exact P_3) hb4
    obtain ⟨⟨cP_4_0, cP_4_1, cP_4_2, cP_4_3, cP_4_4, cP_4_5, cP_4_6, cP_4_7, cP_4_8, cP_4_9⟩, -⟩ := P_4.cells
    have lP_4 := P_4.lt
    clear AB_3 P_3 cP_3_0 cP_3_1 cP_3_2 cP_3_3 cP_3_4 cP_3_5 cP_3_6 cP_3_7 cP_3_8 cP_3_9 lP_3
    have H4o := H4
    obtain ⟨xA0, xn0, xk0, xA1, xn1, xk1, xA2, xn2, xk2, xA3, xn3, xk3, xA4, xn4, xk4, xA5, xn5, xk5, rfl⟩ := Bv.shape H4
    go_wp2_with fail
    refine (I _ _ _ (H4.alloc (.cells #[.slice xA0 xn0 xk0, .slice xA1 xn1 xk1, .slice xA2 xn2 xk2, .slice xA3 xn3 xk3, .int .i64 p, .slice xA4 xn4 xk4, .int .i64 a, .slice xA5 xn5 xk5, .int .i64 i, .bool z] 34))).mono ?_; rintro e w5 ⟨rfl, hb5⟩
    have BW5 : Below w.heap.size w w5 := B_th (B_al BW4 (.cells #[.slice xA0 xn0 xk0, .slice xA1 xn1 xk1, .slice xA2 xn2 xk2, .slice xA3 xn3 xk3, .int .i64 p, .slice xA4 xn4 xk4, .int .i64 a, .slice xA5 xn5 xk5, .int .i64 i, .bool z] 34)) hb5
    have zz5 : w4.heap.size + 1 ≤ w5.heap.size := by have := hb5.size; simp at this; omega
    have AB_5 := BArg.below (by exact (BArg.alloc AB_4 BW4.size (.cells #[.slice xA0 xn0 xk0, .slice xA1 xn1 xk1, .slice xA2 xn2 xk2, .slice xA3 xn3 xk3, .int .i64 p, .slice xA4 xn4 xk4, .int .i64 a, .slice xA5 xn5 xk5, .int .i64 i, .bool z] 34))) (hb5.mono (B_al BW4 (.cells #[.slice xA0 xn0 xk0, .slice xA1 xn1 xk1, .slice xA2 xn2 xk2, .slice xA3 xn3 xk3, .int .i64 p, .slice xA4 xn4 xk4, .int .i64 a, .slice xA5 xn5 xk5, .int .i64 i, .bool z] 34)).size)
    have P_5 := Blk10.below (by exact (P_4.alloc (.cells #[.slice xA0 xn0 xk0, .slice xA1 xn1 xk1, .slice xA2 xn2 xk2, .slice xA3 xn3 xk3, .int .i64 p, .slice xA4 xn4 xk4, .int .i64 a, .slice xA5 xn5 xk5, .int .i64 i, .bool z] 34))) hb5
    obtain ⟨⟨cP_5_0, cP_5_1, cP_5_2, cP_5_3, cP_5_4, cP_5_5, cP_5_6, cP_5_7, cP_5_8, cP_5_9⟩, -⟩ := P_5.cells
    have lP_5 := P_5.lt
    have H4_5 := Bv.below (by exact (H4.alloc (.cells #[.slice xA0 xn0 xk0, .slice xA1 xn1 xk1, .slice xA2 xn2 xk2, .slice xA3 xn3 xk3, .int .i64 p, .slice xA4 xn4 xk4, .int .i64 a, .slice xA5 xn5 xk5, .int .i64 i, .bool z] 34))) hb5
    have X_5 := Blk10.below (by exact (Blk10.new w4 (.slice xA0 xn0 xk0) (.slice xA1 xn1 xk1) (.slice xA2 xn2 xk2) (.slice xA3 xn3 xk3) (.int .i64 p) (.slice xA4 xn4 xk4) (.int .i64 a) (.slice xA5 xn5 xk5) (.int .i64 i) (.bool z) 34)) hb5
    obtain ⟨⟨cX_5_0, cX_5_1, cX_5_2, cX_5_3, cX_5_4, cX_5_5, cX_5_6, cX_5_7, cX_5_8, cX_5_9⟩, -⟩ := X_5.cells
    have lX_5 := X_5.lt
    go_wp2_with fail
    have SOw6 : ∀ w' : World, Below w5.heap.size w5 w' → w'.cell? ⟨w4.heap.size, 0, none⟩ = some (.slice xA0 xn0 xk0) ∧ w'.cell? ⟨w4.heap.size, 1, none⟩ = some (.slice xA1 xn1 xk1) ∧ w'.cell? ⟨w4.heap.size, 2, none⟩ = some (.slice xA2 xn2 xk2) ∧ w'.cell? ⟨w4.heap.size, 3, none⟩ = some (.slice xA3 xn3 xk3) ∧ w'.cell? ⟨w4.heap.size, 4, none⟩ = some (.int .i64 p) ∧ w'.cell? ⟨w4.heap.size, 5, none⟩ = some (.slice xA4 xn4 xk4) ∧ w'.cell? ⟨w4.heap.size, 6, none⟩ = some (.int .i64 a) ∧ w'.cell? ⟨w4.heap.size, 7, none⟩ = some (.slice xA5 xn5 xk5) ∧ w'.cell? ⟨w4.heap.size, 8, none⟩ = some (.int .i64 i) ∧ w'.cell? ⟨w4.heap.size, 9, none⟩ = some (.bool z) ∧ w'.cell? ⟨w.heap.size, 0, none⟩ = some (.slice A0 C.h.l.length c0) ∧ w'.cell? ⟨w.heap.size, 1, none⟩ = some (.slice A1 C.h.r.length c1) ∧ w'.cell? ⟨w.heap.size, 2, none⟩ = some (.slice A2 C.h.t.length c2) ∧ w'.cell? ⟨w.heap.size, 3, none⟩ = some (.slice A3 C.c.length c3) ∧ w'.cell? ⟨w.heap.size, 4, none⟩ = some (.int .i64 p) ∧ w'.cell? ⟨w.heap.size, 5, none⟩ = some (.slice A4 cc.length c4) ∧ w'.cell? ⟨w.heap.size, 6, none⟩ = some (.int .i64 a) ∧ w'.cell? ⟨w.heap.size, 7, none⟩ = some (.slice A5 os.length c5) ∧ w'.cell? ⟨w.heap.size, 8, none⟩ = some (.int .i64 i) ∧ w'.cell? ⟨w.heap.size, 9, none⟩ = some (.bool z) := fun w' hb => ⟨(Blk10.below X_5 hb).cells.1.1, (Blk10.below X_5 hb).cells.1.2.1, (Blk10.below X_5 hb).cells.1.2.2.1, (Blk10.below X_5 hb).cells.1.2.2.2.1, (Blk10.below X_5 hb).cells.1.2.2.2.2.1, (Blk10.below X_5 hb).cells.1.2.2.2.2.2.1, (Blk10.below X_5 hb).cells.1.2.2.2.2.2.2.1, (Blk10.below X_5 hb).cells.1.2.2.2.2.2.2.2.1, (Blk10.below X_5 hb).cells.1.2.2.2.2.2.2.2.2.1, (Blk10.below X_5 hb).cells.1.2.2.2.2.2.2.2.2.2, (Blk10.below P_5 hb).cells.1.1, (Blk10.below P_5 hb).cells.1.2.1, (Blk10.below P_5 hb).cells.1.2.2.1, (Blk10.below P_5 hb).cells.1.2.2.2.1, (Blk10.below P_5 hb).cells.1.2.2.2.2.1, (Blk10.below P_5 hb).cells.1.2.2.2.2.2.1, (Blk10.below P_5 hb).cells.1.2.2.2.2.2.2.1, (Blk10.below P_5 hb).cells.1.2.2.2.2.2.2.2.1, (Blk10.below P_5 hb).cells.1.2.2.2.2.2.2.2.2.1, (Blk10.below P_5 hb).cells.1.2.2.2.2.2.2.2.2.2⟩
    have TSw6 := fun V (hV : Below w5.heap.size w5 V) => T V (BArg.below AB_5 (hV.mono BW5.size)) (Nat.le_trans BW5.size hV.size)
    go_region_held3 (fun w' => w'.cell? ⟨w4.heap.size, 0, none⟩ = some (.slice xA0 xn0 xk0) ∧ w'.cell? ⟨w4.heap.size, 1, none⟩ = some (.slice xA1 xn1 xk1) ∧ w'.cell? ⟨w4.heap.size, 2, none⟩ = some (.slice xA2 xn2 xk2) ∧ w'.cell? ⟨w4.heap.size, 3, none⟩ = some (.slice xA3 xn3 xk3) ∧ w'.cell? ⟨w4.heap.size, 4, none⟩ = some (.int .i64 p) ∧ w'.cell? ⟨w4.heap.size, 5, none⟩ = some (.slice xA4 xn4 xk4) ∧ w'.cell? ⟨w4.heap.size, 6, none⟩ = some (.int .i64 a) ∧ w'.cell? ⟨w4.heap.size, 7, none⟩ = some (.slice xA5 xn5 xk5) ∧ w'.cell? ⟨w4.heap.size, 8, none⟩ = some (.int .i64 i) ∧ w'.cell? ⟨w4.heap.size, 9, none⟩ = some (.bool z) ∧ w'.cell? ⟨w.heap.size, 0, none⟩ = some (.slice A0 C.h.l.length c0) ∧ w'.cell? ⟨w.heap.size, 1, none⟩ = some (.slice A1 C.h.r.length c1) ∧ w'.cell? ⟨w.heap.size, 2, none⟩ = some (.slice A2 C.h.t.length c2) ∧ w'.cell? ⟨w.heap.size, 3, none⟩ = some (.slice A3 C.c.length c3) ∧ w'.cell? ⟨w.heap.size, 4, none⟩ = some (.int .i64 p) ∧ w'.cell? ⟨w.heap.size, 5, none⟩ = some (.slice A4 cc.length c4) ∧ w'.cell? ⟨w.heap.size, 6, none⟩ = some (.int .i64 a) ∧ w'.cell? ⟨w.heap.size, 7, none⟩ = some (.slice A5 os.length c5) ∧ w'.cell? ⟨w.heap.size, 8, none⟩ = some (.int .i64 i) ∧ w'.cell? ⟨w.heap.size, 9, none⟩ = some (.bool z))
      (((try dsimp only); (refine SOw6 _ ?_); (repeat (with_reducible (first | exact Below.refl _ _ | exact hRaw6 | exact hRbw6 | refine B_dr ?_ | refine B_al ?_ _ | refine B_set ?_ ?_ _ _)))))
      (first
        | (go_at_call 28; (refine Calls.mono (TSw6 _ ?_) ?_); (· repeat (with_reducible (first | exact Below.refl _ _ | refine B_dr ?_ | refine B_al ?_ _ | refine B_set ?_ ?_ _ _))); rintro e aw6 ⟨vaw6, rfl, Kaw6, hbaw6⟩; (have hRaw6 : Below w5.heap.size w5 aw6 := (by refine B_th ?_ hbaw6; repeat (with_reducible (first | exact Below.refl _ _ | refine B_dr ?_ | refine B_al ?_ _ | refine B_set ?_ ?_ _ _)))))
        | (go_at_call 19; (refine (eqBoth_same _ _ _ _ _ _ (Bv.below (by exact H4_5) hRaw6) Kaw6).mono ?_); rintro e w6 ⟨rfl, hbbw6⟩; (have hRbw6 : Below w5.heap.size w5 w6 := B_th hRaw6 hbbw6)))
    try (rename_i hHeld; clear hHeld)
    have BW6 : Below w.heap.size w w6 := B_th BW5 hRbw6
    have zz6 : w5.heap.size ≤ w6.heap.size := hRbw6.size
    have AB_6 := BArg.below (by exact AB_5) (hRbw6.mono BW5.size)
    have P_6 := Blk10.below (by exact P_5) hRbw6
    obtain ⟨⟨cP_6_0, cP_6_1, cP_6_2, cP_6_3, cP_6_4, cP_6_5, cP_6_6, cP_6_7, cP_6_8, cP_6_9⟩, -⟩ := P_6.cells
    have lP_6 := P_6.lt
    have H4_6 := Bv.below (by exact H4_5) hRbw6
    have X_6 := Blk10.below (by exact X_5) hRbw6
    obtain ⟨⟨cX_6_0, cX_6_1, cX_6_2, cX_6_3, cX_6_4, cX_6_5, cX_6_6, cX_6_7, cX_6_8, cX_6_9⟩, -⟩ := X_6.cells
    have lX_6 := X_6.lt
    clear AB_5 P_5 cP_5_0 cP_5_1 cP_5_2 cP_5_3 cP_5_4 cP_5_5 cP_5_6 cP_5_7 cP_5_8 cP_5_9 lP_5 H4_5 X_5 cX_5_0 cX_5_1 cX_5_2 cX_5_3 cX_5_4 cX_5_5 cX_5_6 cX_5_7 cX_5_8 cX_5_9 lX_5
    go_wp2_with fail
    go_ret
    exact ⟨rfl, BW6⟩
  · have hszv : szV ((C.h.l.length + C.h.r.length + C.h.t.length + C.c.length) + cc.length + os.length) 1048576 = -1 := by unfold szV; rw [if_neg hsz]
    rw [hszv] at SZ
    clear hsz hszv
    go_enter Try.func5, Try.ntmps5
    go_wp2_with fail
    refine SZ.mono ?_; rintro e w1 ⟨rfl, hb1⟩
    go_wp2_with fail
    go_ret
    exact ⟨rfl, B_th fin0 hb1⟩
end Go.Proofs.Ytdifplakkepnkaa
