/- The exact law of GcSame, walked. -/
import Derived.Test.YtdealoclkajliaaExactG
import Derived.Test.YtdealoclkajliaaGSms
namespace Go.Proofs.Ytdealoclkajliaa
open Go.RowKit

set_option maxRecDepth 100000 in
set_option maxHeartbeats 6000000 in
theorem lawExactGcSame_walk (w : World) (v : Value) (G : Gp) (hg : GIn w v G) (v' : Value) (G' : Gp) (hg' : GIn w v' G') : Calls Try.prog 5 #[v, v'] w (LawTrue w) := by
  obtain ⟨⟨A4, c4, rfl, hi⟩, m4⟩ := hg
  obtain ⟨p, cc, a⟩ := G
  obtain ⟨⟨A5, c5, rfl, hj⟩, m5⟩ := hg'
  obtain ⟨q, dd, b⟩ := G'
  dsimp only at hi m4 hj m5 ⊢
  have SZ := szGc_any ((w.alloc (.cells #[.int .i64 p, .slice A4 cc.length c4, .int .i64 a] 41)).alloc (.cells #[.int .i64 q, .slice A5 dd.length c5, .int .i64 b] 41)) p a A4 cc.length c4 1048576 (by omega) (by omega) m4
  have fin0 : Below w.heap.size w ((w.alloc (.cells #[.int .i64 p, .slice A4 cc.length c4, .int .i64 a] 41)).alloc (.cells #[.int .i64 q, .slice A5 dd.length c5, .int .i64 b] 41)) := B_al (B_al (Below.refl _ _) _) _
  by_cases hsz : (cc.length : Int) ≤ 1048576
  · have hszv : szV cc.length 1048576 = 1048576 - cc.length := by unfold szV; rw [if_pos hsz]
    rw [hszv] at SZ
    have b4 : cc.length ≤ 1048576 := by omega
    have s0 : ¬ (1048576 - (cc.length : Int) < 0) := by omega
    have s1 : 0 ≤ 1048576 - (cc.length : Int) ∧ 1048576 - (cc.length : Int) ≤ 1048576 := by omega
    generalize 1048576 - (cc.length : Int) = sz at SZ s0 s1
    clear hszv hsz m4
    have SZ2 := fun W => szGc_any W q b A5 dd.length c5 sz s1.1 s1.2 m5
    by_cases hsz2 : (dd.length : Int) ≤ sz
    · have hszv : szV dd.length sz = sz - dd.length := by unfold szV; rw [if_pos hsz2]
      simp only [hszv] at SZ2
      have b5 : dd.length ≤ 1048576 := by omega
      have s2 : ¬ (sz - (dd.length : Int) < 0) := by omega
      generalize sz - (dd.length : Int) = sz2 at SZ2 s2
      clear hszv hsz2 s1 m5
      have TA := fun W (hW : Ints W w.heap.size A4 cc.length cc) (hB : w.heap.size ≤ W.heap.size) => toGc_row W w.heap.size hB p a A4 c4 cc hW b4
      have TB := fun W (hW : Ints W w.heap.size A5 dd.length dd) (hB : w.heap.size ≤ W.heap.size) => toGc_row W w.heap.size hB q b A5 c5 dd hW b5
      have S := fun W lo lo' v v' h h' => specGcSame_any W lo lo' v v' ⟨p, cc, a⟩ ⟨q, dd, b⟩ h h'
      have I := fun W lo lo' v v' h h' => implGcSame_any W lo lo' v v' ⟨p, cc, a⟩ ⟨q, dd, b⟩ h h'
      generalize sameG ⟨p, cc, a⟩ ⟨q, dd, b⟩ = r at S I
      have hne : (r != r) = false := by simp
      go_enter Try.func5, Try.ntmps5
      go_wp2_with fail
      refine SZ.mono ?_; rintro e w1 ⟨rfl, hb1⟩
      have BW1 : Below w.heap.size w w1 := B_th (B_al (B_al (Below.refl w.heap.size w) (.cells #[.int .i64 p, .slice A4 cc.length c4, .int .i64 a] 41)) (.cells #[.int .i64 q, .slice A5 dd.length c5, .int .i64 b] 41)) hb1
      have zz1 : w.heap.size + 2 ≤ w1.heap.size := by have := hb1.size; simp at this; omega
      have IA_1 := Ints.below (by exact (Ints.alloc (Ints.alloc hi (Below.refl w.heap.size w).size (.cells #[.int .i64 p, .slice A4 cc.length c4, .int .i64 a] 41)) (B_al (Below.refl w.heap.size w) (.cells #[.int .i64 p, .slice A4 cc.length c4, .int .i64 a] 41)).size (.cells #[.int .i64 q, .slice A5 dd.length c5, .int .i64 b] 41))) (hb1.mono (B_al (B_al (Below.refl w.heap.size w) (.cells #[.int .i64 p, .slice A4 cc.length c4, .int .i64 a] 41)) (.cells #[.int .i64 q, .slice A5 dd.length c5, .int .i64 b] 41)).size)
      have IB_1 := Ints.below (by exact (Ints.alloc (Ints.alloc hj (Below.refl w.heap.size w).size (.cells #[.int .i64 p, .slice A4 cc.length c4, .int .i64 a] 41)) (B_al (Below.refl w.heap.size w) (.cells #[.int .i64 p, .slice A4 cc.length c4, .int .i64 a] 41)).size (.cells #[.int .i64 q, .slice A5 dd.length c5, .int .i64 b] 41))) (hb1.mono (B_al (B_al (Below.refl w.heap.size w) (.cells #[.int .i64 p, .slice A4 cc.length c4, .int .i64 a] 41)) (.cells #[.int .i64 q, .slice A5 dd.length c5, .int .i64 b] 41)).size)
      have P_1 := Blk3.below (by exact ((Blk3.new w (.int .i64 p) (.slice A4 cc.length c4) (.int .i64 a) 41).alloc (.cells #[.int .i64 q, .slice A5 dd.length c5, .int .i64 b] 41))) hb1
      obtain ⟨cP_1_0, cP_1_1, cP_1_2, _⟩ := P_1.cells
      have lP_1 := P_1.lt
      have Q_1 := Blk3.below (by exact (Blk3.new_at (w := (w.alloc (.cells #[.int .i64 p, .slice A4 cc.length c4, .int .i64 a] 41))) (b := (w.heap.size + 1)) (by simp) (.int .i64 q) (.slice A5 dd.length c5) (.int .i64 b) 41)) hb1
      obtain ⟨cQ_1_0, cQ_1_1, cQ_1_2, _⟩ := Q_1.cells
      have lQ_1 := Q_1.lt
      go_wp2_with fail
      refine (SZ2 _).mono ?_; rintro e w1g ⟨rfl, hb1g⟩
      have BW2 : Below w.heap.size w w1g := B_th BW1 hb1g
      have zz2 : w1.heap.size ≤ w1g.heap.size := hb1g.size
      have IA_2 := Ints.below (by exact IA_1) (hb1g.mono BW1.size)
      have IB_2 := Ints.below (by exact IB_1) (hb1g.mono BW1.size)
      have P_2 := Blk3.below (by exact P_1) hb1g
      obtain ⟨cP_2_0, cP_2_1, cP_2_2, _⟩ := P_2.cells
      have lP_2 := P_2.lt
      have Q_2 := Blk3.below (by exact Q_1) hb1g
      obtain ⟨cQ_2_0, cQ_2_1, cQ_2_2, _⟩ := Q_2.cells
      have lQ_2 := Q_2.lt
      clear IA_1 IB_1 P_1 cP_1_0 cP_1_1 cP_1_2 lP_1 Q_1 cQ_1_0 cQ_1_1 cQ_1_2 lQ_1
      go_wp2_with fail
      have SOw3 : ∀ w' : World, Below w1g.heap.size w1g w' → w'.cell? ⟨w.heap.size, 0, none⟩ = some (.int .i64 p) ∧ w'.cell? ⟨w.heap.size, 1, none⟩ = some (.slice A4 cc.length c4) ∧ w'.cell? ⟨w.heap.size, 2, none⟩ = some (.int .i64 a) ∧ w'.cell? ⟨(w.heap.size + 1), 0, none⟩ = some (.int .i64 q) ∧ w'.cell? ⟨(w.heap.size + 1), 1, none⟩ = some (.slice A5 dd.length c5) ∧ w'.cell? ⟨(w.heap.size + 1), 2, none⟩ = some (.int .i64 b) := fun w' hb => ⟨(Blk3.below P_2 hb).cells.1, (Blk3.below P_2 hb).cells.2.1, (Blk3.below P_2 hb).cells.2.2.1, (Blk3.below Q_2 hb).cells.1, (Blk3.below Q_2 hb).cells.2.1, (Blk3.below Q_2 hb).cells.2.2.1⟩
      have TAw3 := fun V (hV : Below w1g.heap.size w1g V) => TA V (Ints.below IA_2 (hV.mono BW2.size)) (Nat.le_trans BW2.size hV.size)
      have TBw3 := fun V (hV : Below w1g.heap.size w1g V) => TB V (Ints.below IB_2 (hV.mono BW2.size)) (Nat.le_trans BW2.size hV.size)
      go_region_held3 (fun w' => w'.cell? ⟨w.heap.size, 0, none⟩ = some (.int .i64 p) ∧ w'.cell? ⟨w.heap.size, 1, none⟩ = some (.slice A4 cc.length c4) ∧ w'.cell? ⟨w.heap.size, 2, none⟩ = some (.int .i64 a) ∧ w'.cell? ⟨(w.heap.size + 1), 0, none⟩ = some (.int .i64 q) ∧ w'.cell? ⟨(w.heap.size + 1), 1, none⟩ = some (.slice A5 dd.length c5) ∧ w'.cell? ⟨(w.heap.size + 1), 2, none⟩ = some (.int .i64 b))
        (((try dsimp only); (refine SOw3 _ ?_); (repeat (with_reducible (first | exact Below.refl _ _ | exact hRaw3 | exact hRbw3 | exact hRcw3 | refine B_dr ?_ | refine B_al ?_ _ | refine B_set ?_ ?_ _ _)))))
        (first
          | (go_at_call 22; (with_reducible refine Calls.mono (TAw3 _ ?_) ?_); (· repeat (with_reducible (first | exact Below.refl _ _ | refine B_dr ?_ | refine B_al ?_ _ | refine B_set ?_ ?_ _ _))); rintro e aw3 ⟨Aaw3, caw3, rfl, Kaw3, hbaw3⟩; (have hRaw3 : Below w1g.heap.size w1g aw3 := (by refine B_th ?_ hbaw3; repeat (with_reducible (first | exact Below.refl _ _ | refine B_dr ?_ | refine B_al ?_ _ | refine B_set ?_ ?_ _ _)))))
          | (go_at_call 22; (with_reducible refine Calls.mono (TBw3 _ hRaw3) ?_); rintro e bw3 ⟨Abw3, cbw3, rfl, Kbw3, hbbw3⟩; (have hRbw3 : Below w1g.heap.size w1g bw3 := B_th hRaw3 hbbw3))
          | (go_at_call 24; (refine (S _ _ _ _ _ ⟨_, rfl, Kaw3.below hbbw3⟩ ⟨_, rfl, Kbw3⟩).mono ?_); rintro e w3 ⟨rfl, hbcw3⟩; (have hRcw3 : Below w1g.heap.size w1g w3 := B_th hRbw3 hbcw3)))
      try (rename_i hHeld; clear hHeld)
      have BW3 : Below w.heap.size w w3 := B_th BW2 hRcw3
      have zz3 : w1g.heap.size ≤ w3.heap.size := hRcw3.size
      have IA_3 := Ints.below (by exact IA_2) (hRcw3.mono BW2.size)
      have IB_3 := Ints.below (by exact IB_2) (hRcw3.mono BW2.size)
      have P_3 := Blk3.below (by exact P_2) hRcw3
      obtain ⟨cP_3_0, cP_3_1, cP_3_2, _⟩ := P_3.cells
      have lP_3 := P_3.lt
      have Q_3 := Blk3.below (by exact Q_2) hRcw3
      obtain ⟨cQ_3_0, cQ_3_1, cQ_3_2, _⟩ := Q_3.cells
      have lQ_3 := Q_3.lt
      clear IA_2 IB_2 P_2 cP_2_0 cP_2_1 cP_2_2 lP_2 Q_2 cQ_2_0 cQ_2_1 cQ_2_2 lQ_2
      go_wp2_with fail
      refine (TA _ IA_3 BW3.size).mono ?_; rintro e w4 ⟨A6, c6, rfl, R6, hb4⟩
      have BW4 : Below w.heap.size w w4 := B_th BW3 hb4
      have zz4 : w3.heap.size ≤ w4.heap.size := hb4.size
      have IA_4 := Ints.below (by exact IA_3) (hb4.mono BW3.size)
      have IB_4 := Ints.below (by exact IB_3) (hb4.mono BW3.size)
      have P_4 := Blk3.below (by exact P_3) hb4
      obtain ⟨cP_4_0, cP_4_1, cP_4_2, _⟩ := P_4.cells
      have lP_4 := P_4.lt
      have Q_4 := Blk3.below (by exact Q_3) hb4
      obtain ⟨cQ_4_0, cQ_4_1, cQ_4_2, _⟩ := Q_4.cells
      have lQ_4 := Q_4.lt
      clear IA_3 IB_3 P_3 cP_3_0 cP_3_1 cP_3_2 lP_3 Q_3 cQ_3_0 cQ_3_1 cQ_3_2 lQ_3
      have R6o := R6
      go_wp2_with fail
      refine (TB _ (Ints.alloc IB_4 BW4.size (.cells #[.int .i64 p, .slice A6 cc.length c6, .int .i64 a] 29)) (B_al BW4 (.cells #[.int .i64 p, .slice A6 cc.length c6, .int .i64 a] 29)).size).mono ?_; rintro e w5 ⟨A7, c7, rfl, R7, hb5⟩
      have BW5 : Below w.heap.size w w5 := B_th (B_al BW4 (.cells #[.int .i64 p, .slice A6 cc.length c6, .int .i64 a] 29)) hb5
      have zz5 : w4.heap.size + 1 ≤ w5.heap.size := by have := hb5.size; simp at this; omega
      have IA_5 := Ints.below (by exact (Ints.alloc IA_4 BW4.size (.cells #[.int .i64 p, .slice A6 cc.length c6, .int .i64 a] 29))) (hb5.mono (B_al BW4 (.cells #[.int .i64 p, .slice A6 cc.length c6, .int .i64 a] 29)).size)
      have IB_5 := Ints.below (by exact (Ints.alloc IB_4 BW4.size (.cells #[.int .i64 p, .slice A6 cc.length c6, .int .i64 a] 29))) (hb5.mono (B_al BW4 (.cells #[.int .i64 p, .slice A6 cc.length c6, .int .i64 a] 29)).size)
      have P_5 := Blk3.below (by exact (P_4.alloc (.cells #[.int .i64 p, .slice A6 cc.length c6, .int .i64 a] 29))) hb5
      obtain ⟨cP_5_0, cP_5_1, cP_5_2, _⟩ := P_5.cells
      have lP_5 := P_5.lt
      have Q_5 := Blk3.below (by exact (Q_4.alloc (.cells #[.int .i64 p, .slice A6 cc.length c6, .int .i64 a] 29))) hb5
      obtain ⟨cQ_5_0, cQ_5_1, cQ_5_2, _⟩ := Q_5.cells
      have lQ_5 := Q_5.lt
      have R6_5 := Row.below (by exact (R6.alloc (.cells #[.int .i64 p, .slice A6 cc.length c6, .int .i64 a] 29))) hb5
      have X_5 := Blk3.below (by exact (Blk3.new w4 (.int .i64 p) (.slice A6 cc.length c6) (.int .i64 a) 29)) hb5
      obtain ⟨cX_5_0, cX_5_1, cX_5_2, _⟩ := X_5.cells
      have lX_5 := X_5.lt
      replace R7 := Row.mono R7 (lo' := w4.heap.size + 1) (by simp)
      have R7o := R7
      go_wp2_with fail
      refine (I _ _ _ _ _ ⟨_, rfl, (R6_5.alloc (.cells #[.int .i64 q, .slice A7 dd.length c7, .int .i64 b] 29))⟩ ⟨_, rfl, (R7.alloc (.cells #[.int .i64 q, .slice A7 dd.length c7, .int .i64 b] 29))⟩).mono ?_; rintro e w6 ⟨rfl, hb6⟩
      have BW6 : Below w.heap.size w w6 := B_th (B_al BW5 (.cells #[.int .i64 q, .slice A7 dd.length c7, .int .i64 b] 29)) hb6
      have zz6 : w5.heap.size + 1 ≤ w6.heap.size := by have := hb6.size; simp at this; omega
      have IA_6 := Ints.below (by exact (Ints.alloc IA_5 BW5.size (.cells #[.int .i64 q, .slice A7 dd.length c7, .int .i64 b] 29))) (hb6.mono (B_al BW5 (.cells #[.int .i64 q, .slice A7 dd.length c7, .int .i64 b] 29)).size)
      have IB_6 := Ints.below (by exact (Ints.alloc IB_5 BW5.size (.cells #[.int .i64 q, .slice A7 dd.length c7, .int .i64 b] 29))) (hb6.mono (B_al BW5 (.cells #[.int .i64 q, .slice A7 dd.length c7, .int .i64 b] 29)).size)
      have P_6 := Blk3.below (by exact (P_5.alloc (.cells #[.int .i64 q, .slice A7 dd.length c7, .int .i64 b] 29))) hb6
      obtain ⟨cP_6_0, cP_6_1, cP_6_2, _⟩ := P_6.cells
      have lP_6 := P_6.lt
      have Q_6 := Blk3.below (by exact (Q_5.alloc (.cells #[.int .i64 q, .slice A7 dd.length c7, .int .i64 b] 29))) hb6
      obtain ⟨cQ_6_0, cQ_6_1, cQ_6_2, _⟩ := Q_6.cells
      have lQ_6 := Q_6.lt
      have R6_6 := Row.below (by exact (R6_5.alloc (.cells #[.int .i64 q, .slice A7 dd.length c7, .int .i64 b] 29))) hb6
      have X_6 := Blk3.below (by exact (X_5.alloc (.cells #[.int .i64 q, .slice A7 dd.length c7, .int .i64 b] 29))) hb6
      obtain ⟨cX_6_0, cX_6_1, cX_6_2, _⟩ := X_6.cells
      have lX_6 := X_6.lt
      have R7_6 := Row.below (by exact (R7.alloc (.cells #[.int .i64 q, .slice A7 dd.length c7, .int .i64 b] 29))) hb6
      have X1_6 := Blk3.below (by exact (Blk3.new w5 (.int .i64 q) (.slice A7 dd.length c7) (.int .i64 b) 29)) hb6
      obtain ⟨cX1_6_0, cX1_6_1, cX1_6_2, _⟩ := X1_6.cells
      have lX1_6 := X1_6.lt
      go_wp2_with fail
      have SOw7 : ∀ w' : World, Below w6.heap.size w6 w' → w'.cell? ⟨w4.heap.size, 0, none⟩ = some (.int .i64 p) ∧ w'.cell? ⟨w4.heap.size, 1, none⟩ = some (.slice A6 cc.length c6) ∧ w'.cell? ⟨w4.heap.size, 2, none⟩ = some (.int .i64 a) ∧ w'.cell? ⟨w.heap.size, 0, none⟩ = some (.int .i64 p) ∧ w'.cell? ⟨w.heap.size, 1, none⟩ = some (.slice A4 cc.length c4) ∧ w'.cell? ⟨w.heap.size, 2, none⟩ = some (.int .i64 a) := fun w' hb => ⟨(Blk3.below X_6 hb).cells.1, (Blk3.below X_6 hb).cells.2.1, (Blk3.below X_6 hb).cells.2.2.1, (Blk3.below P_6 hb).cells.1, (Blk3.below P_6 hb).cells.2.1, (Blk3.below P_6 hb).cells.2.2.1⟩
      have TAw7 := fun V (hV : Below w6.heap.size w6 V) => TA V (Ints.below IA_6 (hV.mono BW6.size)) (Nat.le_trans BW6.size hV.size)
      go_region_held3 (fun w' => w'.cell? ⟨w4.heap.size, 0, none⟩ = some (.int .i64 p) ∧ w'.cell? ⟨w4.heap.size, 1, none⟩ = some (.slice A6 cc.length c6) ∧ w'.cell? ⟨w4.heap.size, 2, none⟩ = some (.int .i64 a) ∧ w'.cell? ⟨w.heap.size, 0, none⟩ = some (.int .i64 p) ∧ w'.cell? ⟨w.heap.size, 1, none⟩ = some (.slice A4 cc.length c4) ∧ w'.cell? ⟨w.heap.size, 2, none⟩ = some (.int .i64 a))
        (((try dsimp only); (refine SOw7 _ ?_); (repeat (with_reducible (first | exact Below.refl _ _ | exact hRaw7 | exact hRbw7 | refine B_dr ?_ | refine B_al ?_ _ | refine B_set ?_ ?_ _ _)))))
        (first
          | (go_at_call 22; (with_reducible refine Calls.mono (TAw7 _ ?_) ?_); (· repeat (with_reducible (first | exact Below.refl _ _ | refine B_dr ?_ | refine B_al ?_ _ | refine B_set ?_ ?_ _ _))); rintro e aw7 ⟨Aaw7, caw7, rfl, Kaw7, hbaw7⟩; (have hRaw7 : Below w6.heap.size w6 aw7 := (by refine B_th ?_ hbaw7; repeat (with_reducible (first | exact Below.refl _ _ | refine B_dr ?_ | refine B_al ?_ _ | refine B_set ?_ ?_ _ _)))))
          | (go_at_call 15; (refine (eqGc_same _ _ _ _ _ ⟨p, cc, a⟩ ⟨_, rfl, Row.below (by exact R6_6) hRaw7⟩ ⟨_, rfl, Kaw7⟩).mono ?_); rintro e w7 ⟨rfl, hbbw7⟩; (have hRbw7 : Below w6.heap.size w6 w7 := B_th hRaw7 hbbw7)))
      try (rename_i hHeld; clear hHeld)
      have BW7 : Below w.heap.size w w7 := B_th BW6 hRbw7
      have zz7 : w6.heap.size ≤ w7.heap.size := hRbw7.size
      have IA_7 := Ints.below (by exact IA_6) (hRbw7.mono BW6.size)
      have IB_7 := Ints.below (by exact IB_6) (hRbw7.mono BW6.size)
      have P_7 := Blk3.below (by exact P_6) hRbw7
      obtain ⟨cP_7_0, cP_7_1, cP_7_2, _⟩ := P_7.cells
      have lP_7 := P_7.lt
      have Q_7 := Blk3.below (by exact Q_6) hRbw7
      obtain ⟨cQ_7_0, cQ_7_1, cQ_7_2, _⟩ := Q_7.cells
      have lQ_7 := Q_7.lt
      have R6_7 := Row.below (by exact R6_6) hRbw7
      have X_7 := Blk3.below (by exact X_6) hRbw7
      obtain ⟨cX_7_0, cX_7_1, cX_7_2, _⟩ := X_7.cells
      have lX_7 := X_7.lt
      have R7_7 := Row.below (by exact R7_6) hRbw7
      have X1_7 := Blk3.below (by exact X1_6) hRbw7
      obtain ⟨cX1_7_0, cX1_7_1, cX1_7_2, _⟩ := X1_7.cells
      have lX1_7 := X1_7.lt
      clear IA_6 IB_6 P_6 cP_6_0 cP_6_1 cP_6_2 lP_6 Q_6 cQ_6_0 cQ_6_1 cQ_6_2 lQ_6 R6_6 X_6 cX_6_0 cX_6_1 cX_6_2 lX_6 R7_6 X1_6 cX1_6_0 cX1_6_1 cX1_6_2 lX1_6
      go_wp2_with fail
      have SOw8 : ∀ w' : World, Below w7.heap.size w7 w' → w'.cell? ⟨w5.heap.size, 0, none⟩ = some (.int .i64 q) ∧ w'.cell? ⟨w5.heap.size, 1, none⟩ = some (.slice A7 dd.length c7) ∧ w'.cell? ⟨w5.heap.size, 2, none⟩ = some (.int .i64 b) ∧ w'.cell? ⟨(w.heap.size + 1), 0, none⟩ = some (.int .i64 q) ∧ w'.cell? ⟨(w.heap.size + 1), 1, none⟩ = some (.slice A5 dd.length c5) ∧ w'.cell? ⟨(w.heap.size + 1), 2, none⟩ = some (.int .i64 b) := fun w' hb => ⟨(Blk3.below X1_7 hb).cells.1, (Blk3.below X1_7 hb).cells.2.1, (Blk3.below X1_7 hb).cells.2.2.1, (Blk3.below Q_7 hb).cells.1, (Blk3.below Q_7 hb).cells.2.1, (Blk3.below Q_7 hb).cells.2.2.1⟩
      have TBw8 := fun V (hV : Below w7.heap.size w7 V) => TB V (Ints.below IB_7 (hV.mono BW7.size)) (Nat.le_trans BW7.size hV.size)
      go_region_held3 (fun w' => w'.cell? ⟨w5.heap.size, 0, none⟩ = some (.int .i64 q) ∧ w'.cell? ⟨w5.heap.size, 1, none⟩ = some (.slice A7 dd.length c7) ∧ w'.cell? ⟨w5.heap.size, 2, none⟩ = some (.int .i64 b) ∧ w'.cell? ⟨(w.heap.size + 1), 0, none⟩ = some (.int .i64 q) ∧ w'.cell? ⟨(w.heap.size + 1), 1, none⟩ = some (.slice A5 dd.length c5) ∧ w'.cell? ⟨(w.heap.size + 1), 2, none⟩ = some (.int .i64 b))
        (((try dsimp only); (refine SOw8 _ ?_); (repeat (with_reducible (first | exact Below.refl _ _ | exact hRaw8 | exact hRbw8 | refine B_dr ?_ | refine B_al ?_ _ | refine B_set ?_ ?_ _ _)))))
        (first
          | (go_at_call 22; (with_reducible refine Calls.mono (TBw8 _ ?_) ?_); (· repeat (with_reducible (first | exact Below.refl _ _ | refine B_dr ?_ | refine B_al ?_ _ | refine B_set ?_ ?_ _ _))); rintro e aw8 ⟨Aaw8, caw8, rfl, Kaw8, hbaw8⟩; (have hRaw8 : Below w7.heap.size w7 aw8 := (by refine B_th ?_ hbaw8; repeat (with_reducible (first | exact Below.refl _ _ | refine B_dr ?_ | refine B_al ?_ _ | refine B_set ?_ ?_ _ _)))))
          | (go_at_call 15; (refine (eqGc_same _ _ _ _ _ ⟨q, dd, b⟩ ⟨_, rfl, Row.below (by exact R7_7) hRaw8⟩ ⟨_, rfl, Kaw8⟩).mono ?_); rintro e w8 ⟨rfl, hbbw8⟩; (have hRbw8 : Below w7.heap.size w7 w8 := B_th hRaw8 hbbw8)))
      try (rename_i hHeld; clear hHeld)
      have BW8 : Below w.heap.size w w8 := B_th BW7 hRbw8
      have zz8 : w7.heap.size ≤ w8.heap.size := hRbw8.size
      have IA_8 := Ints.below (by exact IA_7) (hRbw8.mono BW7.size)
      have IB_8 := Ints.below (by exact IB_7) (hRbw8.mono BW7.size)
      have P_8 := Blk3.below (by exact P_7) hRbw8
      obtain ⟨cP_8_0, cP_8_1, cP_8_2, _⟩ := P_8.cells
      have lP_8 := P_8.lt
      have Q_8 := Blk3.below (by exact Q_7) hRbw8
      obtain ⟨cQ_8_0, cQ_8_1, cQ_8_2, _⟩ := Q_8.cells
      have lQ_8 := Q_8.lt
      have R6_8 := Row.below (by exact R6_7) hRbw8
      have X_8 := Blk3.below (by exact X_7) hRbw8
      obtain ⟨cX_8_0, cX_8_1, cX_8_2, _⟩ := X_8.cells
      have lX_8 := X_8.lt
      have R7_8 := Row.below (by exact R7_7) hRbw8
      have X1_8 := Blk3.below (by exact X1_7) hRbw8
      obtain ⟨cX1_8_0, cX1_8_1, cX1_8_2, _⟩ := X1_8.cells
      have lX1_8 := X1_8.lt
      clear IA_7 IB_7 P_7 cP_7_0 cP_7_1 cP_7_2 lP_7 Q_7 cQ_7_0 cQ_7_1 cQ_7_2 lQ_7 R6_7 X_7 cX_7_0 cX_7_1 cX_7_2 lX_7 R7_7 X1_7 cX1_7_0 cX1_7_1 cX1_7_2 lX1_7
      go_wp2_with fail
      go_ret
      exact ⟨rfl, BW8⟩
    · have hszv : szV dd.length sz = -1 := by unfold szV; rw [if_neg hsz2]
      simp only [hszv] at SZ2
      have X0 : Blk3 ((w.alloc (.cells #[.int .i64 p, .slice A4 cc.length c4, .int .i64 a] 41)).alloc (.cells #[.int .i64 q, .slice A5 dd.length c5, .int .i64 b] 41)) (w.heap.size + 1) _ _ _ _ := Blk3.new_at (w := w.alloc (.cells #[.int .i64 p, .slice A4 cc.length c4, .int .i64 a] 41)) (b := w.heap.size + 1) (by simp) (.int .i64 q) (.slice A5 dd.length c5) (.int .i64 b) 41
      clear hsz2 hszv
      go_enter Try.func5, Try.ntmps5
      go_wp2_with fail
      refine SZ.mono ?_; rintro e w1 ⟨rfl, hb1⟩
      obtain ⟨x0, x1, x2, _⟩ := (Blk3.below (by exact X0) hb1).cells
      have B1 := B_th fin0 hb1
      go_wp2_with fail
      refine (SZ2 _).mono ?_; rintro e w2 ⟨rfl, hb2⟩
      go_wp2_with fail
      go_ret
      exact ⟨rfl, B_th B1 hb2⟩
  · have hszv : szV cc.length 1048576 = -1 := by unfold szV; rw [if_neg hsz]
    rw [hszv] at SZ
    clear hsz hszv
    go_enter Try.func5, Try.ntmps5
    go_wp2_with fail
    refine SZ.mono ?_; rintro e w1 ⟨rfl, hb1⟩
    go_wp2_with fail
    go_ret
    exact ⟨rfl, B_th fin0 hb1⟩
end Go.Proofs.Ytdealoclkajliaa
