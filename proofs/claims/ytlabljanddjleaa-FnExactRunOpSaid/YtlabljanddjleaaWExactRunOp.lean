/- The exact law of RunOp, walked. -/
import Derived.Test.YtlabljanddjleaaExactO
import Derived.Test.YtlabljanddjleaaIRun
import Derived.Test.YtlabljanddjleaaSRun
namespace Go.Proofs.Ytlabljanddjleaa
open Go.RowKit

theorem runC_short (C : Cp) (o : Opv) : ShortC (runC C o) := by
  rcases h : runB C o
  · rw [runC_not h]; exact zeroC_short
  · exact stoB_short (run_valid h)

set_option maxRecDepth 100000 in
set_option maxHeartbeats 16000000 in
theorem lawExactRunOp_walk (w : World) (v : Value) (C : Cp) (hv : CIn w v C) (o : Opv) : Calls Try.prog 4 #[v, opV o] w (LawTrue w) := by
  obtain ⟨k, a, q⟩ := o
  show Calls Try.prog 4 #[v, .agg #[.int .i64 k, .int .i64 a, .int .i64 q]] w _
  obtain ⟨ha, m0, m1, m2, m3⟩ := hv
  have ha2 := ha
  obtain ⟨A0, c0, A1, c1, A2, c2, A3, c3, rfl, _, _, _, _⟩ := ha2
  have SZ := szColored_any ((w.alloc (.cells #[.slice A0 C.h.l.length c0, .slice A1 C.h.r.length c1, .slice A2 C.h.t.length c2, .slice A3 C.c.length c3] 32)).alloc (.cells #[.int .i64 k, .int .i64 a, .int .i64 q] 23)) A0 A1 A2 A3 C.h.l.length c0 C.h.r.length c1 C.h.t.length c2 C.c.length c3 1048576 (by omega) (by omega) m0 m1 m2 m3
  by_cases hsz : ((C.h.l.length + C.h.r.length + C.h.t.length + C.c.length : Nat) : Int) ≤ 1048576
  · have hszv : szV (C.h.l.length + C.h.r.length + C.h.t.length + C.c.length) 1048576 = 1048576 - ((C.h.l.length + C.h.r.length + C.h.t.length + C.c.length : Nat) : Int) := by unfold szV; rw [if_pos hsz]
    rw [hszv] at SZ
    have b0 : C.h.l.length ≤ 1048576 := by omega
    have b1 : C.h.r.length ≤ 1048576 := by omega
    have b2 : C.h.t.length ≤ 1048576 := by omega
    have b3 : C.c.length ≤ 1048576 := by omega
    have s0 : ¬ (1048576 - ((C.h.l.length + C.h.r.length + C.h.t.length + C.c.length : Nat) : Int) < 0) := by omega
    generalize 1048576 - ((C.h.l.length + C.h.r.length + C.h.t.length + C.c.length : Nat) : Int) = sz at SZ s0
    clear hszv hsz m0 m1 m2 m3
    have T := fun W (hW : CArg W w.heap.size (.agg #[.slice A0 C.h.l.length c0, .slice A1 C.h.r.length c1, .slice A2 C.h.t.length c2, .slice A3 C.c.length c3]) C) (hB : w.heap.size ≤ W.heap.size) => toColored_any W w.heap.size hB _ C hW b0 b1 b2 b3
    obtain ⟨N1, n1, n2, MX, _⟩ := markC1 C b0 b1 b2 b3
    have sh := runC_short C ⟨k, a, q⟩
    have S := fun W lo v hW => specRunOp_any W lo v C hW ⟨k, a, q⟩
    have I := fun W lo v hW => implRunOp_any W lo v C hW ⟨k, a, q⟩
    have TO := fun W => toOp_any W ⟨k, a, q⟩
    generalize runC C ⟨k, a, q⟩ = D at S I sh
    generalize runE C ⟨k, a, q⟩ = x at S I
    generalize runB C ⟨k, a, q⟩ = bo at S I
    obtain ⟨N2, n3, n4, MG, QG⟩ := markC1 D sh.1 sh.2.1 sh.2.2.1 sh.2.2.2
    have hne0 : (x != x) = false := by simp
    have hne1 : (bo != bo) = false := by simp
    clear sh
    go_enter Try.func4, Try.ntmps4
    go_wp2_with fail
    refine SZ.mono ?_; rintro e w1 ⟨rfl, hb1⟩
    have BW1 : Below w.heap.size w w1 := (((Below.refl w.heap.size w).alloc (Below.refl w.heap.size w).size (.cells #[.slice A0 C.h.l.length c0, .slice A1 C.h.r.length c1, .slice A2 C.h.t.length c2, .slice A3 C.c.length c3] 32)).alloc ((Below.refl w.heap.size w).alloc (Below.refl w.heap.size w).size (.cells #[.slice A0 C.h.l.length c0, .slice A1 C.h.r.length c1, .slice A2 C.h.t.length c2, .slice A3 C.c.length c3] 32)).size (.cells #[.int .i64 k, .int .i64 a, .int .i64 q] 23)).trans (hb1.mono (((Below.refl w.heap.size w).alloc (Below.refl w.heap.size w).size (.cells #[.slice A0 C.h.l.length c0, .slice A1 C.h.r.length c1, .slice A2 C.h.t.length c2, .slice A3 C.c.length c3] 32)).alloc ((Below.refl w.heap.size w).alloc (Below.refl w.heap.size w).size (.cells #[.slice A0 C.h.l.length c0, .slice A1 C.h.r.length c1, .slice A2 C.h.t.length c2, .slice A3 C.c.length c3] 32)).size (.cells #[.int .i64 k, .int .i64 a, .int .i64 q] 23)).size)
    have zz1 : w.heap.size + 2 ≤ w1.heap.size := by have := hb1.size; simp at this; omega
    have AC_1 := CArg.below (by exact ((ha.alloc (Below.refl w.heap.size w).size (.cells #[.slice A0 C.h.l.length c0, .slice A1 C.h.r.length c1, .slice A2 C.h.t.length c2, .slice A3 C.c.length c3] 32)).alloc ((Below.refl w.heap.size w).alloc (Below.refl w.heap.size w).size (.cells #[.slice A0 C.h.l.length c0, .slice A1 C.h.r.length c1, .slice A2 C.h.t.length c2, .slice A3 C.c.length c3] 32)).size (.cells #[.int .i64 k, .int .i64 a, .int .i64 q] 23))) (hb1.mono (((Below.refl w.heap.size w).alloc (Below.refl w.heap.size w).size (.cells #[.slice A0 C.h.l.length c0, .slice A1 C.h.r.length c1, .slice A2 C.h.t.length c2, .slice A3 C.c.length c3] 32)).alloc ((Below.refl w.heap.size w).alloc (Below.refl w.heap.size w).size (.cells #[.slice A0 C.h.l.length c0, .slice A1 C.h.r.length c1, .slice A2 C.h.t.length c2, .slice A3 C.c.length c3] 32)).size (.cells #[.int .i64 k, .int .i64 a, .int .i64 q] 23)).size)
    have P_1 := Blk4.below (by exact ((Blk4.new w (.slice A0 C.h.l.length c0) (.slice A1 C.h.r.length c1) (.slice A2 C.h.t.length c2) (.slice A3 C.c.length c3) 32).alloc (.cells #[.int .i64 k, .int .i64 a, .int .i64 q] 23))) hb1
    obtain ⟨cP_1_0, cP_1_1, cP_1_2, cP_1_3, _⟩ := P_1.cells
    have lP_1 := P_1.lt
    have Y_1 := Blk3.below (by exact (Blk3.new_at (w := w.alloc (.cells #[.slice A0 C.h.l.length c0, .slice A1 C.h.r.length c1, .slice A2 C.h.t.length c2, .slice A3 C.c.length c3] 32)) (b := w.heap.size + 1) (by simp) (.int .i64 k) (.int .i64 a) (.int .i64 q) 23)) hb1
    obtain ⟨cY_1_0, cY_1_1, cY_1_2, _⟩ := Y_1.cells
    have lY_1 := Y_1.lt
    go_wp2_with fail
    go_cut [6, 7, 8] from 19 (fun p e1 e2 w' => GotS w1 D x bo p e1 e2 w')
    case first =>
      have ltP : w.heap.size < w1.heap.size := P_1.lt
      have ltY : (w.heap.size + 1) < w1.heap.size := Y_1.lt
      have nzP0 : w1.heap.size ≠ w.heap.size := Nat.ne_of_gt ltP
      have nzY0 : w1.heap.size ≠ (w.heap.size + 1) := Nat.ne_of_gt ltY
      have SO : ∀ w' : World, Blk4 w' (w.heap.size) (.slice A0 C.h.l.length c0) (.slice A1 C.h.r.length c1) (.slice A2 C.h.t.length c2) (.slice A3 C.c.length c3) 32 → Blk3 w' ((w.heap.size + 1)) (.int .i64 k) (.int .i64 a) (.int .i64 q) 23 → w'.cell? ⟨w.heap.size, 0, none⟩ = some (.slice A0 C.h.l.length c0) ∧ w'.cell? ⟨w.heap.size, 1, none⟩ = some (.slice A1 C.h.r.length c1) ∧ w'.cell? ⟨w.heap.size, 2, none⟩ = some (.slice A2 C.h.t.length c2) ∧ w'.cell? ⟨w.heap.size, 3, none⟩ = some (.slice A3 C.c.length c3) ∧ w'.cell? ⟨(w.heap.size + 1), 0, none⟩ = some (.int .i64 k) ∧ w'.cell? ⟨(w.heap.size + 1), 1, none⟩ = some (.int .i64 a) ∧ w'.cell? ⟨(w.heap.size + 1), 2, none⟩ = some (.int .i64 q) := fun w' hP hY => ⟨hP.cells.1, hP.cells.2.1, hP.cells.2.2.1, hP.cells.2.2.2.1, hY.cells.1, hY.cells.2.1, hY.cells.2.2.1⟩
      go_region_held3 (fun w' => w'.cell? ⟨w.heap.size, 0, none⟩ = some (.slice A0 C.h.l.length c0) ∧ w'.cell? ⟨w.heap.size, 1, none⟩ = some (.slice A1 C.h.r.length c1) ∧ w'.cell? ⟨w.heap.size, 2, none⟩ = some (.slice A2 C.h.t.length c2) ∧ w'.cell? ⟨w.heap.size, 3, none⟩ = some (.slice A3 C.c.length c3) ∧ w'.cell? ⟨(w.heap.size + 1), 0, none⟩ = some (.int .i64 k) ∧ w'.cell? ⟨(w.heap.size + 1), 1, none⟩ = some (.int .i64 a) ∧ w'.cell? ⟨(w.heap.size + 1), 2, none⟩ = some (.int .i64 q))
        (((try dsimp only); (with_reducible (first | exact SO _ (Blk4.far4O P3 nzP2 _ _ _ _) (Blk3.far4O Y3 nzY2 _ _ _ _) | exact SO _ (Blk4.far4O P3 nzP1 _ _ _ _) (Blk3.far4O Y3 nzY1 _ _ _ _) | exact SO _ (Blk4.far4O P3 nzP0 _ _ _ _) (Blk3.far4O Y3 nzY0 _ _ _ _) | exact SO _ P3 Y3 | exact SO _ (Blk4.alloc P3 _) (Blk3.alloc Y3 _) | exact SO _ P2 Y2 | exact SO _ (Blk4.alloc P2 _) (Blk3.alloc Y2 _) | exact SO _ P1 Y1 | exact SO _ (Blk4.alloc P1 _) (Blk3.alloc Y1 _) | exact SO _ (Blk4.alloc P_1 _) (Blk3.alloc Y_1 _) | exact SO _ (Blk4.drewO (Blk4.alloc P_1 _)) (Blk3.drewO (Blk3.alloc Y_1 _)) | exact SO _ (Blk4.drewO P_1) (Blk3.drewO Y_1) | exact SO _ P_1 Y_1))))
        (first
          | (go_at_call 13; (with_reducible refine (T _ (CArg.below AC_1 ((Below.refl w1.heap.size w1).drew.mono BW1.size)) (Nat.le_trans BW1.size (Below.refl w1.heap.size w1).drew.size)).mono ?_); rintro e u_1 ⟨v2, rfl, K2, hbx⟩; (have hB1 : Below w1.heap.size w1 u_1 := (Below.refl w1.heap.size w1).drew.trans (hbx.mono (Below.refl w1.heap.size w1).drew.size)); (have sB1 := hB1.size); (have P1 := Blk4.below (by exact P_1) hB1); (have Y1 := Blk3.below (by exact Y_1) hB1); (have nzP1 : u_1.heap.size ≠ w.heap.size := Nat.ne_of_gt (Nat.lt_of_lt_of_le ltP sB1)); (have nzY1 : u_1.heap.size ≠ (w.heap.size + 1) := Nat.ne_of_gt (Nat.lt_of_lt_of_le ltY sB1)))
          | (go_at_call 13; (with_reducible refine (T _ (CArg.below AC_1 (((Below.refl w1.heap.size w1).alloc (Nat.le_refl _) (.cells #[.slice none 0 0, .slice none 0 0, .slice none 0 0, .slice none 0 0] 36)).drew.mono BW1.size)) (Nat.le_trans BW1.size ((Below.refl w1.heap.size w1).alloc (Nat.le_refl _) (.cells #[.slice none 0 0, .slice none 0 0, .slice none 0 0, .slice none 0 0] 36)).drew.size)).mono ?_); rintro e u_1 ⟨v2, rfl, K2, hbx⟩; (have hB1 : Below w1.heap.size w1 u_1 := ((Below.refl w1.heap.size w1).alloc (Nat.le_refl _) (.cells #[.slice none 0 0, .slice none 0 0, .slice none 0 0, .slice none 0 0] 36)).drew.trans (hbx.mono ((Below.refl w1.heap.size w1).alloc (Nat.le_refl _) (.cells #[.slice none 0 0, .slice none 0 0, .slice none 0 0, .slice none 0 0] 36)).drew.size)); (have sB1 := hB1.size); (have P1 := Blk4.below (by exact P_1) hB1); (have Y1 := Blk3.below (by exact Y_1) hB1); (have Z1 : Blk4 u_1 w1.heap.size (.slice none 0 0) (.slice none 0 0) (.slice none 0 0) (.slice none 0 0) 36 := Blk4.below (w := (w1.alloc (.cells #[.slice none 0 0, .slice none 0 0, .slice none 0 0, .slice none 0 0] 36)).drew) (Blk4.new w1 _ _ _ _ _) hbx); (have nzP1 : u_1.heap.size ≠ w.heap.size := Nat.ne_of_gt (Nat.lt_of_lt_of_le ltP sB1)); (have nzY1 : u_1.heap.size ≠ (w.heap.size + 1) := Nat.ne_of_gt (Nat.lt_of_lt_of_le ltY sB1)))
          | (go_at_call 9; (with_reducible refine (TO _).mono ?_); rintro e u_2 ⟨rfl, hby⟩; (have hB2 : Below w1.heap.size w1 u_2 := hB1.trans (hby.mono hB1.size)); (have sB2 := hB2.size); (have P2 := Blk4.below (by exact P_1) hB2); (have Y2 := Blk3.below (by exact Y_1) hB2); (have K2_2 := Cv.below (by exact K2) hby); (try (have Z2 := Blk4.below Z1 hby)); (have nzP2 : u_2.heap.size ≠ w.heap.size := Nat.ne_of_gt (Nat.lt_of_lt_of_le ltP sB2)); (have nzY2 : u_2.heap.size ≠ (w.heap.size + 1) := Nat.ne_of_gt (Nat.lt_of_lt_of_le ltY sB2)))
          | (go_at_call 9; (with_reducible refine (TO _).mono ?_); rintro e u_2 ⟨rfl, hby⟩; (have hB2 : Below w1.heap.size w1 u_2 := (hB1.alloc hB1.size (.cells #[.slice none 0 0, .slice none 0 0, .slice none 0 0, .slice none 0 0] 36)).trans (hby.mono (hB1.alloc hB1.size (.cells #[.slice none 0 0, .slice none 0 0, .slice none 0 0, .slice none 0 0] 36)).size)); (have sB2 := hB2.size); (have P2 := Blk4.below (by exact P_1) hB2); (have Y2 := Blk3.below (by exact Y_1) hB2); (have K2_2 := Cv.below (by exact (K2.alloc (.cells #[.slice none 0 0, .slice none 0 0, .slice none 0 0, .slice none 0 0] 36))) hby); (have Z2 : Blk4 u_2 u_1.heap.size (.slice none 0 0) (.slice none 0 0) (.slice none 0 0) (.slice none 0 0) 36 := Blk4.below (w := (u_1.alloc (.cells #[.slice none 0 0, .slice none 0 0, .slice none 0 0, .slice none 0 0] 36))) (Blk4.new u_1 _ _ _ _ _) hby); (have nzP2 : u_2.heap.size ≠ w.heap.size := Nat.ne_of_gt (Nat.lt_of_lt_of_le ltP sB2)); (have nzY2 : u_2.heap.size ≠ (w.heap.size + 1) := Nat.ne_of_gt (Nat.lt_of_lt_of_le ltY sB2)))
          | (go_at_call 12; (with_reducible refine (S _ _ _ K2_2).mono ?_); rintro e u_3 ⟨v4, rfl, K4, hbz⟩; (have hB3 : Below w1.heap.size w1 u_3 := hB2.trans (hbz.mono hB2.size)); (have sB3 := hB3.size); (have P3 := Blk4.below (by exact P_1) hB3); (have Y3 := Blk3.below (by exact Y_1) hB3); (have K2_3 := Cv.below (by exact K2_2) hbz); (try (have Z3 := Blk4.below Z2 hbz)); (obtain ⟨yA0, yn0, yk0, yA1, yn1, yk1, yA2, yn2, yk2, yA3, yn3, yk3, rfl, _⟩ := Cv.open_ K4); (try (have hz := Z2.lt)); (try (obtain ⟨zc_0, zc_1, zc_2, zc_3, zf_0, zf_1, zf_2, zf_3⟩ := Z3.cells)))
          | (go_at_call 12; (with_reducible refine (S _ _ _ (K2_2.alloc (.cells #[.slice none 0 0, .slice none 0 0, .slice none 0 0, .slice none 0 0] 36))).mono ?_); rintro e u_3 ⟨v4, rfl, K4, hbz⟩; (have hB3 : Below w1.heap.size w1 u_3 := (hB2.alloc hB2.size (.cells #[.slice none 0 0, .slice none 0 0, .slice none 0 0, .slice none 0 0] 36)).trans (hbz.mono (hB2.alloc hB2.size (.cells #[.slice none 0 0, .slice none 0 0, .slice none 0 0, .slice none 0 0] 36)).size)); (have sB3 := hB3.size); (have P3 := Blk4.below (by exact P_1) hB3); (have Y3 := Blk3.below (by exact Y_1) hB3); (have K2_3 := Cv.below (by exact (K2_2.alloc (.cells #[.slice none 0 0, .slice none 0 0, .slice none 0 0, .slice none 0 0] 36))) hbz); (have Z3 : Blk4 u_3 u_2.heap.size (.slice none 0 0) (.slice none 0 0) (.slice none 0 0) (.slice none 0 0) 36 := Blk4.below (w := (u_2.alloc (.cells #[.slice none 0 0, .slice none 0 0, .slice none 0 0, .slice none 0 0] 36))) (Blk4.new u_2 _ _ _ _ _) hbz); (obtain ⟨yA0, yn0, yk0, yA1, yn1, yk1, yA2, yn2, yk2, yA3, yn3, yk3, rfl, _⟩ := Cv.open_ K4); (try (have hz := Z2.lt)); (try (obtain ⟨zc_0, zc_1, zc_2, zc_3, zf_0, zf_1, zf_2, zf_3⟩ := Z3.cells))))
      all_goals
        rename_i hHeld
        clear hHeld
        go_wp2_with fail
        go_meet
        case rel => first | (with_reducible exact got_new K4 sB2 hB3) | (with_reducible exact got_set Z3 K4 (Nat.le_refl _) hz hB3) | (with_reducible exact got_set Z3 K4 sB1 hz hB3) | (with_reducible exact got_set Z3 K4 sB2 (by simp) hB3) | fail
    case rest =>
      obtain ⟨bR, rv0, rv1, rv2, rv3, rfl, rfl, rfl, R0, H3, nR, hR1, hbw3⟩ := hcut
      obtain ⟨w3, rfl⟩ : ∃ w3, w3 = wc := ⟨_, rfl⟩
      have BW2 : Below w.heap.size w w3 := BW1.trans (hbw3.mono BW1.size)
      have zz2 : w1.heap.size ≤ w3.heap.size := hbw3.size
      have AC_2 := CArg.below (by exact AC_1) (hbw3.mono BW1.size)
      have P_2 := Blk4.below (by exact P_1) hbw3
      obtain ⟨cP_2_0, cP_2_1, cP_2_2, cP_2_3, _⟩ := P_2.cells
      have lP_2 := P_2.lt
      have Y_2 := Blk3.below (by exact Y_1) hbw3
      obtain ⟨cY_2_0, cY_2_1, cY_2_2, _⟩ := Y_2.cells
      have lY_2 := Y_2.lt
      obtain ⟨rA0, rn0, rk0, rA1, rn1, rk1, rA2, rn2, rk2, rA3, rn3, rk3, ev, _⟩ := Cv.open_ H3
      cases ev
      have lR0 := R0.lt
      have H3o := H3
      obtain ⟨cR0_0, cR0_1, cR0_2, cR0_3, _⟩ := R0.cells
      go_wp2_with fail
      refine (T _ AC_2 BW2.size).mono ?_; rintro e w4 ⟨v, rfl, H4, hb4⟩
      have BW3 : Below w.heap.size w w4 := BW2.trans (hb4.mono BW2.size)
      have zz3 : w3.heap.size ≤ w4.heap.size := hb4.size
      have AC_3 := CArg.below (by exact AC_2) (hb4.mono BW2.size)
      have P_3 := Blk4.below (by exact P_2) hb4
      obtain ⟨cP_3_0, cP_3_1, cP_3_2, cP_3_3, _⟩ := P_3.cells
      have lP_3 := P_3.lt
      have Y_3 := Blk3.below (by exact Y_2) hb4
      obtain ⟨cY_3_0, cY_3_1, cY_3_2, _⟩ := Y_3.cells
      have lY_3 := Y_3.lt
      have H3_3 := Cv.below (by exact H3) hb4
      have R_3 := Blk4.below (by exact R0) hb4
      obtain ⟨cR_3_0, cR_3_1, cR_3_2, cR_3_3, _⟩ := R_3.cells
      have lR_3 := R_3.lt
      have H4o := H4
      obtain ⟨xA0, xn0, xk0, xA1, xn1, xk1, xA2, xn2, xk2, xA3, xn3, xk3, rfl, _⟩ := Cv.open_ H4
      clear AC_1 P_1 cP_1_0 cP_1_1 cP_1_2 cP_1_3 lP_1 Y_1 cY_1_0 cY_1_1 cY_1_2 lY_1 AC_2 P_2 cP_2_0 cP_2_1 cP_2_2 cP_2_3 lP_2 Y_2 cY_2_0 cY_2_1 cY_2_2 lY_2 H3 R0 cR0_0 cR0_1 cR0_2 cR0_3
      have AC_4s := (AC_3.alloc BW3.size (.cells #[.slice xA0 xn0 xk0, .slice xA1 xn1 xk1, .slice xA2 xn2 xk2, .slice xA3 xn3 xk3] 36))
      have P_4s := (P_3.alloc (.cells #[.slice xA0 xn0 xk0, .slice xA1 xn1 xk1, .slice xA2 xn2 xk2, .slice xA3 xn3 xk3] 36))
      obtain ⟨cP_4s_0, cP_4s_1, cP_4s_2, cP_4s_3, _⟩ := P_4s.cells
      have lP_4s := P_4s.lt
      have Y_4s := (Y_3.alloc (.cells #[.slice xA0 xn0 xk0, .slice xA1 xn1 xk1, .slice xA2 xn2 xk2, .slice xA3 xn3 xk3] 36))
      obtain ⟨cY_4s_0, cY_4s_1, cY_4s_2, _⟩ := Y_4s.cells
      have lY_4s := Y_4s.lt
      have H3_4s := (H3_3.alloc (.cells #[.slice xA0 xn0 xk0, .slice xA1 xn1 xk1, .slice xA2 xn2 xk2, .slice xA3 xn3 xk3] 36))
      have R_4s := (R_3.alloc (.cells #[.slice xA0 xn0 xk0, .slice xA1 xn1 xk1, .slice xA2 xn2 xk2, .slice xA3 xn3 xk3] 36))
      obtain ⟨cR_4s_0, cR_4s_1, cR_4s_2, cR_4s_3, _⟩ := R_4s.cells
      have lR_4s := R_4s.lt
      have H4_4s := (H4.alloc (.cells #[.slice xA0 xn0 xk0, .slice xA1 xn1 xk1, .slice xA2 xn2 xk2, .slice xA3 xn3 xk3] 36))
      have X_4s := (Blk4.new w4 (.slice xA0 xn0 xk0) (.slice xA1 xn1 xk1) (.slice xA2 xn2 xk2) (.slice xA3 xn3 xk3) 36)
      obtain ⟨cX_4s_0, cX_4s_1, cX_4s_2, cX_4s_3, _⟩ := X_4s.cells
      have lX_4s := X_4s.lt
      have BW4 := (BW3.alloc BW3.size (.cells #[.slice xA0 xn0 xk0, .slice xA1 xn1 xk1, .slice xA2 xn2 xk2, .slice xA3 xn3 xk3] 36))
      go_wp2_with fail
      have swg : w4.heap.size + 1 ≤ (w4.alloc (.cells #[.slice xA0 xn0 xk0, .slice xA1 xn1 xk1, .slice xA2 xn2 xk2, .slice xA3 xn3 xk3] 36)).heap.size ∧ (w4.alloc (.cells #[.slice xA0 xn0 xk0, .slice xA1 xn1 xk1, .slice xA2 xn2 xk2, .slice xA3 xn3 xk3] 36)).heap.size ≤ w4.heap.size + 1 := by simp
      generalize (w4.alloc (.cells #[.slice xA0 xn0 xk0, .slice xA1 xn1 xk1, .slice xA2 xn2 xk2, .slice xA3 xn3 xk3] 36)) = wg at AC_4s P_4s Y_4s H3_4s R_4s H4_4s X_4s cP_4s_0 cP_4s_1 cP_4s_2 cP_4s_3 cY_4s_0 cY_4s_1 cY_4s_2 cR_4s_0 cR_4s_1 cR_4s_2 cR_4s_3 cX_4s_0 cX_4s_1 cX_4s_2 cX_4s_3 lP_4s lY_4s lR_4s lX_4s BW4 swg ⊢
      obtain ⟨swg, swg2⟩ := swg
      go_cut [10, 11, 12] from 19 (fun p e1 e2 w' => GotS wg D x bo p e1 e2 w')
      case first =>
        have ltX : w4.heap.size < wg.heap.size := X_4s.lt
        have ltY : (w.heap.size + 1) < wg.heap.size := Y_4s.lt
        have nzX0 : wg.heap.size ≠ w4.heap.size := Nat.ne_of_gt ltX
        have nzY0 : wg.heap.size ≠ (w.heap.size + 1) := Nat.ne_of_gt ltY
        have SO : ∀ w' : World, Blk4 w' (w4.heap.size) (.slice xA0 xn0 xk0) (.slice xA1 xn1 xk1) (.slice xA2 xn2 xk2) (.slice xA3 xn3 xk3) 36 → Blk3 w' ((w.heap.size + 1)) (.int .i64 k) (.int .i64 a) (.int .i64 q) 23 → w'.cell? ⟨w4.heap.size, 0, none⟩ = some (.slice xA0 xn0 xk0) ∧ w'.cell? ⟨w4.heap.size, 1, none⟩ = some (.slice xA1 xn1 xk1) ∧ w'.cell? ⟨w4.heap.size, 2, none⟩ = some (.slice xA2 xn2 xk2) ∧ w'.cell? ⟨w4.heap.size, 3, none⟩ = some (.slice xA3 xn3 xk3) ∧ w'.cell? ⟨(w.heap.size + 1), 0, none⟩ = some (.int .i64 k) ∧ w'.cell? ⟨(w.heap.size + 1), 1, none⟩ = some (.int .i64 a) ∧ w'.cell? ⟨(w.heap.size + 1), 2, none⟩ = some (.int .i64 q) := fun w' hX hY => ⟨hX.cells.1, hX.cells.2.1, hX.cells.2.2.1, hX.cells.2.2.2.1, hY.cells.1, hY.cells.2.1, hY.cells.2.2.1⟩
        go_region_held3 (fun w' => w'.cell? ⟨w4.heap.size, 0, none⟩ = some (.slice xA0 xn0 xk0) ∧ w'.cell? ⟨w4.heap.size, 1, none⟩ = some (.slice xA1 xn1 xk1) ∧ w'.cell? ⟨w4.heap.size, 2, none⟩ = some (.slice xA2 xn2 xk2) ∧ w'.cell? ⟨w4.heap.size, 3, none⟩ = some (.slice xA3 xn3 xk3) ∧ w'.cell? ⟨(w.heap.size + 1), 0, none⟩ = some (.int .i64 k) ∧ w'.cell? ⟨(w.heap.size + 1), 1, none⟩ = some (.int .i64 a) ∧ w'.cell? ⟨(w.heap.size + 1), 2, none⟩ = some (.int .i64 q))
          (((try dsimp only); (with_reducible (first | exact SO _ (Blk4.far4O X2 nzX1 _ _ _ _) (Blk3.far4O Y2 nzY1 _ _ _ _) | exact SO _ (Blk4.far4O X2 nzX0 _ _ _ _) (Blk3.far4O Y2 nzY0 _ _ _ _) | exact SO _ X2 Y2 | exact SO _ (Blk4.alloc X2 _) (Blk3.alloc Y2 _) | exact SO _ X1 Y1 | exact SO _ (Blk4.alloc X1 _) (Blk3.alloc Y1 _) | exact SO _ (Blk4.alloc X_4s _) (Blk3.alloc Y_4s _) | exact SO _ (Blk4.drewO (Blk4.alloc X_4s _)) (Blk3.drewO (Blk3.alloc Y_4s _)) | exact SO _ (Blk4.drewO X_4s) (Blk3.drewO Y_4s) | exact SO _ X_4s Y_4s))))
          (first
            | (go_at_call 9; (with_reducible refine (TO _).mono ?_); rintro e u_1 ⟨rfl, hby⟩; (have hB1 : Below wg.heap.size wg u_1 := (Below.refl wg.heap.size wg).drew.trans (hby.mono (Below.refl wg.heap.size wg).drew.size)); (have sB1 := hB1.size); (have X1 := Blk4.below (by exact X_4s) hB1); (have Y1 := Blk3.below (by exact Y_4s) hB1); (have nzX1 : u_1.heap.size ≠ w4.heap.size := Nat.ne_of_gt (Nat.lt_of_lt_of_le ltX sB1)); (have nzY1 : u_1.heap.size ≠ (w.heap.size + 1) := Nat.ne_of_gt (Nat.lt_of_lt_of_le ltY sB1)))
            | (go_at_call 9; (with_reducible refine (TO _).mono ?_); rintro e u_1 ⟨rfl, hby⟩; (have hB1 : Below wg.heap.size wg u_1 := ((Below.refl wg.heap.size wg).alloc (Nat.le_refl _) (.cells #[.slice none 0 0, .slice none 0 0, .slice none 0 0, .slice none 0 0] 36)).drew.trans (hby.mono ((Below.refl wg.heap.size wg).alloc (Nat.le_refl _) (.cells #[.slice none 0 0, .slice none 0 0, .slice none 0 0, .slice none 0 0] 36)).drew.size)); (have sB1 := hB1.size); (have X1 := Blk4.below (by exact X_4s) hB1); (have Y1 := Blk3.below (by exact Y_4s) hB1); (have Z1 : Blk4 u_1 wg.heap.size (.slice none 0 0) (.slice none 0 0) (.slice none 0 0) (.slice none 0 0) 36 := Blk4.below (w := (wg.alloc (.cells #[.slice none 0 0, .slice none 0 0, .slice none 0 0, .slice none 0 0] 36)).drew) (Blk4.new wg _ _ _ _ _) hby); (have nzX1 : u_1.heap.size ≠ w4.heap.size := Nat.ne_of_gt (Nat.lt_of_lt_of_le ltX sB1)); (have nzY1 : u_1.heap.size ≠ (w.heap.size + 1) := Nat.ne_of_gt (Nat.lt_of_lt_of_le ltY sB1)))
            | (go_at_call 14; (with_reducible refine (I _ _ _ (Cv.below (by exact H4_4s) hB1)).mono ?_); rintro e u_2 ⟨v4, rfl, K4, hbz⟩; (have hB2 : Below wg.heap.size wg u_2 := hB1.trans (hbz.mono hB1.size)); (have sB2 := hB2.size); (have X2 := Blk4.below (by exact X_4s) hB2); (have Y2 := Blk3.below (by exact Y_4s) hB2); (try (have Z2 := Blk4.below Z1 hbz)); (obtain ⟨yA0, yn0, yk0, yA1, yn1, yk1, yA2, yn2, yk2, yA3, yn3, yk3, rfl, _⟩ := Cv.open_ K4); (try (have hz := Z1.lt)); (try (obtain ⟨zc_0, zc_1, zc_2, zc_3, zf_0, zf_1, zf_2, zf_3⟩ := Z2.cells)))
            | (go_at_call 14; (with_reducible refine (I _ _ _ (Cv.below (by exact H4_4s) (hB1.alloc hB1.size (.cells #[.slice none 0 0, .slice none 0 0, .slice none 0 0, .slice none 0 0] 36)))).mono ?_); rintro e u_2 ⟨v4, rfl, K4, hbz⟩; (have hB2 : Below wg.heap.size wg u_2 := (hB1.alloc hB1.size (.cells #[.slice none 0 0, .slice none 0 0, .slice none 0 0, .slice none 0 0] 36)).trans (hbz.mono (hB1.alloc hB1.size (.cells #[.slice none 0 0, .slice none 0 0, .slice none 0 0, .slice none 0 0] 36)).size)); (have sB2 := hB2.size); (have X2 := Blk4.below (by exact X_4s) hB2); (have Y2 := Blk3.below (by exact Y_4s) hB2); (have Z2 : Blk4 u_2 u_1.heap.size (.slice none 0 0) (.slice none 0 0) (.slice none 0 0) (.slice none 0 0) 36 := Blk4.below (w := (u_1.alloc (.cells #[.slice none 0 0, .slice none 0 0, .slice none 0 0, .slice none 0 0] 36))) (Blk4.new u_1 _ _ _ _ _) hbz); (obtain ⟨yA0, yn0, yk0, yA1, yn1, yk1, yA2, yn2, yk2, yA3, yn3, yk3, rfl, _⟩ := Cv.open_ K4); (try (have hz := Z1.lt)); (try (obtain ⟨zc_0, zc_1, zc_2, zc_3, zf_0, zf_1, zf_2, zf_3⟩ := Z2.cells))))
        all_goals
          rename_i hHeld
          clear hHeld
          go_wp2_with fail
          go_meet
          case rel => first | (with_reducible exact got_new K4 sB1 hB2) | (with_reducible exact got_set Z2 K4 (Nat.le_refl _) hz hB2) | (with_reducible exact got_set Z2 K4 sB1 (by simp) hB2) | fail
      case rest =>
        obtain ⟨bG, gv0, gv1, gv2, gv3, rfl, rfl, rfl, G0, H5, nG, hG1, hbw5⟩ := hcut
        obtain ⟨w5, rfl⟩ : ∃ w5, w5 = wc := ⟨_, rfl⟩
        have BW5 : Below w.heap.size w w5 := BW4.trans (hbw5.mono BW4.size)
        have zz5 : wg.heap.size ≤ w5.heap.size := hbw5.size
        have AC_5 := CArg.below (by exact AC_4s) (hbw5.mono BW4.size)
        have P_5 := Blk4.below (by exact P_4s) hbw5
        obtain ⟨cP_5_0, cP_5_1, cP_5_2, cP_5_3, _⟩ := P_5.cells
        have lP_5 := P_5.lt
        have Y_5 := Blk3.below (by exact Y_4s) hbw5
        obtain ⟨cY_5_0, cY_5_1, cY_5_2, _⟩ := Y_5.cells
        have lY_5 := Y_5.lt
        have H3_5 := Cv.below (by exact H3_4s) hbw5
        have R_5 := Blk4.below (by exact R_4s) hbw5
        obtain ⟨cR_5_0, cR_5_1, cR_5_2, cR_5_3, _⟩ := R_5.cells
        have lR_5 := R_5.lt
        have H4_5 := Cv.below (by exact H4_4s) hbw5
        have X_5 := Blk4.below (by exact X_4s) hbw5
        obtain ⟨cX_5_0, cX_5_1, cX_5_2, cX_5_3, _⟩ := X_5.cells
        have lX_5 := X_5.lt
        obtain ⟨gA0, gn0, gk0, gA1, gn1, gk1, gA2, gn2, gk2, gA3, gn3, gk3, ev, _⟩ := Cv.open_ H5
        cases ev
        have lG0 := G0.lt
        have H5o := H5
        obtain ⟨cG0_0, cG0_1, cG0_2, cG0_3, _⟩ := G0.cells
        go_wp2_with fail
        refine (eqColored_same _ _ _ _ _ _ H5 H3_5).mono ?_; rintro e w6 ⟨rfl, hb6⟩
        have BW6 : Below w.heap.size w w6 := BW5.trans (hb6.mono BW5.size)
        have zz6 : w5.heap.size ≤ w6.heap.size := hb6.size
        have AC_6 := CArg.below (by exact AC_5) (hb6.mono BW5.size)
        have P_6 := Blk4.below (by exact P_5) hb6
        obtain ⟨cP_6_0, cP_6_1, cP_6_2, cP_6_3, _⟩ := P_6.cells
        have lP_6 := P_6.lt
        have Y_6 := Blk3.below (by exact Y_5) hb6
        obtain ⟨cY_6_0, cY_6_1, cY_6_2, _⟩ := Y_6.cells
        have lY_6 := Y_6.lt
        have H3_6 := Cv.below (by exact H3_5) hb6
        have R_6 := Blk4.below (by exact R_5) hb6
        obtain ⟨cR_6_0, cR_6_1, cR_6_2, cR_6_3, _⟩ := R_6.cells
        have lR_6 := R_6.lt
        have H4_6 := Cv.below (by exact H4_5) hb6
        have X_6 := Blk4.below (by exact X_5) hb6
        obtain ⟨cX_6_0, cX_6_1, cX_6_2, cX_6_3, _⟩ := X_6.cells
        have lX_6 := X_6.lt
        have H5_6 := Cv.below (by exact H5) hb6
        have G_6 := Blk4.below (by exact G0) hb6
        obtain ⟨cG_6_0, cG_6_1, cG_6_2, cG_6_3, _⟩ := G_6.cells
        have lG_6 := G_6.lt
        go_wp2_with fail
        go_region_held3 (fun w' => w'.cell? ⟨w4.heap.size, 0, none⟩ = some (.slice xA0 xn0 xk0) ∧ w'.cell? ⟨w4.heap.size, 1, none⟩ = some (.slice xA1 xn1 xk1) ∧ w'.cell? ⟨w4.heap.size, 2, none⟩ = some (.slice xA2 xn2 xk2) ∧ w'.cell? ⟨w4.heap.size, 3, none⟩ = some (.slice xA3 xn3 xk3) ∧ w'.cell? ⟨w.heap.size, 0, none⟩ = some (.slice A0 C.h.l.length c0) ∧ w'.cell? ⟨w.heap.size, 1, none⟩ = some (.slice A1 C.h.r.length c1) ∧ w'.cell? ⟨w.heap.size, 2, none⟩ = some (.slice A2 C.h.t.length c2) ∧ w'.cell? ⟨w.heap.size, 3, none⟩ = some (.slice A3 C.c.length c3))
          (((try dsimp only); (repeat' apply And.intro) <;> (with_reducible (first | exact cP_8_3 | exact cP_8_2 | exact cP_8_1 | exact cP_8_0 | exact cX_8_3 | exact cX_8_2 | exact cX_8_1 | exact cX_8_0 | exact cP_7_3 | exact cP_7_2 | exact cP_7_1 | exact cP_7_0 | exact cX_7_3 | exact cX_7_2 | exact cX_7_1 | exact cX_7_0 | exact cellD cP_6_3 | exact cellD cP_6_2 | exact cellD cP_6_1 | exact cellD cP_6_0 | exact cellD cX_6_3 | exact cellD cX_6_2 | exact cellD cX_6_1 | exact cellD cX_6_0 | exact cP_6_3 | exact cP_6_2 | exact cP_6_1 | exact cP_6_0 | exact cX_6_3 | exact cX_6_2 | exact cX_6_1 | exact cX_6_0))))
          (first
            | (go_at_call 13; (with_reducible refine (T _ (AC_6.drew) (Below.drew BW6).size).mono ?_); rintro e w7 ⟨v7, rfl, HN7, hb7⟩; have BW7 : Below w.heap.size w w7 := (Below.drew BW6).trans (hb7.mono (Below.drew BW6).size); have zz7 : w6.heap.size ≤ w7.heap.size := hb7.size; have AC_7 := CArg.below (by exact (AC_6.drew)) (hb7.mono (Below.drew BW6).size); have P_7 := Blk4.below (by exact (P_6.drew)) hb7; obtain ⟨cP_7_0, cP_7_1, cP_7_2, cP_7_3, _⟩ := P_7.cells; have lP_7 := P_7.lt; have Y_7 := Blk3.below (by exact (Y_6.drew)) hb7; obtain ⟨cY_7_0, cY_7_1, cY_7_2, _⟩ := Y_7.cells; have lY_7 := Y_7.lt; have H3_7 := Cv.below (by exact (H3_6.drew)) hb7; have R_7 := Blk4.below (by exact (R_6.drew)) hb7; obtain ⟨cR_7_0, cR_7_1, cR_7_2, cR_7_3, _⟩ := R_7.cells; have lR_7 := R_7.lt; have H4_7 := Cv.below (by exact (H4_6.drew)) hb7; have X_7 := Blk4.below (by exact (X_6.drew)) hb7; obtain ⟨cX_7_0, cX_7_1, cX_7_2, cX_7_3, _⟩ := X_7.cells; have lX_7 := X_7.lt; have H5_7 := Cv.below (by exact (H5_6.drew)) hb7; have G_7 := Blk4.below (by exact (G_6.drew)) hb7; obtain ⟨cG_7_0, cG_7_1, cG_7_2, cG_7_3, _⟩ := G_7.cells; have lG_7 := G_7.lt)
            | (go_at_call 15; (with_reducible refine (eqColored_same _ _ _ _ _ _ H4_7 HN7).mono ?_); rintro e w8 ⟨rfl, hb8⟩; have BW8 : Below w.heap.size w w8 := BW7.trans (hb8.mono BW7.size); have zz8 : w7.heap.size ≤ w8.heap.size := hb8.size; have AC_8 := CArg.below (by exact AC_7) (hb8.mono BW7.size); have P_8 := Blk4.below (by exact P_7) hb8; obtain ⟨cP_8_0, cP_8_1, cP_8_2, cP_8_3, _⟩ := P_8.cells; have lP_8 := P_8.lt; have Y_8 := Blk3.below (by exact Y_7) hb8; obtain ⟨cY_8_0, cY_8_1, cY_8_2, _⟩ := Y_8.cells; have lY_8 := Y_8.lt; have H3_8 := Cv.below (by exact H3_7) hb8; have R_8 := Blk4.below (by exact R_7) hb8; obtain ⟨cR_8_0, cR_8_1, cR_8_2, cR_8_3, _⟩ := R_8.cells; have lR_8 := R_8.lt; have H4_8 := Cv.below (by exact H4_7) hb8; have X_8 := Blk4.below (by exact X_7) hb8; obtain ⟨cX_8_0, cX_8_1, cX_8_2, cX_8_3, _⟩ := X_8.cells; have lX_8 := X_8.lt; have H5_8 := Cv.below (by exact H5_7) hb8; have G_8 := Blk4.below (by exact G_7) hb8; obtain ⟨cG_8_0, cG_8_1, cG_8_2, cG_8_3, _⟩ := G_8.cells; have lG_8 := G_8.lt; have HN7_8 := Cv.below (by exact HN7) hb8))
        rename_i hHeld1
        clear hHeld1
        clear AC_4s P_4s cP_4s_0 cP_4s_1 cP_4s_2 cP_4s_3 lP_4s Y_4s cY_4s_0 cY_4s_1 cY_4s_2 lY_4s H3_4s R_4s cR_4s_0 cR_4s_1 cR_4s_2 cR_4s_3 lR_4s H4_4s X_4s cX_4s_0 cX_4s_1 cX_4s_2 cX_4s_3 lX_4s AC_5 P_5 cP_5_0 cP_5_1 cP_5_2 cP_5_3 lP_5 Y_5 cY_5_0 cY_5_1 cY_5_2 lY_5 H3_5 R_5 cR_5_0 cR_5_1 cR_5_2 cR_5_3 lR_5 H4_5 X_5 cX_5_0 cX_5_1 cX_5_2 cX_5_3 lX_5 H5 G0 cG0_0 cG0_1 cG0_2 cG0_3 AC_7 P_7 cP_7_0 cP_7_1 cP_7_2 cP_7_3 lP_7 Y_7 cY_7_0 cY_7_1 cY_7_2 lY_7 H3_7 R_7 cR_7_0 cR_7_1 cR_7_2 cR_7_3 lR_7 H4_7 X_7 cX_7_0 cX_7_1 cX_7_2 cX_7_3 lX_7 H5_7 G_7 cG_7_0 cG_7_1 cG_7_2 cG_7_3 lG_7 HN7
        go_wp2_with fail
        refine (MX _ _ _ H4_8 (by omega)).mono ?_; rintro e w9 ⟨rfl, HM4, hb9, fr9⟩
        have BW9 : Below w.heap.size w w9 := BW8.trans (hb9.mono (by omega))
        have zz9 : w8.heap.size ≤ w9.heap.size := hb9.size
        have AC_9 := CArg.below AC_8 (hb9.mono (by omega))
        have P_9 := Blk4.frame P_8 fr9 (notC_old H4o (by omega))
        obtain ⟨cP_9_0, cP_9_1, cP_9_2, cP_9_3, _⟩ := P_9.cells
        have lP_9 := P_9.lt
        have Y_9 := Blk3.frameC Y_8 fr9 (notC_old H4o (by omega))
        obtain ⟨cY_9_0, cY_9_1, cY_9_2, _⟩ := Y_9.cells
        have lY_9 := Y_9.lt
        have H3_9 := Cv.keptFar H3_8 hb9 H3o (by omega)
        have R_9 := Blk4.frame R_8 fr9 (notC_old H4o (by omega))
        obtain ⟨cR_9_0, cR_9_1, cR_9_2, cR_9_3, _⟩ := R_9.cells
        have lR_9 := R_9.lt
        have X_9 := Blk4.frame X_8 fr9 (notC_new H4o (by omega))
        obtain ⟨cX_9_0, cX_9_1, cX_9_2, cX_9_3, _⟩ := X_9.cells
        have lX_9 := X_9.lt
        have H5_9 := Cv.keptC H5_8 fr9 (fun b h1 _ => notC_new H4o (by omega))
        have G_9 := Blk4.frame G_8 fr9 (notC_new H4o (by omega))
        obtain ⟨cG_9_0, cG_9_1, cG_9_2, cG_9_3, _⟩ := G_9.cells
        have lG_9 := G_9.lt
        go_wp2_with fail
        refine (eqColored_same _ _ _ _ _ _ H5_9 H3_9).mono ?_; rintro e w10 ⟨rfl, hb10⟩
        have BW10 : Below w.heap.size w w10 := BW9.trans (hb10.mono BW9.size)
        have zz10 : w9.heap.size ≤ w10.heap.size := hb10.size
        have AC_10 := CArg.below (by exact AC_9) (hb10.mono BW9.size)
        have P_10 := Blk4.below (by exact P_9) hb10
        obtain ⟨cP_10_0, cP_10_1, cP_10_2, cP_10_3, _⟩ := P_10.cells
        have lP_10 := P_10.lt
        have Y_10 := Blk3.below (by exact Y_9) hb10
        obtain ⟨cY_10_0, cY_10_1, cY_10_2, _⟩ := Y_10.cells
        have lY_10 := Y_10.lt
        have H3_10 := Cv.below (by exact H3_9) hb10
        have R_10 := Blk4.below (by exact R_9) hb10
        obtain ⟨cR_10_0, cR_10_1, cR_10_2, cR_10_3, _⟩ := R_10.cells
        have lR_10 := R_10.lt
        have H5_10 := Cv.below (by exact H5_9) hb10
        have G_10 := Blk4.below (by exact G_9) hb10
        obtain ⟨cG_10_0, cG_10_1, cG_10_2, cG_10_3, _⟩ := G_10.cells
        have lG_10 := G_10.lt
        clear AC_8 P_8 cP_8_0 cP_8_1 cP_8_2 cP_8_3 lP_8 Y_8 cY_8_0 cY_8_1 cY_8_2 lY_8 H3_8 R_8 cR_8_0 cR_8_1 cR_8_2 cR_8_3 lR_8 H4_8 X_8 cX_8_0 cX_8_1 cX_8_2 cX_8_3 lX_8 H5_8 G_8 cG_8_0 cG_8_1 cG_8_2 cG_8_3 lG_8 AC_9 P_9 cP_9_0 cP_9_1 cP_9_2 cP_9_3 lP_9 Y_9 cY_9_0 cY_9_1 cY_9_2 lY_9 H3_9 R_9 cR_9_0 cR_9_1 cR_9_2 cR_9_3 lR_9 H5_9 G_9 cG_9_0 cG_9_1 cG_9_2 cG_9_3 lG_9
        go_wp2_with fail
        refine (MG _ _ _ H5_10 (by omega)).mono ?_; rintro e w11 ⟨rfl, HM5, hb11, fr11⟩
        have BW11 : Below w.heap.size w w11 := BW10.trans (hb11.mono (by omega))
        have zz11 : w10.heap.size ≤ w11.heap.size := hb11.size
        have AC_11 := CArg.below AC_10 (hb11.mono (by omega))
        have P_11 := Blk4.frame P_10 fr11 (notC_old H5o (by omega))
        obtain ⟨cP_11_0, cP_11_1, cP_11_2, cP_11_3, _⟩ := P_11.cells
        have lP_11 := P_11.lt
        have Y_11 := Blk3.frameC Y_10 fr11 (notC_old H5o (by omega))
        obtain ⟨cY_11_0, cY_11_1, cY_11_2, _⟩ := Y_11.cells
        have lY_11 := Y_11.lt
        have H3_11 := Cv.keptFar H3_10 hb11 H3o (by omega)
        have R_11 := Blk4.frame R_10 fr11 (notC_old H5o (by omega))
        obtain ⟨cR_11_0, cR_11_1, cR_11_2, cR_11_3, _⟩ := R_11.cells
        have lR_11 := R_11.lt
        have G_11 := Blk4.frame G_10 fr11 nG
        obtain ⟨cG_11_0, cG_11_1, cG_11_2, cG_11_3, _⟩ := G_11.cells
        have lG_11 := G_11.lt
        go_wp2_with fail
        refine (QG _ _ _ HM5).mono ?_; rintro e w12 ⟨rfl, hb12⟩
        have BW12 : Below w.heap.size w w12 := BW11.trans (hb12.mono BW11.size)
        have zz12 : w11.heap.size ≤ w12.heap.size := hb12.size
        have AC_12 := CArg.below (by exact AC_11) (hb12.mono BW11.size)
        have P_12 := Blk4.below (by exact P_11) hb12
        obtain ⟨cP_12_0, cP_12_1, cP_12_2, cP_12_3, _⟩ := P_12.cells
        have lP_12 := P_12.lt
        have Y_12 := Blk3.below (by exact Y_11) hb12
        obtain ⟨cY_12_0, cY_12_1, cY_12_2, _⟩ := Y_12.cells
        have lY_12 := Y_12.lt
        have H3_12 := Cv.below (by exact H3_11) hb12
        have R_12 := Blk4.below (by exact R_11) hb12
        obtain ⟨cR_12_0, cR_12_1, cR_12_2, cR_12_3, _⟩ := R_12.cells
        have lR_12 := R_12.lt
        have H5_12 := Cv.below (by exact HM5) hb12
        have G_12 := Blk4.below (by exact G_11) hb12
        obtain ⟨cG_12_0, cG_12_1, cG_12_2, cG_12_3, _⟩ := G_12.cells
        have lG_12 := G_12.lt
        clear AC_10 P_10 cP_10_0 cP_10_1 cP_10_2 cP_10_3 Y_10 cY_10_0 cY_10_1 cY_10_2 H3_10 R_10 cR_10_0 cR_10_1 cR_10_2 cR_10_3 H5_10 G_10 cG_10_0 cG_10_1 cG_10_2 cG_10_3 AC_11 P_11 cP_11_0 cP_11_1 cP_11_2 cP_11_3 lP_11 Y_11 cY_11_0 cY_11_1 cY_11_2 lY_11 H3_11 R_11 cR_11_0 cR_11_1 cR_11_2 cR_11_3 lR_11 HM5 G_11 cG_11_0 cG_11_1 cG_11_2 cG_11_3 lG_11
        go_wp2_with fail
        go_cut [16, 17, 18] from 19 (fun p e1 e2 w' => GotS w12 D x bo p e1 e2 w')
        case first =>
          have ltP : w.heap.size < w12.heap.size := P_12.lt
          have ltY : (w.heap.size + 1) < w12.heap.size := Y_12.lt
          have nzP0 : w12.heap.size ≠ w.heap.size := Nat.ne_of_gt ltP
          have nzY0 : w12.heap.size ≠ (w.heap.size + 1) := Nat.ne_of_gt ltY
          have SO : ∀ w' : World, Blk4 w' (w.heap.size) (.slice A0 C.h.l.length c0) (.slice A1 C.h.r.length c1) (.slice A2 C.h.t.length c2) (.slice A3 C.c.length c3) 32 → Blk3 w' ((w.heap.size + 1)) (.int .i64 k) (.int .i64 a) (.int .i64 q) 23 → w'.cell? ⟨w.heap.size, 0, none⟩ = some (.slice A0 C.h.l.length c0) ∧ w'.cell? ⟨w.heap.size, 1, none⟩ = some (.slice A1 C.h.r.length c1) ∧ w'.cell? ⟨w.heap.size, 2, none⟩ = some (.slice A2 C.h.t.length c2) ∧ w'.cell? ⟨w.heap.size, 3, none⟩ = some (.slice A3 C.c.length c3) ∧ w'.cell? ⟨(w.heap.size + 1), 0, none⟩ = some (.int .i64 k) ∧ w'.cell? ⟨(w.heap.size + 1), 1, none⟩ = some (.int .i64 a) ∧ w'.cell? ⟨(w.heap.size + 1), 2, none⟩ = some (.int .i64 q) := fun w' hP hY => ⟨hP.cells.1, hP.cells.2.1, hP.cells.2.2.1, hP.cells.2.2.2.1, hY.cells.1, hY.cells.2.1, hY.cells.2.2.1⟩
          go_region_held3 (fun w' => w'.cell? ⟨w.heap.size, 0, none⟩ = some (.slice A0 C.h.l.length c0) ∧ w'.cell? ⟨w.heap.size, 1, none⟩ = some (.slice A1 C.h.r.length c1) ∧ w'.cell? ⟨w.heap.size, 2, none⟩ = some (.slice A2 C.h.t.length c2) ∧ w'.cell? ⟨w.heap.size, 3, none⟩ = some (.slice A3 C.c.length c3) ∧ w'.cell? ⟨(w.heap.size + 1), 0, none⟩ = some (.int .i64 k) ∧ w'.cell? ⟨(w.heap.size + 1), 1, none⟩ = some (.int .i64 a) ∧ w'.cell? ⟨(w.heap.size + 1), 2, none⟩ = some (.int .i64 q))
            (((try dsimp only); (with_reducible (first | exact SO _ (Blk4.far4O P3 nzP2 _ _ _ _) (Blk3.far4O Y3 nzY2 _ _ _ _) | exact SO _ (Blk4.far4O P3 nzP1 _ _ _ _) (Blk3.far4O Y3 nzY1 _ _ _ _) | exact SO _ (Blk4.far4O P3 nzP0 _ _ _ _) (Blk3.far4O Y3 nzY0 _ _ _ _) | exact SO _ P3 Y3 | exact SO _ (Blk4.alloc P3 _) (Blk3.alloc Y3 _) | exact SO _ P2 Y2 | exact SO _ (Blk4.alloc P2 _) (Blk3.alloc Y2 _) | exact SO _ P1 Y1 | exact SO _ (Blk4.alloc P1 _) (Blk3.alloc Y1 _) | exact SO _ (Blk4.alloc P_12 _) (Blk3.alloc Y_12 _) | exact SO _ (Blk4.drewO (Blk4.alloc P_12 _)) (Blk3.drewO (Blk3.alloc Y_12 _)) | exact SO _ (Blk4.drewO P_12) (Blk3.drewO Y_12) | exact SO _ P_12 Y_12))))
            (first
              | (go_at_call 13; (with_reducible refine (T _ (CArg.below AC_12 ((Below.refl w12.heap.size w12).drew.mono BW12.size)) (Nat.le_trans BW12.size (Below.refl w12.heap.size w12).drew.size)).mono ?_); rintro e u_1 ⟨v2, rfl, K2, hbx⟩; (have hB1 : Below w12.heap.size w12 u_1 := (Below.refl w12.heap.size w12).drew.trans (hbx.mono (Below.refl w12.heap.size w12).drew.size)); (have sB1 := hB1.size); (have P1 := Blk4.below (by exact P_12) hB1); (have Y1 := Blk3.below (by exact Y_12) hB1); (have nzP1 : u_1.heap.size ≠ w.heap.size := Nat.ne_of_gt (Nat.lt_of_lt_of_le ltP sB1)); (have nzY1 : u_1.heap.size ≠ (w.heap.size + 1) := Nat.ne_of_gt (Nat.lt_of_lt_of_le ltY sB1)))
              | (go_at_call 13; (with_reducible refine (T _ (CArg.below AC_12 (((Below.refl w12.heap.size w12).alloc (Nat.le_refl _) (.cells #[.slice none 0 0, .slice none 0 0, .slice none 0 0, .slice none 0 0] 36)).drew.mono BW12.size)) (Nat.le_trans BW12.size ((Below.refl w12.heap.size w12).alloc (Nat.le_refl _) (.cells #[.slice none 0 0, .slice none 0 0, .slice none 0 0, .slice none 0 0] 36)).drew.size)).mono ?_); rintro e u_1 ⟨v2, rfl, K2, hbx⟩; (have hB1 : Below w12.heap.size w12 u_1 := ((Below.refl w12.heap.size w12).alloc (Nat.le_refl _) (.cells #[.slice none 0 0, .slice none 0 0, .slice none 0 0, .slice none 0 0] 36)).drew.trans (hbx.mono ((Below.refl w12.heap.size w12).alloc (Nat.le_refl _) (.cells #[.slice none 0 0, .slice none 0 0, .slice none 0 0, .slice none 0 0] 36)).drew.size)); (have sB1 := hB1.size); (have P1 := Blk4.below (by exact P_12) hB1); (have Y1 := Blk3.below (by exact Y_12) hB1); (have Z1 : Blk4 u_1 w12.heap.size (.slice none 0 0) (.slice none 0 0) (.slice none 0 0) (.slice none 0 0) 36 := Blk4.below (w := (w12.alloc (.cells #[.slice none 0 0, .slice none 0 0, .slice none 0 0, .slice none 0 0] 36)).drew) (Blk4.new w12 _ _ _ _ _) hbx); (have nzP1 : u_1.heap.size ≠ w.heap.size := Nat.ne_of_gt (Nat.lt_of_lt_of_le ltP sB1)); (have nzY1 : u_1.heap.size ≠ (w.heap.size + 1) := Nat.ne_of_gt (Nat.lt_of_lt_of_le ltY sB1)))
              | (go_at_call 9; (with_reducible refine (TO _).mono ?_); rintro e u_2 ⟨rfl, hby⟩; (have hB2 : Below w12.heap.size w12 u_2 := hB1.trans (hby.mono hB1.size)); (have sB2 := hB2.size); (have P2 := Blk4.below (by exact P_12) hB2); (have Y2 := Blk3.below (by exact Y_12) hB2); (have K2_2 := Cv.below (by exact K2) hby); (try (have Z2 := Blk4.below Z1 hby)); (have nzP2 : u_2.heap.size ≠ w.heap.size := Nat.ne_of_gt (Nat.lt_of_lt_of_le ltP sB2)); (have nzY2 : u_2.heap.size ≠ (w.heap.size + 1) := Nat.ne_of_gt (Nat.lt_of_lt_of_le ltY sB2)))
              | (go_at_call 9; (with_reducible refine (TO _).mono ?_); rintro e u_2 ⟨rfl, hby⟩; (have hB2 : Below w12.heap.size w12 u_2 := (hB1.alloc hB1.size (.cells #[.slice none 0 0, .slice none 0 0, .slice none 0 0, .slice none 0 0] 36)).trans (hby.mono (hB1.alloc hB1.size (.cells #[.slice none 0 0, .slice none 0 0, .slice none 0 0, .slice none 0 0] 36)).size)); (have sB2 := hB2.size); (have P2 := Blk4.below (by exact P_12) hB2); (have Y2 := Blk3.below (by exact Y_12) hB2); (have K2_2 := Cv.below (by exact (K2.alloc (.cells #[.slice none 0 0, .slice none 0 0, .slice none 0 0, .slice none 0 0] 36))) hby); (have Z2 : Blk4 u_2 u_1.heap.size (.slice none 0 0) (.slice none 0 0) (.slice none 0 0) (.slice none 0 0) 36 := Blk4.below (w := (u_1.alloc (.cells #[.slice none 0 0, .slice none 0 0, .slice none 0 0, .slice none 0 0] 36))) (Blk4.new u_1 _ _ _ _ _) hby); (have nzP2 : u_2.heap.size ≠ w.heap.size := Nat.ne_of_gt (Nat.lt_of_lt_of_le ltP sB2)); (have nzY2 : u_2.heap.size ≠ (w.heap.size + 1) := Nat.ne_of_gt (Nat.lt_of_lt_of_le ltY sB2)))
              | (go_at_call 14; (with_reducible refine (I _ _ _ K2_2).mono ?_); rintro e u_3 ⟨v4, rfl, K4, hbz⟩; (have hB3 : Below w12.heap.size w12 u_3 := hB2.trans (hbz.mono hB2.size)); (have sB3 := hB3.size); (have P3 := Blk4.below (by exact P_12) hB3); (have Y3 := Blk3.below (by exact Y_12) hB3); (have K2_3 := Cv.below (by exact K2_2) hbz); (try (have Z3 := Blk4.below Z2 hbz)); (obtain ⟨yA0, yn0, yk0, yA1, yn1, yk1, yA2, yn2, yk2, yA3, yn3, yk3, rfl, _⟩ := Cv.open_ K4); (try (have hz := Z2.lt)); (try (obtain ⟨zc_0, zc_1, zc_2, zc_3, zf_0, zf_1, zf_2, zf_3⟩ := Z3.cells)))
              | (go_at_call 14; (with_reducible refine (I _ _ _ (K2_2.alloc (.cells #[.slice none 0 0, .slice none 0 0, .slice none 0 0, .slice none 0 0] 36))).mono ?_); rintro e u_3 ⟨v4, rfl, K4, hbz⟩; (have hB3 : Below w12.heap.size w12 u_3 := (hB2.alloc hB2.size (.cells #[.slice none 0 0, .slice none 0 0, .slice none 0 0, .slice none 0 0] 36)).trans (hbz.mono (hB2.alloc hB2.size (.cells #[.slice none 0 0, .slice none 0 0, .slice none 0 0, .slice none 0 0] 36)).size)); (have sB3 := hB3.size); (have P3 := Blk4.below (by exact P_12) hB3); (have Y3 := Blk3.below (by exact Y_12) hB3); (have K2_3 := Cv.below (by exact (K2_2.alloc (.cells #[.slice none 0 0, .slice none 0 0, .slice none 0 0, .slice none 0 0] 36))) hbz); (have Z3 : Blk4 u_3 u_2.heap.size (.slice none 0 0) (.slice none 0 0) (.slice none 0 0) (.slice none 0 0) 36 := Blk4.below (w := (u_2.alloc (.cells #[.slice none 0 0, .slice none 0 0, .slice none 0 0, .slice none 0 0] 36))) (Blk4.new u_2 _ _ _ _ _) hbz); (obtain ⟨yA0, yn0, yk0, yA1, yn1, yk1, yA2, yn2, yk2, yA3, yn3, yk3, rfl, _⟩ := Cv.open_ K4); (try (have hz := Z2.lt)); (try (obtain ⟨zc_0, zc_1, zc_2, zc_3, zf_0, zf_1, zf_2, zf_3⟩ := Z3.cells))))
          all_goals
            rename_i hHeld
            clear hHeld
            go_wp2_with fail
            go_meet
            case rel => first | (with_reducible exact got_new K4 sB2 hB3) | (with_reducible exact got_set Z3 K4 (Nat.le_refl _) hz hB3) | (with_reducible exact got_set Z3 K4 sB1 hz hB3) | (with_reducible exact got_set Z3 K4 sB2 (by simp) hB3) | fail
        case rest =>
          obtain ⟨bK, kv0, kv1, kv2, kv3, rfl, rfl, rfl, K0, H13, nK, hK1, hbw13⟩ := hcut
          obtain ⟨w13, rfl⟩ : ∃ w13, w13 = wc := ⟨_, rfl⟩
          have BW13 : Below w.heap.size w w13 := BW12.trans (hbw13.mono BW12.size)
          have zz13 : w12.heap.size ≤ w13.heap.size := hbw13.size
          have AC_13 := CArg.below (by exact AC_12) (hbw13.mono BW12.size)
          have P_13 := Blk4.below (by exact P_12) hbw13
          obtain ⟨cP_13_0, cP_13_1, cP_13_2, cP_13_3, _⟩ := P_13.cells
          have lP_13 := P_13.lt
          have Y_13 := Blk3.below (by exact Y_12) hbw13
          obtain ⟨cY_13_0, cY_13_1, cY_13_2, _⟩ := Y_13.cells
          have lY_13 := Y_13.lt
          have H3_13 := Cv.below (by exact H3_12) hbw13
          have R_13 := Blk4.below (by exact R_12) hbw13
          obtain ⟨cR_13_0, cR_13_1, cR_13_2, cR_13_3, _⟩ := R_13.cells
          have lR_13 := R_13.lt
          have H5_13 := Cv.below (by exact H5_12) hbw13
          have G_13 := Blk4.below (by exact G_12) hbw13
          obtain ⟨cG_13_0, cG_13_1, cG_13_2, cG_13_3, _⟩ := G_13.cells
          have lG_13 := G_13.lt
          obtain ⟨kA0, kn0, kk0, kA1, kn1, kk1, kA2, kn2, kk2, kA3, kn3, kk3, ev, _⟩ := Cv.open_ H13
          cases ev
          have lK0 := K0.lt
          have H13o := H13
          obtain ⟨cK0_0, cK0_1, cK0_2, cK0_3, _⟩ := K0.cells
          go_wp2_with fail
          refine (eqColored_same _ _ _ _ _ _ H13 H3_13).mono ?_; rintro e w14 ⟨rfl, hb14⟩
          have BW14 : Below w.heap.size w w14 := BW13.trans (hb14.mono BW13.size)
          have zz14 : w13.heap.size ≤ w14.heap.size := hb14.size
          have AC_14 := CArg.below (by exact AC_13) (hb14.mono BW13.size)
          have P_14 := Blk4.below (by exact P_13) hb14
          obtain ⟨cP_14_0, cP_14_1, cP_14_2, cP_14_3, _⟩ := P_14.cells
          have lP_14 := P_14.lt
          have Y_14 := Blk3.below (by exact Y_13) hb14
          obtain ⟨cY_14_0, cY_14_1, cY_14_2, _⟩ := Y_14.cells
          have lY_14 := Y_14.lt
          have H3_14 := Cv.below (by exact H3_13) hb14
          have R_14 := Blk4.below (by exact R_13) hb14
          obtain ⟨cR_14_0, cR_14_1, cR_14_2, cR_14_3, _⟩ := R_14.cells
          have lR_14 := R_14.lt
          have H5_14 := Cv.below (by exact H5_13) hb14
          have G_14 := Blk4.below (by exact G_13) hb14
          obtain ⟨cG_14_0, cG_14_1, cG_14_2, cG_14_3, _⟩ := G_14.cells
          have lG_14 := G_14.lt
          have H13_14 := Cv.below (by exact H13) hb14
          have K_14 := Blk4.below (by exact K0) hb14
          obtain ⟨cK_14_0, cK_14_1, cK_14_2, cK_14_3, _⟩ := K_14.cells
          have lK_14 := K_14.lt
          go_wp2_with fail
          refine (QG _ _ _ H5_14).mono ?_; rintro e w15 ⟨rfl, hb15⟩
          have BW15 : Below w.heap.size w w15 := BW14.trans (hb15.mono BW14.size)
          have zz15 : w14.heap.size ≤ w15.heap.size := hb15.size
          have AC_15 := CArg.below (by exact AC_14) (hb15.mono BW14.size)
          have P_15 := Blk4.below (by exact P_14) hb15
          obtain ⟨cP_15_0, cP_15_1, cP_15_2, cP_15_3, _⟩ := P_15.cells
          have lP_15 := P_15.lt
          have Y_15 := Blk3.below (by exact Y_14) hb15
          obtain ⟨cY_15_0, cY_15_1, cY_15_2, _⟩ := Y_15.cells
          have lY_15 := Y_15.lt
          have H3_15 := Cv.below (by exact H3_14) hb15
          have R_15 := Blk4.below (by exact R_14) hb15
          obtain ⟨cR_15_0, cR_15_1, cR_15_2, cR_15_3, _⟩ := R_15.cells
          have lR_15 := R_15.lt
          have H5_15 := Cv.below (by exact H5_14) hb15
          have G_15 := Blk4.below (by exact G_14) hb15
          obtain ⟨cG_15_0, cG_15_1, cG_15_2, cG_15_3, _⟩ := G_15.cells
          have lG_15 := G_15.lt
          have H13_15 := Cv.below (by exact H13_14) hb15
          have K_15 := Blk4.below (by exact K_14) hb15
          obtain ⟨cK_15_0, cK_15_1, cK_15_2, cK_15_3, _⟩ := K_15.cells
          have lK_15 := K_15.lt
          go_wp2_with fail
          go_ret
          exact ⟨rfl, BW15⟩
  · have hszv : szV (C.h.l.length + C.h.r.length + C.h.t.length + C.c.length) 1048576 = -1 := by unfold szV; rw [if_neg hsz]
    rw [hszv] at SZ
    clear hsz hszv
    go_enter Try.func4, Try.ntmps4
    go_wp2_with fail
    refine SZ.mono ?_; rintro e w1 ⟨rfl, hb1⟩
    go_wp2_with fail
    go_ret
    exact ⟨rfl, (((Below.refl _ _).alloc (Nat.le_refl _) _).alloc (by simp) _).trans (hb1.mono (by simp; omega))⟩
end Go.Proofs.Ytlabljanddjleaa
