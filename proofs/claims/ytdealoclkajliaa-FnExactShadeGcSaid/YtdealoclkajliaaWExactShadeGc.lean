/- The exact law of ShadeGc, walked. -/
import Derived.Test.YtdealoclkajliaaExactG
import Derived.Test.YtdealoclkajliaaGColS
import Derived.Test.YtdealoclkajliaaGColI
namespace Go.Proofs.Ytdealoclkajliaa
open Go.RowKit


set_option maxRecDepth 100000 in
set_option maxHeartbeats 6000000 in
theorem lawExactShadeGc_walk (w : World) (v : Value) (C : Cp) (hv : CIn w v C) (vg : Value) (G : Gp) (hg : GIn w vg G) (k : Int) : Calls Try.prog 10 #[v, vg, .int .i64 k] w (LawTrue w) := by
  obtain ⟨ha, m0, m1, m2, m3⟩ := hv
  have ha2 := ha
  obtain ⟨A0, c0, A1, c1, A2, c2, A3, c3, rfl, _, _, _, _⟩ := ha2
  obtain ⟨⟨A4, c4, rfl, hi⟩, m4⟩ := hg
  obtain ⟨p, cc, a⟩ := G
  dsimp only at hi m4 ⊢
  have SZ := szColored_any ((w.alloc (.cells #[.slice A0 C.h.l.length c0, .slice A1 C.h.r.length c1, .slice A2 C.h.t.length c2, .slice A3 C.c.length c3] 26)).alloc (.cells #[.int .i64 p, .slice A4 cc.length c4, .int .i64 a] 41)) A0 A1 A2 A3 C.h.l.length c0 C.h.r.length c1 C.h.t.length c2 C.c.length c3 1048576 (by omega) (by omega) m0 m1 m2 m3
  have fin0 : Below w.heap.size w ((w.alloc (.cells #[.slice A0 C.h.l.length c0, .slice A1 C.h.r.length c1, .slice A2 C.h.t.length c2, .slice A3 C.c.length c3] 26)).alloc (.cells #[.int .i64 p, .slice A4 cc.length c4, .int .i64 a] 41)) := B_al (B_al (Below.refl _ _) _) _
  by_cases hsz : ((C.h.l.length + C.h.r.length + C.h.t.length + C.c.length : Nat) : Int) ≤ 1048576
  · have hszv : szV (C.h.l.length + C.h.r.length + C.h.t.length + C.c.length) 1048576 = 1048576 - ((C.h.l.length + C.h.r.length + C.h.t.length + C.c.length : Nat) : Int) := by unfold szV; rw [if_pos hsz]
    rw [hszv] at SZ
    have b0 : C.h.l.length ≤ 1048576 := by omega
    have b1 : C.h.r.length ≤ 1048576 := by omega
    have b2 : C.h.t.length ≤ 1048576 := by omega
    have b3 : C.c.length ≤ 1048576 := by omega
    have s0 : ¬ (1048576 - ((C.h.l.length + C.h.r.length + C.h.t.length + C.c.length : Nat) : Int) < 0) := by omega
    have s1 : 0 ≤ 1048576 - ((C.h.l.length + C.h.r.length + C.h.t.length + C.c.length : Nat) : Int) ∧ 1048576 - ((C.h.l.length + C.h.r.length + C.h.t.length + C.c.length : Nat) : Int) ≤ 1048576 := by omega
    generalize 1048576 - ((C.h.l.length + C.h.r.length + C.h.t.length + C.c.length : Nat) : Int) = sz at SZ s0 s1
    clear hszv hsz m0 m1 m2 m3
    have T := fun W (hW : CArg W w.heap.size (.agg #[.slice A0 C.h.l.length c0, .slice A1 C.h.r.length c1, .slice A2 C.h.t.length c2, .slice A3 C.c.length c3]) C) (hB : w.heap.size ≤ W.heap.size) => toColored_any W w.heap.size hB _ C hW b0 b1 b2 b3
    have SZ2 := fun W => szGc_any W p a A4 cc.length c4 sz s1.1 s1.2 m4
    by_cases hsz2 : (cc.length : Int) ≤ sz
    · have hszv : szV cc.length sz = sz - cc.length := by unfold szV; rw [if_pos hsz2]
      simp only [hszv] at SZ2
      have b4 : cc.length ≤ 1048576 := by omega
      have s2 : ¬ (sz - (cc.length : Int) < 0) := by omega
      generalize sz - (cc.length : Int) = sz2 at SZ2 s2
      clear hszv hsz2 s1 m4
      have TG0 := fun W (hW : Ints W w.heap.size A4 cc.length cc) (hB : w.heap.size ≤ W.heap.size) => toGc_any W w.heap.size hB p a A4 c4 cc hW b4
      obtain ⟨N1, N2, ms, n1, n2, n3, MX, _, MY, _⟩ := markSG C cc.length ⟨b0, b1, b2, b3⟩ b4
      have S := fun W lo vs vg hW => optG_of (specShadeGc_any W lo vs vg C ⟨p, cc, a⟩ hW k)
      have I := fun W lo vs vg hW => optG_of (implShadeGc_any W lo vs vg C ⟨p, cc, a⟩ hW k)
      have sh : ((shadeGO C ⟨p, cc, a⟩ k).getD Gp.zero).c.length ≤ 1048576 := by unfold shadeGO; split; (next h => (have h9 := gcB_sizes (Bool.and_eq_true_iff.1 h).1; (simp only [Option.getD_some, shadeG]; split <;> (try rw [shade_len]) <;> omega))); (next h => simp [Gp.zero])
      generalize (shadeGO C ⟨p, cc, a⟩ k).isSome = ok at S I
      generalize (shadeGO C ⟨p, cc, a⟩ k).getD Gp.zero = Rg at S I sh
      obtain ⟨rp, rc, ra⟩ := Rg
      dsimp only at S I sh
      obtain ⟨N3, mg, n4, n5, MG, QG⟩ := markG1 rc.length sh
      have hne : (ok != ok) = false := by simp
      have TGr := fun W (hW : Ints W w.heap.size A4 cc.length cc) (hB : w.heap.size ≤ W.heap.size) => toGc_row W w.heap.size hB p a A4 c4 cc hW b4
      clear sh
      go_enter Try.func10, Try.ntmps10
      go_wp2_with fail
      refine SZ.mono ?_; rintro e w1 ⟨rfl, hb1⟩
      have BW1 : Below w.heap.size w w1 := B_th (B_al (B_al (Below.refl w.heap.size w) (.cells #[.slice A0 C.h.l.length c0, .slice A1 C.h.r.length c1, .slice A2 C.h.t.length c2, .slice A3 C.c.length c3] 26)) (.cells #[.int .i64 p, .slice A4 cc.length c4, .int .i64 a] 41)) hb1
      have zz1 : w.heap.size + 2 ≤ w1.heap.size := by have := hb1.size; simp at this; omega
      have AC_1 := CArg.below (by exact (CArg.alloc (CArg.alloc ha (Below.refl w.heap.size w).size (.cells #[.slice A0 C.h.l.length c0, .slice A1 C.h.r.length c1, .slice A2 C.h.t.length c2, .slice A3 C.c.length c3] 26)) (B_al (Below.refl w.heap.size w) (.cells #[.slice A0 C.h.l.length c0, .slice A1 C.h.r.length c1, .slice A2 C.h.t.length c2, .slice A3 C.c.length c3] 26)).size (.cells #[.int .i64 p, .slice A4 cc.length c4, .int .i64 a] 41))) (hb1.mono (B_al (B_al (Below.refl w.heap.size w) (.cells #[.slice A0 C.h.l.length c0, .slice A1 C.h.r.length c1, .slice A2 C.h.t.length c2, .slice A3 C.c.length c3] 26)) (.cells #[.int .i64 p, .slice A4 cc.length c4, .int .i64 a] 41)).size)
      have IA_1 := Ints.below (by exact (Ints.alloc (Ints.alloc hi (Below.refl w.heap.size w).size (.cells #[.slice A0 C.h.l.length c0, .slice A1 C.h.r.length c1, .slice A2 C.h.t.length c2, .slice A3 C.c.length c3] 26)) (B_al (Below.refl w.heap.size w) (.cells #[.slice A0 C.h.l.length c0, .slice A1 C.h.r.length c1, .slice A2 C.h.t.length c2, .slice A3 C.c.length c3] 26)).size (.cells #[.int .i64 p, .slice A4 cc.length c4, .int .i64 a] 41))) (hb1.mono (B_al (B_al (Below.refl w.heap.size w) (.cells #[.slice A0 C.h.l.length c0, .slice A1 C.h.r.length c1, .slice A2 C.h.t.length c2, .slice A3 C.c.length c3] 26)) (.cells #[.int .i64 p, .slice A4 cc.length c4, .int .i64 a] 41)).size)
      have P_1 := Blk4.below (by exact ((Blk4.new w (.slice A0 C.h.l.length c0) (.slice A1 C.h.r.length c1) (.slice A2 C.h.t.length c2) (.slice A3 C.c.length c3) 26).alloc (.cells #[.int .i64 p, .slice A4 cc.length c4, .int .i64 a] 41))) hb1
      obtain ⟨cP_1_0, cP_1_1, cP_1_2, cP_1_3, _⟩ := P_1.cells
      have lP_1 := P_1.lt
      have Q_1 := Blk3.below (by exact (Blk3.new_at (w := (w.alloc (.cells #[.slice A0 C.h.l.length c0, .slice A1 C.h.r.length c1, .slice A2 C.h.t.length c2, .slice A3 C.c.length c3] 26))) (b := (w.heap.size + 1)) (by simp) (.int .i64 p) (.slice A4 cc.length c4) (.int .i64 a) 41)) hb1
      obtain ⟨cQ_1_0, cQ_1_1, cQ_1_2, _⟩ := Q_1.cells
      have lQ_1 := Q_1.lt
      go_wp2_with fail
      refine (SZ2 _).mono ?_; rintro e w1g ⟨rfl, hb1g⟩
      have BW2 : Below w.heap.size w w1g := B_th BW1 hb1g
      have zz2 : w1.heap.size ≤ w1g.heap.size := hb1g.size
      have AC_2 := CArg.below (by exact AC_1) (hb1g.mono BW1.size)
      have IA_2 := Ints.below (by exact IA_1) (hb1g.mono BW1.size)
      have P_2 := Blk4.below (by exact P_1) hb1g
      obtain ⟨cP_2_0, cP_2_1, cP_2_2, cP_2_3, _⟩ := P_2.cells
      have lP_2 := P_2.lt
      have Q_2 := Blk3.below (by exact Q_1) hb1g
      obtain ⟨cQ_2_0, cQ_2_1, cQ_2_2, _⟩ := Q_2.cells
      have lQ_2 := Q_2.lt
      clear AC_1 IA_1 P_1 cP_1_0 cP_1_1 cP_1_2 cP_1_3 lP_1 Q_1 cQ_1_0 cQ_1_1 cQ_1_2 lQ_1
      go_wp2_with fail
      go_cut [8, 9] from 19 (fun p e1 w' => GotG w1g ⟨rp, rc, ra⟩ ok p e1 w')
      case first =>
        have SO : ∀ w' : World, Below w1g.heap.size w1g w' → w'.cell? ⟨w.heap.size, 0, none⟩ = some (.slice A0 C.h.l.length c0) ∧ w'.cell? ⟨w.heap.size, 1, none⟩ = some (.slice A1 C.h.r.length c1) ∧ w'.cell? ⟨w.heap.size, 2, none⟩ = some (.slice A2 C.h.t.length c2) ∧ w'.cell? ⟨w.heap.size, 3, none⟩ = some (.slice A3 C.c.length c3) ∧ w'.cell? ⟨(w.heap.size + 1), 0, none⟩ = some (.int .i64 p) ∧ w'.cell? ⟨(w.heap.size + 1), 1, none⟩ = some (.slice A4 cc.length c4) ∧ w'.cell? ⟨(w.heap.size + 1), 2, none⟩ = some (.int .i64 a) := fun w' hb => ⟨(Blk4.below P_2 hb).cells.1, (Blk4.below P_2 hb).cells.2.1, (Blk4.below P_2 hb).cells.2.2.1, (Blk4.below P_2 hb).cells.2.2.2.1, (Blk3.below Q_2 hb).cells.1, (Blk3.below Q_2 hb).cells.2.1, (Blk3.below Q_2 hb).cells.2.2.1⟩
        have TS := fun V (hV : Below w1g.heap.size w1g V) => T V (CArg.below AC_2 (hV.mono BW2.size)) (Nat.le_trans BW2.size hV.size)
        have TG := fun V (hV : Below w1g.heap.size w1g V) => TG0 V (Ints.below IA_2 (hV.mono BW2.size)) (Nat.le_trans BW2.size hV.size)
        go_region_held3 (fun w' => w'.cell? ⟨w.heap.size, 0, none⟩ = some (.slice A0 C.h.l.length c0) ∧ w'.cell? ⟨w.heap.size, 1, none⟩ = some (.slice A1 C.h.r.length c1) ∧ w'.cell? ⟨w.heap.size, 2, none⟩ = some (.slice A2 C.h.t.length c2) ∧ w'.cell? ⟨w.heap.size, 3, none⟩ = some (.slice A3 C.c.length c3) ∧ w'.cell? ⟨(w.heap.size + 1), 0, none⟩ = some (.int .i64 p) ∧ w'.cell? ⟨(w.heap.size + 1), 1, none⟩ = some (.slice A4 cc.length c4) ∧ w'.cell? ⟨(w.heap.size + 1), 2, none⟩ = some (.int .i64 a))
          (((try dsimp only); (refine SO _ ?_); (repeat (with_reducible (first | exact Below.refl _ _ | exact hB1 | exact hB2 | exact hB3 | refine B_dr ?_ | refine B_al ?_ _ | refine B_set ?_ ?_ _ _)))))
          (first
            | (go_at_call 13; (refine Calls.mono (TS _ ?_) ?_); (· repeat (with_reducible (first | exact Below.refl _ _ | refine B_dr ?_ | refine B_al ?_ _ | refine B_set ?_ ?_ _ _))); rintro e u1 ⟨v2, rfl, K2, hbx⟩; (have hB1 : Below w1g.heap.size w1g u1 := (by refine B_th ?_ hbx; repeat (with_reducible (first | exact Below.refl _ _ | refine B_dr ?_ | refine B_al ?_ _ | refine B_set ?_ ?_ _ _)))); (have K2l : Cv u1 w1g.heap.size v2 C := K2.mono (Below.size (by repeat (with_reducible (first | exact Below.refl _ _ | refine B_dr ?_ | refine B_al ?_ _ | refine B_set ?_ ?_ _ _))))))
            | (go_at_call 22; (refine Calls.mono (TG _ ?_) ?_); (· repeat (with_reducible (first | exact Below.refl _ _ | exact hB1 | refine B_dr ?_ | refine B_al ?_ _ | refine B_set ?_ ?_ _ _))); rintro e u2 ⟨v3, rfl, K3, hby⟩; (have hB2 : Below w1g.heap.size w1g u2 := (by refine B_th ?_ hby; repeat (with_reducible (first | exact Below.refl _ _ | exact hB1 | refine B_dr ?_ | refine B_al ?_ _ | refine B_set ?_ ?_ _ _)))); (first | (have CG := CGv.mk K2l K3 (Below.size hB1) hby) | (have CG := CGv.mk (Cv.alloc K2l (.cells #[.int .i64 0, .slice none 0 0, .int .i64 0] 29)) K3 (Below.size (B_al hB1 (.cells #[.int .i64 0, .slice none 0 0, .int .i64 0] 29))) hby)))
            | (go_at_call 35; (refine Calls.mono (S _ w1g.heap.size _ _ ?_) ?_); (· repeat (with_reducible (first | exact CG | refine CGv.alloc ?_ _))); rintro e u3 ⟨A8, n8, c8, rfl, rG, lG, hbz⟩; (have hB3 : Below w1g.heap.size w1g u3 := (by refine B_th ?_ hbz; repeat (with_reducible (first | exact Below.refl _ _ | exact hB1 | exact hB2 | refine B_dr ?_ | refine B_al ?_ _ | refine B_set ?_ ?_ _ _)))); (try ((refine (fun (ZZ : Blk3 u3 w1g.heap.size (.int .i64 0) (.slice none 0 0) (.int .i64 0) 29) => ?_) ?_); rotate_left; (· ((repeat (with_reducible (first | exact Blk3.new _ _ _ _ _ | refine Blk3.alloc ?_ _ | refine Blk3.drewG ?_ | refine Blk3.below ?_ hbz | refine Blk3.below ?_ hby | refine Blk3.below ?_ hbx))); done)); (obtain ⟨zc0, zc1, zc2, zf0, zf1, zf2⟩ := ZZ.cells))); (try ((refine (fun (ZZ : Blk3 u3 u1.heap.size (.int .i64 0) (.slice none 0 0) (.int .i64 0) 29) => ?_) ?_); rotate_left; (· ((repeat (with_reducible (first | exact Blk3.new _ _ _ _ _ | refine Blk3.alloc ?_ _ | refine Blk3.drewG ?_ | refine Blk3.below ?_ hbz | refine Blk3.below ?_ hby | refine Blk3.below ?_ hbx))); done)); (obtain ⟨zc0, zc1, zc2, zf0, zf1, zf2⟩ := ZZ.cells))); (try ((refine (fun (ZZ : Blk3 u3 u2.heap.size (.int .i64 0) (.slice none 0 0) (.int .i64 0) 29) => ?_) ?_); rotate_left; (· ((repeat (with_reducible (first | exact Blk3.new _ _ _ _ _ | refine Blk3.alloc ?_ _ | refine Blk3.drewG ?_ | refine Blk3.below ?_ hbz | refine Blk3.below ?_ hby | refine Blk3.below ?_ hbx))); done)); (obtain ⟨zc0, zc1, zc2, zf0, zf1, zf2⟩ := ZZ.cells)))))
        all_goals
          (try rename_i hHeld); (try clear hHeld)
          go_wp2_with fail
          go_meet
          case rel => first | exact got_setG (G := ⟨rp, rc, ra⟩) ZZ rG lG (by first | exact Nat.le_refl _ | exact Below.size hB1 | exact Below.size hB2) (by have q1 := Below.size hbx; have q2 := Below.size hby; have q3 := Below.size hB1; have q4 := Below.size hB2; (try simp at q1 q2); first | omega | (simp; done) | (simp; omega)) hB3 | exact got_newG (G := ⟨rp, rc, ra⟩) rG lG (by have q1 := Below.size hbx; have q2 := Below.size hby; have q3 := Below.size hB1; have q4 := Below.size hB2; (try simp at q1 q2); first | omega | (simp; done) | (simp; omega)) hB3
      case rest =>
        obtain ⟨bR, AR, nR, kR, rfl, rfl, R0, RR, qR, nRo, hR1, hbw3⟩ := hcut
        obtain ⟨w3, rfl⟩ : ∃ w3, w3 = wc := ⟨_, rfl⟩
        have BW3 : Below w.heap.size w w3 := B_th BW2 hbw3
        have zz3 : w1g.heap.size ≤ w3.heap.size := hbw3.size
        have AC_3 := CArg.below (by exact AC_2) (hbw3.mono BW2.size)
        have IA_3 := Ints.below (by exact IA_2) (hbw3.mono BW2.size)
        have P_3 := Blk4.below (by exact P_2) hbw3
        obtain ⟨cP_3_0, cP_3_1, cP_3_2, cP_3_3, _⟩ := P_3.cells
        have lP_3 := P_3.lt
        have Q_3 := Blk3.below (by exact Q_2) hbw3
        obtain ⟨cQ_3_0, cQ_3_1, cQ_3_2, _⟩ := Q_3.cells
        have lQ_3 := Q_3.lt
        clear AC_2 IA_2 P_2 cP_2_0 cP_2_1 cP_2_2 cP_2_3 lP_2 Q_2 cQ_2_0 cQ_2_1 cQ_2_2 lQ_2
        have lR0 := R0.lt
        dsimp only at RR qR R0
        subst qR
        have RRo := RR
        obtain ⟨cR0_0, cR0_1, cR0_2, _⟩ := R0.cells
        go_wp2_with fail
        refine (T _ AC_3 BW3.size).mono ?_; rintro e w4 ⟨v4, rfl, H4, hb4⟩
        have BW4 : Below w.heap.size w w4 := B_th BW3 hb4
        have zz4 : w3.heap.size ≤ w4.heap.size := hb4.size
        have AC_4 := CArg.below (by exact AC_3) (hb4.mono BW3.size)
        have IA_4 := Ints.below (by exact IA_3) (hb4.mono BW3.size)
        have P_4 := Blk4.below (by exact P_3) hb4
        obtain ⟨cP_4_0, cP_4_1, cP_4_2, cP_4_3, _⟩ := P_4.cells
        have lP_4 := P_4.lt
        have Q_4 := Blk3.below (by exact Q_3) hb4
        obtain ⟨cQ_4_0, cQ_4_1, cQ_4_2, _⟩ := Q_4.cells
        have lQ_4 := Q_4.lt
        have RR_4 := Row.below (by exact RR) hb4
        have R_4 := Blk3.below (by exact R0) hb4
        obtain ⟨cR_4_0, cR_4_1, cR_4_2, _⟩ := R_4.cells
        have lR_4 := R_4.lt
        clear AC_3 IA_3 P_3 cP_3_0 cP_3_1 cP_3_2 cP_3_3 lP_3 Q_3 cQ_3_0 cQ_3_1 cQ_3_2 lQ_3
        have H4o := H4
        obtain ⟨xA0, xn0, xk0, xA1, xn1, xk1, xA2, xn2, xk2, xA3, xn3, xk3, rfl, _⟩ := Cv.open_ H4
        go_wp2_with fail
        refine (TGr _ (Ints.alloc IA_4 BW4.size (.cells #[.slice xA0 xn0 xk0, .slice xA1 xn1 xk1, .slice xA2 xn2 xk2, .slice xA3 xn3 xk3] 34)) (B_al BW4 (.cells #[.slice xA0 xn0 xk0, .slice xA1 xn1 xk1, .slice xA2 xn2 xk2, .slice xA3 xn3 xk3] 34)).size).mono ?_; rintro e w5 ⟨A5, c5, rfl, R5, hb5⟩
        have CG5 := CGv.mk (lo := 0) (G := ⟨p, cc, a⟩) (Cv.mono (by exact (H4.alloc (.cells #[.slice xA0 xn0 xk0, .slice xA1 xn1 xk1, .slice xA2 xn2 xk2, .slice xA3 xn3 xk3] 34))) (Nat.zero_le _)) ⟨_, rfl, R5⟩ (Nat.zero_le _) hb5
        have BW5 : Below w.heap.size w w5 := B_th (B_al BW4 (.cells #[.slice xA0 xn0 xk0, .slice xA1 xn1 xk1, .slice xA2 xn2 xk2, .slice xA3 xn3 xk3] 34)) hb5
        have zz5 : w4.heap.size + 1 ≤ w5.heap.size := by have := hb5.size; simp at this; omega
        have AC_5 := CArg.below (by exact (CArg.alloc AC_4 BW4.size (.cells #[.slice xA0 xn0 xk0, .slice xA1 xn1 xk1, .slice xA2 xn2 xk2, .slice xA3 xn3 xk3] 34))) (hb5.mono (B_al BW4 (.cells #[.slice xA0 xn0 xk0, .slice xA1 xn1 xk1, .slice xA2 xn2 xk2, .slice xA3 xn3 xk3] 34)).size)
        have IA_5 := Ints.below (by exact (Ints.alloc IA_4 BW4.size (.cells #[.slice xA0 xn0 xk0, .slice xA1 xn1 xk1, .slice xA2 xn2 xk2, .slice xA3 xn3 xk3] 34))) (hb5.mono (B_al BW4 (.cells #[.slice xA0 xn0 xk0, .slice xA1 xn1 xk1, .slice xA2 xn2 xk2, .slice xA3 xn3 xk3] 34)).size)
        have P_5 := Blk4.below (by exact (P_4.alloc (.cells #[.slice xA0 xn0 xk0, .slice xA1 xn1 xk1, .slice xA2 xn2 xk2, .slice xA3 xn3 xk3] 34))) hb5
        obtain ⟨cP_5_0, cP_5_1, cP_5_2, cP_5_3, _⟩ := P_5.cells
        have lP_5 := P_5.lt
        have Q_5 := Blk3.below (by exact (Q_4.alloc (.cells #[.slice xA0 xn0 xk0, .slice xA1 xn1 xk1, .slice xA2 xn2 xk2, .slice xA3 xn3 xk3] 34))) hb5
        obtain ⟨cQ_5_0, cQ_5_1, cQ_5_2, _⟩ := Q_5.cells
        have lQ_5 := Q_5.lt
        have RR_5 := Row.below (by exact (RR_4.alloc (.cells #[.slice xA0 xn0 xk0, .slice xA1 xn1 xk1, .slice xA2 xn2 xk2, .slice xA3 xn3 xk3] 34))) hb5
        have R_5 := Blk3.below (by exact (R_4.alloc (.cells #[.slice xA0 xn0 xk0, .slice xA1 xn1 xk1, .slice xA2 xn2 xk2, .slice xA3 xn3 xk3] 34))) hb5
        obtain ⟨cR_5_0, cR_5_1, cR_5_2, _⟩ := R_5.cells
        have lR_5 := R_5.lt
        have H4_5 := Cv.below (by exact (H4.alloc (.cells #[.slice xA0 xn0 xk0, .slice xA1 xn1 xk1, .slice xA2 xn2 xk2, .slice xA3 xn3 xk3] 34))) hb5
        have X_5 := Blk4.below (by exact (Blk4.new w4 (.slice xA0 xn0 xk0) (.slice xA1 xn1 xk1) (.slice xA2 xn2 xk2) (.slice xA3 xn3 xk3) 34)) hb5
        obtain ⟨cX_5_0, cX_5_1, cX_5_2, cX_5_3, _⟩ := X_5.cells
        have lX_5 := X_5.lt
        replace R5 := Row.mono R5 (lo' := w4.heap.size + 1) (by simp)
        have R5o := R5
        go_wp2_with fail
        refine (I _ _ _ _ (CG5.alloc _)).mono ?_; rintro e w6 ⟨A6, n6, c6, rfl, RG, rfl, hb6⟩
        have BW6 : Below w.heap.size w w6 := B_th (B_al BW5 (.cells #[.int .i64 p, .slice A5 cc.length c5, .int .i64 a] 29)) hb6
        have zz6 : w5.heap.size + 1 ≤ w6.heap.size := by have := hb6.size; simp at this; omega
        have AC_6 := CArg.below (by exact (CArg.alloc AC_5 BW5.size (.cells #[.int .i64 p, .slice A5 cc.length c5, .int .i64 a] 29))) (hb6.mono (B_al BW5 (.cells #[.int .i64 p, .slice A5 cc.length c5, .int .i64 a] 29)).size)
        have IA_6 := Ints.below (by exact (Ints.alloc IA_5 BW5.size (.cells #[.int .i64 p, .slice A5 cc.length c5, .int .i64 a] 29))) (hb6.mono (B_al BW5 (.cells #[.int .i64 p, .slice A5 cc.length c5, .int .i64 a] 29)).size)
        have P_6 := Blk4.below (by exact (P_5.alloc (.cells #[.int .i64 p, .slice A5 cc.length c5, .int .i64 a] 29))) hb6
        obtain ⟨cP_6_0, cP_6_1, cP_6_2, cP_6_3, _⟩ := P_6.cells
        have lP_6 := P_6.lt
        have Q_6 := Blk3.below (by exact (Q_5.alloc (.cells #[.int .i64 p, .slice A5 cc.length c5, .int .i64 a] 29))) hb6
        obtain ⟨cQ_6_0, cQ_6_1, cQ_6_2, _⟩ := Q_6.cells
        have lQ_6 := Q_6.lt
        have RR_6 := Row.below (by exact (RR_5.alloc (.cells #[.int .i64 p, .slice A5 cc.length c5, .int .i64 a] 29))) hb6
        have R_6 := Blk3.below (by exact (R_5.alloc (.cells #[.int .i64 p, .slice A5 cc.length c5, .int .i64 a] 29))) hb6
        obtain ⟨cR_6_0, cR_6_1, cR_6_2, _⟩ := R_6.cells
        have lR_6 := R_6.lt
        have H4_6 := Cv.below (by exact (H4_5.alloc (.cells #[.int .i64 p, .slice A5 cc.length c5, .int .i64 a] 29))) hb6
        have X_6 := Blk4.below (by exact (X_5.alloc (.cells #[.int .i64 p, .slice A5 cc.length c5, .int .i64 a] 29))) hb6
        obtain ⟨cX_6_0, cX_6_1, cX_6_2, cX_6_3, _⟩ := X_6.cells
        have lX_6 := X_6.lt
        have R5_6 := Row.below (by exact (R5.alloc (.cells #[.int .i64 p, .slice A5 cc.length c5, .int .i64 a] 29))) hb6
        have X1_6 := Blk3.below (by exact (Blk3.new w5 (.int .i64 p) (.slice A5 cc.length c5) (.int .i64 a) 29)) hb6
        obtain ⟨cX1_6_0, cX1_6_1, cX1_6_2, _⟩ := X1_6.cells
        have lX1_6 := X1_6.lt
        replace RG := Row.mono RG (lo' := w5.heap.size + 1) (by simp)
        have RGo := RG
        go_wp2_with fail
        refine (eqGc_same _ _ _ _ _ ⟨rp, rc, ra⟩ ⟨_, rfl, (RG.alloc (.cells #[.int .i64 rp, .slice A6 rc.length c6, .int .i64 ra] 29))⟩ ⟨_, rfl, (RR_6.alloc (.cells #[.int .i64 rp, .slice A6 rc.length c6, .int .i64 ra] 29))⟩).mono ?_; rintro e w7 ⟨rfl, hb7⟩
        have BW7 : Below w.heap.size w w7 := B_th (B_al BW6 (.cells #[.int .i64 rp, .slice A6 rc.length c6, .int .i64 ra] 29)) hb7
        have zz7 : w6.heap.size + 1 ≤ w7.heap.size := by have := hb7.size; simp at this; omega
        have AC_7 := CArg.below (by exact (CArg.alloc AC_6 BW6.size (.cells #[.int .i64 rp, .slice A6 rc.length c6, .int .i64 ra] 29))) (hb7.mono (B_al BW6 (.cells #[.int .i64 rp, .slice A6 rc.length c6, .int .i64 ra] 29)).size)
        have IA_7 := Ints.below (by exact (Ints.alloc IA_6 BW6.size (.cells #[.int .i64 rp, .slice A6 rc.length c6, .int .i64 ra] 29))) (hb7.mono (B_al BW6 (.cells #[.int .i64 rp, .slice A6 rc.length c6, .int .i64 ra] 29)).size)
        have P_7 := Blk4.below (by exact (P_6.alloc (.cells #[.int .i64 rp, .slice A6 rc.length c6, .int .i64 ra] 29))) hb7
        obtain ⟨cP_7_0, cP_7_1, cP_7_2, cP_7_3, _⟩ := P_7.cells
        have lP_7 := P_7.lt
        have Q_7 := Blk3.below (by exact (Q_6.alloc (.cells #[.int .i64 rp, .slice A6 rc.length c6, .int .i64 ra] 29))) hb7
        obtain ⟨cQ_7_0, cQ_7_1, cQ_7_2, _⟩ := Q_7.cells
        have lQ_7 := Q_7.lt
        have RR_7 := Row.below (by exact (RR_6.alloc (.cells #[.int .i64 rp, .slice A6 rc.length c6, .int .i64 ra] 29))) hb7
        have R_7 := Blk3.below (by exact (R_6.alloc (.cells #[.int .i64 rp, .slice A6 rc.length c6, .int .i64 ra] 29))) hb7
        obtain ⟨cR_7_0, cR_7_1, cR_7_2, _⟩ := R_7.cells
        have lR_7 := R_7.lt
        have H4_7 := Cv.below (by exact (H4_6.alloc (.cells #[.int .i64 rp, .slice A6 rc.length c6, .int .i64 ra] 29))) hb7
        have X_7 := Blk4.below (by exact (X_6.alloc (.cells #[.int .i64 rp, .slice A6 rc.length c6, .int .i64 ra] 29))) hb7
        obtain ⟨cX_7_0, cX_7_1, cX_7_2, cX_7_3, _⟩ := X_7.cells
        have lX_7 := X_7.lt
        have R5_7 := Row.below (by exact (R5_6.alloc (.cells #[.int .i64 rp, .slice A6 rc.length c6, .int .i64 ra] 29))) hb7
        have X1_7 := Blk3.below (by exact (X1_6.alloc (.cells #[.int .i64 rp, .slice A6 rc.length c6, .int .i64 ra] 29))) hb7
        obtain ⟨cX1_7_0, cX1_7_1, cX1_7_2, _⟩ := X1_7.cells
        have lX1_7 := X1_7.lt
        have RG_7 := Row.below (by exact (RG.alloc (.cells #[.int .i64 rp, .slice A6 rc.length c6, .int .i64 ra] 29))) hb7
        have G_7 := Blk3.below (by exact (Blk3.new w6 (.int .i64 rp) (.slice A6 rc.length c6) (.int .i64 ra) 29)) hb7
        obtain ⟨cG_7_0, cG_7_1, cG_7_2, _⟩ := G_7.cells
        have lG_7 := G_7.lt
        go_wp2_with fail
        have SOw9 : ∀ w' : World, Below w7.heap.size w7 w' → w'.cell? ⟨w4.heap.size, 0, none⟩ = some (.slice xA0 xn0 xk0) ∧ w'.cell? ⟨w4.heap.size, 1, none⟩ = some (.slice xA1 xn1 xk1) ∧ w'.cell? ⟨w4.heap.size, 2, none⟩ = some (.slice xA2 xn2 xk2) ∧ w'.cell? ⟨w4.heap.size, 3, none⟩ = some (.slice xA3 xn3 xk3) ∧ w'.cell? ⟨w.heap.size, 0, none⟩ = some (.slice A0 C.h.l.length c0) ∧ w'.cell? ⟨w.heap.size, 1, none⟩ = some (.slice A1 C.h.r.length c1) ∧ w'.cell? ⟨w.heap.size, 2, none⟩ = some (.slice A2 C.h.t.length c2) ∧ w'.cell? ⟨w.heap.size, 3, none⟩ = some (.slice A3 C.c.length c3) := fun w' hb => ⟨(Blk4.below X_7 hb).cells.1, (Blk4.below X_7 hb).cells.2.1, (Blk4.below X_7 hb).cells.2.2.1, (Blk4.below X_7 hb).cells.2.2.2.1, (Blk4.below P_7 hb).cells.1, (Blk4.below P_7 hb).cells.2.1, (Blk4.below P_7 hb).cells.2.2.1, (Blk4.below P_7 hb).cells.2.2.2.1⟩
        have TSw9 := fun V (hV : Below w7.heap.size w7 V) => T V (CArg.below AC_7 (hV.mono BW7.size)) (Nat.le_trans BW7.size hV.size)
        go_region_held3 (fun w' => w'.cell? ⟨w4.heap.size, 0, none⟩ = some (.slice xA0 xn0 xk0) ∧ w'.cell? ⟨w4.heap.size, 1, none⟩ = some (.slice xA1 xn1 xk1) ∧ w'.cell? ⟨w4.heap.size, 2, none⟩ = some (.slice xA2 xn2 xk2) ∧ w'.cell? ⟨w4.heap.size, 3, none⟩ = some (.slice xA3 xn3 xk3) ∧ w'.cell? ⟨w.heap.size, 0, none⟩ = some (.slice A0 C.h.l.length c0) ∧ w'.cell? ⟨w.heap.size, 1, none⟩ = some (.slice A1 C.h.r.length c1) ∧ w'.cell? ⟨w.heap.size, 2, none⟩ = some (.slice A2 C.h.t.length c2) ∧ w'.cell? ⟨w.heap.size, 3, none⟩ = some (.slice A3 C.c.length c3))
          (((try dsimp only); (refine SOw9 _ ?_); (repeat (with_reducible (first | exact Below.refl _ _ | exact hRaw9 | exact hRbw9 | refine B_dr ?_ | refine B_al ?_ _ | refine B_set ?_ ?_ _ _)))))
          (first
            | (go_at_call 13; (refine Calls.mono (TSw9 _ ?_) ?_); (· repeat (with_reducible (first | exact Below.refl _ _ | refine B_dr ?_ | refine B_al ?_ _ | refine B_set ?_ ?_ _ _))); rintro e aw9 ⟨vaw9, rfl, Kaw9, hbaw9⟩; (have hRaw9 : Below w7.heap.size w7 aw9 := (by refine B_th ?_ hbaw9; repeat (with_reducible (first | exact Below.refl _ _ | refine B_dr ?_ | refine B_al ?_ _ | refine B_set ?_ ?_ _ _)))))
            | (go_at_call 16; (refine (eqColored_same _ _ _ _ _ _ (Cv.below (by exact H4_7) hRaw9) Kaw9).mono ?_); rintro e w9 ⟨rfl, hbbw9⟩; (have hRbw9 : Below w7.heap.size w7 w9 := B_th hRaw9 hbbw9)))
        try (rename_i hHeld; clear hHeld)
        have BW8 : Below w.heap.size w w9 := B_th BW7 hRbw9
        have zz8 : w7.heap.size ≤ w9.heap.size := hRbw9.size
        have AC_8 := CArg.below (by exact AC_7) (hRbw9.mono BW7.size)
        have IA_8 := Ints.below (by exact IA_7) (hRbw9.mono BW7.size)
        have P_8 := Blk4.below (by exact P_7) hRbw9
        obtain ⟨cP_8_0, cP_8_1, cP_8_2, cP_8_3, _⟩ := P_8.cells
        have lP_8 := P_8.lt
        have Q_8 := Blk3.below (by exact Q_7) hRbw9
        obtain ⟨cQ_8_0, cQ_8_1, cQ_8_2, _⟩ := Q_8.cells
        have lQ_8 := Q_8.lt
        have RR_8 := Row.below (by exact RR_7) hRbw9
        have R_8 := Blk3.below (by exact R_7) hRbw9
        obtain ⟨cR_8_0, cR_8_1, cR_8_2, _⟩ := R_8.cells
        have lR_8 := R_8.lt
        have H4_8 := Cv.below (by exact H4_7) hRbw9
        have X_8 := Blk4.below (by exact X_7) hRbw9
        obtain ⟨cX_8_0, cX_8_1, cX_8_2, cX_8_3, _⟩ := X_8.cells
        have lX_8 := X_8.lt
        have R5_8 := Row.below (by exact R5_7) hRbw9
        have X1_8 := Blk3.below (by exact X1_7) hRbw9
        obtain ⟨cX1_8_0, cX1_8_1, cX1_8_2, _⟩ := X1_8.cells
        have lX1_8 := X1_8.lt
        have RG_8 := Row.below (by exact RG_7) hRbw9
        have G_8 := Blk3.below (by exact G_7) hRbw9
        obtain ⟨cG_8_0, cG_8_1, cG_8_2, _⟩ := G_8.cells
        have lG_8 := G_8.lt
        clear AC_7 IA_7 P_7 cP_7_0 cP_7_1 cP_7_2 cP_7_3 lP_7 Q_7 cQ_7_0 cQ_7_1 cQ_7_2 lQ_7 RR_7 R_7 cR_7_0 cR_7_1 cR_7_2 lR_7 H4_7 X_7 cX_7_0 cX_7_1 cX_7_2 cX_7_3 lX_7 R5_7 X1_7 cX1_7_0 cX1_7_1 cX1_7_2 lX1_7 RG_7 G_7 cG_7_0 cG_7_1 cG_7_2 lG_7
        go_wp2_with fail
        have SOw11 : ∀ w' : World, Below w9.heap.size w9 w' → w'.cell? ⟨w5.heap.size, 0, none⟩ = some (.int .i64 p) ∧ w'.cell? ⟨w5.heap.size, 1, none⟩ = some (.slice A5 cc.length c5) ∧ w'.cell? ⟨w5.heap.size, 2, none⟩ = some (.int .i64 a) ∧ w'.cell? ⟨(w.heap.size + 1), 0, none⟩ = some (.int .i64 p) ∧ w'.cell? ⟨(w.heap.size + 1), 1, none⟩ = some (.slice A4 cc.length c4) ∧ w'.cell? ⟨(w.heap.size + 1), 2, none⟩ = some (.int .i64 a) := fun w' hb => ⟨(Blk3.below X1_8 hb).cells.1, (Blk3.below X1_8 hb).cells.2.1, (Blk3.below X1_8 hb).cells.2.2.1, (Blk3.below Q_8 hb).cells.1, (Blk3.below Q_8 hb).cells.2.1, (Blk3.below Q_8 hb).cells.2.2.1⟩
        have TSw11 := fun V (hV : Below w9.heap.size w9 V) => TG0 V (Ints.below IA_8 (hV.mono BW8.size)) (Nat.le_trans BW8.size hV.size)
        go_region_held3 (fun w' => w'.cell? ⟨w5.heap.size, 0, none⟩ = some (.int .i64 p) ∧ w'.cell? ⟨w5.heap.size, 1, none⟩ = some (.slice A5 cc.length c5) ∧ w'.cell? ⟨w5.heap.size, 2, none⟩ = some (.int .i64 a) ∧ w'.cell? ⟨(w.heap.size + 1), 0, none⟩ = some (.int .i64 p) ∧ w'.cell? ⟨(w.heap.size + 1), 1, none⟩ = some (.slice A4 cc.length c4) ∧ w'.cell? ⟨(w.heap.size + 1), 2, none⟩ = some (.int .i64 a))
          (((try dsimp only); (refine SOw11 _ ?_); (repeat (with_reducible (first | exact Below.refl _ _ | exact hRaw11 | exact hRbw11 | refine B_dr ?_ | refine B_al ?_ _ | refine B_set ?_ ?_ _ _)))))
          (first
            | (go_at_call 22; (refine Calls.mono (TSw11 _ ?_) ?_); (· repeat (with_reducible (first | exact Below.refl _ _ | refine B_dr ?_ | refine B_al ?_ _ | refine B_set ?_ ?_ _ _))); rintro e aw11 ⟨vaw11, rfl, Kaw11, hbaw11⟩; (have hRaw11 : Below w9.heap.size w9 aw11 := (by refine B_th ?_ hbaw11; repeat (with_reducible (first | exact Below.refl _ _ | refine B_dr ?_ | refine B_al ?_ _ | refine B_set ?_ ?_ _ _)))))
            | (go_at_call 15; (refine (eqGc_same _ _ _ _ _ ⟨p, cc, a⟩ ⟨_, rfl, Row.below (by exact R5_8) hRaw11⟩ Kaw11).mono ?_); rintro e w11 ⟨rfl, hbbw11⟩; (have hRbw11 : Below w9.heap.size w9 w11 := B_th hRaw11 hbbw11)))
        try (rename_i hHeld; clear hHeld)
        have BW9 : Below w.heap.size w w11 := B_th BW8 hRbw11
        have zz9 : w9.heap.size ≤ w11.heap.size := hRbw11.size
        have AC_9 := CArg.below (by exact AC_8) (hRbw11.mono BW8.size)
        have IA_9 := Ints.below (by exact IA_8) (hRbw11.mono BW8.size)
        have P_9 := Blk4.below (by exact P_8) hRbw11
        obtain ⟨cP_9_0, cP_9_1, cP_9_2, cP_9_3, _⟩ := P_9.cells
        have lP_9 := P_9.lt
        have Q_9 := Blk3.below (by exact Q_8) hRbw11
        obtain ⟨cQ_9_0, cQ_9_1, cQ_9_2, _⟩ := Q_9.cells
        have lQ_9 := Q_9.lt
        have RR_9 := Row.below (by exact RR_8) hRbw11
        have R_9 := Blk3.below (by exact R_8) hRbw11
        obtain ⟨cR_9_0, cR_9_1, cR_9_2, _⟩ := R_9.cells
        have lR_9 := R_9.lt
        have H4_9 := Cv.below (by exact H4_8) hRbw11
        have X_9 := Blk4.below (by exact X_8) hRbw11
        obtain ⟨cX_9_0, cX_9_1, cX_9_2, cX_9_3, _⟩ := X_9.cells
        have lX_9 := X_9.lt
        have R5_9 := Row.below (by exact R5_8) hRbw11
        have X1_9 := Blk3.below (by exact X1_8) hRbw11
        obtain ⟨cX1_9_0, cX1_9_1, cX1_9_2, _⟩ := X1_9.cells
        have lX1_9 := X1_9.lt
        have RG_9 := Row.below (by exact RG_8) hRbw11
        have G_9 := Blk3.below (by exact G_8) hRbw11
        obtain ⟨cG_9_0, cG_9_1, cG_9_2, _⟩ := G_9.cells
        have lG_9 := G_9.lt
        clear AC_8 IA_8 P_8 cP_8_0 cP_8_1 cP_8_2 cP_8_3 lP_8 Q_8 cQ_8_0 cQ_8_1 cQ_8_2 lQ_8 RR_8 R_8 cR_8_0 cR_8_1 cR_8_2 lR_8 H4_8 X_8 cX_8_0 cX_8_1 cX_8_2 cX_8_3 lX_8 R5_8 X1_8 cX1_8_0 cX1_8_1 cX1_8_2 lX1_8 RG_8 G_8 cG_8_0 cG_8_1 cG_8_2 lG_8
        go_wp2_with fail
        refine (MX _ _ _ H4_9 (by omega)).mono ?_; rintro e w12 ⟨rfl, HM4, hb12, fr12⟩
        have BW10 : Below w.heap.size w w12 := BW9.trans (hb12.mono (by omega))
        have zz10 : w11.heap.size ≤ w12.heap.size := hb12.size
        have AC_10 := CArg.below AC_9 (hb12.mono (by omega))
        have IA_10 := Ints.below IA_9 (hb12.mono (by omega))
        have P_10 := Blk4.frame P_9 fr12 (notC_old H4o (by omega))
        obtain ⟨cP_10_0, cP_10_1, cP_10_2, cP_10_3, _⟩ := P_10.cells
        have lP_10 := P_10.lt
        have Q_10 := Blk3.frameC Q_9 fr12 (notC_old H4o (by omega))
        obtain ⟨cQ_10_0, cQ_10_1, cQ_10_2, _⟩ := Q_10.cells
        have lQ_10 := Q_10.lt
        have RR_10 := Row.far RR_9 hb12 (fun k e => by have := (RRo.lt k e).2; omega)
        have R_10 := Blk3.frameC R_9 fr12 (notC_old H4o (by omega))
        obtain ⟨cR_10_0, cR_10_1, cR_10_2, _⟩ := R_10.cells
        have lR_10 := R_10.lt
        have H4_10 := HM4
        have X_10 := Blk4.frame X_9 fr12 (notC_new H4o (by omega))
        obtain ⟨cX_10_0, cX_10_1, cX_10_2, cX_10_3, _⟩ := X_10.cells
        have lX_10 := X_10.lt
        have R5_10 := Row.keptC R5_9 fr12 (fun b e => notC_new H4o (by have := (R5o.lt b e).1; omega))
        have X1_10 := Blk3.frameC X1_9 fr12 (notC_new H4o (by omega))
        obtain ⟨cX1_10_0, cX1_10_1, cX1_10_2, _⟩ := X1_10.cells
        have lX1_10 := X1_10.lt
        have RG_10 := Row.keptC RG_9 fr12 (fun b e => notC_new H4o (by have := (RGo.lt b e).1; omega))
        have G_10 := Blk3.frameC G_9 fr12 (notC_new H4o (by omega))
        obtain ⟨cG_10_0, cG_10_1, cG_10_2, _⟩ := G_10.cells
        have lG_10 := G_10.lt
        clear AC_9 IA_9 P_9 cP_9_0 cP_9_1 cP_9_2 cP_9_3 lP_9 Q_9 cQ_9_0 cQ_9_1 cQ_9_2 lQ_9 RR_9 R_9 cR_9_0 cR_9_1 cR_9_2 lR_9 H4_9 X_9 cX_9_0 cX_9_1 cX_9_2 cX_9_3 lX_9 R5_9 X1_9 cX1_9_0 cX1_9_1 cX1_9_2 lX1_9 RG_9 G_9 cG_9_0 cG_9_1 cG_9_2 lG_9
        go_wp2_with fail
        refine (MY _ _ p a A5 c5 cc R5_10 rfl).mono ?_; rintro e w13 ⟨rfl, HM5, gr13⟩
        have hlw13 : Below (w4.heap.size + 1) w12 w13 := Row.belowLo R5_10 (by omega) gr13
        have BW11 : Below w.heap.size w w13 := BW10.trans (hlw13.mono (by omega))
        have zz11 : w12.heap.size ≤ w13.heap.size := hlw13.size
        have AC_11 := CArg.below AC_10 (hlw13.mono (by omega))
        have IA_11 := Ints.below IA_10 (hlw13.mono (by omega))
        have P_11 := Blk4.keptG P_10 gr13 (fun e => by have := R5o.lt _ e.symm; omega)
        obtain ⟨cP_11_0, cP_11_1, cP_11_2, cP_11_3, _⟩ := P_11.cells
        have lP_11 := P_11.lt
        have Q_11 := Blk3.keptG Q_10 gr13 (fun e => by have := R5o.lt _ e.symm; omega)
        obtain ⟨cQ_11_0, cQ_11_1, cQ_11_2, _⟩ := Q_11.cells
        have lQ_11 := Q_11.lt
        have RR_11 := Row.kept RR_10 gr13 (row_apart RRo R5_10 (by omega))
        have R_11 := Blk3.keptG R_10 gr13 (fun e => by have := R5o.lt _ e.symm; omega)
        obtain ⟨cR_11_0, cR_11_1, cR_11_2, _⟩ := R_11.cells
        have lR_11 := R_11.lt
        have R5_11 := HM5
        have X1_11 := Blk3.keptG X1_10 gr13 (fun e => by have := R5o.lt _ e.symm; omega)
        obtain ⟨cX1_11_0, cX1_11_1, cX1_11_2, _⟩ := X1_11.cells
        have lX1_11 := X1_11.lt
        have RG_11 := Row.kept RG_10 gr13 (row_apart_new R5o RG_10 (by omega))
        have G_11 := Blk3.keptG G_10 gr13 (fun e => by have := R5o.lt _ e.symm; omega)
        obtain ⟨cG_11_0, cG_11_1, cG_11_2, _⟩ := G_11.cells
        have lG_11 := G_11.lt
        clear AC_10 IA_10 P_10 cP_10_0 cP_10_1 cP_10_2 cP_10_3 lP_10 Q_10 cQ_10_0 cQ_10_1 cQ_10_2 lQ_10 RR_10 R_10 cR_10_0 cR_10_1 cR_10_2 lR_10 R5_10 X1_10 cX1_10_0 cX1_10_1 cX1_10_2 lX1_10 RG_10 G_10 cG_10_0 cG_10_1 cG_10_2 lG_10
        go_wp2_with fail
        refine (eqGc_same _ _ _ _ _ ⟨rp, rc, ra⟩ ⟨_, rfl, RG_11⟩ ⟨_, rfl, RR_11⟩).mono ?_; rintro e w14 ⟨rfl, hb14⟩
        have BW12 : Below w.heap.size w w14 := B_th BW11 hb14
        have zz12 : w13.heap.size ≤ w14.heap.size := hb14.size
        have AC_12 := CArg.below (by exact AC_11) (hb14.mono BW11.size)
        have IA_12 := Ints.below (by exact IA_11) (hb14.mono BW11.size)
        have P_12 := Blk4.below (by exact P_11) hb14
        obtain ⟨cP_12_0, cP_12_1, cP_12_2, cP_12_3, _⟩ := P_12.cells
        have lP_12 := P_12.lt
        have Q_12 := Blk3.below (by exact Q_11) hb14
        obtain ⟨cQ_12_0, cQ_12_1, cQ_12_2, _⟩ := Q_12.cells
        have lQ_12 := Q_12.lt
        have RR_12 := Row.below (by exact RR_11) hb14
        have R_12 := Blk3.below (by exact R_11) hb14
        obtain ⟨cR_12_0, cR_12_1, cR_12_2, _⟩ := R_12.cells
        have lR_12 := R_12.lt
        have RG_12 := Row.below (by exact RG_11) hb14
        have G_12 := Blk3.below (by exact G_11) hb14
        obtain ⟨cG_12_0, cG_12_1, cG_12_2, _⟩ := G_12.cells
        have lG_12 := G_12.lt
        clear AC_11 IA_11 P_11 cP_11_0 cP_11_1 cP_11_2 cP_11_3 lP_11 Q_11 cQ_11_0 cQ_11_1 cQ_11_2 lQ_11 RR_11 R_11 cR_11_0 cR_11_1 cR_11_2 lR_11 RG_11 G_11 cG_11_0 cG_11_1 cG_11_2 lG_11
        go_wp2_with fail
        refine (MG _ _ rp ra A6 c6 rc RG_12 rfl).mono ?_; rintro e w15 ⟨rfl, HMG, gr15⟩
        have hlw15 : Below (w5.heap.size + 1) w14 w15 := Row.belowLo RG_12 (by omega) gr15
        have BW13 : Below w.heap.size w w15 := BW12.trans (hlw15.mono (by omega))
        have zz13 : w14.heap.size ≤ w15.heap.size := hlw15.size
        have AC_13 := CArg.below AC_12 (hlw15.mono (by omega))
        have IA_13 := Ints.below IA_12 (hlw15.mono (by omega))
        have P_13 := Blk4.keptG P_12 gr15 (fun e => by have := RGo.lt _ e.symm; omega)
        obtain ⟨cP_13_0, cP_13_1, cP_13_2, cP_13_3, _⟩ := P_13.cells
        have lP_13 := P_13.lt
        have Q_13 := Blk3.keptG Q_12 gr15 (fun e => by have := RGo.lt _ e.symm; omega)
        obtain ⟨cQ_13_0, cQ_13_1, cQ_13_2, _⟩ := Q_13.cells
        have lQ_13 := Q_13.lt
        have RR_13 := Row.kept RR_12 gr15 (row_apart RRo RG_12 (by omega))
        have R_13 := Blk3.keptG R_12 gr15 (fun e => by have := RGo.lt _ e.symm; omega)
        obtain ⟨cR_13_0, cR_13_1, cR_13_2, _⟩ := R_13.cells
        have lR_13 := R_13.lt
        have RG_13 := HMG
        have G_13 := Blk3.keptG G_12 gr15 (fun e => by have := RGo.lt _ e.symm; omega)
        obtain ⟨cG_13_0, cG_13_1, cG_13_2, _⟩ := G_13.cells
        have lG_13 := G_13.lt
        clear AC_12 IA_12 P_12 cP_12_0 cP_12_1 cP_12_2 cP_12_3 lP_12 Q_12 cQ_12_0 cQ_12_1 cQ_12_2 lQ_12 RR_12 R_12 cR_12_0 cR_12_1 cR_12_2 lR_12 RG_12 G_12 cG_12_0 cG_12_1 cG_12_2 lG_12
        go_wp2_with fail
        refine (QG _ _ rp ra A6 c6 RG_13).mono ?_; rintro e w16 ⟨rfl, hb16⟩
        have BW14 : Below w.heap.size w w16 := B_th BW13 hb16
        have zz14 : w15.heap.size ≤ w16.heap.size := hb16.size
        have AC_14 := CArg.below (by exact AC_13) (hb16.mono BW13.size)
        have IA_14 := Ints.below (by exact IA_13) (hb16.mono BW13.size)
        have P_14 := Blk4.below (by exact P_13) hb16
        obtain ⟨cP_14_0, cP_14_1, cP_14_2, cP_14_3, _⟩ := P_14.cells
        have lP_14 := P_14.lt
        have Q_14 := Blk3.below (by exact Q_13) hb16
        obtain ⟨cQ_14_0, cQ_14_1, cQ_14_2, _⟩ := Q_14.cells
        have lQ_14 := Q_14.lt
        have RR_14 := Row.below (by exact RR_13) hb16
        have R_14 := Blk3.below (by exact R_13) hb16
        obtain ⟨cR_14_0, cR_14_1, cR_14_2, _⟩ := R_14.cells
        have lR_14 := R_14.lt
        have RG_14 := Row.below (by exact RG_13) hb16
        have G_14 := Blk3.below (by exact G_13) hb16
        obtain ⟨cG_14_0, cG_14_1, cG_14_2, _⟩ := G_14.cells
        have lG_14 := G_14.lt
        clear AC_13 IA_13 P_13 cP_13_0 cP_13_1 cP_13_2 cP_13_3 lP_13 Q_13 cQ_13_0 cQ_13_1 cQ_13_2 lQ_13 RR_13 R_13 cR_13_0 cR_13_1 cR_13_2 lR_13 RG_13 G_13 cG_13_0 cG_13_1 cG_13_2 lG_13
        go_wp2_with fail
        go_cut [17, 18] from 19 (fun p e1 w' => GotG w16 ⟨rp, rc, ra⟩ ok p e1 w')
        case first =>
          have SO : ∀ w' : World, Below w16.heap.size w16 w' → w'.cell? ⟨w.heap.size, 0, none⟩ = some (.slice A0 C.h.l.length c0) ∧ w'.cell? ⟨w.heap.size, 1, none⟩ = some (.slice A1 C.h.r.length c1) ∧ w'.cell? ⟨w.heap.size, 2, none⟩ = some (.slice A2 C.h.t.length c2) ∧ w'.cell? ⟨w.heap.size, 3, none⟩ = some (.slice A3 C.c.length c3) ∧ w'.cell? ⟨(w.heap.size + 1), 0, none⟩ = some (.int .i64 p) ∧ w'.cell? ⟨(w.heap.size + 1), 1, none⟩ = some (.slice A4 cc.length c4) ∧ w'.cell? ⟨(w.heap.size + 1), 2, none⟩ = some (.int .i64 a) := fun w' hb => ⟨(Blk4.below P_14 hb).cells.1, (Blk4.below P_14 hb).cells.2.1, (Blk4.below P_14 hb).cells.2.2.1, (Blk4.below P_14 hb).cells.2.2.2.1, (Blk3.below Q_14 hb).cells.1, (Blk3.below Q_14 hb).cells.2.1, (Blk3.below Q_14 hb).cells.2.2.1⟩
          have TS := fun V (hV : Below w16.heap.size w16 V) => T V (CArg.below AC_14 (hV.mono BW14.size)) (Nat.le_trans BW14.size hV.size)
          have TG := fun V (hV : Below w16.heap.size w16 V) => TG0 V (Ints.below IA_14 (hV.mono BW14.size)) (Nat.le_trans BW14.size hV.size)
          go_region_held3 (fun w' => w'.cell? ⟨w.heap.size, 0, none⟩ = some (.slice A0 C.h.l.length c0) ∧ w'.cell? ⟨w.heap.size, 1, none⟩ = some (.slice A1 C.h.r.length c1) ∧ w'.cell? ⟨w.heap.size, 2, none⟩ = some (.slice A2 C.h.t.length c2) ∧ w'.cell? ⟨w.heap.size, 3, none⟩ = some (.slice A3 C.c.length c3) ∧ w'.cell? ⟨(w.heap.size + 1), 0, none⟩ = some (.int .i64 p) ∧ w'.cell? ⟨(w.heap.size + 1), 1, none⟩ = some (.slice A4 cc.length c4) ∧ w'.cell? ⟨(w.heap.size + 1), 2, none⟩ = some (.int .i64 a))
            (((try dsimp only); (refine SO _ ?_); (repeat (with_reducible (first | exact Below.refl _ _ | exact hB1 | exact hB2 | exact hB3 | refine B_dr ?_ | refine B_al ?_ _ | refine B_set ?_ ?_ _ _)))))
            (first
              | (go_at_call 13; (refine Calls.mono (TS _ ?_) ?_); (· repeat (with_reducible (first | exact Below.refl _ _ | refine B_dr ?_ | refine B_al ?_ _ | refine B_set ?_ ?_ _ _))); rintro e u1 ⟨v2, rfl, K2, hbx⟩; (have hB1 : Below w16.heap.size w16 u1 := (by refine B_th ?_ hbx; repeat (with_reducible (first | exact Below.refl _ _ | refine B_dr ?_ | refine B_al ?_ _ | refine B_set ?_ ?_ _ _)))); (have K2l : Cv u1 w16.heap.size v2 C := K2.mono (Below.size (by repeat (with_reducible (first | exact Below.refl _ _ | refine B_dr ?_ | refine B_al ?_ _ | refine B_set ?_ ?_ _ _))))))
              | (go_at_call 22; (refine Calls.mono (TG _ ?_) ?_); (· repeat (with_reducible (first | exact Below.refl _ _ | exact hB1 | refine B_dr ?_ | refine B_al ?_ _ | refine B_set ?_ ?_ _ _))); rintro e u2 ⟨v3, rfl, K3, hby⟩; (have hB2 : Below w16.heap.size w16 u2 := (by refine B_th ?_ hby; repeat (with_reducible (first | exact Below.refl _ _ | exact hB1 | refine B_dr ?_ | refine B_al ?_ _ | refine B_set ?_ ?_ _ _)))); (first | (have CG := CGv.mk K2l K3 (Below.size hB1) hby) | (have CG := CGv.mk (Cv.alloc K2l (.cells #[.int .i64 0, .slice none 0 0, .int .i64 0] 29)) K3 (Below.size (B_al hB1 (.cells #[.int .i64 0, .slice none 0 0, .int .i64 0] 29))) hby)))
              | (go_at_call 36; (refine Calls.mono (I _ w16.heap.size _ _ ?_) ?_); (· repeat (with_reducible (first | exact CG | refine CGv.alloc ?_ _))); rintro e u3 ⟨A8, n8, c8, rfl, rG, lG, hbz⟩; (have hB3 : Below w16.heap.size w16 u3 := (by refine B_th ?_ hbz; repeat (with_reducible (first | exact Below.refl _ _ | exact hB1 | exact hB2 | refine B_dr ?_ | refine B_al ?_ _ | refine B_set ?_ ?_ _ _)))); (try ((refine (fun (ZZ : Blk3 u3 w16.heap.size (.int .i64 0) (.slice none 0 0) (.int .i64 0) 29) => ?_) ?_); rotate_left; (· ((repeat (with_reducible (first | exact Blk3.new _ _ _ _ _ | refine Blk3.alloc ?_ _ | refine Blk3.drewG ?_ | refine Blk3.below ?_ hbz | refine Blk3.below ?_ hby | refine Blk3.below ?_ hbx))); done)); (obtain ⟨zc0, zc1, zc2, zf0, zf1, zf2⟩ := ZZ.cells))); (try ((refine (fun (ZZ : Blk3 u3 u1.heap.size (.int .i64 0) (.slice none 0 0) (.int .i64 0) 29) => ?_) ?_); rotate_left; (· ((repeat (with_reducible (first | exact Blk3.new _ _ _ _ _ | refine Blk3.alloc ?_ _ | refine Blk3.drewG ?_ | refine Blk3.below ?_ hbz | refine Blk3.below ?_ hby | refine Blk3.below ?_ hbx))); done)); (obtain ⟨zc0, zc1, zc2, zf0, zf1, zf2⟩ := ZZ.cells))); (try ((refine (fun (ZZ : Blk3 u3 u2.heap.size (.int .i64 0) (.slice none 0 0) (.int .i64 0) 29) => ?_) ?_); rotate_left; (· ((repeat (with_reducible (first | exact Blk3.new _ _ _ _ _ | refine Blk3.alloc ?_ _ | refine Blk3.drewG ?_ | refine Blk3.below ?_ hbz | refine Blk3.below ?_ hby | refine Blk3.below ?_ hbx))); done)); (obtain ⟨zc0, zc1, zc2, zf0, zf1, zf2⟩ := ZZ.cells)))))
          all_goals
            (try rename_i hHeld); (try clear hHeld)
            go_wp2_with fail
            go_meet
            case rel => first | exact got_setG (G := ⟨rp, rc, ra⟩) ZZ rG lG (by first | exact Nat.le_refl _ | exact Below.size hB1 | exact Below.size hB2) (by have q1 := Below.size hbx; have q2 := Below.size hby; have q3 := Below.size hB1; have q4 := Below.size hB2; (try simp at q1 q2); first | omega | (simp; done) | (simp; omega)) hB3 | exact got_newG (G := ⟨rp, rc, ra⟩) rG lG (by have q1 := Below.size hbx; have q2 := Below.size hby; have q3 := Below.size hB1; have q4 := Below.size hB2; (try simp at q1 q2); first | omega | (simp; done) | (simp; omega)) hB3
        case rest =>
          obtain ⟨bK, AK, nK, kK, rfl, rfl, K0, RK, qK, nKo, hK1, hbw17⟩ := hcut
          obtain ⟨w17, rfl⟩ : ∃ w17, w17 = wc := ⟨_, rfl⟩
          have BW15 : Below w.heap.size w w17 := B_th BW14 hbw17
          have zz15 : w16.heap.size ≤ w17.heap.size := hbw17.size
          have AC_15 := CArg.below (by exact AC_14) (hbw17.mono BW14.size)
          have IA_15 := Ints.below (by exact IA_14) (hbw17.mono BW14.size)
          have P_15 := Blk4.below (by exact P_14) hbw17
          obtain ⟨cP_15_0, cP_15_1, cP_15_2, cP_15_3, _⟩ := P_15.cells
          have lP_15 := P_15.lt
          have Q_15 := Blk3.below (by exact Q_14) hbw17
          obtain ⟨cQ_15_0, cQ_15_1, cQ_15_2, _⟩ := Q_15.cells
          have lQ_15 := Q_15.lt
          have RR_15 := Row.below (by exact RR_14) hbw17
          have R_15 := Blk3.below (by exact R_14) hbw17
          obtain ⟨cR_15_0, cR_15_1, cR_15_2, _⟩ := R_15.cells
          have lR_15 := R_15.lt
          have RG_15 := Row.below (by exact RG_14) hbw17
          have G_15 := Blk3.below (by exact G_14) hbw17
          obtain ⟨cG_15_0, cG_15_1, cG_15_2, _⟩ := G_15.cells
          have lG_15 := G_15.lt
          clear AC_14 IA_14 P_14 cP_14_0 cP_14_1 cP_14_2 cP_14_3 lP_14 Q_14 cQ_14_0 cQ_14_1 cQ_14_2 lQ_14 RR_14 R_14 cR_14_0 cR_14_1 cR_14_2 lR_14 RG_14 G_14 cG_14_0 cG_14_1 cG_14_2 lG_14
          have lK0 := K0.lt
          dsimp only at RK qK K0
          subst qK
          have RKo := RK
          obtain ⟨cK0_0, cK0_1, cK0_2, _⟩ := K0.cells
          go_wp2_with fail
          refine (eqGc_same _ _ _ _ _ ⟨rp, rc, ra⟩ ⟨_, rfl, RK⟩ ⟨_, rfl, RR_15⟩).mono ?_; rintro e w18 ⟨rfl, hb18⟩
          have BW16 : Below w.heap.size w w18 := B_th BW15 hb18
          have zz16 : w17.heap.size ≤ w18.heap.size := hb18.size
          have AC_16 := CArg.below (by exact AC_15) (hb18.mono BW15.size)
          have IA_16 := Ints.below (by exact IA_15) (hb18.mono BW15.size)
          have P_16 := Blk4.below (by exact P_15) hb18
          obtain ⟨cP_16_0, cP_16_1, cP_16_2, cP_16_3, _⟩ := P_16.cells
          have lP_16 := P_16.lt
          have Q_16 := Blk3.below (by exact Q_15) hb18
          obtain ⟨cQ_16_0, cQ_16_1, cQ_16_2, _⟩ := Q_16.cells
          have lQ_16 := Q_16.lt
          have RR_16 := Row.below (by exact RR_15) hb18
          have R_16 := Blk3.below (by exact R_15) hb18
          obtain ⟨cR_16_0, cR_16_1, cR_16_2, _⟩ := R_16.cells
          have lR_16 := R_16.lt
          have RG_16 := Row.below (by exact RG_15) hb18
          have G_16 := Blk3.below (by exact G_15) hb18
          obtain ⟨cG_16_0, cG_16_1, cG_16_2, _⟩ := G_16.cells
          have lG_16 := G_16.lt
          have RK_16 := Row.below (by exact RK) hb18
          have K_16 := Blk3.below (by exact K0) hb18
          obtain ⟨cK_16_0, cK_16_1, cK_16_2, _⟩ := K_16.cells
          have lK_16 := K_16.lt
          clear AC_15 IA_15 P_15 cP_15_0 cP_15_1 cP_15_2 cP_15_3 lP_15 Q_15 cQ_15_0 cQ_15_1 cQ_15_2 lQ_15 RR_15 R_15 cR_15_0 cR_15_1 cR_15_2 lR_15 RG_15 G_15 cG_15_0 cG_15_1 cG_15_2 lG_15
          go_wp2_with fail
          refine (QG _ _ rp ra A6 c6 RG_16).mono ?_; rintro e w19 ⟨rfl, hb19⟩
          have BW17 : Below w.heap.size w w19 := B_th BW16 hb19
          have zz17 : w18.heap.size ≤ w19.heap.size := hb19.size
          have AC_17 := CArg.below (by exact AC_16) (hb19.mono BW16.size)
          have IA_17 := Ints.below (by exact IA_16) (hb19.mono BW16.size)
          have P_17 := Blk4.below (by exact P_16) hb19
          obtain ⟨cP_17_0, cP_17_1, cP_17_2, cP_17_3, _⟩ := P_17.cells
          have lP_17 := P_17.lt
          have Q_17 := Blk3.below (by exact Q_16) hb19
          obtain ⟨cQ_17_0, cQ_17_1, cQ_17_2, _⟩ := Q_17.cells
          have lQ_17 := Q_17.lt
          have RR_17 := Row.below (by exact RR_16) hb19
          have R_17 := Blk3.below (by exact R_16) hb19
          obtain ⟨cR_17_0, cR_17_1, cR_17_2, _⟩ := R_17.cells
          have lR_17 := R_17.lt
          have RG_17 := Row.below (by exact RG_16) hb19
          have G_17 := Blk3.below (by exact G_16) hb19
          obtain ⟨cG_17_0, cG_17_1, cG_17_2, _⟩ := G_17.cells
          have lG_17 := G_17.lt
          have RK_17 := Row.below (by exact RK_16) hb19
          have K_17 := Blk3.below (by exact K_16) hb19
          obtain ⟨cK_17_0, cK_17_1, cK_17_2, _⟩ := K_17.cells
          have lK_17 := K_17.lt
          clear AC_16 IA_16 P_16 cP_16_0 cP_16_1 cP_16_2 cP_16_3 lP_16 Q_16 cQ_16_0 cQ_16_1 cQ_16_2 lQ_16 RR_16 R_16 cR_16_0 cR_16_1 cR_16_2 lR_16 RG_16 G_16 cG_16_0 cG_16_1 cG_16_2 lG_16 RK_16 K_16 cK_16_0 cK_16_1 cK_16_2 lK_16
          go_wp2_with fail
          go_ret
          exact ⟨rfl, BW17⟩
    · have hszv : szV cc.length sz = -1 := by unfold szV; rw [if_neg hsz2]
      simp only [hszv] at SZ2
      have X0 : Blk3 ((w.alloc (.cells #[.slice A0 C.h.l.length c0, .slice A1 C.h.r.length c1, .slice A2 C.h.t.length c2, .slice A3 C.c.length c3] 26)).alloc (.cells #[.int .i64 p, .slice A4 cc.length c4, .int .i64 a] 41)) (w.heap.size + 1) _ _ _ _ := Blk3.new_at (w := w.alloc (.cells #[.slice A0 C.h.l.length c0, .slice A1 C.h.r.length c1, .slice A2 C.h.t.length c2, .slice A3 C.c.length c3] 26)) (b := w.heap.size + 1) (by simp) (.int .i64 p) (.slice A4 cc.length c4) (.int .i64 a) 41
      clear hsz2 hszv
      go_enter Try.func10, Try.ntmps10
      go_wp2_with fail
      refine SZ.mono ?_; rintro e w1 ⟨rfl, hb1⟩
      obtain ⟨x0, x1, x2, _⟩ := (Blk3.below (by exact X0) hb1).cells
      have B1 := B_th fin0 hb1
      go_wp2_with fail
      refine (SZ2 _).mono ?_; rintro e w2 ⟨rfl, hb2⟩
      go_wp2_with fail
      go_ret
      exact ⟨rfl, B_th B1 hb2⟩
  · have hszv : szV (C.h.l.length + C.h.r.length + C.h.t.length + C.c.length) 1048576 = -1 := by unfold szV; rw [if_neg hsz]
    rw [hszv] at SZ
    clear hsz hszv
    go_enter Try.func10, Try.ntmps10
    go_wp2_with fail
    refine SZ.mono ?_; rintro e w1 ⟨rfl, hb1⟩
    go_wp2_with fail
    go_ret
    exact ⟨rfl, B_th fin0 hb1⟩
end Go.Proofs.Ytdealoclkajliaa
