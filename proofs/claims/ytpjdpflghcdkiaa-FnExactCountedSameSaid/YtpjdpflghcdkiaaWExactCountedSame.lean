/- The exact law of CountedSame, walked. -/
import Derived.Test.YtpjdpflghcdkiaaExactV
import Derived.Test.YtpjdpflghcdkiaaCVal
namespace Go.Proofs.Ytpjdpflghcdkiaa
open Go.RowKit

set_option maxRecDepth 100000 in
set_option maxHeartbeats 6000000 in
theorem lawExactCountedSame_walk (w : World) (v : Value) (D : Dp) (hv : DIn w v D) (v' : Value) (D' : Dp) (hv' : DIn w v' D') : Calls Try.prog 6 #[v, v'] w (LawTrue w) := by
  obtain ⟨ha, m0, m1, m2, m3, m4⟩ := hv
  have ha2 := ha
  obtain ⟨A0, c0, A1, c1, A2, c2, A3, c3, A4, c4, rfl, -⟩ := ha2
  obtain ⟨ha', m0', m1', m2', m3', m4'⟩ := hv'
  have ha2' := ha'
  obtain ⟨A0', c0', A1', c1', A2', c2', A3', c3', A4', c4', rfl, -⟩ := ha2'
  have SZ := szCounted_any ((w.alloc (.cells #[.slice A0 D.C.h.l.length c0, .slice A1 D.C.h.r.length c1, .slice A2 D.C.h.t.length c2, .slice A3 D.C.c.length c3, .slice A4 D.n.length c4] 50)).alloc (.cells #[.slice A0' D'.C.h.l.length c0', .slice A1' D'.C.h.r.length c1', .slice A2' D'.C.h.t.length c2', .slice A3' D'.C.c.length c3', .slice A4' D'.n.length c4'] 50)) A0 A1 A2 A3 A4 D.C.h.l.length c0 D.C.h.r.length c1 D.C.h.t.length c2 D.C.c.length c3 D.n.length c4 1048576 (by omega) (by omega) m0 m1 m2 m3 m4
  have fin0 : Below w.heap.size w ((w.alloc (.cells #[.slice A0 D.C.h.l.length c0, .slice A1 D.C.h.r.length c1, .slice A2 D.C.h.t.length c2, .slice A3 D.C.c.length c3, .slice A4 D.n.length c4] 50)).alloc (.cells #[.slice A0' D'.C.h.l.length c0', .slice A1' D'.C.h.r.length c1', .slice A2' D'.C.h.t.length c2', .slice A3' D'.C.c.length c3', .slice A4' D'.n.length c4'] 50)) := B5_al (B5_al (Below.refl _ _) _) _
  by_cases hsz : ((((D.C.h.l.length + D.C.h.r.length + D.C.h.t.length + D.C.c.length) + D.n.length) : Nat) : Int) ≤ 1048576
  · have hszv : szV ((D.C.h.l.length + D.C.h.r.length + D.C.h.t.length + D.C.c.length) + D.n.length) 1048576 = 1048576 - ((((D.C.h.l.length + D.C.h.r.length + D.C.h.t.length + D.C.c.length) + D.n.length) : Nat) : Int) := by unfold szV; rw [if_pos hsz]
    rw [hszv] at SZ
    have sh : ShortD D 1048576 := by unfold ShortD; omega
    have s0 : ¬ (1048576 - ((((D.C.h.l.length + D.C.h.r.length + D.C.h.t.length + D.C.c.length) + D.n.length) : Nat) : Int) < 0) := by omega
    have s1 : 0 ≤ 1048576 - ((((D.C.h.l.length + D.C.h.r.length + D.C.h.t.length + D.C.c.length) + D.n.length) : Nat) : Int) ∧ 1048576 - ((((D.C.h.l.length + D.C.h.r.length + D.C.h.t.length + D.C.c.length) + D.n.length) : Nat) : Int) ≤ 1048576 := by omega
    generalize 1048576 - ((((D.C.h.l.length + D.C.h.r.length + D.C.h.t.length + D.C.c.length) + D.n.length) : Nat) : Int) = sz at SZ s0 s1
    clear hszv hsz m0 m1 m2 m3 m4
    have SZ2 := fun W => szCounted_any W A0' A1' A2' A3' A4' D'.C.h.l.length c0' D'.C.h.r.length c1' D'.C.h.t.length c2' D'.C.c.length c3' D'.n.length c4' sz s1.1 s1.2 m0' m1' m2' m3' m4'
    by_cases hsz2 : ((((D'.C.h.l.length + D'.C.h.r.length + D'.C.h.t.length + D'.C.c.length) + D'.n.length) : Nat) : Int) ≤ sz
    · have hszv : szV ((D'.C.h.l.length + D'.C.h.r.length + D'.C.h.t.length + D'.C.c.length) + D'.n.length) sz = sz - ((((D'.C.h.l.length + D'.C.h.r.length + D'.C.h.t.length + D'.C.c.length) + D'.n.length) : Nat) : Int) := by unfold szV; rw [if_pos hsz2]
      simp only [hszv] at SZ2
      have sh' : ShortD D' 1048576 := by unfold ShortD; omega
      have s2 : ¬ (sz - ((((D'.C.h.l.length + D'.C.h.r.length + D'.C.h.t.length + D'.C.c.length) + D'.n.length) : Nat) : Int) < 0) := by omega
      generalize sz - ((((D'.C.h.l.length + D'.C.h.r.length + D'.C.h.t.length + D'.C.c.length) + D'.n.length) : Nat) : Int) = sz2 at SZ2 s2
      clear hszv hsz2 s1 m0' m1' m2' m3' m4'
      have T := fun W (hW : DArg W w.heap.size (.agg #[.slice A0 D.C.h.l.length c0, .slice A1 D.C.h.r.length c1, .slice A2 D.C.h.t.length c2, .slice A3 D.C.c.length c3, .slice A4 D.n.length c4]) D) (hB : w.heap.size ≤ W.heap.size) => toCounted_any W w.heap.size hB _ D hW sh
      have T' := fun W (hW : DArg W w.heap.size (.agg #[.slice A0' D'.C.h.l.length c0', .slice A1' D'.C.h.r.length c1', .slice A2' D'.C.h.t.length c2', .slice A3' D'.C.c.length c3', .slice A4' D'.n.length c4']) D') (hB : w.heap.size ≤ W.heap.size) => toCounted_any W w.heap.size hB _ D' hW sh'
      have S := fun W lo lo' v v' hW hW' => specCountedSame_any W lo lo' v v' D D' hW hW'
      have I := fun W lo lo' v v' hW hW' => implCountedSame_any W lo lo' v v' D D' hW hW'
      generalize sameD D D' = r at S I
      have hne : (r != r) = false := by simp
      go_enter Try.func6, Try.ntmps6
      go_wp2_with fail
      refine SZ.mono ?_; rintro e w1 ⟨rfl, hb1⟩
      have BW1 : Below w.heap.size w w1 := B5_th (B5_al (B5_al (Below.refl w.heap.size w) (.cells #[.slice A0 D.C.h.l.length c0, .slice A1 D.C.h.r.length c1, .slice A2 D.C.h.t.length c2, .slice A3 D.C.c.length c3, .slice A4 D.n.length c4] 50)) (.cells #[.slice A0' D'.C.h.l.length c0', .slice A1' D'.C.h.r.length c1', .slice A2' D'.C.h.t.length c2', .slice A3' D'.C.c.length c3', .slice A4' D'.n.length c4'] 50)) hb1
      have zz1 : w.heap.size + 2 ≤ w1.heap.size := by have := hb1.size; simp at this; omega
      have AD_1 := DArg.below (by exact (DArg.alloc (DArg.alloc ha (Below.refl w.heap.size w).size (.cells #[.slice A0 D.C.h.l.length c0, .slice A1 D.C.h.r.length c1, .slice A2 D.C.h.t.length c2, .slice A3 D.C.c.length c3, .slice A4 D.n.length c4] 50)) (B5_al (Below.refl w.heap.size w) (.cells #[.slice A0 D.C.h.l.length c0, .slice A1 D.C.h.r.length c1, .slice A2 D.C.h.t.length c2, .slice A3 D.C.c.length c3, .slice A4 D.n.length c4] 50)).size (.cells #[.slice A0' D'.C.h.l.length c0', .slice A1' D'.C.h.r.length c1', .slice A2' D'.C.h.t.length c2', .slice A3' D'.C.c.length c3', .slice A4' D'.n.length c4'] 50))) (hb1.mono (B5_al (B5_al (Below.refl w.heap.size w) (.cells #[.slice A0 D.C.h.l.length c0, .slice A1 D.C.h.r.length c1, .slice A2 D.C.h.t.length c2, .slice A3 D.C.c.length c3, .slice A4 D.n.length c4] 50)) (.cells #[.slice A0' D'.C.h.l.length c0', .slice A1' D'.C.h.r.length c1', .slice A2' D'.C.h.t.length c2', .slice A3' D'.C.c.length c3', .slice A4' D'.n.length c4'] 50)).size)
      have AD2_1 := DArg.below (by exact (DArg.alloc (DArg.alloc ha' (Below.refl w.heap.size w).size (.cells #[.slice A0 D.C.h.l.length c0, .slice A1 D.C.h.r.length c1, .slice A2 D.C.h.t.length c2, .slice A3 D.C.c.length c3, .slice A4 D.n.length c4] 50)) (B5_al (Below.refl w.heap.size w) (.cells #[.slice A0 D.C.h.l.length c0, .slice A1 D.C.h.r.length c1, .slice A2 D.C.h.t.length c2, .slice A3 D.C.c.length c3, .slice A4 D.n.length c4] 50)).size (.cells #[.slice A0' D'.C.h.l.length c0', .slice A1' D'.C.h.r.length c1', .slice A2' D'.C.h.t.length c2', .slice A3' D'.C.c.length c3', .slice A4' D'.n.length c4'] 50))) (hb1.mono (B5_al (B5_al (Below.refl w.heap.size w) (.cells #[.slice A0 D.C.h.l.length c0, .slice A1 D.C.h.r.length c1, .slice A2 D.C.h.t.length c2, .slice A3 D.C.c.length c3, .slice A4 D.n.length c4] 50)) (.cells #[.slice A0' D'.C.h.l.length c0', .slice A1' D'.C.h.r.length c1', .slice A2' D'.C.h.t.length c2', .slice A3' D'.C.c.length c3', .slice A4' D'.n.length c4'] 50)).size)
      have P_1 := Blk5.below (by exact ((Blk5.new w (.slice A0 D.C.h.l.length c0) (.slice A1 D.C.h.r.length c1) (.slice A2 D.C.h.t.length c2) (.slice A3 D.C.c.length c3) (.slice A4 D.n.length c4) 50).alloc (.cells #[.slice A0' D'.C.h.l.length c0', .slice A1' D'.C.h.r.length c1', .slice A2' D'.C.h.t.length c2', .slice A3' D'.C.c.length c3', .slice A4' D'.n.length c4'] 50))) hb1
      obtain ⟨cP_1_0, cP_1_1, cP_1_2, cP_1_3, cP_1_4, _⟩ := P_1.cells
      have lP_1 := P_1.lt
      have Q_1 := Blk5.below (by exact (Blk5.new_at (w := (w.alloc (.cells #[.slice A0 D.C.h.l.length c0, .slice A1 D.C.h.r.length c1, .slice A2 D.C.h.t.length c2, .slice A3 D.C.c.length c3, .slice A4 D.n.length c4] 50))) (b := (w.heap.size + 1)) (by simp) (.slice A0' D'.C.h.l.length c0') (.slice A1' D'.C.h.r.length c1') (.slice A2' D'.C.h.t.length c2') (.slice A3' D'.C.c.length c3') (.slice A4' D'.n.length c4') 50)) hb1
      obtain ⟨cQ_1_0, cQ_1_1, cQ_1_2, cQ_1_3, cQ_1_4, _⟩ := Q_1.cells
      have lQ_1 := Q_1.lt
      go_wp2_with fail
      refine (SZ2 _).mono ?_; rintro e w1g ⟨rfl, hb1g⟩
      have BW2 : Below w.heap.size w w1g := B5_th BW1 hb1g
      have zz2 : w1.heap.size ≤ w1g.heap.size := hb1g.size
      have AD_2 := DArg.below (by exact AD_1) (hb1g.mono BW1.size)
      have AD2_2 := DArg.below (by exact AD2_1) (hb1g.mono BW1.size)
      have P_2 := Blk5.below (by exact P_1) hb1g
      obtain ⟨cP_2_0, cP_2_1, cP_2_2, cP_2_3, cP_2_4, _⟩ := P_2.cells
      have lP_2 := P_2.lt
      have Q_2 := Blk5.below (by exact Q_1) hb1g
      obtain ⟨cQ_2_0, cQ_2_1, cQ_2_2, cQ_2_3, cQ_2_4, _⟩ := Q_2.cells
      have lQ_2 := Q_2.lt
      clear AD_1 AD2_1 P_1 cP_1_0 cP_1_1 cP_1_2 cP_1_3 cP_1_4 lP_1 Q_1 cQ_1_0 cQ_1_1 cQ_1_2 cQ_1_3 cQ_1_4 lQ_1
      go_wp2_with fail
      have SOw3 : ∀ w' : World, Below w1g.heap.size w1g w' → w'.cell? ⟨w.heap.size, 0, none⟩ = some (.slice A0 D.C.h.l.length c0) ∧ w'.cell? ⟨w.heap.size, 1, none⟩ = some (.slice A1 D.C.h.r.length c1) ∧ w'.cell? ⟨w.heap.size, 2, none⟩ = some (.slice A2 D.C.h.t.length c2) ∧ w'.cell? ⟨w.heap.size, 3, none⟩ = some (.slice A3 D.C.c.length c3) ∧ w'.cell? ⟨w.heap.size, 4, none⟩ = some (.slice A4 D.n.length c4) ∧ w'.cell? ⟨(w.heap.size + 1), 0, none⟩ = some (.slice A0' D'.C.h.l.length c0') ∧ w'.cell? ⟨(w.heap.size + 1), 1, none⟩ = some (.slice A1' D'.C.h.r.length c1') ∧ w'.cell? ⟨(w.heap.size + 1), 2, none⟩ = some (.slice A2' D'.C.h.t.length c2') ∧ w'.cell? ⟨(w.heap.size + 1), 3, none⟩ = some (.slice A3' D'.C.c.length c3') ∧ w'.cell? ⟨(w.heap.size + 1), 4, none⟩ = some (.slice A4' D'.n.length c4') := fun w' hb => ⟨(Blk5.below P_2 hb).cells.1, (Blk5.below P_2 hb).cells.2.1, (Blk5.below P_2 hb).cells.2.2.1, (Blk5.below P_2 hb).cells.2.2.2.1, (Blk5.below P_2 hb).cells.2.2.2.2.1, (Blk5.below Q_2 hb).cells.1, (Blk5.below Q_2 hb).cells.2.1, (Blk5.below Q_2 hb).cells.2.2.1, (Blk5.below Q_2 hb).cells.2.2.2.1, (Blk5.below Q_2 hb).cells.2.2.2.2.1⟩
      have TSw3 := fun V (hV : Below w1g.heap.size w1g V) => T V (DArg.below AD_2 (hV.mono BW2.size)) (Nat.le_trans BW2.size hV.size)
      have TGw3 := fun V (hV : Below w1g.heap.size w1g V) => T' V (DArg.below AD2_2 (hV.mono BW2.size)) (Nat.le_trans BW2.size hV.size)
      go_region_held3 (fun w' => w'.cell? ⟨w.heap.size, 0, none⟩ = some (.slice A0 D.C.h.l.length c0) ∧ w'.cell? ⟨w.heap.size, 1, none⟩ = some (.slice A1 D.C.h.r.length c1) ∧ w'.cell? ⟨w.heap.size, 2, none⟩ = some (.slice A2 D.C.h.t.length c2) ∧ w'.cell? ⟨w.heap.size, 3, none⟩ = some (.slice A3 D.C.c.length c3) ∧ w'.cell? ⟨w.heap.size, 4, none⟩ = some (.slice A4 D.n.length c4) ∧ w'.cell? ⟨(w.heap.size + 1), 0, none⟩ = some (.slice A0' D'.C.h.l.length c0') ∧ w'.cell? ⟨(w.heap.size + 1), 1, none⟩ = some (.slice A1' D'.C.h.r.length c1') ∧ w'.cell? ⟨(w.heap.size + 1), 2, none⟩ = some (.slice A2' D'.C.h.t.length c2') ∧ w'.cell? ⟨(w.heap.size + 1), 3, none⟩ = some (.slice A3' D'.C.c.length c3') ∧ w'.cell? ⟨(w.heap.size + 1), 4, none⟩ = some (.slice A4' D'.n.length c4'))
        (((try dsimp only); (refine SOw3 _ ?_); (repeat (with_reducible (first | exact Below.refl _ _ | exact hRaw3 | exact hRbw3 | exact hRcw3 | refine B5_dr ?_ | refine B5_al ?_ _)))))
        (first
          | (go_at_call 33; (with_reducible refine Calls.mono (TSw3 _ ?_) ?_); (· repeat (with_reducible (first | exact Below.refl _ _ | refine B5_dr ?_ | refine B5_al ?_ _))); rintro e aw3 ⟨vaw3, rfl, Kaw3, hbaw3⟩; (have hRaw3 : Below w1g.heap.size w1g aw3 := (by refine B5_th ?_ hbaw3; repeat (with_reducible (first | exact Below.refl _ _ | refine B5_dr ?_ | refine B5_al ?_ _)))))
          | (go_at_call 33; (with_reducible refine Calls.mono (TGw3 _ hRaw3) ?_); rintro e bw3 ⟨vbw3, rfl, Kbw3, hbbw3⟩; (have hRbw3 : Below w1g.heap.size w1g bw3 := B5_th hRaw3 hbbw3); (have Kcw3 := Dv.below Kaw3 hbbw3))
          | (go_at_call 35; (refine (S _ _ _ _ _ Kcw3 Kbw3).mono ?_); rintro e w3 ⟨rfl, hbcw3⟩; (have hRcw3 : Below w1g.heap.size w1g w3 := B5_th hRbw3 hbcw3)))
      try (rename_i hHeld; clear hHeld)
      have BW3 : Below w.heap.size w w3 := B5_th BW2 hRcw3
      have zz3 : w1g.heap.size ≤ w3.heap.size := hRcw3.size
      have AD_3 := DArg.below (by exact AD_2) (hRcw3.mono BW2.size)
      have AD2_3 := DArg.below (by exact AD2_2) (hRcw3.mono BW2.size)
      have P_3 := Blk5.below (by exact P_2) hRcw3
      obtain ⟨cP_3_0, cP_3_1, cP_3_2, cP_3_3, cP_3_4, _⟩ := P_3.cells
      have lP_3 := P_3.lt
      have Q_3 := Blk5.below (by exact Q_2) hRcw3
      obtain ⟨cQ_3_0, cQ_3_1, cQ_3_2, cQ_3_3, cQ_3_4, _⟩ := Q_3.cells
      have lQ_3 := Q_3.lt
      clear AD_2 AD2_2 P_2 cP_2_0 cP_2_1 cP_2_2 cP_2_3 cP_2_4 lP_2 Q_2 cQ_2_0 cQ_2_1 cQ_2_2 cQ_2_3 cQ_2_4 lQ_2
      go_wp2_with fail
      refine (T _ AD_3 BW3.size).mono ?_; rintro e w4 ⟨vH4, rfl, H4, hb4⟩
      have BW4 : Below w.heap.size w w4 := B5_th BW3 hb4
      have zz4 : w3.heap.size ≤ w4.heap.size := hb4.size
      have AD_4 := DArg.below (by exact AD_3) (hb4.mono BW3.size)
      have AD2_4 := DArg.below (by exact AD2_3) (hb4.mono BW3.size)
      have P_4 := Blk5.below (by exact P_3) hb4
      obtain ⟨cP_4_0, cP_4_1, cP_4_2, cP_4_3, cP_4_4, _⟩ := P_4.cells
      have lP_4 := P_4.lt
      have Q_4 := Blk5.below (by exact Q_3) hb4
      obtain ⟨cQ_4_0, cQ_4_1, cQ_4_2, cQ_4_3, cQ_4_4, _⟩ := Q_4.cells
      have lQ_4 := Q_4.lt
      clear AD_3 AD2_3 P_3 cP_3_0 cP_3_1 cP_3_2 cP_3_3 cP_3_4 lP_3 Q_3 cQ_3_0 cQ_3_1 cQ_3_2 cQ_3_3 cQ_3_4 lQ_3
      have H4o := H4
      obtain ⟨xA0, xn0, xk0, xA1, xn1, xk1, xA2, xn2, xk2, xA3, xn3, xk3, xA4, xn4, xk4, rfl⟩ := Dv.shape H4
      go_wp2_with fail
      refine (T' _ (DArg.alloc AD2_4 BW4.size (.cells #[.slice xA0 xn0 xk0, .slice xA1 xn1 xk1, .slice xA2 xn2 xk2, .slice xA3 xn3 xk3, .slice xA4 xn4 xk4] 40)) (B5_al BW4 (.cells #[.slice xA0 xn0 xk0, .slice xA1 xn1 xk1, .slice xA2 xn2 xk2, .slice xA3 xn3 xk3, .slice xA4 xn4 xk4] 40)).size).mono ?_; rintro e w5 ⟨vH5, rfl, H5, hb5⟩
      have BW5 : Below w.heap.size w w5 := B5_th (B5_al BW4 (.cells #[.slice xA0 xn0 xk0, .slice xA1 xn1 xk1, .slice xA2 xn2 xk2, .slice xA3 xn3 xk3, .slice xA4 xn4 xk4] 40)) hb5
      have zz5 : w4.heap.size + 1 ≤ w5.heap.size := by have := hb5.size; simp at this; omega
      have AD_5 := DArg.below (by exact (DArg.alloc AD_4 BW4.size (.cells #[.slice xA0 xn0 xk0, .slice xA1 xn1 xk1, .slice xA2 xn2 xk2, .slice xA3 xn3 xk3, .slice xA4 xn4 xk4] 40))) (hb5.mono (B5_al BW4 (.cells #[.slice xA0 xn0 xk0, .slice xA1 xn1 xk1, .slice xA2 xn2 xk2, .slice xA3 xn3 xk3, .slice xA4 xn4 xk4] 40)).size)
      have AD2_5 := DArg.below (by exact (DArg.alloc AD2_4 BW4.size (.cells #[.slice xA0 xn0 xk0, .slice xA1 xn1 xk1, .slice xA2 xn2 xk2, .slice xA3 xn3 xk3, .slice xA4 xn4 xk4] 40))) (hb5.mono (B5_al BW4 (.cells #[.slice xA0 xn0 xk0, .slice xA1 xn1 xk1, .slice xA2 xn2 xk2, .slice xA3 xn3 xk3, .slice xA4 xn4 xk4] 40)).size)
      have P_5 := Blk5.below (by exact (P_4.alloc (.cells #[.slice xA0 xn0 xk0, .slice xA1 xn1 xk1, .slice xA2 xn2 xk2, .slice xA3 xn3 xk3, .slice xA4 xn4 xk4] 40))) hb5
      obtain ⟨cP_5_0, cP_5_1, cP_5_2, cP_5_3, cP_5_4, _⟩ := P_5.cells
      have lP_5 := P_5.lt
      have Q_5 := Blk5.below (by exact (Q_4.alloc (.cells #[.slice xA0 xn0 xk0, .slice xA1 xn1 xk1, .slice xA2 xn2 xk2, .slice xA3 xn3 xk3, .slice xA4 xn4 xk4] 40))) hb5
      obtain ⟨cQ_5_0, cQ_5_1, cQ_5_2, cQ_5_3, cQ_5_4, _⟩ := Q_5.cells
      have lQ_5 := Q_5.lt
      have H4_5 := Dv.below (by exact (H4.alloc (.cells #[.slice xA0 xn0 xk0, .slice xA1 xn1 xk1, .slice xA2 xn2 xk2, .slice xA3 xn3 xk3, .slice xA4 xn4 xk4] 40))) hb5
      have X_5 := Blk5.below (by exact (Blk5.new w4 (.slice xA0 xn0 xk0) (.slice xA1 xn1 xk1) (.slice xA2 xn2 xk2) (.slice xA3 xn3 xk3) (.slice xA4 xn4 xk4) 40)) hb5
      obtain ⟨cX_5_0, cX_5_1, cX_5_2, cX_5_3, cX_5_4, _⟩ := X_5.cells
      have lX_5 := X_5.lt
      replace H5 := Dv.mono H5 (lo' := w4.heap.size + 1) (by simp)
      have H5o := H5
      obtain ⟨yA0, yn0, yk0, yA1, yn1, yk1, yA2, yn2, yk2, yA3, yn3, yk3, yA4, yn4, yk4, rfl⟩ := Dv.shape H5
      go_wp2_with fail
      refine (I _ _ _ _ _ (H4_5.alloc (.cells #[.slice yA0 yn0 yk0, .slice yA1 yn1 yk1, .slice yA2 yn2 yk2, .slice yA3 yn3 yk3, .slice yA4 yn4 yk4] 40)) (H5.alloc (.cells #[.slice yA0 yn0 yk0, .slice yA1 yn1 yk1, .slice yA2 yn2 yk2, .slice yA3 yn3 yk3, .slice yA4 yn4 yk4] 40))).mono ?_; rintro e w6 ⟨rfl, hb6⟩
      have BW6 : Below w.heap.size w w6 := B5_th (B5_al BW5 (.cells #[.slice yA0 yn0 yk0, .slice yA1 yn1 yk1, .slice yA2 yn2 yk2, .slice yA3 yn3 yk3, .slice yA4 yn4 yk4] 40)) hb6
      have zz6 : w5.heap.size + 1 ≤ w6.heap.size := by have := hb6.size; simp at this; omega
      have AD_6 := DArg.below (by exact (DArg.alloc AD_5 BW5.size (.cells #[.slice yA0 yn0 yk0, .slice yA1 yn1 yk1, .slice yA2 yn2 yk2, .slice yA3 yn3 yk3, .slice yA4 yn4 yk4] 40))) (hb6.mono (B5_al BW5 (.cells #[.slice yA0 yn0 yk0, .slice yA1 yn1 yk1, .slice yA2 yn2 yk2, .slice yA3 yn3 yk3, .slice yA4 yn4 yk4] 40)).size)
      have AD2_6 := DArg.below (by exact (DArg.alloc AD2_5 BW5.size (.cells #[.slice yA0 yn0 yk0, .slice yA1 yn1 yk1, .slice yA2 yn2 yk2, .slice yA3 yn3 yk3, .slice yA4 yn4 yk4] 40))) (hb6.mono (B5_al BW5 (.cells #[.slice yA0 yn0 yk0, .slice yA1 yn1 yk1, .slice yA2 yn2 yk2, .slice yA3 yn3 yk3, .slice yA4 yn4 yk4] 40)).size)
      have P_6 := Blk5.below (by exact (P_5.alloc (.cells #[.slice yA0 yn0 yk0, .slice yA1 yn1 yk1, .slice yA2 yn2 yk2, .slice yA3 yn3 yk3, .slice yA4 yn4 yk4] 40))) hb6
      obtain ⟨cP_6_0, cP_6_1, cP_6_2, cP_6_3, cP_6_4, _⟩ := P_6.cells
      have lP_6 := P_6.lt
      have Q_6 := Blk5.below (by exact (Q_5.alloc (.cells #[.slice yA0 yn0 yk0, .slice yA1 yn1 yk1, .slice yA2 yn2 yk2, .slice yA3 yn3 yk3, .slice yA4 yn4 yk4] 40))) hb6
      obtain ⟨cQ_6_0, cQ_6_1, cQ_6_2, cQ_6_3, cQ_6_4, _⟩ := Q_6.cells
      have lQ_6 := Q_6.lt
      have H4_6 := Dv.below (by exact (H4_5.alloc (.cells #[.slice yA0 yn0 yk0, .slice yA1 yn1 yk1, .slice yA2 yn2 yk2, .slice yA3 yn3 yk3, .slice yA4 yn4 yk4] 40))) hb6
      have X_6 := Blk5.below (by exact (X_5.alloc (.cells #[.slice yA0 yn0 yk0, .slice yA1 yn1 yk1, .slice yA2 yn2 yk2, .slice yA3 yn3 yk3, .slice yA4 yn4 yk4] 40))) hb6
      obtain ⟨cX_6_0, cX_6_1, cX_6_2, cX_6_3, cX_6_4, _⟩ := X_6.cells
      have lX_6 := X_6.lt
      have H5_6 := Dv.below (by exact (H5.alloc (.cells #[.slice yA0 yn0 yk0, .slice yA1 yn1 yk1, .slice yA2 yn2 yk2, .slice yA3 yn3 yk3, .slice yA4 yn4 yk4] 40))) hb6
      have X1_6 := Blk5.below (by exact (Blk5.new w5 (.slice yA0 yn0 yk0) (.slice yA1 yn1 yk1) (.slice yA2 yn2 yk2) (.slice yA3 yn3 yk3) (.slice yA4 yn4 yk4) 40)) hb6
      obtain ⟨cX1_6_0, cX1_6_1, cX1_6_2, cX1_6_3, cX1_6_4, _⟩ := X1_6.cells
      have lX1_6 := X1_6.lt
      go_wp2_with fail
      have SOw7 : ∀ w' : World, Below w6.heap.size w6 w' → w'.cell? ⟨w4.heap.size, 0, none⟩ = some (.slice xA0 xn0 xk0) ∧ w'.cell? ⟨w4.heap.size, 1, none⟩ = some (.slice xA1 xn1 xk1) ∧ w'.cell? ⟨w4.heap.size, 2, none⟩ = some (.slice xA2 xn2 xk2) ∧ w'.cell? ⟨w4.heap.size, 3, none⟩ = some (.slice xA3 xn3 xk3) ∧ w'.cell? ⟨w4.heap.size, 4, none⟩ = some (.slice xA4 xn4 xk4) ∧ w'.cell? ⟨w.heap.size, 0, none⟩ = some (.slice A0 D.C.h.l.length c0) ∧ w'.cell? ⟨w.heap.size, 1, none⟩ = some (.slice A1 D.C.h.r.length c1) ∧ w'.cell? ⟨w.heap.size, 2, none⟩ = some (.slice A2 D.C.h.t.length c2) ∧ w'.cell? ⟨w.heap.size, 3, none⟩ = some (.slice A3 D.C.c.length c3) ∧ w'.cell? ⟨w.heap.size, 4, none⟩ = some (.slice A4 D.n.length c4) := fun w' hb => ⟨(Blk5.below X_6 hb).cells.1, (Blk5.below X_6 hb).cells.2.1, (Blk5.below X_6 hb).cells.2.2.1, (Blk5.below X_6 hb).cells.2.2.2.1, (Blk5.below X_6 hb).cells.2.2.2.2.1, (Blk5.below P_6 hb).cells.1, (Blk5.below P_6 hb).cells.2.1, (Blk5.below P_6 hb).cells.2.2.1, (Blk5.below P_6 hb).cells.2.2.2.1, (Blk5.below P_6 hb).cells.2.2.2.2.1⟩
      have TSw7 := fun V (hV : Below w6.heap.size w6 V) => T V (DArg.below AD_6 (hV.mono BW6.size)) (Nat.le_trans BW6.size hV.size)
      go_region_held3 (fun w' => w'.cell? ⟨w4.heap.size, 0, none⟩ = some (.slice xA0 xn0 xk0) ∧ w'.cell? ⟨w4.heap.size, 1, none⟩ = some (.slice xA1 xn1 xk1) ∧ w'.cell? ⟨w4.heap.size, 2, none⟩ = some (.slice xA2 xn2 xk2) ∧ w'.cell? ⟨w4.heap.size, 3, none⟩ = some (.slice xA3 xn3 xk3) ∧ w'.cell? ⟨w4.heap.size, 4, none⟩ = some (.slice xA4 xn4 xk4) ∧ w'.cell? ⟨w.heap.size, 0, none⟩ = some (.slice A0 D.C.h.l.length c0) ∧ w'.cell? ⟨w.heap.size, 1, none⟩ = some (.slice A1 D.C.h.r.length c1) ∧ w'.cell? ⟨w.heap.size, 2, none⟩ = some (.slice A2 D.C.h.t.length c2) ∧ w'.cell? ⟨w.heap.size, 3, none⟩ = some (.slice A3 D.C.c.length c3) ∧ w'.cell? ⟨w.heap.size, 4, none⟩ = some (.slice A4 D.n.length c4))
        (((try dsimp only); (refine SOw7 _ ?_); (repeat (with_reducible (first | exact Below.refl _ _ | exact hRaw7 | exact hRbw7 | refine B5_dr ?_ | refine B5_al ?_ _)))))
        (first
          | (go_at_call 33; (refine Calls.mono (TSw7 _ ?_) ?_); (· repeat (with_reducible (first | exact Below.refl _ _ | refine B5_dr ?_ | refine B5_al ?_ _))); rintro e aw7 ⟨vaw7, rfl, Kaw7, hbaw7⟩; (have hRaw7 : Below w6.heap.size w6 aw7 := (by refine B5_th ?_ hbaw7; repeat (with_reducible (first | exact Below.refl _ _ | refine B5_dr ?_ | refine B5_al ?_ _)))))
          | (go_at_call 26; (refine (eqCounted_same _ _ _ _ _ _ (Dv.below (by exact H4_6) hRaw7) Kaw7).mono ?_); rintro e w7 ⟨rfl, hbbw7⟩; (have hRbw7 : Below w6.heap.size w6 w7 := B5_th hRaw7 hbbw7)))
      try (rename_i hHeld; clear hHeld)
      have BW7 : Below w.heap.size w w7 := B5_th BW6 hRbw7
      have zz7 : w6.heap.size ≤ w7.heap.size := hRbw7.size
      have AD_7 := DArg.below (by exact AD_6) (hRbw7.mono BW6.size)
      have AD2_7 := DArg.below (by exact AD2_6) (hRbw7.mono BW6.size)
      have P_7 := Blk5.below (by exact P_6) hRbw7
      obtain ⟨cP_7_0, cP_7_1, cP_7_2, cP_7_3, cP_7_4, _⟩ := P_7.cells
      have lP_7 := P_7.lt
      have Q_7 := Blk5.below (by exact Q_6) hRbw7
      obtain ⟨cQ_7_0, cQ_7_1, cQ_7_2, cQ_7_3, cQ_7_4, _⟩ := Q_7.cells
      have lQ_7 := Q_7.lt
      have H4_7 := Dv.below (by exact H4_6) hRbw7
      have X_7 := Blk5.below (by exact X_6) hRbw7
      obtain ⟨cX_7_0, cX_7_1, cX_7_2, cX_7_3, cX_7_4, _⟩ := X_7.cells
      have lX_7 := X_7.lt
      have H5_7 := Dv.below (by exact H5_6) hRbw7
      have X1_7 := Blk5.below (by exact X1_6) hRbw7
      obtain ⟨cX1_7_0, cX1_7_1, cX1_7_2, cX1_7_3, cX1_7_4, _⟩ := X1_7.cells
      have lX1_7 := X1_7.lt
      clear AD_6 AD2_6 P_6 cP_6_0 cP_6_1 cP_6_2 cP_6_3 cP_6_4 lP_6 Q_6 cQ_6_0 cQ_6_1 cQ_6_2 cQ_6_3 cQ_6_4 lQ_6 H4_6 X_6 cX_6_0 cX_6_1 cX_6_2 cX_6_3 cX_6_4 lX_6 H5_6 X1_6 cX1_6_0 cX1_6_1 cX1_6_2 cX1_6_3 cX1_6_4 lX1_6
      go_wp2_with fail
      have SOw8 : ∀ w' : World, Below w7.heap.size w7 w' → w'.cell? ⟨w5.heap.size, 0, none⟩ = some (.slice yA0 yn0 yk0) ∧ w'.cell? ⟨w5.heap.size, 1, none⟩ = some (.slice yA1 yn1 yk1) ∧ w'.cell? ⟨w5.heap.size, 2, none⟩ = some (.slice yA2 yn2 yk2) ∧ w'.cell? ⟨w5.heap.size, 3, none⟩ = some (.slice yA3 yn3 yk3) ∧ w'.cell? ⟨w5.heap.size, 4, none⟩ = some (.slice yA4 yn4 yk4) ∧ w'.cell? ⟨(w.heap.size + 1), 0, none⟩ = some (.slice A0' D'.C.h.l.length c0') ∧ w'.cell? ⟨(w.heap.size + 1), 1, none⟩ = some (.slice A1' D'.C.h.r.length c1') ∧ w'.cell? ⟨(w.heap.size + 1), 2, none⟩ = some (.slice A2' D'.C.h.t.length c2') ∧ w'.cell? ⟨(w.heap.size + 1), 3, none⟩ = some (.slice A3' D'.C.c.length c3') ∧ w'.cell? ⟨(w.heap.size + 1), 4, none⟩ = some (.slice A4' D'.n.length c4') := fun w' hb => ⟨(Blk5.below X1_7 hb).cells.1, (Blk5.below X1_7 hb).cells.2.1, (Blk5.below X1_7 hb).cells.2.2.1, (Blk5.below X1_7 hb).cells.2.2.2.1, (Blk5.below X1_7 hb).cells.2.2.2.2.1, (Blk5.below Q_7 hb).cells.1, (Blk5.below Q_7 hb).cells.2.1, (Blk5.below Q_7 hb).cells.2.2.1, (Blk5.below Q_7 hb).cells.2.2.2.1, (Blk5.below Q_7 hb).cells.2.2.2.2.1⟩
      have TSw8 := fun V (hV : Below w7.heap.size w7 V) => T' V (DArg.below AD2_7 (hV.mono BW7.size)) (Nat.le_trans BW7.size hV.size)
      go_region_held3 (fun w' => w'.cell? ⟨w5.heap.size, 0, none⟩ = some (.slice yA0 yn0 yk0) ∧ w'.cell? ⟨w5.heap.size, 1, none⟩ = some (.slice yA1 yn1 yk1) ∧ w'.cell? ⟨w5.heap.size, 2, none⟩ = some (.slice yA2 yn2 yk2) ∧ w'.cell? ⟨w5.heap.size, 3, none⟩ = some (.slice yA3 yn3 yk3) ∧ w'.cell? ⟨w5.heap.size, 4, none⟩ = some (.slice yA4 yn4 yk4) ∧ w'.cell? ⟨(w.heap.size + 1), 0, none⟩ = some (.slice A0' D'.C.h.l.length c0') ∧ w'.cell? ⟨(w.heap.size + 1), 1, none⟩ = some (.slice A1' D'.C.h.r.length c1') ∧ w'.cell? ⟨(w.heap.size + 1), 2, none⟩ = some (.slice A2' D'.C.h.t.length c2') ∧ w'.cell? ⟨(w.heap.size + 1), 3, none⟩ = some (.slice A3' D'.C.c.length c3') ∧ w'.cell? ⟨(w.heap.size + 1), 4, none⟩ = some (.slice A4' D'.n.length c4'))
        (((try dsimp only); (refine SOw8 _ ?_); (repeat (with_reducible (first | exact Below.refl _ _ | exact hRaw8 | exact hRbw8 | refine B5_dr ?_ | refine B5_al ?_ _)))))
        (first
          | (go_at_call 33; (refine Calls.mono (TSw8 _ ?_) ?_); (· repeat (with_reducible (first | exact Below.refl _ _ | refine B5_dr ?_ | refine B5_al ?_ _))); rintro e aw8 ⟨vaw8, rfl, Kaw8, hbaw8⟩; (have hRaw8 : Below w7.heap.size w7 aw8 := (by refine B5_th ?_ hbaw8; repeat (with_reducible (first | exact Below.refl _ _ | refine B5_dr ?_ | refine B5_al ?_ _)))))
          | (go_at_call 26; (refine (eqCounted_same _ _ _ _ _ _ (Dv.below (by exact H5_7) hRaw8) Kaw8).mono ?_); rintro e w8 ⟨rfl, hbbw8⟩; (have hRbw8 : Below w7.heap.size w7 w8 := B5_th hRaw8 hbbw8)))
      try (rename_i hHeld; clear hHeld)
      have BW8 : Below w.heap.size w w8 := B5_th BW7 hRbw8
      have zz8 : w7.heap.size ≤ w8.heap.size := hRbw8.size
      have AD_8 := DArg.below (by exact AD_7) (hRbw8.mono BW7.size)
      have AD2_8 := DArg.below (by exact AD2_7) (hRbw8.mono BW7.size)
      have P_8 := Blk5.below (by exact P_7) hRbw8
      obtain ⟨cP_8_0, cP_8_1, cP_8_2, cP_8_3, cP_8_4, _⟩ := P_8.cells
      have lP_8 := P_8.lt
      have Q_8 := Blk5.below (by exact Q_7) hRbw8
      obtain ⟨cQ_8_0, cQ_8_1, cQ_8_2, cQ_8_3, cQ_8_4, _⟩ := Q_8.cells
      have lQ_8 := Q_8.lt
      have H4_8 := Dv.below (by exact H4_7) hRbw8
      have X_8 := Blk5.below (by exact X_7) hRbw8
      obtain ⟨cX_8_0, cX_8_1, cX_8_2, cX_8_3, cX_8_4, _⟩ := X_8.cells
      have lX_8 := X_8.lt
      have H5_8 := Dv.below (by exact H5_7) hRbw8
      have X1_8 := Blk5.below (by exact X1_7) hRbw8
      obtain ⟨cX1_8_0, cX1_8_1, cX1_8_2, cX1_8_3, cX1_8_4, _⟩ := X1_8.cells
      have lX1_8 := X1_8.lt
      clear AD_7 AD2_7 P_7 cP_7_0 cP_7_1 cP_7_2 cP_7_3 cP_7_4 lP_7 Q_7 cQ_7_0 cQ_7_1 cQ_7_2 cQ_7_3 cQ_7_4 lQ_7 H4_7 X_7 cX_7_0 cX_7_1 cX_7_2 cX_7_3 cX_7_4 lX_7 H5_7 X1_7 cX1_7_0 cX1_7_1 cX1_7_2 cX1_7_3 cX1_7_4 lX1_7
      go_wp2_with fail
      go_ret
      exact ⟨rfl, BW8⟩
    · have hszv : szV ((D'.C.h.l.length + D'.C.h.r.length + D'.C.h.t.length + D'.C.c.length) + D'.n.length) sz = -1 := by unfold szV; rw [if_neg hsz2]
      simp only [hszv] at SZ2
      have X0 := Blk5.new_at (w := w.alloc (.cells #[.slice A0 D.C.h.l.length c0, .slice A1 D.C.h.r.length c1, .slice A2 D.C.h.t.length c2, .slice A3 D.C.c.length c3, .slice A4 D.n.length c4] 50)) (b := w.heap.size + 1) (by simp) (.slice A0' D'.C.h.l.length c0') (.slice A1' D'.C.h.r.length c1') (.slice A2' D'.C.h.t.length c2') (.slice A3' D'.C.c.length c3') (.slice A4' D'.n.length c4') 50
      clear hsz2 hszv
      go_enter Try.func6, Try.ntmps6
      go_wp2_with fail
      refine SZ.mono ?_; rintro e w1 ⟨rfl, hb1⟩
      obtain ⟨x0, x1, x2, x3, x4, -⟩ := (Blk5.below (by exact X0) hb1).cells
      have B1 := B5_th fin0 hb1
      go_wp2_with fail
      refine (SZ2 _).mono ?_; rintro e w2 ⟨rfl, hb2⟩
      go_wp2_with fail
      go_ret
      exact ⟨rfl, B5_th B1 hb2⟩
  · have hszv : szV ((D.C.h.l.length + D.C.h.r.length + D.C.h.t.length + D.C.c.length) + D.n.length) 1048576 = -1 := by unfold szV; rw [if_neg hsz]
    rw [hszv] at SZ
    clear hsz hszv
    go_enter Try.func6, Try.ntmps6
    go_wp2_with fail
    refine SZ.mono ?_; rintro e w1 ⟨rfl, hb1⟩
    go_wp2_with fail
    go_ret
    exact ⟨rfl, B5_th fin0 hb1⟩
end Go.Proofs.Ytpjdpflghcdkiaa
