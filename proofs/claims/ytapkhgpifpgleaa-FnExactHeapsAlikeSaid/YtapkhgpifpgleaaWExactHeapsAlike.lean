/- The exact law of HeapsAlike, walked. -/
import Derived.Test.YtapkhgpifpgleaaExacts
import Derived.Test.YtapkhgpifpgleaaShI
import Derived.Test.YtapkhgpifpgleaaAlikeT
namespace Go.Proofs.Ytapkhgpifpgleaa
open Go.RowKit

set_option maxRecDepth 100000 in
set_option maxHeartbeats 3000000 in
theorem lawExactHeapsAlike_walk (w : World) (v : Value) (a : Hp) (hv : HIn w v a) (v' : Value) (b : Hp) (hv' : HIn w v' b) : Calls Try.prog 5 #[v, v'] w (LawTrue w) := by
  obtain ⟨ha, m0, m1, m2⟩ := hv
  have ha2 := ha
  obtain ⟨A0, c0, A1, c1, A2, c2, rfl, _, _, _⟩ := ha2
  obtain ⟨hb, k0, k1, k2⟩ := hv'
  have hb2 := hb
  obtain ⟨B0, d0, B1, d1, B2, d2, rfl, _, _, _⟩ := hb2
  have SZ := szHeap_any ((w.alloc (.cells #[.slice A0 a.l.length c0, .slice A1 a.r.length c1, .slice A2 a.t.length c2] 24)).alloc (.cells #[.slice B0 b.l.length d0, .slice B1 b.r.length d1, .slice B2 b.t.length d2] 24)) A0 A1 A2 a.l.length c0 a.r.length c1 a.t.length c2 1048576 (by omega) (by omega) m0 m1 m2
  by_cases hsz : ((a.l.length + a.r.length + a.t.length : Nat) : Int) ≤ 1048576
  · have hszv : szV (a.l.length + a.r.length + a.t.length) 1048576 = 1048576 - ((a.l.length + a.r.length + a.t.length : Nat) : Int) := by unfold szV; rw [if_pos hsz]
    rw [hszv] at SZ
    have e0 : a.l.length ≤ 1048576 := by omega
    have e1 : a.r.length ≤ 1048576 := by omega
    have e2 : a.t.length ≤ 1048576 := by omega
    have s0 : ¬ (1048576 - ((a.l.length + a.r.length + a.t.length : Nat) : Int) < 0) := by omega
    have s1 : 0 ≤ 1048576 - ((a.l.length + a.r.length + a.t.length : Nat) : Int) ∧ 1048576 - ((a.l.length + a.r.length + a.t.length : Nat) : Int) ≤ 1048576 := by omega
    generalize 1048576 - ((a.l.length + a.r.length + a.t.length : Nat) : Int) = sz at SZ s0 s1
    clear hszv hsz m0 m1 m2
    obtain ⟨s1a, s1b⟩ := s1
    have SZ2 := fun W => szHeap_any W B0 B1 B2 b.l.length d0 b.r.length d1 b.t.length d2 sz s1a s1b k0 k1 k2
    have TA := fun W (hW : HArg W w.heap.size (.agg #[.slice A0 a.l.length c0, .slice A1 a.r.length c1, .slice A2 a.t.length c2]) a) (hB : w.heap.size ≤ W.heap.size) => toHeap_any W w.heap.size hB _ a hW e0 e1 e2
    by_cases hsz : ((b.l.length + b.r.length + b.t.length : Nat) : Int) ≤ sz
    · have hszv : szV (b.l.length + b.r.length + b.t.length) sz = sz - ((b.l.length + b.r.length + b.t.length : Nat) : Int) := by unfold szV; rw [if_pos hsz]
      rw [hszv] at SZ2
      have f0 : b.l.length ≤ 1048576 := by omega
      have f1 : b.r.length ≤ 1048576 := by omega
      have f2 : b.t.length ≤ 1048576 := by omega
      have s2 : ¬ (sz - ((b.l.length + b.r.length + b.t.length : Nat) : Int) < 0) := by omega
      generalize sz - ((b.l.length + b.r.length + b.t.length : Nat) : Int) = sy at SZ2 s2
      clear hszv hsz k0 k1 k2
      have TB := fun W (hW : HArg W w.heap.size (.agg #[.slice B0 b.l.length d0, .slice B1 b.r.length d1, .slice B2 b.t.length d2]) b) (hB : w.heap.size ≤ W.heap.size) => toHeap_any W w.heap.size hB _ b hW f0 f1 f2
      have S := fun W lo lo2 v v2 hW hW2 => specAlike_any W lo lo2 v v2 a b hW hW2
      have I := fun W lo lo2 v v2 hW hW2 => implAlike_any W lo lo2 v v2 a b hW hW2
      generalize alikeB a b = r at S I
      have hne : (r != r) = false := by simp
      go_enter Try.func5, Try.ntmps5
      go_wp2_with fail
      refine SZ.mono ?_; rintro e w1 ⟨rfl, hb1⟩
      have BW1 : Below w.heap.size w w1 := (((Below.refl w.heap.size w).alloc (Below.refl w.heap.size w).size (.cells #[.slice A0 a.l.length c0, .slice A1 a.r.length c1, .slice A2 a.t.length c2] 24)).alloc ((Below.refl w.heap.size w).alloc (Below.refl w.heap.size w).size (.cells #[.slice A0 a.l.length c0, .slice A1 a.r.length c1, .slice A2 a.t.length c2] 24)).size (.cells #[.slice B0 b.l.length d0, .slice B1 b.r.length d1, .slice B2 b.t.length d2] 24)).trans (hb1.mono (((Below.refl w.heap.size w).alloc (Below.refl w.heap.size w).size (.cells #[.slice A0 a.l.length c0, .slice A1 a.r.length c1, .slice A2 a.t.length c2] 24)).alloc ((Below.refl w.heap.size w).alloc (Below.refl w.heap.size w).size (.cells #[.slice A0 a.l.length c0, .slice A1 a.r.length c1, .slice A2 a.t.length c2] 24)).size (.cells #[.slice B0 b.l.length d0, .slice B1 b.r.length d1, .slice B2 b.t.length d2] 24)).size)
      have zz1 := hb1.size
      have AA_1 := HArg.below (by exact ((ha.alloc (Below.refl w.heap.size w).size (.cells #[.slice A0 a.l.length c0, .slice A1 a.r.length c1, .slice A2 a.t.length c2] 24)).alloc ((Below.refl w.heap.size w).alloc (Below.refl w.heap.size w).size (.cells #[.slice A0 a.l.length c0, .slice A1 a.r.length c1, .slice A2 a.t.length c2] 24)).size (.cells #[.slice B0 b.l.length d0, .slice B1 b.r.length d1, .slice B2 b.t.length d2] 24))) (hb1.mono (((Below.refl w.heap.size w).alloc (Below.refl w.heap.size w).size (.cells #[.slice A0 a.l.length c0, .slice A1 a.r.length c1, .slice A2 a.t.length c2] 24)).alloc ((Below.refl w.heap.size w).alloc (Below.refl w.heap.size w).size (.cells #[.slice A0 a.l.length c0, .slice A1 a.r.length c1, .slice A2 a.t.length c2] 24)).size (.cells #[.slice B0 b.l.length d0, .slice B1 b.r.length d1, .slice B2 b.t.length d2] 24)).size)
      have AB_1 := HArg.below (by exact ((hb.alloc (Below.refl w.heap.size w).size (.cells #[.slice A0 a.l.length c0, .slice A1 a.r.length c1, .slice A2 a.t.length c2] 24)).alloc ((Below.refl w.heap.size w).alloc (Below.refl w.heap.size w).size (.cells #[.slice A0 a.l.length c0, .slice A1 a.r.length c1, .slice A2 a.t.length c2] 24)).size (.cells #[.slice B0 b.l.length d0, .slice B1 b.r.length d1, .slice B2 b.t.length d2] 24))) (hb1.mono (((Below.refl w.heap.size w).alloc (Below.refl w.heap.size w).size (.cells #[.slice A0 a.l.length c0, .slice A1 a.r.length c1, .slice A2 a.t.length c2] 24)).alloc ((Below.refl w.heap.size w).alloc (Below.refl w.heap.size w).size (.cells #[.slice A0 a.l.length c0, .slice A1 a.r.length c1, .slice A2 a.t.length c2] 24)).size (.cells #[.slice B0 b.l.length d0, .slice B1 b.r.length d1, .slice B2 b.t.length d2] 24)).size)
      have P_1 := Blk3.below (by exact ((Blk3.new w (.slice A0 a.l.length c0) (.slice A1 a.r.length c1) (.slice A2 a.t.length c2) 24).alloc (.cells #[.slice B0 b.l.length d0, .slice B1 b.r.length d1, .slice B2 b.t.length d2] 24))) hb1
      obtain ⟨cP_1_0, cP_1_1, cP_1_2, _⟩ := P_1.cells
      have lP_1 := P_1.lt
      have Q_1 := Blk3.below (by exact (Blk3.new_at (w := w.alloc (.cells #[.slice A0 a.l.length c0, .slice A1 a.r.length c1, .slice A2 a.t.length c2] 24)) (b := w.heap.size + 1) (by simp) (.slice B0 b.l.length d0) (.slice B1 b.r.length d1) (.slice B2 b.t.length d2) 24)) hb1
      obtain ⟨cQ_1_0, cQ_1_1, cQ_1_2, _⟩ := Q_1.cells
      have lQ_1 := Q_1.lt
      go_wp2_with fail
      refine (SZ2 _).mono ?_; rintro e w2 ⟨rfl, hb2⟩
      have BW2 : Below w.heap.size w w2 := BW1.trans (hb2.mono BW1.size)
      have zz2 := hb2.size
      have AA_2 := HArg.below (by exact AA_1) (hb2.mono BW1.size)
      have AB_2 := HArg.below (by exact AB_1) (hb2.mono BW1.size)
      have P_2 := Blk3.below (by exact P_1) hb2
      obtain ⟨cP_2_0, cP_2_1, cP_2_2, _⟩ := P_2.cells
      have lP_2 := P_2.lt
      have Q_2 := Blk3.below (by exact Q_1) hb2
      obtain ⟨cQ_2_0, cQ_2_1, cQ_2_2, _⟩ := Q_2.cells
      have lQ_2 := Q_2.lt
      go_wp2_with fail
      go_region_held3 (fun w' => w'.cell? ⟨w.heap.size, 0, none⟩ = some (.slice A0 a.l.length c0) ∧ w'.cell? ⟨w.heap.size, 1, none⟩ = some (.slice A1 a.r.length c1) ∧ w'.cell? ⟨w.heap.size, 2, none⟩ = some (.slice A2 a.t.length c2) ∧ w'.cell? ⟨(w.heap.size + 1), 0, none⟩ = some (.slice B0 b.l.length d0) ∧ w'.cell? ⟨(w.heap.size + 1), 1, none⟩ = some (.slice B1 b.r.length d1) ∧ w'.cell? ⟨(w.heap.size + 1), 2, none⟩ = some (.slice B2 b.t.length d2))
        (((try dsimp only); (repeat' apply And.intro) <;> (with_reducible (first | exact cQ_5_2 | exact cQ_5_1 | exact cQ_5_0 | exact cP_5_2 | exact cP_5_1 | exact cP_5_0 | exact cQ_4_2 | exact cQ_4_1 | exact cQ_4_0 | exact cP_4_2 | exact cP_4_1 | exact cP_4_0 | exact cQ_3_2 | exact cQ_3_1 | exact cQ_3_0 | exact cP_3_2 | exact cP_3_1 | exact cP_3_0 | exact cellD cQ_2_2 | exact cellD cQ_2_1 | exact cellD cQ_2_0 | exact cellD cP_2_2 | exact cellD cP_2_1 | exact cellD cP_2_0 | exact cQ_2_2 | exact cQ_2_1 | exact cQ_2_0 | exact cP_2_2 | exact cP_2_1 | exact cP_2_0))))
        (first
          | (go_at_call 14; (with_reducible refine (TA _ (AA_2.drew) (Below.drew BW2).size).mono ?_); rintro e w3 ⟨v3, rfl, H3, hb3⟩; have BW3 : Below w.heap.size w w3 := (Below.drew BW2).trans (hb3.mono (Below.drew BW2).size); have zz3 := hb3.size; have AA_3 := HArg.below (by exact (AA_2.drew)) (hb3.mono (Below.drew BW2).size); have AB_3 := HArg.below (by exact (AB_2.drew)) (hb3.mono (Below.drew BW2).size); have P_3 := Blk3.below (by exact (P_2.drew)) hb3; obtain ⟨cP_3_0, cP_3_1, cP_3_2, _⟩ := P_3.cells; have lP_3 := P_3.lt; have Q_3 := Blk3.below (by exact (Q_2.drew)) hb3; obtain ⟨cQ_3_0, cQ_3_1, cQ_3_2, _⟩ := Q_3.cells; have lQ_3 := Q_3.lt)
          | (go_at_call 14; (with_reducible refine (TB _ AB_3 BW3.size).mono ?_); rintro e w4 ⟨v4, rfl, H4, hb4⟩; have BW4 : Below w.heap.size w w4 := BW3.trans (hb4.mono BW3.size); have zz4 := hb4.size; have AA_4 := HArg.below (by exact AA_3) (hb4.mono BW3.size); have AB_4 := HArg.below (by exact AB_3) (hb4.mono BW3.size); have P_4 := Blk3.below (by exact P_3) hb4; obtain ⟨cP_4_0, cP_4_1, cP_4_2, _⟩ := P_4.cells; have lP_4 := P_4.lt; have Q_4 := Blk3.below (by exact Q_3) hb4; obtain ⟨cQ_4_0, cQ_4_1, cQ_4_2, _⟩ := Q_4.cells; have lQ_4 := Q_4.lt; have H3_4 := Hv.below (by exact H3) hb4)
          | (go_at_call 24; (with_reducible refine (S _ _ _ _ _ H3_4 H4).mono ?_); rintro e w5 ⟨rfl, hb5⟩; have BW5 : Below w.heap.size w w5 := BW4.trans (hb5.mono BW4.size); have zz5 := hb5.size; have AA_5 := HArg.below (by exact AA_4) (hb5.mono BW4.size); have AB_5 := HArg.below (by exact AB_4) (hb5.mono BW4.size); have P_5 := Blk3.below (by exact P_4) hb5; obtain ⟨cP_5_0, cP_5_1, cP_5_2, _⟩ := P_5.cells; have lP_5 := P_5.lt; have Q_5 := Blk3.below (by exact Q_4) hb5; obtain ⟨cQ_5_0, cQ_5_1, cQ_5_2, _⟩ := Q_5.cells; have lQ_5 := Q_5.lt; have H3_5 := Hv.below (by exact H3_4) hb5; have H4_5 := Hv.below (by exact H4) hb5))
      rename_i hHeld1
      clear hHeld1
      go_wp2_with fail
      refine (TA _ AA_5 BW5.size).mono ?_; rintro e w6 ⟨v6, rfl, H6, hb6⟩
      have BW6 : Below w.heap.size w w6 := BW5.trans (hb6.mono BW5.size)
      have zz6 := hb6.size
      have AA_6 := HArg.below (by exact AA_5) (hb6.mono BW5.size)
      have AB_6 := HArg.below (by exact AB_5) (hb6.mono BW5.size)
      have P_6 := Blk3.below (by exact P_5) hb6
      obtain ⟨cP_6_0, cP_6_1, cP_6_2, _⟩ := P_6.cells
      have lP_6 := P_6.lt
      have Q_6 := Blk3.below (by exact Q_5) hb6
      obtain ⟨cQ_6_0, cQ_6_1, cQ_6_2, _⟩ := Q_6.cells
      have lQ_6 := Q_6.lt
      obtain ⟨xA0, xn0, xk0, xA1, xn1, xk1, xA2, xn2, xk2, rfl, _⟩ := Hv.open_ H6
      go_wp2_with fail
      refine (TB _ (AB_6.alloc BW6.size (.cells #[.slice xA0 xn0 xk0, .slice xA1 xn1 xk1, .slice xA2 xn2 xk2] 27)) (BW6.alloc BW6.size (.cells #[.slice xA0 xn0 xk0, .slice xA1 xn1 xk1, .slice xA2 xn2 xk2] 27)).size).mono ?_; rintro e w7 ⟨v7, rfl, H7, hb7⟩
      have BW7 : Below w.heap.size w w7 := (BW6.alloc BW6.size (.cells #[.slice xA0 xn0 xk0, .slice xA1 xn1 xk1, .slice xA2 xn2 xk2] 27)).trans (hb7.mono (BW6.alloc BW6.size (.cells #[.slice xA0 xn0 xk0, .slice xA1 xn1 xk1, .slice xA2 xn2 xk2] 27)).size)
      have zz7 := hb7.size
      have AA_7 := HArg.below (by exact (AA_6.alloc BW6.size (.cells #[.slice xA0 xn0 xk0, .slice xA1 xn1 xk1, .slice xA2 xn2 xk2] 27))) (hb7.mono (BW6.alloc BW6.size (.cells #[.slice xA0 xn0 xk0, .slice xA1 xn1 xk1, .slice xA2 xn2 xk2] 27)).size)
      have AB_7 := HArg.below (by exact (AB_6.alloc BW6.size (.cells #[.slice xA0 xn0 xk0, .slice xA1 xn1 xk1, .slice xA2 xn2 xk2] 27))) (hb7.mono (BW6.alloc BW6.size (.cells #[.slice xA0 xn0 xk0, .slice xA1 xn1 xk1, .slice xA2 xn2 xk2] 27)).size)
      have P_7 := Blk3.below (by exact (P_6.alloc (.cells #[.slice xA0 xn0 xk0, .slice xA1 xn1 xk1, .slice xA2 xn2 xk2] 27))) hb7
      obtain ⟨cP_7_0, cP_7_1, cP_7_2, _⟩ := P_7.cells
      have lP_7 := P_7.lt
      have Q_7 := Blk3.below (by exact (Q_6.alloc (.cells #[.slice xA0 xn0 xk0, .slice xA1 xn1 xk1, .slice xA2 xn2 xk2] 27))) hb7
      obtain ⟨cQ_7_0, cQ_7_1, cQ_7_2, _⟩ := Q_7.cells
      have lQ_7 := Q_7.lt
      have H6_7 := Hv.below (by exact (H6.alloc (.cells #[.slice xA0 xn0 xk0, .slice xA1 xn1 xk1, .slice xA2 xn2 xk2] 27))) hb7
      have X_7 := Blk3.below (by exact (Blk3.new w6 (.slice xA0 xn0 xk0) (.slice xA1 xn1 xk1) (.slice xA2 xn2 xk2) 27)) hb7
      obtain ⟨cX_7_0, cX_7_1, cX_7_2, _⟩ := X_7.cells
      have lX_7 := X_7.lt
      obtain ⟨yA0, yn0, yk0, yA1, yn1, yk1, yA2, yn2, yk2, rfl, _⟩ := Hv.open_ H7
      go_wp2_with fail
      refine (I _ _ _ _ _ (H6_7.alloc (.cells #[.slice yA0 yn0 yk0, .slice yA1 yn1 yk1, .slice yA2 yn2 yk2] 27)) (H7.alloc (.cells #[.slice yA0 yn0 yk0, .slice yA1 yn1 yk1, .slice yA2 yn2 yk2] 27))).mono ?_; rintro e w8 ⟨rfl, hb8⟩
      have BW8 : Below w.heap.size w w8 := (BW7.alloc BW7.size (.cells #[.slice yA0 yn0 yk0, .slice yA1 yn1 yk1, .slice yA2 yn2 yk2] 27)).trans (hb8.mono (BW7.alloc BW7.size (.cells #[.slice yA0 yn0 yk0, .slice yA1 yn1 yk1, .slice yA2 yn2 yk2] 27)).size)
      have zz8 := hb8.size
      have AA_8 := HArg.below (by exact (AA_7.alloc BW7.size (.cells #[.slice yA0 yn0 yk0, .slice yA1 yn1 yk1, .slice yA2 yn2 yk2] 27))) (hb8.mono (BW7.alloc BW7.size (.cells #[.slice yA0 yn0 yk0, .slice yA1 yn1 yk1, .slice yA2 yn2 yk2] 27)).size)
      have AB_8 := HArg.below (by exact (AB_7.alloc BW7.size (.cells #[.slice yA0 yn0 yk0, .slice yA1 yn1 yk1, .slice yA2 yn2 yk2] 27))) (hb8.mono (BW7.alloc BW7.size (.cells #[.slice yA0 yn0 yk0, .slice yA1 yn1 yk1, .slice yA2 yn2 yk2] 27)).size)
      have P_8 := Blk3.below (by exact (P_7.alloc (.cells #[.slice yA0 yn0 yk0, .slice yA1 yn1 yk1, .slice yA2 yn2 yk2] 27))) hb8
      obtain ⟨cP_8_0, cP_8_1, cP_8_2, _⟩ := P_8.cells
      have lP_8 := P_8.lt
      have Q_8 := Blk3.below (by exact (Q_7.alloc (.cells #[.slice yA0 yn0 yk0, .slice yA1 yn1 yk1, .slice yA2 yn2 yk2] 27))) hb8
      obtain ⟨cQ_8_0, cQ_8_1, cQ_8_2, _⟩ := Q_8.cells
      have lQ_8 := Q_8.lt
      have H6_8 := Hv.below (by exact (H6_7.alloc (.cells #[.slice yA0 yn0 yk0, .slice yA1 yn1 yk1, .slice yA2 yn2 yk2] 27))) hb8
      have X_8 := Blk3.below (by exact (X_7.alloc (.cells #[.slice yA0 yn0 yk0, .slice yA1 yn1 yk1, .slice yA2 yn2 yk2] 27))) hb8
      obtain ⟨cX_8_0, cX_8_1, cX_8_2, _⟩ := X_8.cells
      have lX_8 := X_8.lt
      have H7_8 := Hv.below (by exact (H7.alloc (.cells #[.slice yA0 yn0 yk0, .slice yA1 yn1 yk1, .slice yA2 yn2 yk2] 27))) hb8
      have Y_8 := Blk3.below (by exact (Blk3.new w7 (.slice yA0 yn0 yk0) (.slice yA1 yn1 yk1) (.slice yA2 yn2 yk2) 27)) hb8
      obtain ⟨cY_8_0, cY_8_1, cY_8_2, _⟩ := Y_8.cells
      have lY_8 := Y_8.lt
      go_wp2_with fail
      go_region_held3 (fun w' => w'.cell? ⟨w6.heap.size, 0, none⟩ = some (.slice xA0 xn0 xk0) ∧ w'.cell? ⟨w6.heap.size, 1, none⟩ = some (.slice xA1 xn1 xk1) ∧ w'.cell? ⟨w6.heap.size, 2, none⟩ = some (.slice xA2 xn2 xk2) ∧ w'.cell? ⟨w.heap.size, 0, none⟩ = some (.slice A0 a.l.length c0) ∧ w'.cell? ⟨w.heap.size, 1, none⟩ = some (.slice A1 a.r.length c1) ∧ w'.cell? ⟨w.heap.size, 2, none⟩ = some (.slice A2 a.t.length c2))
        (((try dsimp only); (repeat' apply And.intro) <;> (with_reducible (first | exact cP_10_2 | exact cP_10_1 | exact cP_10_0 | exact cX_10_2 | exact cX_10_1 | exact cX_10_0 | exact cP_9_2 | exact cP_9_1 | exact cP_9_0 | exact cX_9_2 | exact cX_9_1 | exact cX_9_0 | exact cellD cP_8_2 | exact cellD cP_8_1 | exact cellD cP_8_0 | exact cellD cX_8_2 | exact cellD cX_8_1 | exact cellD cX_8_0 | exact cP_8_2 | exact cP_8_1 | exact cP_8_0 | exact cX_8_2 | exact cX_8_1 | exact cX_8_0))))
        (first
          | (go_at_call 14; (with_reducible refine (TA _ (AA_8.drew) (Below.drew BW8).size).mono ?_); rintro e w9 ⟨v9, rfl, HN9, hb9⟩; have BW9 : Below w.heap.size w w9 := (Below.drew BW8).trans (hb9.mono (Below.drew BW8).size); have zz9 := hb9.size; have AA_9 := HArg.below (by exact (AA_8.drew)) (hb9.mono (Below.drew BW8).size); have AB_9 := HArg.below (by exact (AB_8.drew)) (hb9.mono (Below.drew BW8).size); have P_9 := Blk3.below (by exact (P_8.drew)) hb9; obtain ⟨cP_9_0, cP_9_1, cP_9_2, _⟩ := P_9.cells; have lP_9 := P_9.lt; have Q_9 := Blk3.below (by exact (Q_8.drew)) hb9; obtain ⟨cQ_9_0, cQ_9_1, cQ_9_2, _⟩ := Q_9.cells; have lQ_9 := Q_9.lt; have H6_9 := Hv.below (by exact (H6_8.drew)) hb9; have X_9 := Blk3.below (by exact (X_8.drew)) hb9; obtain ⟨cX_9_0, cX_9_1, cX_9_2, _⟩ := X_9.cells; have lX_9 := X_9.lt; have H7_9 := Hv.below (by exact (H7_8.drew)) hb9; have Y_9 := Blk3.below (by exact (Y_8.drew)) hb9; obtain ⟨cY_9_0, cY_9_1, cY_9_2, _⟩ := Y_9.cells; have lY_9 := Y_9.lt)
          | (go_at_call 17; (with_reducible refine (eqHeap_same _ _ _ _ _ _ H6_9 HN9).mono ?_); rintro e w10 ⟨rfl, hb10⟩; have BW10 : Below w.heap.size w w10 := BW9.trans (hb10.mono BW9.size); have zz10 := hb10.size; have AA_10 := HArg.below (by exact AA_9) (hb10.mono BW9.size); have AB_10 := HArg.below (by exact AB_9) (hb10.mono BW9.size); have P_10 := Blk3.below (by exact P_9) hb10; obtain ⟨cP_10_0, cP_10_1, cP_10_2, _⟩ := P_10.cells; have lP_10 := P_10.lt; have Q_10 := Blk3.below (by exact Q_9) hb10; obtain ⟨cQ_10_0, cQ_10_1, cQ_10_2, _⟩ := Q_10.cells; have lQ_10 := Q_10.lt; have H6_10 := Hv.below (by exact H6_9) hb10; have X_10 := Blk3.below (by exact X_9) hb10; obtain ⟨cX_10_0, cX_10_1, cX_10_2, _⟩ := X_10.cells; have lX_10 := X_10.lt; have H7_10 := Hv.below (by exact H7_9) hb10; have Y_10 := Blk3.below (by exact Y_9) hb10; obtain ⟨cY_10_0, cY_10_1, cY_10_2, _⟩ := Y_10.cells; have lY_10 := Y_10.lt; have HN9_10 := Hv.below (by exact HN9) hb10))
      rename_i hHeld2
      clear hHeld2
      go_wp2_with fail
      go_region_held3 (fun w' => w'.cell? ⟨w7.heap.size, 0, none⟩ = some (.slice yA0 yn0 yk0) ∧ w'.cell? ⟨w7.heap.size, 1, none⟩ = some (.slice yA1 yn1 yk1) ∧ w'.cell? ⟨w7.heap.size, 2, none⟩ = some (.slice yA2 yn2 yk2) ∧ w'.cell? ⟨(w.heap.size + 1), 0, none⟩ = some (.slice B0 b.l.length d0) ∧ w'.cell? ⟨(w.heap.size + 1), 1, none⟩ = some (.slice B1 b.r.length d1) ∧ w'.cell? ⟨(w.heap.size + 1), 2, none⟩ = some (.slice B2 b.t.length d2))
        (((try dsimp only); (repeat' apply And.intro) <;> (with_reducible (first | exact cQ_12_2 | exact cQ_12_1 | exact cQ_12_0 | exact cY_12_2 | exact cY_12_1 | exact cY_12_0 | exact cQ_11_2 | exact cQ_11_1 | exact cQ_11_0 | exact cY_11_2 | exact cY_11_1 | exact cY_11_0 | exact cellD cQ_10_2 | exact cellD cQ_10_1 | exact cellD cQ_10_0 | exact cellD cY_10_2 | exact cellD cY_10_1 | exact cellD cY_10_0 | exact cQ_10_2 | exact cQ_10_1 | exact cQ_10_0 | exact cY_10_2 | exact cY_10_1 | exact cY_10_0))))
        (first
          | (go_at_call 14; (with_reducible refine (TB _ (AB_10.drew) (Below.drew BW10).size).mono ?_); rintro e w11 ⟨v11, rfl, HN11, hb11⟩; have BW11 : Below w.heap.size w w11 := (Below.drew BW10).trans (hb11.mono (Below.drew BW10).size); have zz11 := hb11.size; have AA_11 := HArg.below (by exact (AA_10.drew)) (hb11.mono (Below.drew BW10).size); have AB_11 := HArg.below (by exact (AB_10.drew)) (hb11.mono (Below.drew BW10).size); have P_11 := Blk3.below (by exact (P_10.drew)) hb11; obtain ⟨cP_11_0, cP_11_1, cP_11_2, _⟩ := P_11.cells; have lP_11 := P_11.lt; have Q_11 := Blk3.below (by exact (Q_10.drew)) hb11; obtain ⟨cQ_11_0, cQ_11_1, cQ_11_2, _⟩ := Q_11.cells; have lQ_11 := Q_11.lt; have H6_11 := Hv.below (by exact (H6_10.drew)) hb11; have X_11 := Blk3.below (by exact (X_10.drew)) hb11; obtain ⟨cX_11_0, cX_11_1, cX_11_2, _⟩ := X_11.cells; have lX_11 := X_11.lt; have H7_11 := Hv.below (by exact (H7_10.drew)) hb11; have Y_11 := Blk3.below (by exact (Y_10.drew)) hb11; obtain ⟨cY_11_0, cY_11_1, cY_11_2, _⟩ := Y_11.cells; have lY_11 := Y_11.lt)
          | (go_at_call 17; (with_reducible refine (eqHeap_same _ _ _ _ _ _ H7_11 HN11).mono ?_); rintro e w12 ⟨rfl, hb12⟩; have BW12 : Below w.heap.size w w12 := BW11.trans (hb12.mono BW11.size); have zz12 := hb12.size; have AA_12 := HArg.below (by exact AA_11) (hb12.mono BW11.size); have AB_12 := HArg.below (by exact AB_11) (hb12.mono BW11.size); have P_12 := Blk3.below (by exact P_11) hb12; obtain ⟨cP_12_0, cP_12_1, cP_12_2, _⟩ := P_12.cells; have lP_12 := P_12.lt; have Q_12 := Blk3.below (by exact Q_11) hb12; obtain ⟨cQ_12_0, cQ_12_1, cQ_12_2, _⟩ := Q_12.cells; have lQ_12 := Q_12.lt; have H6_12 := Hv.below (by exact H6_11) hb12; have X_12 := Blk3.below (by exact X_11) hb12; obtain ⟨cX_12_0, cX_12_1, cX_12_2, _⟩ := X_12.cells; have lX_12 := X_12.lt; have H7_12 := Hv.below (by exact H7_11) hb12; have Y_12 := Blk3.below (by exact Y_11) hb12; obtain ⟨cY_12_0, cY_12_1, cY_12_2, _⟩ := Y_12.cells; have lY_12 := Y_12.lt; have HN11_12 := Hv.below (by exact HN11) hb12))
      rename_i hHeld3
      clear hHeld3
      go_wp2_with fail
      go_ret
      exact ⟨rfl, BW12⟩
    · have hszv : szV (b.l.length + b.r.length + b.t.length) sz = -1 := by unfold szV; rw [if_neg hsz]
      rw [hszv] at SZ2
      clear hszv hsz
      go_enter Try.func5, Try.ntmps5
      go_wp2_with fail
      refine SZ.mono ?_; rintro e w1 ⟨rfl, hb1⟩
      have BW1 : Below w.heap.size w w1 := (((Below.refl w.heap.size w).alloc (Below.refl w.heap.size w).size (.cells #[.slice A0 a.l.length c0, .slice A1 a.r.length c1, .slice A2 a.t.length c2] 24)).alloc ((Below.refl w.heap.size w).alloc (Below.refl w.heap.size w).size (.cells #[.slice A0 a.l.length c0, .slice A1 a.r.length c1, .slice A2 a.t.length c2] 24)).size (.cells #[.slice B0 b.l.length d0, .slice B1 b.r.length d1, .slice B2 b.t.length d2] 24)).trans (hb1.mono (((Below.refl w.heap.size w).alloc (Below.refl w.heap.size w).size (.cells #[.slice A0 a.l.length c0, .slice A1 a.r.length c1, .slice A2 a.t.length c2] 24)).alloc ((Below.refl w.heap.size w).alloc (Below.refl w.heap.size w).size (.cells #[.slice A0 a.l.length c0, .slice A1 a.r.length c1, .slice A2 a.t.length c2] 24)).size (.cells #[.slice B0 b.l.length d0, .slice B1 b.r.length d1, .slice B2 b.t.length d2] 24)).size)
      have zz1 := hb1.size
      have P_1 := Blk3.below (by exact ((Blk3.new w (.slice A0 a.l.length c0) (.slice A1 a.r.length c1) (.slice A2 a.t.length c2) 24).alloc (.cells #[.slice B0 b.l.length d0, .slice B1 b.r.length d1, .slice B2 b.t.length d2] 24))) hb1
      obtain ⟨cP_1_0, cP_1_1, cP_1_2, _⟩ := P_1.cells
      have lP_1 := P_1.lt
      have Q_1 := Blk3.below (by exact (Blk3.new_at (w := w.alloc (.cells #[.slice A0 a.l.length c0, .slice A1 a.r.length c1, .slice A2 a.t.length c2] 24)) (b := w.heap.size + 1) (by simp) (.slice B0 b.l.length d0) (.slice B1 b.r.length d1) (.slice B2 b.t.length d2) 24)) hb1
      obtain ⟨cQ_1_0, cQ_1_1, cQ_1_2, _⟩ := Q_1.cells
      have lQ_1 := Q_1.lt
      go_wp2_with fail
      refine (SZ2 _).mono ?_; rintro e w2 ⟨rfl, hb2⟩
      have BW2 : Below w.heap.size w w2 := BW1.trans (hb2.mono BW1.size)
      have zz2 := hb2.size
      have P_2 := Blk3.below (by exact P_1) hb2
      obtain ⟨cP_2_0, cP_2_1, cP_2_2, _⟩ := P_2.cells
      have lP_2 := P_2.lt
      have Q_2 := Blk3.below (by exact Q_1) hb2
      obtain ⟨cQ_2_0, cQ_2_1, cQ_2_2, _⟩ := Q_2.cells
      have lQ_2 := Q_2.lt
      go_wp2_with fail
      go_ret
      exact ⟨rfl, BW2⟩
  · have hszv : szV (a.l.length + a.r.length + a.t.length) 1048576 = -1 := by unfold szV; rw [if_neg hsz]
    rw [hszv] at SZ
    clear hszv hsz
    go_enter Try.func5, Try.ntmps5
    go_wp2_with fail
    refine SZ.mono ?_; rintro e w1 ⟨rfl, hb1⟩
    go_wp2_with fail
    go_ret
    exact ⟨rfl, (((Below.refl _ _).alloc (Nat.le_refl _) _).alloc (by simp) _).trans (hb1.mono (by simp <;> omega))⟩
end Go.Proofs.Ytapkhgpifpgleaa
