/- The law FnCycleSelf, walked. -/
import Derived.Test.YthagchhegljphaaDHasCycle
import Derived.Test.YthagchhegljphaaCyc
import Derived.Test.YthagchhegljphaaClos
import Derived.Test.YthagchhegljphaaPut
import Derived.Test.YthagchhegljphaaPure
import Derived.Test.YthagchhegljphaaLeast
import Derived.Test.YthagchhegljphaaWLaw
namespace Go.Proofs.Ythagchhegljphaa
open Go.RowKit

theorem put_same {h : Hp} {c : Int} : (putL h c c = none ∧ putL h c (-1) = none) ∨ ∃ h1 h2 h3, putL h c c = some h1 ∧ putL h c (-1) = some h2 ∧ putR h2 c (-1) = some h3 ∧ cycB h1 c = true ∧ cycB h3 c = false := by
  by_cases hc : (hvB h && plB c h.l.length) = true
  · right
    rw [Bool.and_eq_true] at hc
    obtain ⟨hv, hpl⟩ := hc
    obtain ⟨k, rfl, hk⟩ := plB_nat hpl
    obtain ⟨⟨hr, _⟩, _⟩ := hvB_parts hv
    have p1 : putL h k k = some ⟨h.l.set k k, h.r, h.t⟩ := by
      unfold putL
      rw [if_pos (by simp only [Bool.and_eq_true]; exact ⟨⟨hv, by simp [plB]; omega⟩, by simp [ptB]; omega⟩)]; simp
    have p2 : putL h k (-1) = some ⟨h.l.set k (-1), h.r, h.t⟩ := by
      unfold putL
      rw [if_pos (by simp only [Bool.and_eq_true]; exact ⟨⟨hv, by simp [plB]; omega⟩, by simp [ptB]; omega⟩)]; simp
    have v1 := putL_valid p1
    have v2 := putL_valid p2
    have p3 : putR ⟨h.l.set k (-1), h.r, h.t⟩ k (-1) = some ⟨h.l.set k (-1), h.r.set k (-1), h.t⟩ := by
      unfold putR
      rw [if_pos (by simp only [Bool.and_eq_true]; exact ⟨⟨v2, by simp [plB]; omega⟩, by simp [ptB]; omega⟩)]; simp
    refine ⟨_, _, _, p1, p2, p3, ?_, ?_⟩
    · obtain ⟨⟨hr1, _⟩, h31, h41, _⟩ := hvB_parts v1
      have hpl1 : plB (k : Int) (h.l.set k k).length = true := by simp [plB]; omega
      have hs : [gd (h.l.set k k) k, gd h.r k].all (ptB · (h.l.set k k).length) = true := by
        have a1 := gd_all h31 hpl1
        have a2 := gd_all h41 (c := (k : Int)) (by rw [hr1]; exact hpl1)
        rw [List.all_cons, List.all_cons, List.all_nil, Bool.and_true, Bool.and_eq_true]
        exact ⟨a1, a2⟩
      have hk9 : gd (h.l.set k k) (k : Int) = (k : Int) := gd_nat (by simp [hk])
      have h9 := (dist_closed v1 hs).1 (k : Int) (by rw [hk9]; simp) (by omega)
      unfold cycB
      rw [Bool.and_eq_true, Bool.and_eq_true, decide_eq_true_eq]
      exact ⟨⟨v1, hpl1⟩, h9⟩
    · have hk2 : k < h.r.length := by omega
      have a1 : gd (h.l.set k (-1)) (k : Int) = -1 := gd_nat (by simp [hk])
      have a2 : gd (h.r.set k (-1)) (k : Int) = -1 := gd_nat (by simp [hk2])
      unfold cycB
      rw [a1, a2, dist_none (by simp), gd_rep]
      simp
  · left
    have hb : (hvB h && plB c h.l.length) = false := by simpa using hc
    unfold putL
    rw [hb]
    simp
theorem putR_zero (x y : Int) : putR Hp.zero x y = none := by
  have h0 : hvB Hp.zero = false := by decide
  unfold putR; rw [h0]; simp

set_option maxRecDepth 100000 in
set_option maxHeartbeats 3000000 in
theorem lawCycleSelf_walk (w : World) (A : Option Addr) (n c : Nat) (h : Inp w A n c) :
    Calls Try.prog 6 #[.slice A n c] w (LawTrue w) := by
  by_cases hbig : 1048576 < n
  · go_enter Try.func6, Try.ntmps6
    go_wp2_with fail
    go_ret
    exact ⟨rfl, Below.refl _ _⟩
  go_enter Try.func6, Try.ntmps6
  go_wp2_with fail
  refine (drawHasCycle_any _ _ _ _ h).mono ?_; rintro e w1 ⟨v, hp, x, rfl, HA, hb1, hx8⟩
  have BW1 : Below w.heap.size w w1 := (Below.refl w.heap.size w).trans (hb1.mono (Below.refl w.heap.size w).size)
  have zz1 := hb1.size
  have I := fun W v hW => implCyc_any W w.heap.size v hp hW x
  have S := fun W v hW => specCyc_any W w.heap.size v hp hW x
  have P1 := fun W v hW => implPutLeft_any W w.heap.size v hp hW x x
  have P2 := fun W v hW => implPutLeft_any W w.heap.size v hp hW x (-1)
  have HAo := HA
  obtain ⟨A0, n0, c0, A1, n1, c1, A2, n2, c2, rfl, ⟨r0, r1, r2⟩, ⟨l0, l1, l2⟩, _⟩ := HAo.open_
  have hps := put_same (h := hp) (c := x)
  generalize cycB hp x = q at I S
  clear r0 r1 r2 hx8
  go_wp2_with fail
  refine (I _ _ (HA.alloc (.cells #[.slice A0 n0 c0, .slice A1 n1 c1, .slice A2 n2 c2] 25))).mono ?_; rintro e w2 ⟨rfl, hb2⟩
  have BW2 : Below w.heap.size w w2 := (BW1.alloc BW1.size (.cells #[.slice A0 n0 c0, .slice A1 n1 c1, .slice A2 n2 c2] 25)).trans (hb2.mono (BW1.alloc BW1.size (.cells #[.slice A0 n0 c0, .slice A1 n1 c1, .slice A2 n2 c2] 25)).size)
  have zz2 := hb2.size
  have HA_2 := Hv.below (by exact (HA.alloc (.cells #[.slice A0 n0 c0, .slice A1 n1 c1, .slice A2 n2 c2] 25))) hb2
  have X_2 := Blk3.below (by exact (Blk3.new w1 (.slice A0 n0 c0) (.slice A1 n1 c1) (.slice A2 n2 c2) 25)) hb2
  obtain ⟨cX_2_0, cX_2_1, cX_2_2, _⟩ := X_2.cells
  have lX_2 := X_2.lt
  go_wp2_with fail
  refine (S _ _ HA_2).mono ?_; rintro e w3 ⟨rfl, hb3⟩
  have BW3 : Below w.heap.size w w3 := BW2.trans (hb3.mono BW2.size)
  have zz3 := hb3.size
  have HA_3 := Hv.below (by exact HA_2) hb3
  have X_3 := Blk3.below (by exact X_2) hb3
  obtain ⟨cX_3_0, cX_3_1, cX_3_2, _⟩ := X_3.cells
  have lX_3 := X_3.lt
  rcases hps with ⟨e1, e2⟩ | ⟨h1, h2, h3, e1, e2, e3, q1, q3⟩
  · rw [e1] at P1
    rw [e2] at P2
    clear e1 e2
    go_wp2_with fail
    refine (P1 _ _ HA_3).mono ?_; rintro e w4 ⟨v, rfl, HX, hb4⟩
    simp only [Option.isSome_none, Option.getD_none] at HX ⊢
    have HXo := HX
    obtain ⟨B0, nB0, cB0, B1, nB1, cB1, B2, nB2, cB2, rfl, _⟩ := HXo.open_
    have BW4 : Below w.heap.size w w4 := BW3.trans (hb4.mono BW3.size)
    have zz4 := hb4.size
    have HA_4 := Hv.below (by exact HA_3) hb4
    have X_4 := Blk3.below (by exact X_3) hb4
    obtain ⟨cX_4_0, cX_4_1, cX_4_2, _⟩ := X_4.cells
    have lX_4 := X_4.lt
    go_wp2_with fail
    refine (P2 _ _ (HA_4.alloc (.cells #[.slice B0 nB0 cB0, .slice B1 nB1 cB1, .slice B2 nB2 cB2] 25))).mono ?_; rintro e w5 ⟨v, rfl, HY, hb5⟩
    simp only [Option.isSome_none, Option.getD_none] at HY ⊢
    have HYo := HY
    obtain ⟨C0, nC0, cC0, C1, nC1, cC1, C2, nC2, cC2, rfl, _⟩ := HYo.open_
    have BW5 : Below w.heap.size w w5 := (BW4.alloc BW4.size (.cells #[.slice B0 nB0 cB0, .slice B1 nB1 cB1, .slice B2 nB2 cB2] 25)).trans (hb5.mono (BW4.alloc BW4.size (.cells #[.slice B0 nB0 cB0, .slice B1 nB1 cB1, .slice B2 nB2 cB2] 25)).size)
    have zz5 := hb5.size
    have HA_5 := Hv.below (by exact (HA_4.alloc (.cells #[.slice B0 nB0 cB0, .slice B1 nB1 cB1, .slice B2 nB2 cB2] 25))) hb5
    have X_5 := Blk3.below (by exact (X_4.alloc (.cells #[.slice B0 nB0 cB0, .slice B1 nB1 cB1, .slice B2 nB2 cB2] 25))) hb5
    obtain ⟨cX_5_0, cX_5_1, cX_5_2, _⟩ := X_5.cells
    have lX_5 := X_5.lt
    have HX_5 := Hv.below (by exact (HX.alloc (.cells #[.slice B0 nB0 cB0, .slice B1 nB1 cB1, .slice B2 nB2 cB2] 25))) hb5
    have P_5 := Blk3.below (by exact (Blk3.new w4 (.slice B0 nB0 cB0) (.slice B1 nB1 cB1) (.slice B2 nB2 cB2) 25)) hb5
    obtain ⟨cP_5_0, cP_5_1, cP_5_2, _⟩ := P_5.cells
    have lP_5 := P_5.lt
    have P3 := fun W lo v (hW : Hv W lo v Hp.zero) => implPutRight_any W lo v _ hW x (-1)
    rw [putR_zero] at P3
    go_wp2_with fail
    refine (P3 _ _ _ (HY.alloc (.cells #[.slice C0 nC0 cC0, .slice C1 nC1 cC1, .slice C2 nC2 cC2] 25))).mono ?_; rintro e w6 ⟨v, rfl, HZ, hb6⟩
    simp only [Option.isSome_none, Option.getD_none] at HZ ⊢
    have HZo := HZ
    obtain ⟨D0, nD0, cD0, D1, nD1, cD1, D2, nD2, cD2, rfl, _⟩ := HZo.open_
    have BW6 : Below w.heap.size w w6 := (BW5.alloc BW5.size (.cells #[.slice C0 nC0 cC0, .slice C1 nC1 cC1, .slice C2 nC2 cC2] 25)).trans (hb6.mono (BW5.alloc BW5.size (.cells #[.slice C0 nC0 cC0, .slice C1 nC1 cC1, .slice C2 nC2 cC2] 25)).size)
    have zz6 := hb6.size
    have HA_6 := Hv.below (by exact (HA_5.alloc (.cells #[.slice C0 nC0 cC0, .slice C1 nC1 cC1, .slice C2 nC2 cC2] 25))) hb6
    have X_6 := Blk3.below (by exact (X_5.alloc (.cells #[.slice C0 nC0 cC0, .slice C1 nC1 cC1, .slice C2 nC2 cC2] 25))) hb6
    obtain ⟨cX_6_0, cX_6_1, cX_6_2, _⟩ := X_6.cells
    have lX_6 := X_6.lt
    have HX_6 := Hv.below (by exact (HX_5.alloc (.cells #[.slice C0 nC0 cC0, .slice C1 nC1 cC1, .slice C2 nC2 cC2] 25))) hb6
    have P_6 := Blk3.below (by exact (P_5.alloc (.cells #[.slice C0 nC0 cC0, .slice C1 nC1 cC1, .slice C2 nC2 cC2] 25))) hb6
    obtain ⟨cP_6_0, cP_6_1, cP_6_2, _⟩ := P_6.cells
    have lP_6 := P_6.lt
    have HY_6 := Hv.below (by exact (HY.alloc (.cells #[.slice C0 nC0 cC0, .slice C1 nC1 cC1, .slice C2 nC2 cC2] 25))) hb6
    have Q_6 := Blk3.below (by exact (Blk3.new w5 (.slice C0 nC0 cC0) (.slice C1 nC1 cC1) (.slice C2 nC2 cC2) 25)) hb6
    obtain ⟨cQ_6_0, cQ_6_1, cQ_6_2, _⟩ := Q_6.cells
    have lQ_6 := Q_6.lt
    go_wp2_with fail
    go_ret
    exact ⟨by simp, (BW6.alloc BW6.size (.cells #[.slice D0 nD0 cD0, .slice D1 nD1 cD1, .slice D2 nD2 cD2] 25))⟩
  · rw [e1] at P1
    rw [e2] at P2
    go_wp2_with fail
    refine (P1 _ _ HA_3).mono ?_; rintro e w4 ⟨v, rfl, HX, hb4⟩
    simp only [Option.isSome_some, Option.getD_some] at HX ⊢
    have HXo := HX
    obtain ⟨B0, nB0, cB0, B1, nB1, cB1, B2, nB2, cB2, rfl, _⟩ := HXo.open_
    have BW4 : Below w.heap.size w w4 := BW3.trans (hb4.mono BW3.size)
    have zz4 := hb4.size
    have HA_4 := Hv.below (by exact HA_3) hb4
    have X_4 := Blk3.below (by exact X_3) hb4
    obtain ⟨cX_4_0, cX_4_1, cX_4_2, _⟩ := X_4.cells
    have lX_4 := X_4.lt
    go_wp2_with fail
    refine (P2 _ _ (HA_4.alloc (.cells #[.slice B0 nB0 cB0, .slice B1 nB1 cB1, .slice B2 nB2 cB2] 25))).mono ?_; rintro e w5 ⟨v, rfl, HY, hb5⟩
    simp only [Option.isSome_some, Option.getD_some] at HY ⊢
    have HYo := HY
    obtain ⟨C0, nC0, cC0, C1, nC1, cC1, C2, nC2, cC2, rfl, _⟩ := HYo.open_
    have BW5 : Below w.heap.size w w5 := (BW4.alloc BW4.size (.cells #[.slice B0 nB0 cB0, .slice B1 nB1 cB1, .slice B2 nB2 cB2] 25)).trans (hb5.mono (BW4.alloc BW4.size (.cells #[.slice B0 nB0 cB0, .slice B1 nB1 cB1, .slice B2 nB2 cB2] 25)).size)
    have zz5 := hb5.size
    have HA_5 := Hv.below (by exact (HA_4.alloc (.cells #[.slice B0 nB0 cB0, .slice B1 nB1 cB1, .slice B2 nB2 cB2] 25))) hb5
    have X_5 := Blk3.below (by exact (X_4.alloc (.cells #[.slice B0 nB0 cB0, .slice B1 nB1 cB1, .slice B2 nB2 cB2] 25))) hb5
    obtain ⟨cX_5_0, cX_5_1, cX_5_2, _⟩ := X_5.cells
    have lX_5 := X_5.lt
    have HX_5 := Hv.below (by exact (HX.alloc (.cells #[.slice B0 nB0 cB0, .slice B1 nB1 cB1, .slice B2 nB2 cB2] 25))) hb5
    have P_5 := Blk3.below (by exact (Blk3.new w4 (.slice B0 nB0 cB0) (.slice B1 nB1 cB1) (.slice B2 nB2 cB2) 25)) hb5
    obtain ⟨cP_5_0, cP_5_1, cP_5_2, _⟩ := P_5.cells
    have lP_5 := P_5.lt
    have P3 := fun W lo v (hW : Hv W lo v h2) => implPutRight_any W lo v _ hW x (-1)
    rw [e3] at P3
    go_wp2_with fail
    refine (P3 _ _ _ (HY.alloc (.cells #[.slice C0 nC0 cC0, .slice C1 nC1 cC1, .slice C2 nC2 cC2] 25))).mono ?_; rintro e w6 ⟨v, rfl, HZ, hb6⟩
    simp only [Option.isSome_some, Option.getD_some] at HZ ⊢
    have HZo := HZ
    obtain ⟨D0, nD0, cD0, D1, nD1, cD1, D2, nD2, cD2, rfl, _⟩ := HZo.open_
    have BW6 : Below w.heap.size w w6 := (BW5.alloc BW5.size (.cells #[.slice C0 nC0 cC0, .slice C1 nC1 cC1, .slice C2 nC2 cC2] 25)).trans (hb6.mono (BW5.alloc BW5.size (.cells #[.slice C0 nC0 cC0, .slice C1 nC1 cC1, .slice C2 nC2 cC2] 25)).size)
    have zz6 := hb6.size
    have HA_6 := Hv.below (by exact (HA_5.alloc (.cells #[.slice C0 nC0 cC0, .slice C1 nC1 cC1, .slice C2 nC2 cC2] 25))) hb6
    have X_6 := Blk3.below (by exact (X_5.alloc (.cells #[.slice C0 nC0 cC0, .slice C1 nC1 cC1, .slice C2 nC2 cC2] 25))) hb6
    obtain ⟨cX_6_0, cX_6_1, cX_6_2, _⟩ := X_6.cells
    have lX_6 := X_6.lt
    have HX_6 := Hv.below (by exact (HX_5.alloc (.cells #[.slice C0 nC0 cC0, .slice C1 nC1 cC1, .slice C2 nC2 cC2] 25))) hb6
    have P_6 := Blk3.below (by exact (P_5.alloc (.cells #[.slice C0 nC0 cC0, .slice C1 nC1 cC1, .slice C2 nC2 cC2] 25))) hb6
    obtain ⟨cP_6_0, cP_6_1, cP_6_2, _⟩ := P_6.cells
    have lP_6 := P_6.lt
    have HY_6 := Hv.below (by exact (HY.alloc (.cells #[.slice C0 nC0 cC0, .slice C1 nC1 cC1, .slice C2 nC2 cC2] 25))) hb6
    have Q_6 := Blk3.below (by exact (Blk3.new w5 (.slice C0 nC0 cC0) (.slice C1 nC1 cC1) (.slice C2 nC2 cC2) 25)) hb6
    obtain ⟨cQ_6_0, cQ_6_1, cQ_6_2, _⟩ := Q_6.cells
    have lQ_6 := Q_6.lt
    have C1 := fun W lo v (hW : Hv W lo v h1) => implCyc_any W lo v h1 hW x
    rw [q1] at C1
    have C3 := fun W lo v (hW : Hv W lo v h3) => implCyc_any W lo v h3 hW x
    rw [q3] at C3
    clear e1 e2 e3 q1 q3 P1 P2 P3 I S
    go_wp2_with fail
    refine (C1 _ _ _ (HX_6.alloc (.cells #[.slice D0 nD0 cD0, .slice D1 nD1 cD1, .slice D2 nD2 cD2] 25))).mono ?_; rintro e w7 ⟨rfl, hb7⟩
    have BW7 : Below w.heap.size w w7 := (BW6.alloc BW6.size (.cells #[.slice D0 nD0 cD0, .slice D1 nD1 cD1, .slice D2 nD2 cD2] 25)).trans (hb7.mono (BW6.alloc BW6.size (.cells #[.slice D0 nD0 cD0, .slice D1 nD1 cD1, .slice D2 nD2 cD2] 25)).size)
    have zz7 := hb7.size
    have HA_7 := Hv.below (by exact (HA_6.alloc (.cells #[.slice D0 nD0 cD0, .slice D1 nD1 cD1, .slice D2 nD2 cD2] 25))) hb7
    have X_7 := Blk3.below (by exact (X_6.alloc (.cells #[.slice D0 nD0 cD0, .slice D1 nD1 cD1, .slice D2 nD2 cD2] 25))) hb7
    obtain ⟨cX_7_0, cX_7_1, cX_7_2, _⟩ := X_7.cells
    have lX_7 := X_7.lt
    have HX_7 := Hv.below (by exact (HX_6.alloc (.cells #[.slice D0 nD0 cD0, .slice D1 nD1 cD1, .slice D2 nD2 cD2] 25))) hb7
    have P_7 := Blk3.below (by exact (P_6.alloc (.cells #[.slice D0 nD0 cD0, .slice D1 nD1 cD1, .slice D2 nD2 cD2] 25))) hb7
    obtain ⟨cP_7_0, cP_7_1, cP_7_2, _⟩ := P_7.cells
    have lP_7 := P_7.lt
    have HY_7 := Hv.below (by exact (HY_6.alloc (.cells #[.slice D0 nD0 cD0, .slice D1 nD1 cD1, .slice D2 nD2 cD2] 25))) hb7
    have Q_7 := Blk3.below (by exact (Q_6.alloc (.cells #[.slice D0 nD0 cD0, .slice D1 nD1 cD1, .slice D2 nD2 cD2] 25))) hb7
    obtain ⟨cQ_7_0, cQ_7_1, cQ_7_2, _⟩ := Q_7.cells
    have lQ_7 := Q_7.lt
    have HZ_7 := Hv.below (by exact (HZ.alloc (.cells #[.slice D0 nD0 cD0, .slice D1 nD1 cD1, .slice D2 nD2 cD2] 25))) hb7
    have Z_7 := Blk3.below (by exact (Blk3.new w6 (.slice D0 nD0 cD0) (.slice D1 nD1 cD1) (.slice D2 nD2 cD2) 25)) hb7
    obtain ⟨cZ_7_0, cZ_7_1, cZ_7_2, _⟩ := Z_7.cells
    have lZ_7 := Z_7.lt
    go_wp2_with fail
    refine (C3 _ _ _ HZ_7).mono ?_; rintro e w8 ⟨rfl, hb8⟩
    have BW8 : Below w.heap.size w w8 := BW7.trans (hb8.mono BW7.size)
    have zz8 := hb8.size
    have HA_8 := Hv.below (by exact HA_7) hb8
    have X_8 := Blk3.below (by exact X_7) hb8
    obtain ⟨cX_8_0, cX_8_1, cX_8_2, _⟩ := X_8.cells
    have lX_8 := X_8.lt
    have HX_8 := Hv.below (by exact HX_7) hb8
    have P_8 := Blk3.below (by exact P_7) hb8
    obtain ⟨cP_8_0, cP_8_1, cP_8_2, _⟩ := P_8.cells
    have lP_8 := P_8.lt
    have HY_8 := Hv.below (by exact HY_7) hb8
    have Q_8 := Blk3.below (by exact Q_7) hb8
    obtain ⟨cQ_8_0, cQ_8_1, cQ_8_2, _⟩ := Q_8.cells
    have lQ_8 := Q_8.lt
    have HZ_8 := Hv.below (by exact HZ_7) hb8
    have Z_8 := Blk3.below (by exact Z_7) hb8
    obtain ⟨cZ_8_0, cZ_8_1, cZ_8_2, _⟩ := Z_8.cells
    have lZ_8 := Z_8.lt
    go_wp2_with fail
    go_ret
    exact ⟨by simp, BW8⟩
end Go.Proofs.Ythagchhegljphaa
