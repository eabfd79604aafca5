/- The law FnAllocLeak, walked. -/
import Derived.Test.YtmpcgegbfbkmnaaCaseA
import Derived.Test.YtmpcgegbfbkmnaaLawSs
import Derived.Test.YtmpcgegbfbkmnaaWLaw
import Derived.Test.YtmpcgegbfbkmnaaIAlloc
import Derived.Test.YtmpcgegbfbkmnaaIFree
import Derived.Test.YtmpcgegbfbkmnaaPut
namespace Go.Proofs.Ytmpcgegbfbkmnaa
open Go.RowKit

set_option maxRecDepth 100000 in
set_option maxHeartbeats 4000000 in
theorem lawAllocLeak_walk (w : World) (A : Option Addr) (n c : Nat) (h : Inp w A n c) :
    Calls Try.prog 9 #[.slice A n c] w (LawTrue w) := by
  by_cases hbig : 1048576 < n
  · go_enter Try.func9, Try.ntmps9
    go_wp2_with fail
    go_ret
    exact ⟨rfl, Below.refl _ _⟩
  go_enter Try.func9, Try.ntmps9
  go_wp2_with fail
  refine (drawAllocCell_any _ _ _ _ h).mono ?_; rintro e w1 ⟨v, C, x, rfl, HA, hb1⟩
  have BW1 : Below w.heap.size w w1 := (Below.refl w.heap.size w).trans (hb1.mono (Below.refl w.heap.size w).size)
  have zz1 : w.heap.size ≤ w1.heap.size := hb1.size
  have HAo := HA
  obtain ⟨A0, n0, c0, A1, n1, c1, A2, n2, c2, A3, n3, c3, rfl, hh, ⟨r0, r1, r2, r3⟩, ⟨l0, l1, l2, l3⟩, ⟨mm0, mm1, mm2, mm3⟩, _⟩ := HAo.open_
  have I := fun W lo v hW => implAllocCell_any W lo v C hW x
  have S := fun W lo v hW => specAllocCell_any W lo v C hW x
  rcases eA : allocB C x
  · rw [eA, allocC_not eA, allocX_not eA] at I S
    go_wp2_with fail
    refine (I _ _ _ (HA.alloc (.cells #[.slice A0 n0 c0, .slice A1 n1 c1, .slice A2 n2 c2, .slice A3 n3 c3] 27))).mono ?_; rintro e w2 ⟨v, rfl, HB, hb2⟩
    have HBb := HB
    obtain ⟨B0, k0, d0, B1, k1, d1, B2, k2, d2, B3, k3, d3, rfl, _, ⟨_, _, _, br3⟩, ⟨_, _, _, bl3⟩, _⟩ := HBb.open_
    have BW2 : Below w.heap.size w w2 := (BW1.alloc BW1.size (.cells #[.slice A0 n0 c0, .slice A1 n1 c1, .slice A2 n2 c2, .slice A3 n3 c3] 27)).trans (hb2.mono (BW1.alloc BW1.size (.cells #[.slice A0 n0 c0, .slice A1 n1 c1, .slice A2 n2 c2, .slice A3 n3 c3] 27)).size)
    have zz2 : w1.heap.size + 1 ≤ w2.heap.size := by have := hb2.size; simp at this; omega
    have HA_2 := Cv.below (by exact (HA.alloc (.cells #[.slice A0 n0 c0, .slice A1 n1 c1, .slice A2 n2 c2, .slice A3 n3 c3] 27))) hb2
    have X_2 := Blk4.below (by exact (Blk4.new w1 (.slice A0 n0 c0) (.slice A1 n1 c1) (.slice A2 n2 c2) (.slice A3 n3 c3) 27)) hb2
    obtain ⟨cX_2_0, cX_2_1, cX_2_2, cX_2_3, _⟩ := X_2.cells
    have lX_2 := X_2.lt
    go_wp2_with fail
    refine (S _ _ _ (HA_2.alloc (.cells #[.slice B0 k0 d0, .slice B1 k1 d1, .slice B2 k2 d2, .slice B3 k3 d3] 27))).mono ?_; rintro e w3 ⟨v, rfl, HC, hb3⟩
    have HCb := HC
    obtain ⟨K0, m0, e0, K1, m1, e1, K2, m2, e2, K3, m3, e3, rfl, _⟩ := HCb.open_
    have BW3 : Below w.heap.size w w3 := (BW2.alloc BW2.size (.cells #[.slice B0 k0 d0, .slice B1 k1 d1, .slice B2 k2 d2, .slice B3 k3 d3] 27)).trans (hb3.mono (BW2.alloc BW2.size (.cells #[.slice B0 k0 d0, .slice B1 k1 d1, .slice B2 k2 d2, .slice B3 k3 d3] 27)).size)
    have zz3 : w2.heap.size + 1 ≤ w3.heap.size := by have := hb3.size; simp at this; omega
    have HA_3 := Cv.below (by exact (HA_2.alloc (.cells #[.slice B0 k0 d0, .slice B1 k1 d1, .slice B2 k2 d2, .slice B3 k3 d3] 27))) hb3
    have X_3 := Blk4.below (by exact (X_2.alloc (.cells #[.slice B0 k0 d0, .slice B1 k1 d1, .slice B2 k2 d2, .slice B3 k3 d3] 27))) hb3
    obtain ⟨cX_3_0, cX_3_1, cX_3_2, cX_3_3, _⟩ := X_3.cells
    have lX_3 := X_3.lt
    have HB_3 := Cv.below (by exact (HB.alloc (.cells #[.slice B0 k0 d0, .slice B1 k1 d1, .slice B2 k2 d2, .slice B3 k3 d3] 27))) hb3
    have P_3 := Blk4.below (by exact (Blk4.new w2 (.slice B0 k0 d0) (.slice B1 k1 d1) (.slice B2 k2 d2) (.slice B3 k3 d3) 27)) hb3
    obtain ⟨cP_3_0, cP_3_1, cP_3_2, cP_3_3, _⟩ := P_3.cells
    have lP_3 := P_3.lt
    have E1 := implStoreSame_any _ _ _ _ _ _ _ (HB_3.alloc (.cells #[.slice K0 m0 e0, .slice K1 m1 e1, .slice K2 m2 e2, .slice K3 m3 e3] 27)) (HC.alloc (.cells #[.slice K0 m0 e0, .slice K1 m1 e1, .slice K2 m2 e2, .slice K3 m3 e3] 27))
    rw [sameC_self] at E1
    go_wp2_with fail
    refine (E1).mono ?_; rintro e w4 ⟨rfl, hb4⟩
    have BW4 : Below w.heap.size w w4 := (BW3.alloc BW3.size (.cells #[.slice K0 m0 e0, .slice K1 m1 e1, .slice K2 m2 e2, .slice K3 m3 e3] 27)).trans (hb4.mono (BW3.alloc BW3.size (.cells #[.slice K0 m0 e0, .slice K1 m1 e1, .slice K2 m2 e2, .slice K3 m3 e3] 27)).size)
    have zz4 : w3.heap.size + 1 ≤ w4.heap.size := by have := hb4.size; simp at this; omega
    have HA_4 := Cv.below (by exact (HA_3.alloc (.cells #[.slice K0 m0 e0, .slice K1 m1 e1, .slice K2 m2 e2, .slice K3 m3 e3] 27))) hb4
    have X_4 := Blk4.below (by exact (X_3.alloc (.cells #[.slice K0 m0 e0, .slice K1 m1 e1, .slice K2 m2 e2, .slice K3 m3 e3] 27))) hb4
    obtain ⟨cX_4_0, cX_4_1, cX_4_2, cX_4_3, _⟩ := X_4.cells
    have lX_4 := X_4.lt
    have HB_4 := Cv.below (by exact (HB_3.alloc (.cells #[.slice K0 m0 e0, .slice K1 m1 e1, .slice K2 m2 e2, .slice K3 m3 e3] 27))) hb4
    have P_4 := Blk4.below (by exact (P_3.alloc (.cells #[.slice K0 m0 e0, .slice K1 m1 e1, .slice K2 m2 e2, .slice K3 m3 e3] 27))) hb4
    obtain ⟨cP_4_0, cP_4_1, cP_4_2, cP_4_3, _⟩ := P_4.cells
    have lP_4 := P_4.lt
    have HC_4 := Cv.below (by exact (HC.alloc (.cells #[.slice K0 m0 e0, .slice K1 m1 e1, .slice K2 m2 e2, .slice K3 m3 e3] 27))) hb4
    have Q_4 := Blk4.below (by exact (Blk4.new w3 (.slice K0 m0 e0) (.slice K1 m1 e1) (.slice K2 m2 e2) (.slice K3 m3 e3) 27)) hb4
    obtain ⟨cQ_4_0, cQ_4_1, cQ_4_2, cQ_4_3, _⟩ := Q_4.cells
    have lQ_4 := Q_4.lt
    have E2 := implStoreSame_any _ _ _ _ _ _ _ HB_4 HC_4
    rw [sameC_self] at E2
    go_wp2_with fail
    refine (E2).mono ?_; rintro e w5 ⟨rfl, hb5⟩
    have BW5 : Below w.heap.size w w5 := BW4.trans (hb5.mono BW4.size)
    have zz5 : w4.heap.size ≤ w5.heap.size := hb5.size
    have HA_5 := Cv.below (by exact HA_4) hb5
    have X_5 := Blk4.below (by exact X_4) hb5
    obtain ⟨cX_5_0, cX_5_1, cX_5_2, cX_5_3, _⟩ := X_5.cells
    have lX_5 := X_5.lt
    have HB_5 := Cv.below (by exact HB_4) hb5
    have P_5 := Blk4.below (by exact P_4) hb5
    obtain ⟨cP_5_0, cP_5_1, cP_5_2, cP_5_3, _⟩ := P_5.cells
    have lP_5 := P_5.lt
    have HC_5 := Cv.below (by exact HC_4) hb5
    have Q_5 := Blk4.below (by exact Q_4) hb5
    obtain ⟨cQ_5_0, cQ_5_1, cQ_5_2, cQ_5_3, _⟩ := Q_5.cells
    have lQ_5 := Q_5.lt
    go_wp2_with fail
    go_ret
    exact ⟨rfl, BW5⟩
  · obtain ⟨j, rfl⟩ := alloc_nat eA
    obtain ⟨y, tl, ec, eX, eC, hC, hj, hy, hnd⟩ := alloc_parts eA
    have hX := alloc_valid eA
    rw [eA, eX] at I S
    have hyy : (y != y) = false := by simp
    have hyz : (y == y) = true := by simp
    obtain ⟨p1, p2, p3⟩ := forget_parts eA ec
    have PT := fun W lo v hW => implPutRoot_any W lo v (allocC C (j : Int)).h hW (j : Int) (-1)
    rw [p1] at PT
    have hXc : (allocC C (j : Int)).c = tl := by rw [eC]
    have FC := fun W lo v hW => implFree_any W lo v ⟨⟨C.h.l, C.h.r, C.h.t.set j (-1)⟩, tl⟩ hW y
    rw [freeO_of p3] at FC
    have VY := fun W lo v hW => implStoreValid_any W lo v ⟨⟨C.h.l, C.h.r, C.h.t.set j (-1)⟩, tl⟩ hW
    rw [p2] at VY
    obtain ⟨g1, _, _, g4⟩ := free_one p3
    have hZl : (clearC ⟨⟨C.h.l, C.h.r, C.h.t.set j (-1)⟩, tl⟩ [y]).c.length = n3 := by
      show (tl ++ [y]).length = n3
      have h9 := l3.out
      rw [ec] at h9
      simpa using h9
    have FZ := fun W lo v hW => implIsFree_any W lo v (clearC ⟨⟨C.h.l, C.h.r, C.h.t.set j (-1)⟩, tl⟩ [y]) hW y
    rw [isFree_in g1 g4] at FZ
    generalize clearC ⟨⟨C.h.l, C.h.r, C.h.t.set j (-1)⟩, tl⟩ [y] = Z at FC FZ hZl
    generalize (⟨C.h.l, C.h.r, C.h.t.set j (-1)⟩ : Hp) = H at PT FC VY
    generalize allocC C (j : Int) = X at I S PT hXc
    subst hXc
    clear p1 p2 p3 g1 g4 eC hX eX eA hy hnd
    go_wp2_with fail
    refine (I _ _ _ (HA.alloc (.cells #[.slice A0 n0 c0, .slice A1 n1 c1, .slice A2 n2 c2, .slice A3 n3 c3] 27))).mono ?_; rintro e w2 ⟨v, rfl, HB, hb2⟩
    have HBb := HB
    obtain ⟨B0, k0, d0, B1, k1, d1, B2, k2, d2, B3, k3, d3, rfl, _, ⟨_, _, _, br3⟩, ⟨_, _, _, bl3⟩, _⟩ := HBb.open_
    have BW2 : Below w.heap.size w w2 := (BW1.alloc BW1.size (.cells #[.slice A0 n0 c0, .slice A1 n1 c1, .slice A2 n2 c2, .slice A3 n3 c3] 27)).trans (hb2.mono (BW1.alloc BW1.size (.cells #[.slice A0 n0 c0, .slice A1 n1 c1, .slice A2 n2 c2, .slice A3 n3 c3] 27)).size)
    have zz2 : w1.heap.size + 1 ≤ w2.heap.size := by have := hb2.size; simp at this; omega
    have HA_2 := Cv.below (by exact (HA.alloc (.cells #[.slice A0 n0 c0, .slice A1 n1 c1, .slice A2 n2 c2, .slice A3 n3 c3] 27))) hb2
    have X_2 := Blk4.below (by exact (Blk4.new w1 (.slice A0 n0 c0) (.slice A1 n1 c1) (.slice A2 n2 c2) (.slice A3 n3 c3) 27)) hb2
    obtain ⟨cX_2_0, cX_2_1, cX_2_2, cX_2_3, _⟩ := X_2.cells
    have lX_2 := X_2.lt
    go_wp2_with fail
    refine (S _ _ _ (HA_2.alloc (.cells #[.slice B0 k0 d0, .slice B1 k1 d1, .slice B2 k2 d2, .slice B3 k3 d3] 27))).mono ?_; rintro e w3 ⟨v, rfl, HC, hb3⟩
    have HCb := HC
    obtain ⟨K0, m0, e0, K1, m1, e1, K2, m2, e2, K3, m3, e3, rfl, _⟩ := HCb.open_
    have BW3 : Below w.heap.size w w3 := (BW2.alloc BW2.size (.cells #[.slice B0 k0 d0, .slice B1 k1 d1, .slice B2 k2 d2, .slice B3 k3 d3] 27)).trans (hb3.mono (BW2.alloc BW2.size (.cells #[.slice B0 k0 d0, .slice B1 k1 d1, .slice B2 k2 d2, .slice B3 k3 d3] 27)).size)
    have zz3 : w2.heap.size + 1 ≤ w3.heap.size := by have := hb3.size; simp at this; omega
    have HA_3 := Cv.below (by exact (HA_2.alloc (.cells #[.slice B0 k0 d0, .slice B1 k1 d1, .slice B2 k2 d2, .slice B3 k3 d3] 27))) hb3
    have X_3 := Blk4.below (by exact (X_2.alloc (.cells #[.slice B0 k0 d0, .slice B1 k1 d1, .slice B2 k2 d2, .slice B3 k3 d3] 27))) hb3
    obtain ⟨cX_3_0, cX_3_1, cX_3_2, cX_3_3, _⟩ := X_3.cells
    have lX_3 := X_3.lt
    have HB_3 := Cv.below (by exact (HB.alloc (.cells #[.slice B0 k0 d0, .slice B1 k1 d1, .slice B2 k2 d2, .slice B3 k3 d3] 27))) hb3
    have P_3 := Blk4.below (by exact (Blk4.new w2 (.slice B0 k0 d0) (.slice B1 k1 d1) (.slice B2 k2 d2) (.slice B3 k3 d3) 27)) hb3
    obtain ⟨cP_3_0, cP_3_1, cP_3_2, cP_3_3, _⟩ := P_3.cells
    have lP_3 := P_3.lt
    have E1 := implStoreSame_any _ _ _ _ _ _ _ (HB_3.alloc (.cells #[.slice K0 m0 e0, .slice K1 m1 e1, .slice K2 m2 e2, .slice K3 m3 e3] 27)) (HC.alloc (.cells #[.slice K0 m0 e0, .slice K1 m1 e1, .slice K2 m2 e2, .slice K3 m3 e3] 27))
    rw [sameC_self] at E1
    go_wp2_with fail
    refine (E1).mono ?_; rintro e w4 ⟨rfl, hb4⟩
    have BW4 : Below w.heap.size w w4 := (BW3.alloc BW3.size (.cells #[.slice K0 m0 e0, .slice K1 m1 e1, .slice K2 m2 e2, .slice K3 m3 e3] 27)).trans (hb4.mono (BW3.alloc BW3.size (.cells #[.slice K0 m0 e0, .slice K1 m1 e1, .slice K2 m2 e2, .slice K3 m3 e3] 27)).size)
    have zz4 : w3.heap.size + 1 ≤ w4.heap.size := by have := hb4.size; simp at this; omega
    have HA_4 := Cv.below (by exact (HA_3.alloc (.cells #[.slice K0 m0 e0, .slice K1 m1 e1, .slice K2 m2 e2, .slice K3 m3 e3] 27))) hb4
    have X_4 := Blk4.below (by exact (X_3.alloc (.cells #[.slice K0 m0 e0, .slice K1 m1 e1, .slice K2 m2 e2, .slice K3 m3 e3] 27))) hb4
    obtain ⟨cX_4_0, cX_4_1, cX_4_2, cX_4_3, _⟩ := X_4.cells
    have lX_4 := X_4.lt
    have HB_4 := Cv.below (by exact (HB_3.alloc (.cells #[.slice K0 m0 e0, .slice K1 m1 e1, .slice K2 m2 e2, .slice K3 m3 e3] 27))) hb4
    have P_4 := Blk4.below (by exact (P_3.alloc (.cells #[.slice K0 m0 e0, .slice K1 m1 e1, .slice K2 m2 e2, .slice K3 m3 e3] 27))) hb4
    obtain ⟨cP_4_0, cP_4_1, cP_4_2, cP_4_3, _⟩ := P_4.cells
    have lP_4 := P_4.lt
    have HC_4 := Cv.below (by exact (HC.alloc (.cells #[.slice K0 m0 e0, .slice K1 m1 e1, .slice K2 m2 e2, .slice K3 m3 e3] 27))) hb4
    have Q_4 := Blk4.below (by exact (Blk4.new w3 (.slice K0 m0 e0) (.slice K1 m1 e1) (.slice K2 m2 e2) (.slice K3 m3 e3) 27)) hb4
    obtain ⟨cQ_4_0, cQ_4_1, cQ_4_2, cQ_4_3, _⟩ := Q_4.cells
    have lQ_4 := Q_4.lt
    have HH9 := (HB_4).hvS
    go_wp2_with fail
    refine (PT _ _ _ HH9).mono ?_; rintro e w5 ⟨v, rfl, HP, hb5⟩
    simp only [Option.isSome_some, Option.getD_some] at HP ⊢
    have HPb := HP
    obtain ⟨G0, q0, g0, G1, q1, g1, G2, q2, g2, rfl, _⟩ := HPb.open_
    have apP := (HB_4).rowsS.2.2.2
    have hbo := hb5
    have BW5 : Below w.heap.size w w5 := BW4.trans (hb5.mono BW4.size)
    have zz5 : w4.heap.size ≤ w5.heap.size := hb5.size
    have HA_5 := Cv.below (by exact HA_4) hb5
    have X_5 := Blk4.below (by exact X_4) hb5
    obtain ⟨cX_5_0, cX_5_1, cX_5_2, cX_5_3, _⟩ := X_5.cells
    have lX_5 := X_5.lt
    have HB_5 := Cv.below (by exact HB_4) hb5
    have P_5 := Blk4.below (by exact P_4) hb5
    obtain ⟨cP_5_0, cP_5_1, cP_5_2, cP_5_3, _⟩ := P_5.cells
    have lP_5 := P_5.lt
    have HC_5 := Cv.below (by exact HC_4) hb5
    have Q_5 := Blk4.below (by exact Q_4) hb5
    obtain ⟨cQ_5_0, cQ_5_1, cQ_5_2, cQ_5_3, _⟩ := Q_5.cells
    have lQ_5 := Q_5.lt
    have rF := (HB_5).rowsS.2.2.2
    have HY : Cv w5 0 (.agg #[.slice G0 q0 g0, .slice G1 q1 g1, .slice G2 q2 g2, .slice B3 k3 d3]) ⟨H, X.c⟩ := cv_join (HP.mono (Nat.zero_le _)) (rF.mono (Nat.zero_le _)) HP apP
    clear apP hbo rF
    have HA_6s := (HA_5.alloc (.cells #[.slice G0 q0 g0, .slice G1 q1 g1, .slice G2 q2 g2] 25))
    have X_6s := (X_5.alloc (.cells #[.slice G0 q0 g0, .slice G1 q1 g1, .slice G2 q2 g2] 25))
    obtain ⟨cX_6s_0, cX_6s_1, cX_6s_2, cX_6s_3, _⟩ := X_6s.cells
    have lX_6s := X_6s.lt
    have HB_6s := (HB_5.alloc (.cells #[.slice G0 q0 g0, .slice G1 q1 g1, .slice G2 q2 g2] 25))
    have P_6s := (P_5.alloc (.cells #[.slice G0 q0 g0, .slice G1 q1 g1, .slice G2 q2 g2] 25))
    obtain ⟨cP_6s_0, cP_6s_1, cP_6s_2, cP_6s_3, _⟩ := P_6s.cells
    have lP_6s := P_6s.lt
    have HC_6s := (HC_5.alloc (.cells #[.slice G0 q0 g0, .slice G1 q1 g1, .slice G2 q2 g2] 25))
    have Q_6s := (Q_5.alloc (.cells #[.slice G0 q0 g0, .slice G1 q1 g1, .slice G2 q2 g2] 25))
    obtain ⟨cQ_6s_0, cQ_6s_1, cQ_6s_2, cQ_6s_3, _⟩ := Q_6s.cells
    have lQ_6s := Q_6s.lt
    have PH_6s := (Blk3.new w5 (.slice G0 q0 g0) (.slice G1 q1 g1) (.slice G2 q2 g2) 25)
    obtain ⟨cPH_6s_0, cPH_6s_1, cPH_6s_2, _⟩ := PH_6s.cells
    have lPH_6s := PH_6s.lt
    have HY_6s := (HY.alloc (.cells #[.slice G0 q0 g0, .slice G1 q1 g1, .slice G2 q2 g2] 25))
    have BW6 := (BW5.alloc BW5.size (.cells #[.slice G0 q0 g0, .slice G1 q1 g1, .slice G2 q2 g2] 25))
    go_wp2_with fail
    refine (FC _ _ _ (HY_6s.alloc (.cells #[.slice G0 q0 g0, .slice G1 q1 g1, .slice G2 q2 g2, .slice B3 k3 d3] 27))).mono ?_; rintro e w6 ⟨v, rfl, HZ, hb6⟩
    simp only [Option.isSome_some, Option.getD_some] at HZ ⊢
    have HZb := HZ
    obtain ⟨Vv0, tv0, gv0, Vv1, tv1, gv1, Vv2, tv2, gv2, Vv3, tv3, gv3, rfl, _⟩ := HZb.open_
    have BW7 : Below w.heap.size w w6 := (BW6.alloc BW6.size (.cells #[.slice G0 q0 g0, .slice G1 q1 g1, .slice G2 q2 g2, .slice B3 k3 d3] 27)).trans (hb6.mono (BW6.alloc BW6.size (.cells #[.slice G0 q0 g0, .slice G1 q1 g1, .slice G2 q2 g2, .slice B3 k3 d3] 27)).size)
    have zz7 : w5.heap.size + 2 ≤ w6.heap.size := by have := hb6.size; simp at this; omega
    have HA_7 := Cv.below (by exact (HA_6s.alloc (.cells #[.slice G0 q0 g0, .slice G1 q1 g1, .slice G2 q2 g2, .slice B3 k3 d3] 27))) hb6
    have X_7 := Blk4.below (by exact (X_6s.alloc (.cells #[.slice G0 q0 g0, .slice G1 q1 g1, .slice G2 q2 g2, .slice B3 k3 d3] 27))) hb6
    obtain ⟨cX_7_0, cX_7_1, cX_7_2, cX_7_3, _⟩ := X_7.cells
    have lX_7 := X_7.lt
    have HB_7 := Cv.below (by exact (HB_6s.alloc (.cells #[.slice G0 q0 g0, .slice G1 q1 g1, .slice G2 q2 g2, .slice B3 k3 d3] 27))) hb6
    have P_7 := Blk4.below (by exact (P_6s.alloc (.cells #[.slice G0 q0 g0, .slice G1 q1 g1, .slice G2 q2 g2, .slice B3 k3 d3] 27))) hb6
    obtain ⟨cP_7_0, cP_7_1, cP_7_2, cP_7_3, _⟩ := P_7.cells
    have lP_7 := P_7.lt
    have HC_7 := Cv.below (by exact (HC_6s.alloc (.cells #[.slice G0 q0 g0, .slice G1 q1 g1, .slice G2 q2 g2, .slice B3 k3 d3] 27))) hb6
    have Q_7 := Blk4.below (by exact (Q_6s.alloc (.cells #[.slice G0 q0 g0, .slice G1 q1 g1, .slice G2 q2 g2, .slice B3 k3 d3] 27))) hb6
    obtain ⟨cQ_7_0, cQ_7_1, cQ_7_2, cQ_7_3, _⟩ := Q_7.cells
    have lQ_7 := Q_7.lt
    have PH_7 := Blk3.below (by exact (PH_6s.alloc (.cells #[.slice G0 q0 g0, .slice G1 q1 g1, .slice G2 q2 g2, .slice B3 k3 d3] 27))) hb6
    obtain ⟨cPH_7_0, cPH_7_1, cPH_7_2, _⟩ := PH_7.cells
    have lPH_7 := PH_7.lt
    have HY_7 := Cv.below (by exact (HY_6s.alloc (.cells #[.slice G0 q0 g0, .slice G1 q1 g1, .slice G2 q2 g2, .slice B3 k3 d3] 27))) hb6
    have RY_7 := Blk4.below (by exact (Blk4.new_at (w := w5.alloc (.cells #[.slice G0 q0 g0, .slice G1 q1 g1, .slice G2 q2 g2] 25)) (b := w5.heap.size + 1) (by simp) (.slice G0 q0 g0) (.slice G1 q1 g1) (.slice G2 q2 g2) (.slice B3 k3 d3) 27)) hb6
    obtain ⟨cRY_7_0, cRY_7_1, cRY_7_2, cRY_7_3, _⟩ := RY_7.cells
    have lRY_7 := RY_7.lt
    go_wp2_with fail
    refine (VY _ _ _ (HY_7.alloc (.cells #[.slice Vv0 tv0 gv0, .slice Vv1 tv1 gv1, .slice Vv2 tv2 gv2, .slice Vv3 tv3 gv3] 27))).mono ?_; rintro e w7 ⟨rfl, hb7⟩
    have BW8 : Below w.heap.size w w7 := (BW7.alloc BW7.size (.cells #[.slice Vv0 tv0 gv0, .slice Vv1 tv1 gv1, .slice Vv2 tv2 gv2, .slice Vv3 tv3 gv3] 27)).trans (hb7.mono (BW7.alloc BW7.size (.cells #[.slice Vv0 tv0 gv0, .slice Vv1 tv1 gv1, .slice Vv2 tv2 gv2, .slice Vv3 tv3 gv3] 27)).size)
    have zz8 : w6.heap.size + 1 ≤ w7.heap.size := by have := hb7.size; simp at this; omega
    have HA_8 := Cv.below (by exact (HA_7.alloc (.cells #[.slice Vv0 tv0 gv0, .slice Vv1 tv1 gv1, .slice Vv2 tv2 gv2, .slice Vv3 tv3 gv3] 27))) hb7
    have X_8 := Blk4.below (by exact (X_7.alloc (.cells #[.slice Vv0 tv0 gv0, .slice Vv1 tv1 gv1, .slice Vv2 tv2 gv2, .slice Vv3 tv3 gv3] 27))) hb7
    obtain ⟨cX_8_0, cX_8_1, cX_8_2, cX_8_3, _⟩ := X_8.cells
    have lX_8 := X_8.lt
    have HB_8 := Cv.below (by exact (HB_7.alloc (.cells #[.slice Vv0 tv0 gv0, .slice Vv1 tv1 gv1, .slice Vv2 tv2 gv2, .slice Vv3 tv3 gv3] 27))) hb7
    have P_8 := Blk4.below (by exact (P_7.alloc (.cells #[.slice Vv0 tv0 gv0, .slice Vv1 tv1 gv1, .slice Vv2 tv2 gv2, .slice Vv3 tv3 gv3] 27))) hb7
    obtain ⟨cP_8_0, cP_8_1, cP_8_2, cP_8_3, _⟩ := P_8.cells
    have lP_8 := P_8.lt
    have HC_8 := Cv.below (by exact (HC_7.alloc (.cells #[.slice Vv0 tv0 gv0, .slice Vv1 tv1 gv1, .slice Vv2 tv2 gv2, .slice Vv3 tv3 gv3] 27))) hb7
    have Q_8 := Blk4.below (by exact (Q_7.alloc (.cells #[.slice Vv0 tv0 gv0, .slice Vv1 tv1 gv1, .slice Vv2 tv2 gv2, .slice Vv3 tv3 gv3] 27))) hb7
    obtain ⟨cQ_8_0, cQ_8_1, cQ_8_2, cQ_8_3, _⟩ := Q_8.cells
    have lQ_8 := Q_8.lt
    have PH_8 := Blk3.below (by exact (PH_7.alloc (.cells #[.slice Vv0 tv0 gv0, .slice Vv1 tv1 gv1, .slice Vv2 tv2 gv2, .slice Vv3 tv3 gv3] 27))) hb7
    obtain ⟨cPH_8_0, cPH_8_1, cPH_8_2, _⟩ := PH_8.cells
    have lPH_8 := PH_8.lt
    have HY_8 := Cv.below (by exact (HY_7.alloc (.cells #[.slice Vv0 tv0 gv0, .slice Vv1 tv1 gv1, .slice Vv2 tv2 gv2, .slice Vv3 tv3 gv3] 27))) hb7
    have RY_8 := Blk4.below (by exact (RY_7.alloc (.cells #[.slice Vv0 tv0 gv0, .slice Vv1 tv1 gv1, .slice Vv2 tv2 gv2, .slice Vv3 tv3 gv3] 27))) hb7
    obtain ⟨cRY_8_0, cRY_8_1, cRY_8_2, cRY_8_3, _⟩ := RY_8.cells
    have lRY_8 := RY_8.lt
    have HZ_8 := Cv.below (by exact (HZ.alloc (.cells #[.slice Vv0 tv0 gv0, .slice Vv1 tv1 gv1, .slice Vv2 tv2 gv2, .slice Vv3 tv3 gv3] 27))) hb7
    have RZ_8 := Blk4.below (by exact (Blk4.new w6 (.slice Vv0 tv0 gv0) (.slice Vv1 tv1 gv1) (.slice Vv2 tv2 gv2) (.slice Vv3 tv3 gv3) 27)) hb7
    obtain ⟨cRZ_8_0, cRZ_8_1, cRZ_8_2, cRZ_8_3, _⟩ := RZ_8.cells
    have lRZ_8 := RZ_8.lt
    have rZ := (HZ_8).rowsS.2.2.2
    have lZ := lenS rZ
    have eL : tv3 = n3 := by omega
    subst eL
    clear hZl lZ rZ
    go_wp2_with fail
    refine (FZ _ _ _ HZ_8).mono ?_; rintro e w8 ⟨rfl, hb8⟩
    have BW9 : Below w.heap.size w w8 := BW8.trans (hb8.mono BW8.size)
    have zz9 : w7.heap.size ≤ w8.heap.size := hb8.size
    have HA_9 := Cv.below (by exact HA_8) hb8
    have X_9 := Blk4.below (by exact X_8) hb8
    obtain ⟨cX_9_0, cX_9_1, cX_9_2, cX_9_3, _⟩ := X_9.cells
    have lX_9 := X_9.lt
    have HB_9 := Cv.below (by exact HB_8) hb8
    have P_9 := Blk4.below (by exact P_8) hb8
    obtain ⟨cP_9_0, cP_9_1, cP_9_2, cP_9_3, _⟩ := P_9.cells
    have lP_9 := P_9.lt
    have HC_9 := Cv.below (by exact HC_8) hb8
    have Q_9 := Blk4.below (by exact Q_8) hb8
    obtain ⟨cQ_9_0, cQ_9_1, cQ_9_2, cQ_9_3, _⟩ := Q_9.cells
    have lQ_9 := Q_9.lt
    have PH_9 := Blk3.below (by exact PH_8) hb8
    obtain ⟨cPH_9_0, cPH_9_1, cPH_9_2, _⟩ := PH_9.cells
    have lPH_9 := PH_9.lt
    have HY_9 := Cv.below (by exact HY_8) hb8
    have RY_9 := Blk4.below (by exact RY_8) hb8
    obtain ⟨cRY_9_0, cRY_9_1, cRY_9_2, cRY_9_3, _⟩ := RY_9.cells
    have lRY_9 := RY_9.lt
    have HZ_9 := Cv.below (by exact HZ_8) hb8
    have RZ_9 := Blk4.below (by exact RZ_8) hb8
    obtain ⟨cRZ_9_0, cRZ_9_1, cRZ_9_2, cRZ_9_3, _⟩ := RZ_9.cells
    have lRZ_9 := RZ_9.lt
    go_wp2_with fail
    go_ret
    exact ⟨by simp, BW9⟩
end Go.Proofs.Ytmpcgegbfbkmnaa
