/- The law FnAllocCell, walked. -/
import Derived.Test.YtmpcgegbfbkmnaaCaseA
import Derived.Test.YtmpcgegbfbkmnaaLawSs
import Derived.Test.YtmpcgegbfbkmnaaWLaw
import Derived.Test.YtmpcgegbfbkmnaaIAlloc
import Derived.Test.YtmpcgegbfbkmnaaIStoL
import Derived.Test.YtmpcgegbfbkmnaaLives
import Derived.Test.YtmpcgegbfbkmnaaCcA
import Derived.Test.YtmpcgegbfbkmnaaLawR
namespace Go.Proofs.Ytmpcgegbfbkmnaa
open Go.RowKit

/-- What is taken is live. -/
theorem taken_facts {C : Cp} {j : Nat} (h : allocB C (j : Int) = true) {x : Int} {tl : List Int} (ec : C.c = x :: tl) : ∃ k : Nat, x = k ∧ k < C.h.l.length ∧ (allocC C (j : Int)).h.t[j]? = some (k : Int) ∧ j < (allocC C (j : Int)).h.t.length ∧ hvB (allocC C (j : Int)).h = true ∧ (liveL (allocC C (j : Int)).h)[k]? = some true ∧ (allocC C (j : Int)).h.l.length = C.h.l.length := by
  obtain ⟨x', tl', ec', _, eA, hC, hj, hx, _⟩ := alloc_parts h
  rw [ec] at ec'
  cases ec'
  have hX := alloc_valid h
  obtain ⟨hvX, _⟩ := stoB_parts hX
  obtain ⟨_, _, hf, _⟩ := stoB_parts hC
  obtain ⟨k, rfl, h1, _⟩ := freeB_parts (hf x (by rw [ec]; exact List.mem_cons_self ..))
  have ht : (allocC C (j : Int)).h.t[j]? = some (k : Int) := by rw [eA]; show (C.h.t.set j (k : Int))[j]? = _; rw [List.getElem?_set, if_pos rfl, if_pos hj]
  refine ⟨k, rfl, h1, ht, (List.getElem?_eq_some_iff.1 ht).1, hvX, live_root hvX (List.mem_of_getElem? ht), by rw [eA]⟩

set_option maxRecDepth 100000 in
set_option maxHeartbeats 4000000 in
theorem lawAllocCell_walk (w : World) (A : Option Addr) (n c : Nat) (h : Inp w A n c) :
    Calls Try.prog 4 #[.slice A n c] w (LawTrue w) := by
  by_cases hbig : 1048576 < n
  · go_enter Try.func4, Try.ntmps4
    go_wp2_with fail
    go_ret
    exact ⟨rfl, Below.refl _ _⟩
  go_enter Try.func4, Try.ntmps4
  go_wp2_with fail
  refine (drawAllocCell_any _ _ _ _ h).mono ?_; rintro e w1 ⟨v, C, x, rfl, HA, hb1⟩
  have BW1 : Below w.heap.size w w1 := (Below.refl w.heap.size w).trans (hb1.mono (Below.refl w.heap.size w).size)
  have zz1 : w.heap.size ≤ w1.heap.size := hb1.size
  have HAo := HA
  obtain ⟨A0, n0, c0, A1, n1, c1, A2, n2, c2, A3, n3, c3, rfl, hh, ⟨r0, r1, r2, r3⟩, ⟨l0, l1, l2, l3⟩, ⟨mm0, mm1, mm2, mm3⟩, _⟩ := HAo.open_
  have I := fun W lo v hW => implAllocCell_any W lo v C hW x
  have S := fun W lo v hW => specAllocCell_any W lo v C hW x
  rcases eA : allocB C x
  · rw [eA, allocC_not eA, allocX_not eA] at I S
    go_wp2_with fail
    refine (I _ _ _ (HA.alloc (.cells #[.slice A0 n0 c0, .slice A1 n1 c1, .slice A2 n2 c2, .slice A3 n3 c3] 27))).mono ?_; rintro e w2 ⟨v, rfl, HB, hb2⟩
    have HBb := HB
    obtain ⟨B0, k0, d0, B1, k1, d1, B2, k2, d2, B3, k3, d3, rfl, _, ⟨_, _, _, br3⟩, ⟨_, _, _, bl3⟩, _⟩ := HBb.open_
    have BW2 : Below w.heap.size w w2 := (BW1.alloc BW1.size (.cells #[.slice A0 n0 c0, .slice A1 n1 c1, .slice A2 n2 c2, .slice A3 n3 c3] 27)).trans (hb2.mono (BW1.alloc BW1.size (.cells #[.slice A0 n0 c0, .slice A1 n1 c1, .slice A2 n2 c2, .slice A3 n3 c3] 27)).size)
    have zz2 : w1.heap.size + 1 ≤ w2.heap.size := by have := hb2.size; simp at this; omega
    have HA_2 := Cv.below (by exact (HA.alloc (.cells #[.slice A0 n0 c0, .slice A1 n1 c1, .slice A2 n2 c2, .slice A3 n3 c3] 27))) hb2
    have X_2 := Blk4.below (by exact (Blk4.new w1 (.slice A0 n0 c0) (.slice A1 n1 c1) (.slice A2 n2 c2) (.slice A3 n3 c3) 27)) hb2
    obtain ⟨cX_2_0, cX_2_1, cX_2_2, cX_2_3, _⟩ := X_2.cells
    have lX_2 := X_2.lt
    go_wp2_with fail
    refine (S _ _ _ (HA_2.alloc (.cells #[.slice B0 k0 d0, .slice B1 k1 d1, .slice B2 k2 d2, .slice B3 k3 d3] 27))).mono ?_; rintro e w3 ⟨v, rfl, HC, hb3⟩
    have HCb := HC
    obtain ⟨K0, m0, e0, K1, m1, e1, K2, m2, e2, K3, m3, e3, rfl, _⟩ := HCb.open_
    have BW3 : Below w.heap.size w w3 := (BW2.alloc BW2.size (.cells #[.slice B0 k0 d0, .slice B1 k1 d1, .slice B2 k2 d2, .slice B3 k3 d3] 27)).trans (hb3.mono (BW2.alloc BW2.size (.cells #[.slice B0 k0 d0, .slice B1 k1 d1, .slice B2 k2 d2, .slice B3 k3 d3] 27)).size)
    have zz3 : w2.heap.size + 1 ≤ w3.heap.size := by have := hb3.size; simp at this; omega
    have HA_3 := Cv.below (by exact (HA_2.alloc (.cells #[.slice B0 k0 d0, .slice B1 k1 d1, .slice B2 k2 d2, .slice B3 k3 d3] 27))) hb3
    have X_3 := Blk4.below (by exact (X_2.alloc (.cells #[.slice B0 k0 d0, .slice B1 k1 d1, .slice B2 k2 d2, .slice B3 k3 d3] 27))) hb3
    obtain ⟨cX_3_0, cX_3_1, cX_3_2, cX_3_3, _⟩ := X_3.cells
    have lX_3 := X_3.lt
    have HB_3 := Cv.below (by exact (HB.alloc (.cells #[.slice B0 k0 d0, .slice B1 k1 d1, .slice B2 k2 d2, .slice B3 k3 d3] 27))) hb3
    have P_3 := Blk4.below (by exact (Blk4.new w2 (.slice B0 k0 d0) (.slice B1 k1 d1) (.slice B2 k2 d2) (.slice B3 k3 d3) 27)) hb3
    obtain ⟨cP_3_0, cP_3_1, cP_3_2, cP_3_3, _⟩ := P_3.cells
    have lP_3 := P_3.lt
    have E1 := implStoreSame_any _ _ _ _ _ _ _ (HB_3.alloc (.cells #[.slice K0 m0 e0, .slice K1 m1 e1, .slice K2 m2 e2, .slice K3 m3 e3] 27)) (HC.alloc (.cells #[.slice K0 m0 e0, .slice K1 m1 e1, .slice K2 m2 e2, .slice K3 m3 e3] 27))
    rw [sameC_self] at E1
    go_wp2_with fail
    refine (E1).mono ?_; rintro e w4 ⟨rfl, hb4⟩
    have BW4 : Below w.heap.size w w4 := (BW3.alloc BW3.size (.cells #[.slice K0 m0 e0, .slice K1 m1 e1, .slice K2 m2 e2, .slice K3 m3 e3] 27)).trans (hb4.mono (BW3.alloc BW3.size (.cells #[.slice K0 m0 e0, .slice K1 m1 e1, .slice K2 m2 e2, .slice K3 m3 e3] 27)).size)
    have zz4 : w3.heap.size + 1 ≤ w4.heap.size := by have := hb4.size; simp at this; omega
    have HA_4 := Cv.below (by exact (HA_3.alloc (.cells #[.slice K0 m0 e0, .slice K1 m1 e1, .slice K2 m2 e2, .slice K3 m3 e3] 27))) hb4
    have X_4 := Blk4.below (by exact (X_3.alloc (.cells #[.slice K0 m0 e0, .slice K1 m1 e1, .slice K2 m2 e2, .slice K3 m3 e3] 27))) hb4
    obtain ⟨cX_4_0, cX_4_1, cX_4_2, cX_4_3, _⟩ := X_4.cells
    have lX_4 := X_4.lt
    have HB_4 := Cv.below (by exact (HB_3.alloc (.cells #[.slice K0 m0 e0, .slice K1 m1 e1, .slice K2 m2 e2, .slice K3 m3 e3] 27))) hb4
    have P_4 := Blk4.below (by exact (P_3.alloc (.cells #[.slice K0 m0 e0, .slice K1 m1 e1, .slice K2 m2 e2, .slice K3 m3 e3] 27))) hb4
    obtain ⟨cP_4_0, cP_4_1, cP_4_2, cP_4_3, _⟩ := P_4.cells
    have lP_4 := P_4.lt
    have HC_4 := Cv.below (by exact (HC.alloc (.cells #[.slice K0 m0 e0, .slice K1 m1 e1, .slice K2 m2 e2, .slice K3 m3 e3] 27))) hb4
    have Q_4 := Blk4.below (by exact (Blk4.new w3 (.slice K0 m0 e0) (.slice K1 m1 e1) (.slice K2 m2 e2) (.slice K3 m3 e3) 27)) hb4
    obtain ⟨cQ_4_0, cQ_4_1, cQ_4_2, cQ_4_3, _⟩ := Q_4.cells
    have lQ_4 := Q_4.lt
    have E2 := implStoreSame_any _ _ _ _ _ _ _ HB_4 HC_4
    rw [sameC_self] at E2
    go_wp2_with fail
    refine (E2).mono ?_; rintro e w5 ⟨rfl, hb5⟩
    have BW5 : Below w.heap.size w w5 := BW4.trans (hb5.mono BW4.size)
    have zz5 : w4.heap.size ≤ w5.heap.size := hb5.size
    have HA_5 := Cv.below (by exact HA_4) hb5
    have X_5 := Blk4.below (by exact X_4) hb5
    obtain ⟨cX_5_0, cX_5_1, cX_5_2, cX_5_3, _⟩ := X_5.cells
    have lX_5 := X_5.lt
    have HB_5 := Cv.below (by exact HB_4) hb5
    have P_5 := Blk4.below (by exact P_4) hb5
    obtain ⟨cP_5_0, cP_5_1, cP_5_2, cP_5_3, _⟩ := P_5.cells
    have lP_5 := P_5.lt
    have HC_5 := Cv.below (by exact HC_4) hb5
    have Q_5 := Blk4.below (by exact Q_4) hb5
    obtain ⟨cQ_5_0, cQ_5_1, cQ_5_2, cQ_5_3, _⟩ := Q_5.cells
    have lQ_5 := Q_5.lt
    go_wp2_with fail
    go_ret
    exact ⟨rfl, BW5⟩
  · obtain ⟨j, rfl⟩ := alloc_nat eA
    obtain ⟨y, tl, ec, eX, eC, hC, hj, hy, hnd⟩ := alloc_parts eA
    have hX := alloc_valid eA
    rw [eA, eX] at I S
    have hyy : (y != y) = false := by simp
    have hyz : (y == y) = true := by simp
    obtain ⟨ky, rfl, hky, hjt, hjl, hvX, hlv, hXn⟩ := taken_facts eA ec
    have hXc : (allocC C (j : Int)).c = tl := by rw [eC]
    have RR := fun W lo v hW => implReach_any W lo v (allocC C (j : Int)).h hW
    have V := fun W lo v hW => implStoreValid_any W lo v (allocC C (j : Int)) hW
    rw [hX] at V
    have hyl : (liveL (allocC C (j : Int)).h).length = n0 := by rw [liveL_len hvX, hXn]; exact l0.out
    have hkn : ky < n0 := by have := l0.out; omega
    have hn8 : n0 ≤ 8 := by have := liveL_bd (allocC C (j : Int)).h; omega
    have hlen := l3.out
    have hc0 : Hid (C.c[0]? = some (ky : Int)) := by unfold Hid; rw [ec]; rfl
    have hcd : Hid (C.c.drop 1 = tl) := by unfold Hid; rw [ec]; rfl
    have hn3 : n3 = tl.length + 1 := by rw [← hlen, ec]; rfl
    clear eC hX eA ec hy hnd hvX hXn
    generalize allocC C (j : Int) = X at I S RR V hlv hjt hjl hXc hyl
    generalize liveL X.h = ys at RR hyl hlv
    have HYL := Lib.hid hyl
    have HLV := Lib.hid hlv
    have HJT := Lib.hid hjt
    have HXC := Lib.hid hXc
    have HN3 := Lib.hid hn3
    clear hyl hlv hjt hXc hn3
    go_wp2_with fail
    refine (I _ _ _ (HA.alloc (.cells #[.slice A0 n0 c0, .slice A1 n1 c1, .slice A2 n2 c2, .slice A3 n3 c3] 27))).mono ?_; rintro e w2 ⟨v, rfl, HB, hb2⟩
    have HBb := HB
    obtain ⟨B0, k0, d0, B1, k1, d1, B2, k2, d2, B3, k3, d3, rfl, _, ⟨_, _, _, br3⟩, ⟨_, _, _, bl3⟩, _⟩ := HBb.open_
    have BW2 : Below w.heap.size w w2 := (BW1.alloc BW1.size (.cells #[.slice A0 n0 c0, .slice A1 n1 c1, .slice A2 n2 c2, .slice A3 n3 c3] 27)).trans (hb2.mono (BW1.alloc BW1.size (.cells #[.slice A0 n0 c0, .slice A1 n1 c1, .slice A2 n2 c2, .slice A3 n3 c3] 27)).size)
    have zz2 : w1.heap.size + 1 ≤ w2.heap.size := by have := hb2.size; simp at this; omega
    have HA_2 := Cv.below (by exact (HA.alloc (.cells #[.slice A0 n0 c0, .slice A1 n1 c1, .slice A2 n2 c2, .slice A3 n3 c3] 27))) hb2
    have X_2 := Blk4.below (by exact (Blk4.new w1 (.slice A0 n0 c0) (.slice A1 n1 c1) (.slice A2 n2 c2) (.slice A3 n3 c3) 27)) hb2
    obtain ⟨cX_2_0, cX_2_1, cX_2_2, cX_2_3, _⟩ := X_2.cells
    have lX_2 := X_2.lt
    go_wp2_with fail
    refine (S _ _ _ (HA_2.alloc (.cells #[.slice B0 k0 d0, .slice B1 k1 d1, .slice B2 k2 d2, .slice B3 k3 d3] 27))).mono ?_; rintro e w3 ⟨v, rfl, HC, hb3⟩
    have HCb := HC
    obtain ⟨K0, m0, e0, K1, m1, e1, K2, m2, e2, K3, m3, e3, rfl, _⟩ := HCb.open_
    have BW3 : Below w.heap.size w w3 := (BW2.alloc BW2.size (.cells #[.slice B0 k0 d0, .slice B1 k1 d1, .slice B2 k2 d2, .slice B3 k3 d3] 27)).trans (hb3.mono (BW2.alloc BW2.size (.cells #[.slice B0 k0 d0, .slice B1 k1 d1, .slice B2 k2 d2, .slice B3 k3 d3] 27)).size)
    have zz3 : w2.heap.size + 1 ≤ w3.heap.size := by have := hb3.size; simp at this; omega
    have HA_3 := Cv.below (by exact (HA_2.alloc (.cells #[.slice B0 k0 d0, .slice B1 k1 d1, .slice B2 k2 d2, .slice B3 k3 d3] 27))) hb3
    have X_3 := Blk4.below (by exact (X_2.alloc (.cells #[.slice B0 k0 d0, .slice B1 k1 d1, .slice B2 k2 d2, .slice B3 k3 d3] 27))) hb3
    obtain ⟨cX_3_0, cX_3_1, cX_3_2, cX_3_3, _⟩ := X_3.cells
    have lX_3 := X_3.lt
    have HB_3 := Cv.below (by exact (HB.alloc (.cells #[.slice B0 k0 d0, .slice B1 k1 d1, .slice B2 k2 d2, .slice B3 k3 d3] 27))) hb3
    have P_3 := Blk4.below (by exact (Blk4.new w2 (.slice B0 k0 d0) (.slice B1 k1 d1) (.slice B2 k2 d2) (.slice B3 k3 d3) 27)) hb3
    obtain ⟨cP_3_0, cP_3_1, cP_3_2, cP_3_3, _⟩ := P_3.cells
    have lP_3 := P_3.lt
    have E1 := implStoreSame_any _ _ _ _ _ _ _ (HB_3.alloc (.cells #[.slice K0 m0 e0, .slice K1 m1 e1, .slice K2 m2 e2, .slice K3 m3 e3] 27)) (HC.alloc (.cells #[.slice K0 m0 e0, .slice K1 m1 e1, .slice K2 m2 e2, .slice K3 m3 e3] 27))
    rw [sameC_self] at E1
    go_wp2_with fail
    refine (E1).mono ?_; rintro e w4 ⟨rfl, hb4⟩
    have BW4 : Below w.heap.size w w4 := (BW3.alloc BW3.size (.cells #[.slice K0 m0 e0, .slice K1 m1 e1, .slice K2 m2 e2, .slice K3 m3 e3] 27)).trans (hb4.mono (BW3.alloc BW3.size (.cells #[.slice K0 m0 e0, .slice K1 m1 e1, .slice K2 m2 e2, .slice K3 m3 e3] 27)).size)
    have zz4 : w3.heap.size + 1 ≤ w4.heap.size := by have := hb4.size; simp at this; omega
    have HA_4 := Cv.below (by exact (HA_3.alloc (.cells #[.slice K0 m0 e0, .slice K1 m1 e1, .slice K2 m2 e2, .slice K3 m3 e3] 27))) hb4
    have X_4 := Blk4.below (by exact (X_3.alloc (.cells #[.slice K0 m0 e0, .slice K1 m1 e1, .slice K2 m2 e2, .slice K3 m3 e3] 27))) hb4
    obtain ⟨cX_4_0, cX_4_1, cX_4_2, cX_4_3, _⟩ := X_4.cells
    have lX_4 := X_4.lt
    have HB_4 := Cv.below (by exact (HB_3.alloc (.cells #[.slice K0 m0 e0, .slice K1 m1 e1, .slice K2 m2 e2, .slice K3 m3 e3] 27))) hb4
    have P_4 := Blk4.below (by exact (P_3.alloc (.cells #[.slice K0 m0 e0, .slice K1 m1 e1, .slice K2 m2 e2, .slice K3 m3 e3] 27))) hb4
    obtain ⟨cP_4_0, cP_4_1, cP_4_2, cP_4_3, _⟩ := P_4.cells
    have lP_4 := P_4.lt
    have HC_4 := Cv.below (by exact (HC.alloc (.cells #[.slice K0 m0 e0, .slice K1 m1 e1, .slice K2 m2 e2, .slice K3 m3 e3] 27))) hb4
    have Q_4 := Blk4.below (by exact (Blk4.new w3 (.slice K0 m0 e0) (.slice K1 m1 e1) (.slice K2 m2 e2) (.slice K3 m3 e3) 27)) hb4
    obtain ⟨cQ_4_0, cQ_4_1, cQ_4_2, cQ_4_3, _⟩ := Q_4.cells
    have lQ_4 := Q_4.lt
    go_wp2_with fail
    refine (RR _ _ _ (HB_4).hvS).mono ?_; rintro e w5 ⟨A5, q5, rfl, R5, hb5⟩
    have BW5 : Below w.heap.size w w5 := BW4.trans (hb5.mono BW4.size)
    have zz5 : w4.heap.size ≤ w5.heap.size := hb5.size
    have HA_5 := Cv.below (by exact HA_4) hb5
    have X_5 := Blk4.below (by exact X_4) hb5
    obtain ⟨cX_5_0, cX_5_1, cX_5_2, cX_5_3, _⟩ := X_5.cells
    have lX_5 := X_5.lt
    have HB_5 := Cv.below (by exact HB_4) hb5
    have P_5 := Blk4.below (by exact P_4) hb5
    obtain ⟨cP_5_0, cP_5_1, cP_5_2, cP_5_3, _⟩ := P_5.cells
    have lP_5 := P_5.lt
    have HC_5 := Cv.below (by exact HC_4) hb5
    have Q_5 := Blk4.below (by exact Q_4) hb5
    obtain ⟨cQ_5_0, cQ_5_1, cQ_5_2, cQ_5_3, _⟩ := Q_5.cells
    have lQ_5 := Q_5.lt
    rw [HYL.out] at R5 ⊢
    have rA := (HA_5).rowsS.2.2.2
    have lA := lenS rA
    have rB := (HB_5).rowsS.2.2.2
    have lB := lenS rB
    rw [HXC.out] at lB rB
    have hnk : k3 = n3 - 1 := by have := HN3.out; omega
    have hn31 : 1 ≤ n3 := by have := HN3.out; omega
    obtain ⟨gA, z, eg, _, hgA, hz, hcz, _⟩ := rA.get (k := 0) (by omega)
    subst eg
    obtain rfl : z = (ky : Int) := by have h9 := hz.out; rw [hc0.out] at h9; simpa using h9.symm
    have hlc := Row.cap rA
    have h1n : (1 : Int) ≤ (n3 : Int) := by omega
    have h1c : (n3 : Int) ≤ (c3 : Int) := by omega
    have h0n : (0 : Int) < (n3 : Int) := by omega
    have h0N : 0 < n3 := by omega
    obtain ⟨gr, b, er, _, hgr, hb, hcb, _⟩ := RowB.get (k := ky) R5 (by have := HYL.out; omega)
    cases er
    obtain rfl : b = true := by have h9 := hb.out; rw [HLV.out] at h9; simpa using h9.symm
    have q2 := (HB_5).rowsS.2.2.1
    have lq2 := lenS q2
    obtain ⟨g2, x2, e2, _, hg2, hx2, hcx2, _⟩ := q2.get (k := j) hjl
    cases e2
    obtain rfl : x2 = (ky : Int) := by have h9 := hx2.out; rw [HJT.out] at h9; simpa using h9.symm
    have hjk : (j : Int) < (k2 : Int) := by omega
    have hkk : (ky : Int) < (n0 : Int) := by omega
    have lB2 := Lib.hid lB
    subst hnk
    clear hz hb hx2 q2 lq2
    by_cases hc1 : c3 = 1
    · subst hc1
      obtain rfl : n3 = 1 := by omega
      obtain rfl : tl = [] := List.length_eq_zero_iff.1 lB
      go_wp2_with fail
      go_region_held3 (fun w' => w'.cell? ⟨w1.heap.size, 0, none⟩ = some (.slice A0 n0 c0) ∧ w'.cell? ⟨w1.heap.size, 1, none⟩ = some (.slice A1 n1 c1) ∧ w'.cell? ⟨w1.heap.size, 2, none⟩ = some (.slice A2 n2 c2) ∧ w'.cell? ⟨w1.heap.size, 3, none⟩ = some (.slice (some ⟨gA, 0, none⟩) 1 1) ∧ w'.cell? ⟨w2.heap.size, 0, none⟩ = some (.slice B0 k0 d0) ∧ w'.cell? ⟨w2.heap.size, 1, none⟩ = some (.slice B1 k1 d1) ∧ w'.cell? ⟨w2.heap.size, 2, none⟩ = some (.slice (some ⟨g2, 0, none⟩) k2 d2) ∧ w'.cell? ⟨w2.heap.size, 3, none⟩ = some (.slice B3 (1 - 1) d3) ∧ w'.cell? ⟨gA, 0, none⟩ = some (.int .i64 (ky : Int)) ∧ w'.cell? ⟨gr, ky, none⟩ = some (.bool true) ∧ w'.cell? ⟨g2, j, none⟩ = some (.int .i64 (ky : Int)))
        (((try dsimp only); (repeat' apply And.intro) <;> (with_reducible (first | exact hcx2_w6_w7 | exact hcb_w6_w7 | exact hcz_w6_w7 | exact cP_7_3 | exact cP_7_2 | exact cP_7_1 | exact cP_7_0 | exact cX_7_3 | exact cX_7_2 | exact cX_7_1 | exact cX_7_0 | exact hcx2_w6 | exact hcb_w6 | exact hcz_w6 | exact cP_6_3 | exact cP_6_2 | exact cP_6_1 | exact cP_6_0 | exact cX_6_3 | exact cX_6_2 | exact cX_6_1 | exact cX_6_0 | exact cellD hcx2 | exact cellD hcb | exact cellD hcz | exact cellD cP_5_3 | exact cellD cP_5_2 | exact cellD cP_5_1 | exact cellD cP_5_0 | exact cellD cX_5_3 | exact cellD cX_5_2 | exact cellD cX_5_1 | exact cellD cX_5_0 | exact hcx2 | exact hcb | exact hcz | exact cP_5_3 | exact cP_5_2 | exact cP_5_1 | exact cP_5_0 | exact cX_5_3 | exact cX_5_2 | exact cX_5_1 | exact cX_5_0))))
        (first
          | (go_at_call 21; (with_reducible refine (V _ _ _ (HB_5.drew)).mono ?_); rintro e w6 ⟨rfl, hb6⟩; have BW6 : Below w.heap.size w w6 := (Below.drew BW5).trans (hb6.mono (Below.drew BW5).size); have zz6 : w5.heap.size ≤ w6.heap.size := hb6.size; have HA_6 := Cv.below (by exact (HA_5.drew)) hb6; have X_6 := Blk4.below (by exact (X_5.drew)) hb6; obtain ⟨cX_6_0, cX_6_1, cX_6_2, cX_6_3, _⟩ := X_6.cells; have lX_6 := X_6.lt; have HB_6 := Cv.below (by exact (HB_5.drew)) hb6; have P_6 := Blk4.below (by exact (P_5.drew)) hb6; obtain ⟨cP_6_0, cP_6_1, cP_6_2, cP_6_3, _⟩ := P_6.cells; have lP_6 := P_6.lt; have HC_6 := Cv.below (by exact (HC_5.drew)) hb6; have Q_6 := Blk4.below (by exact (Q_5.drew)) hb6; obtain ⟨cQ_6_0, cQ_6_1, cQ_6_2, cQ_6_3, _⟩ := Q_6.cells; have lQ_6 := Q_6.lt; have RA_6 := Row.below (by exact (rA.drew)) hb6; have RB_6 := Row.below (by exact (rB.drew)) hb6; have hcz_w6 : w6.cell? ⟨gA, 0, none⟩ = some (.int .i64 (ky : Int)) := (hb6.cell (p := ⟨gA, 0, none⟩) (by simp <;> omega)).trans (by exact hcz); have hcb_w6 : w6.cell? ⟨gr, ky, none⟩ = some (.bool true) := (hb6.cell (p := ⟨gr, ky, none⟩) (by simp <;> omega)).trans (by exact hcb); have hcx2_w6 : w6.cell? ⟨g2, j, none⟩ = some (.int .i64 (ky : Int)) := (hb6.cell (p := ⟨g2, j, none⟩) (by simp <;> omega)).trans (by exact hcx2))
          | (go_at_call 23; (with_reducible refine (ccInts_nil _ _ _ _ _).mono ?_); rintro e w7 ⟨rfl, hb7⟩; have BW7 : Below w.heap.size w w7 := BW6.trans (hb7.mono BW6.size); have zz7 : w6.heap.size ≤ w7.heap.size := hb7.size; have HA_7 := Cv.below (by exact HA_6) hb7; have X_7 := Blk4.below (by exact X_6) hb7; obtain ⟨cX_7_0, cX_7_1, cX_7_2, cX_7_3, _⟩ := X_7.cells; have lX_7 := X_7.lt; have HB_7 := Cv.below (by exact HB_6) hb7; have P_7 := Blk4.below (by exact P_6) hb7; obtain ⟨cP_7_0, cP_7_1, cP_7_2, cP_7_3, _⟩ := P_7.cells; have lP_7 := P_7.lt; have HC_7 := Cv.below (by exact HC_6) hb7; have Q_7 := Blk4.below (by exact Q_6) hb7; obtain ⟨cQ_7_0, cQ_7_1, cQ_7_2, cQ_7_3, _⟩ := Q_7.cells; have lQ_7 := Q_7.lt; have RA_7 := Row.below (by exact RA_6) hb7; have RB_7 := Row.below (by exact RB_6) hb7; have hcz_w6_w7 : w7.cell? ⟨gA, 0, none⟩ = some (.int .i64 (ky : Int)) := (hb7.cell (p := ⟨gA, 0, none⟩) (by simp <;> omega)).trans (by exact hcz_w6); have hcb_w6_w7 : w7.cell? ⟨gr, ky, none⟩ = some (.bool true) := (hb7.cell (p := ⟨gr, ky, none⟩) (by simp <;> omega)).trans (by exact hcb_w6); have hcx2_w6_w7 : w7.cell? ⟨g2, j, none⟩ = some (.int .i64 (ky : Int)) := (hb7.cell (p := ⟨g2, j, none⟩) (by simp <;> omega)).trans (by exact hcx2_w6)))
      rename_i hHeld1
      clear hHeld1
      go_wp2_with fail
      go_ret
      exact ⟨by simp, BW7⟩
    · have hc4 : c3 - 1 ≠ 0 := by omega
      go_wp2_with fail
      go_region_held3 (fun w' => w'.cell? ⟨w1.heap.size, 0, none⟩ = some (.slice A0 n0 c0) ∧ w'.cell? ⟨w1.heap.size, 1, none⟩ = some (.slice A1 n1 c1) ∧ w'.cell? ⟨w1.heap.size, 2, none⟩ = some (.slice A2 n2 c2) ∧ w'.cell? ⟨w1.heap.size, 3, none⟩ = some (.slice (some ⟨gA, 0, none⟩) n3 c3) ∧ w'.cell? ⟨w2.heap.size, 0, none⟩ = some (.slice B0 k0 d0) ∧ w'.cell? ⟨w2.heap.size, 1, none⟩ = some (.slice B1 k1 d1) ∧ w'.cell? ⟨w2.heap.size, 2, none⟩ = some (.slice (some ⟨g2, 0, none⟩) k2 d2) ∧ w'.cell? ⟨w2.heap.size, 3, none⟩ = some (.slice B3 (n3 - 1) d3) ∧ w'.cell? ⟨gA, 0, none⟩ = some (.int .i64 (ky : Int)) ∧ w'.cell? ⟨gr, ky, none⟩ = some (.bool true) ∧ w'.cell? ⟨g2, j, none⟩ = some (.int .i64 (ky : Int)))
        (((try dsimp only); (repeat' apply And.intro) <;> (with_reducible (first | exact hcx2_w6_w7 | exact hcb_w6_w7 | exact hcz_w6_w7 | exact cP_7_3 | exact cP_7_2 | exact cP_7_1 | exact cP_7_0 | exact cX_7_3 | exact cX_7_2 | exact cX_7_1 | exact cX_7_0 | exact hcx2_w6 | exact hcb_w6 | exact hcz_w6 | exact cP_6_3 | exact cP_6_2 | exact cP_6_1 | exact cP_6_0 | exact cX_6_3 | exact cX_6_2 | exact cX_6_1 | exact cX_6_0 | exact cellD hcx2 | exact cellD hcb | exact cellD hcz | exact cellD cP_5_3 | exact cellD cP_5_2 | exact cellD cP_5_1 | exact cellD cP_5_0 | exact cellD cX_5_3 | exact cellD cX_5_2 | exact cellD cX_5_1 | exact cellD cX_5_0 | exact hcx2 | exact hcb | exact hcz | exact cP_5_3 | exact cP_5_2 | exact cP_5_1 | exact cP_5_0 | exact cX_5_3 | exact cX_5_2 | exact cX_5_1 | exact cX_5_0))))
        (first
          | (go_at_call 21; (with_reducible refine (V _ _ _ (HB_5.drew)).mono ?_); rintro e w6 ⟨rfl, hb6⟩; have BW6 : Below w.heap.size w w6 := (Below.drew BW5).trans (hb6.mono (Below.drew BW5).size); have zz6 : w5.heap.size ≤ w6.heap.size := hb6.size; have HA_6 := Cv.below (by exact (HA_5.drew)) hb6; have X_6 := Blk4.below (by exact (X_5.drew)) hb6; obtain ⟨cX_6_0, cX_6_1, cX_6_2, cX_6_3, _⟩ := X_6.cells; have lX_6 := X_6.lt; have HB_6 := Cv.below (by exact (HB_5.drew)) hb6; have P_6 := Blk4.below (by exact (P_5.drew)) hb6; obtain ⟨cP_6_0, cP_6_1, cP_6_2, cP_6_3, _⟩ := P_6.cells; have lP_6 := P_6.lt; have HC_6 := Cv.below (by exact (HC_5.drew)) hb6; have Q_6 := Blk4.below (by exact (Q_5.drew)) hb6; obtain ⟨cQ_6_0, cQ_6_1, cQ_6_2, cQ_6_3, _⟩ := Q_6.cells; have lQ_6 := Q_6.lt; have RA_6 := Row.below (by exact (rA.drew)) hb6; have RB_6 := Row.below (by exact (rB.drew)) hb6; have hcz_w6 : w6.cell? ⟨gA, 0, none⟩ = some (.int .i64 (ky : Int)) := (hb6.cell (p := ⟨gA, 0, none⟩) (by simp <;> omega)).trans (by exact hcz); have hcb_w6 : w6.cell? ⟨gr, ky, none⟩ = some (.bool true) := (hb6.cell (p := ⟨gr, ky, none⟩) (by simp <;> omega)).trans (by exact hcb); have hcx2_w6 : w6.cell? ⟨g2, j, none⟩ = some (.int .i64 (ky : Int)) := (hb6.cell (p := ⟨g2, j, none⟩) (by simp <;> omega)).trans (by exact hcx2))
          | (go_at_call 23; (with_reducible refine (ccIntsAt_eq _ _ _ _ _ _ tl lB2.out (by omega) (AtR.of RB_6) (AtR.dropE RA_6 1 hcd.out)).mono ?_); rintro e w7 ⟨rfl, hb7⟩; have BW7 : Below w.heap.size w w7 := BW6.trans (hb7.mono BW6.size); have zz7 : w6.heap.size ≤ w7.heap.size := hb7.size; have HA_7 := Cv.below (by exact HA_6) hb7; have X_7 := Blk4.below (by exact X_6) hb7; obtain ⟨cX_7_0, cX_7_1, cX_7_2, cX_7_3, _⟩ := X_7.cells; have lX_7 := X_7.lt; have HB_7 := Cv.below (by exact HB_6) hb7; have P_7 := Blk4.below (by exact P_6) hb7; obtain ⟨cP_7_0, cP_7_1, cP_7_2, cP_7_3, _⟩ := P_7.cells; have lP_7 := P_7.lt; have HC_7 := Cv.below (by exact HC_6) hb7; have Q_7 := Blk4.below (by exact Q_6) hb7; obtain ⟨cQ_7_0, cQ_7_1, cQ_7_2, cQ_7_3, _⟩ := Q_7.cells; have lQ_7 := Q_7.lt; have RA_7 := Row.below (by exact RA_6) hb7; have RB_7 := Row.below (by exact RB_6) hb7; have hcz_w6_w7 : w7.cell? ⟨gA, 0, none⟩ = some (.int .i64 (ky : Int)) := (hb7.cell (p := ⟨gA, 0, none⟩) (by simp <;> omega)).trans (by exact hcz_w6); have hcb_w6_w7 : w7.cell? ⟨gr, ky, none⟩ = some (.bool true) := (hb7.cell (p := ⟨gr, ky, none⟩) (by simp <;> omega)).trans (by exact hcb_w6); have hcx2_w6_w7 : w7.cell? ⟨g2, j, none⟩ = some (.int .i64 (ky : Int)) := (hb7.cell (p := ⟨g2, j, none⟩) (by simp <;> omega)).trans (by exact hcx2_w6)))
      rename_i hHeld1
      clear hHeld1
      go_wp2_with fail
      go_ret
      exact ⟨by simp, BW7⟩
end Go.Proofs.Ytmpcgegbfbkmnaa
