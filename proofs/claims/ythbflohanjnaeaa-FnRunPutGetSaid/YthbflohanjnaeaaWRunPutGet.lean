/- The law FnRunPutGet, walked. -/
import Derived.Test.YthbflohanjnaeaaDRuns
import Derived.Test.YthbflohanjnaeaaIRunA
import Derived.Test.YthbflohanjnaeaaSRunA
import Derived.Test.YthbflohanjnaeaaIStos
import Derived.Test.YthbflohanjnaeaaWLaw
import Derived.Test.YthbflohanjnaeaaLawT
import Derived.Test.YthbflohanjnaeaaRun5
namespace Go.Proofs.Ythbflohanjnaeaa
open Go.RowKit

set_option maxRecDepth 100000 in
set_option maxHeartbeats 4000000 in
theorem lawRunPutGet_walk (w : World) (A : Option Addr) (n c : Nat) (h : Inp w A n c) :
    Calls Try.prog 8 #[.slice A n c] w (LawTrue w) := by
  by_cases hbig : 1048576 < n
  · go_enter Try.func8, Try.ntmps8
    go_wp2_with fail
    go_ret
    exact ⟨rfl, Below.refl _ _⟩
  go_enter Try.func8, Try.ntmps8
  go_wp2_with fail
  refine (drawRunOp_any _ _ _ _ h).mono ?_; rintro e w1 ⟨v, C, ⟨k, a, q⟩, rfl, HA, hb1⟩
  have BW1 : Below w.heap.size w w1 := (Below.refl w.heap.size w).trans (hb1.mono (Below.refl w.heap.size w).size)
  have zz1 : w.heap.size ≤ w1.heap.size := hb1.size
  have HAo := HA
  obtain ⟨A0, n0, c0, A1, n1, c1, A2, n2, c2, A3, n3, c3, rfl, hh, ⟨r0, r1, r2, r3⟩, ⟨l0, l1, l2, l3⟩, ⟨mm0, mm1, mm2, mm3⟩, _⟩ := HAo.open_
  have I := fun W lo v hW => implRunOp_any W lo v C hW ⟨k, a, q⟩
  have S := fun W lo v hW => specRunOp_any W lo v C hW ⟨k, a, q⟩
  rcases ho : runB C ⟨k, a, q⟩
  · rw [ho] at I S
    generalize runC C ⟨k, a, q⟩ = D at I S
    generalize runE C ⟨k, a, q⟩ = x at I S
    have hne0 : (x != x) = false := by simp
    have heq0 : (x == x) = true := by simp
    clear ho
    go_wp2_with fail
    refine (I _ _ _ ((HA.alloc (.cells #[.slice A0 n0 c0, .slice A1 n1 c1, .slice A2 n2 c2, .slice A3 n3 c3] 27)).alloc (.cells #[.int .i64 k, .int .i64 a, .int .i64 q] 29))).mono ?_; rintro e w2 ⟨v, rfl, HB, hb2⟩
    have HBb := HB
    obtain ⟨B0, k0, d0, B1, k1, d1, B2, k2, d2, B3, k3, d3, rfl, _, ⟨_, _, _, br3⟩, ⟨_, _, _, bl3⟩, _⟩ := HBb.open_
    have BW2 : Below w.heap.size w w2 := ((BW1.alloc BW1.size (.cells #[.slice A0 n0 c0, .slice A1 n1 c1, .slice A2 n2 c2, .slice A3 n3 c3] 27)).alloc (BW1.alloc BW1.size (.cells #[.slice A0 n0 c0, .slice A1 n1 c1, .slice A2 n2 c2, .slice A3 n3 c3] 27)).size (.cells #[.int .i64 k, .int .i64 a, .int .i64 q] 29)).trans (hb2.mono ((BW1.alloc BW1.size (.cells #[.slice A0 n0 c0, .slice A1 n1 c1, .slice A2 n2 c2, .slice A3 n3 c3] 27)).alloc (BW1.alloc BW1.size (.cells #[.slice A0 n0 c0, .slice A1 n1 c1, .slice A2 n2 c2, .slice A3 n3 c3] 27)).size (.cells #[.int .i64 k, .int .i64 a, .int .i64 q] 29)).size)
    have zz2 : w1.heap.size + 2 ≤ w2.heap.size := by have := hb2.size; simp at this; omega
    have HA_2 := Cv.below (by exact ((HA.alloc (.cells #[.slice A0 n0 c0, .slice A1 n1 c1, .slice A2 n2 c2, .slice A3 n3 c3] 27)).alloc (.cells #[.int .i64 k, .int .i64 a, .int .i64 q] 29))) hb2
    have X_2 := Blk4.below (by exact ((Blk4.new w1 (.slice A0 n0 c0) (.slice A1 n1 c1) (.slice A2 n2 c2) (.slice A3 n3 c3) 27).alloc (.cells #[.int .i64 k, .int .i64 a, .int .i64 q] 29))) hb2
    obtain ⟨cX_2_0, cX_2_1, cX_2_2, cX_2_3, _⟩ := X_2.cells
    have lX_2 := X_2.lt
    have Y_2 := Blk3.below (by exact (Blk3.new_at (w := w1.alloc (.cells #[.slice A0 n0 c0, .slice A1 n1 c1, .slice A2 n2 c2, .slice A3 n3 c3] 27)) (b := w1.heap.size + 1) (by simp) (.int .i64 k) (.int .i64 a) (.int .i64 q) 29)) hb2
    obtain ⟨cY_2_0, cY_2_1, cY_2_2, _⟩ := Y_2.cells
    have lY_2 := Y_2.lt
    go_wp2_with fail
    refine (S _ _ _ (HA_2.alloc (.cells #[.slice B0 k0 d0, .slice B1 k1 d1, .slice B2 k2 d2, .slice B3 k3 d3] 27))).mono ?_; rintro e w3 ⟨v, rfl, HC, hb3⟩
    have HCb := HC
    obtain ⟨K0, m0, e0, K1, m1, e1, K2, m2, e2, K3, m3, e3, rfl, _⟩ := HCb.open_
    have BW3 : Below w.heap.size w w3 := (BW2.alloc BW2.size (.cells #[.slice B0 k0 d0, .slice B1 k1 d1, .slice B2 k2 d2, .slice B3 k3 d3] 27)).trans (hb3.mono (BW2.alloc BW2.size (.cells #[.slice B0 k0 d0, .slice B1 k1 d1, .slice B2 k2 d2, .slice B3 k3 d3] 27)).size)
    have zz3 : w2.heap.size + 1 ≤ w3.heap.size := by have := hb3.size; simp at this; omega
    have HA_3 := Cv.below (by exact (HA_2.alloc (.cells #[.slice B0 k0 d0, .slice B1 k1 d1, .slice B2 k2 d2, .slice B3 k3 d3] 27))) hb3
    have X_3 := Blk4.below (by exact (X_2.alloc (.cells #[.slice B0 k0 d0, .slice B1 k1 d1, .slice B2 k2 d2, .slice B3 k3 d3] 27))) hb3
    obtain ⟨cX_3_0, cX_3_1, cX_3_2, cX_3_3, _⟩ := X_3.cells
    have lX_3 := X_3.lt
    have Y_3 := Blk3.below (by exact (Y_2.alloc (.cells #[.slice B0 k0 d0, .slice B1 k1 d1, .slice B2 k2 d2, .slice B3 k3 d3] 27))) hb3
    obtain ⟨cY_3_0, cY_3_1, cY_3_2, _⟩ := Y_3.cells
    have lY_3 := Y_3.lt
    have HB_3 := Cv.below (by exact (HB.alloc (.cells #[.slice B0 k0 d0, .slice B1 k1 d1, .slice B2 k2 d2, .slice B3 k3 d3] 27))) hb3
    have P_3 := Blk4.below (by exact (Blk4.new w2 (.slice B0 k0 d0) (.slice B1 k1 d1) (.slice B2 k2 d2) (.slice B3 k3 d3) 27)) hb3
    obtain ⟨cP_3_0, cP_3_1, cP_3_2, cP_3_3, _⟩ := P_3.cells
    have lP_3 := P_3.lt
    have E1 := implStoreSame_any _ _ _ _ _ _ _ (HB_3.alloc (.cells #[.slice K0 m0 e0, .slice K1 m1 e1, .slice K2 m2 e2, .slice K3 m3 e3] 27)) (HC.alloc (.cells #[.slice K0 m0 e0, .slice K1 m1 e1, .slice K2 m2 e2, .slice K3 m3 e3] 27))
    rw [sameC_self] at E1
    go_wp2_with fail
    refine (E1).mono ?_; rintro e w4 ⟨rfl, hb4⟩
    have BW4 : Below w.heap.size w w4 := (BW3.alloc BW3.size (.cells #[.slice K0 m0 e0, .slice K1 m1 e1, .slice K2 m2 e2, .slice K3 m3 e3] 27)).trans (hb4.mono (BW3.alloc BW3.size (.cells #[.slice K0 m0 e0, .slice K1 m1 e1, .slice K2 m2 e2, .slice K3 m3 e3] 27)).size)
    have zz4 : w3.heap.size + 1 ≤ w4.heap.size := by have := hb4.size; simp at this; omega
    have HA_4 := Cv.below (by exact (HA_3.alloc (.cells #[.slice K0 m0 e0, .slice K1 m1 e1, .slice K2 m2 e2, .slice K3 m3 e3] 27))) hb4
    have X_4 := Blk4.below (by exact (X_3.alloc (.cells #[.slice K0 m0 e0, .slice K1 m1 e1, .slice K2 m2 e2, .slice K3 m3 e3] 27))) hb4
    obtain ⟨cX_4_0, cX_4_1, cX_4_2, cX_4_3, _⟩ := X_4.cells
    have lX_4 := X_4.lt
    have Y_4 := Blk3.below (by exact (Y_3.alloc (.cells #[.slice K0 m0 e0, .slice K1 m1 e1, .slice K2 m2 e2, .slice K3 m3 e3] 27))) hb4
    obtain ⟨cY_4_0, cY_4_1, cY_4_2, _⟩ := Y_4.cells
    have lY_4 := Y_4.lt
    have HB_4 := Cv.below (by exact (HB_3.alloc (.cells #[.slice K0 m0 e0, .slice K1 m1 e1, .slice K2 m2 e2, .slice K3 m3 e3] 27))) hb4
    have P_4 := Blk4.below (by exact (P_3.alloc (.cells #[.slice K0 m0 e0, .slice K1 m1 e1, .slice K2 m2 e2, .slice K3 m3 e3] 27))) hb4
    obtain ⟨cP_4_0, cP_4_1, cP_4_2, cP_4_3, _⟩ := P_4.cells
    have lP_4 := P_4.lt
    have HC_4 := Cv.below (by exact (HC.alloc (.cells #[.slice K0 m0 e0, .slice K1 m1 e1, .slice K2 m2 e2, .slice K3 m3 e3] 27))) hb4
    have Q_4 := Blk4.below (by exact (Blk4.new w3 (.slice K0 m0 e0) (.slice K1 m1 e1) (.slice K2 m2 e2) (.slice K3 m3 e3) 27)) hb4
    obtain ⟨cQ_4_0, cQ_4_1, cQ_4_2, cQ_4_3, _⟩ := Q_4.cells
    have lQ_4 := Q_4.lt
    have E2 := implStoreSame_any _ _ _ _ _ _ _ HB_4 HC_4
    rw [sameC_self] at E2
    go_wp2_with fail
    refine (E2).mono ?_; rintro e w5 ⟨rfl, hb5⟩
    have BW5 : Below w.heap.size w w5 := BW4.trans (hb5.mono BW4.size)
    have zz5 : w4.heap.size ≤ w5.heap.size := hb5.size
    have HA_5 := Cv.below (by exact HA_4) hb5
    have X_5 := Blk4.below (by exact X_4) hb5
    obtain ⟨cX_5_0, cX_5_1, cX_5_2, cX_5_3, _⟩ := X_5.cells
    have lX_5 := X_5.lt
    have Y_5 := Blk3.below (by exact Y_4) hb5
    obtain ⟨cY_5_0, cY_5_1, cY_5_2, _⟩ := Y_5.cells
    have lY_5 := Y_5.lt
    have HB_5 := Cv.below (by exact HB_4) hb5
    have P_5 := Blk4.below (by exact P_4) hb5
    obtain ⟨cP_5_0, cP_5_1, cP_5_2, cP_5_3, _⟩ := P_5.cells
    have lP_5 := P_5.lt
    have HC_5 := Cv.below (by exact HC_4) hb5
    have Q_5 := Blk4.below (by exact Q_4) hb5
    obtain ⟨cQ_5_0, cQ_5_1, cQ_5_2, cQ_5_3, _⟩ := Q_5.cells
    have lQ_5 := Q_5.lt
    go_wp2_with fail
    go_ret
    exact ⟨rfl, BW5⟩
  · rw [ho] at I S
    by_cases he : runE C ⟨k, a, q⟩ = 0
    · by_cases hk : k = 5 ∨ k = 6
      · obtain ⟨hB2, hE2, hat⟩ := run_put ho hk he
        obtain ⟨ja, jq, rfl, rfl, hja, hjq, _⟩ := op_idx ho
        have hjq := hjq (by omega)
        have hbt := rootA_at (C := C) (a := (jq : Int)) (by omega) (by omega)
        simp only [Int.toNat_natCast] at hat hbt
        rw [he] at I S
        have J := fun W lo v hW => implRunOp_any W lo v (runC C ⟨k, (ja : Int), (jq : Int)⟩) hW ⟨k - 2, (ja : Int), (ja : Int)⟩
        rw [hB2, hE2] at J
        have hln : (runC (runC C ⟨k, (ja : Int), (jq : Int)⟩) ⟨k - 2, (ja : Int), (ja : Int)⟩).h.t.length = C.h.t.length := by rw [op_roots hB2, op_roots ho]
        generalize rootA C (jq : Int) = xv at hat hbt
        generalize runC (runC C ⟨k, (ja : Int), (jq : Int)⟩) ⟨k - 2, (ja : Int), (ja : Int)⟩ = D2 at J hat hln
        generalize runC C ⟨k, (ja : Int), (jq : Int)⟩ = D at I S J
        have HAT := Lib.hid hat
        have HBT := Lib.hid hbt
        clear hat hbt ho hB2 hE2 he
        rcases hk with rfl | rfl
        · go_wp2_with fail
          refine (I _ _ _ ((HA.alloc (.cells #[.slice A0 n0 c0, .slice A1 n1 c1, .slice A2 n2 c2, .slice A3 n3 c3] 27)).alloc (.cells #[.int .i64 5, .int .i64 (ja : Int), .int .i64 (jq : Int)] 29))).mono ?_; rintro e w2 ⟨v, rfl, HB, hb2⟩
          have HBb := HB
          obtain ⟨B0, k0, d0, B1, k1, d1, B2, k2, d2, B3, k3, d3, rfl, _, ⟨_, _, _, br3⟩, ⟨_, _, _, bl3⟩, _⟩ := HBb.open_
          have BW2 : Below w.heap.size w w2 := ((BW1.alloc BW1.size (.cells #[.slice A0 n0 c0, .slice A1 n1 c1, .slice A2 n2 c2, .slice A3 n3 c3] 27)).alloc (BW1.alloc BW1.size (.cells #[.slice A0 n0 c0, .slice A1 n1 c1, .slice A2 n2 c2, .slice A3 n3 c3] 27)).size (.cells #[.int .i64 5, .int .i64 (ja : Int), .int .i64 (jq : Int)] 29)).trans (hb2.mono ((BW1.alloc BW1.size (.cells #[.slice A0 n0 c0, .slice A1 n1 c1, .slice A2 n2 c2, .slice A3 n3 c3] 27)).alloc (BW1.alloc BW1.size (.cells #[.slice A0 n0 c0, .slice A1 n1 c1, .slice A2 n2 c2, .slice A3 n3 c3] 27)).size (.cells #[.int .i64 5, .int .i64 (ja : Int), .int .i64 (jq : Int)] 29)).size)
          have zz2 : w1.heap.size + 2 ≤ w2.heap.size := by have := hb2.size; simp at this; omega
          have HA_2 := Cv.below (by exact ((HA.alloc (.cells #[.slice A0 n0 c0, .slice A1 n1 c1, .slice A2 n2 c2, .slice A3 n3 c3] 27)).alloc (.cells #[.int .i64 5, .int .i64 (ja : Int), .int .i64 (jq : Int)] 29))) hb2
          have X_2 := Blk4.below (by exact ((Blk4.new w1 (.slice A0 n0 c0) (.slice A1 n1 c1) (.slice A2 n2 c2) (.slice A3 n3 c3) 27).alloc (.cells #[.int .i64 5, .int .i64 (ja : Int), .int .i64 (jq : Int)] 29))) hb2
          obtain ⟨cX_2_0, cX_2_1, cX_2_2, cX_2_3, _⟩ := X_2.cells
          have lX_2 := X_2.lt
          have Y_2 := Blk3.below (by exact (Blk3.new_at (w := w1.alloc (.cells #[.slice A0 n0 c0, .slice A1 n1 c1, .slice A2 n2 c2, .slice A3 n3 c3] 27)) (b := w1.heap.size + 1) (by simp) (.int .i64 5) (.int .i64 (ja : Int)) (.int .i64 (jq : Int)) 29)) hb2
          obtain ⟨cY_2_0, cY_2_1, cY_2_2, _⟩ := Y_2.cells
          have lY_2 := Y_2.lt
          go_wp2_with fail
          refine (S _ _ _ (HA_2.alloc (.cells #[.slice B0 k0 d0, .slice B1 k1 d1, .slice B2 k2 d2, .slice B3 k3 d3] 27))).mono ?_; rintro e w3 ⟨v, rfl, HC, hb3⟩
          have HCb := HC
          obtain ⟨K0, m0, e0, K1, m1, e1, K2, m2, e2, K3, m3, e3, rfl, _⟩ := HCb.open_
          have BW3 : Below w.heap.size w w3 := (BW2.alloc BW2.size (.cells #[.slice B0 k0 d0, .slice B1 k1 d1, .slice B2 k2 d2, .slice B3 k3 d3] 27)).trans (hb3.mono (BW2.alloc BW2.size (.cells #[.slice B0 k0 d0, .slice B1 k1 d1, .slice B2 k2 d2, .slice B3 k3 d3] 27)).size)
          have zz3 : w2.heap.size + 1 ≤ w3.heap.size := by have := hb3.size; simp at this; omega
          have HA_3 := Cv.below (by exact (HA_2.alloc (.cells #[.slice B0 k0 d0, .slice B1 k1 d1, .slice B2 k2 d2, .slice B3 k3 d3] 27))) hb3
          have X_3 := Blk4.below (by exact (X_2.alloc (.cells #[.slice B0 k0 d0, .slice B1 k1 d1, .slice B2 k2 d2, .slice B3 k3 d3] 27))) hb3
          obtain ⟨cX_3_0, cX_3_1, cX_3_2, cX_3_3, _⟩ := X_3.cells
          have lX_3 := X_3.lt
          have Y_3 := Blk3.below (by exact (Y_2.alloc (.cells #[.slice B0 k0 d0, .slice B1 k1 d1, .slice B2 k2 d2, .slice B3 k3 d3] 27))) hb3
          obtain ⟨cY_3_0, cY_3_1, cY_3_2, _⟩ := Y_3.cells
          have lY_3 := Y_3.lt
          have HB_3 := Cv.below (by exact (HB.alloc (.cells #[.slice B0 k0 d0, .slice B1 k1 d1, .slice B2 k2 d2, .slice B3 k3 d3] 27))) hb3
          have P_3 := Blk4.below (by exact (Blk4.new w2 (.slice B0 k0 d0) (.slice B1 k1 d1) (.slice B2 k2 d2) (.slice B3 k3 d3) 27)) hb3
          obtain ⟨cP_3_0, cP_3_1, cP_3_2, cP_3_3, _⟩ := P_3.cells
          have lP_3 := P_3.lt
          have E1 := implStoreSame_any _ _ _ _ _ _ _ (HB_3.alloc (.cells #[.slice K0 m0 e0, .slice K1 m1 e1, .slice K2 m2 e2, .slice K3 m3 e3] 27)) (HC.alloc (.cells #[.slice K0 m0 e0, .slice K1 m1 e1, .slice K2 m2 e2, .slice K3 m3 e3] 27))
          rw [sameC_self] at E1
          go_wp2_with fail
          refine (E1).mono ?_; rintro e w4 ⟨rfl, hb4⟩
          have BW4 : Below w.heap.size w w4 := (BW3.alloc BW3.size (.cells #[.slice K0 m0 e0, .slice K1 m1 e1, .slice K2 m2 e2, .slice K3 m3 e3] 27)).trans (hb4.mono (BW3.alloc BW3.size (.cells #[.slice K0 m0 e0, .slice K1 m1 e1, .slice K2 m2 e2, .slice K3 m3 e3] 27)).size)
          have zz4 : w3.heap.size + 1 ≤ w4.heap.size := by have := hb4.size; simp at this; omega
          have HA_4 := Cv.below (by exact (HA_3.alloc (.cells #[.slice K0 m0 e0, .slice K1 m1 e1, .slice K2 m2 e2, .slice K3 m3 e3] 27))) hb4
          have X_4 := Blk4.below (by exact (X_3.alloc (.cells #[.slice K0 m0 e0, .slice K1 m1 e1, .slice K2 m2 e2, .slice K3 m3 e3] 27))) hb4
          obtain ⟨cX_4_0, cX_4_1, cX_4_2, cX_4_3, _⟩ := X_4.cells
          have lX_4 := X_4.lt
          have Y_4 := Blk3.below (by exact (Y_3.alloc (.cells #[.slice K0 m0 e0, .slice K1 m1 e1, .slice K2 m2 e2, .slice K3 m3 e3] 27))) hb4
          obtain ⟨cY_4_0, cY_4_1, cY_4_2, _⟩ := Y_4.cells
          have lY_4 := Y_4.lt
          have HB_4 := Cv.below (by exact (HB_3.alloc (.cells #[.slice K0 m0 e0, .slice K1 m1 e1, .slice K2 m2 e2, .slice K3 m3 e3] 27))) hb4
          have P_4 := Blk4.below (by exact (P_3.alloc (.cells #[.slice K0 m0 e0, .slice K1 m1 e1, .slice K2 m2 e2, .slice K3 m3 e3] 27))) hb4
          obtain ⟨cP_4_0, cP_4_1, cP_4_2, cP_4_3, _⟩ := P_4.cells
          have lP_4 := P_4.lt
          have HC_4 := Cv.below (by exact (HC.alloc (.cells #[.slice K0 m0 e0, .slice K1 m1 e1, .slice K2 m2 e2, .slice K3 m3 e3] 27))) hb4
          have Q_4 := Blk4.below (by exact (Blk4.new w3 (.slice K0 m0 e0) (.slice K1 m1 e1) (.slice K2 m2 e2) (.slice K3 m3 e3) 27)) hb4
          obtain ⟨cQ_4_0, cQ_4_1, cQ_4_2, cQ_4_3, _⟩ := Q_4.cells
          have lQ_4 := Q_4.lt
          have HA_5s := (HA_4.alloc (.cells #[.int .i64 3, .int .i64 (ja : Int), .int .i64 (ja : Int)] 29))
          have X_5s := (X_4.alloc (.cells #[.int .i64 3, .int .i64 (ja : Int), .int .i64 (ja : Int)] 29))
          obtain ⟨cX_5s_0, cX_5s_1, cX_5s_2, cX_5s_3, _⟩ := X_5s.cells
          have lX_5s := X_5s.lt
          have Y_5s := (Y_4.alloc (.cells #[.int .i64 3, .int .i64 (ja : Int), .int .i64 (ja : Int)] 29))
          obtain ⟨cY_5s_0, cY_5s_1, cY_5s_2, _⟩ := Y_5s.cells
          have lY_5s := Y_5s.lt
          have HB_5s := (HB_4.alloc (.cells #[.int .i64 3, .int .i64 (ja : Int), .int .i64 (ja : Int)] 29))
          have P_5s := (P_4.alloc (.cells #[.int .i64 3, .int .i64 (ja : Int), .int .i64 (ja : Int)] 29))
          obtain ⟨cP_5s_0, cP_5s_1, cP_5s_2, cP_5s_3, _⟩ := P_5s.cells
          have lP_5s := P_5s.lt
          have HC_5s := (HC_4.alloc (.cells #[.int .i64 3, .int .i64 (ja : Int), .int .i64 (ja : Int)] 29))
          have Q_5s := (Q_4.alloc (.cells #[.int .i64 3, .int .i64 (ja : Int), .int .i64 (ja : Int)] 29))
          obtain ⟨cQ_5s_0, cQ_5s_1, cQ_5s_2, cQ_5s_3, _⟩ := Q_5s.cells
          have lQ_5s := Q_5s.lt
          have G_5s := (Blk3.new w4 (.int .i64 3) (.int .i64 (ja : Int)) (.int .i64 (ja : Int)) 29)
          obtain ⟨cG_5s_0, cG_5s_1, cG_5s_2, _⟩ := G_5s.cells
          have lG_5s := G_5s.lt
          have BW5 := (BW4.alloc BW4.size (.cells #[.int .i64 3, .int .i64 (ja : Int), .int .i64 (ja : Int)] 29))
          go_wp2_with fail
          refine (J _ _ _ HB_5s).mono ?_; rintro e w5 ⟨v, rfl, HY, hb5⟩
          have HYb := HY
          obtain ⟨U0, s0, f0, U1, s1, f1, U2, s2, f2, U3, s3, f3, rfl, _⟩ := HYb.open_
          have BW6 : Below w.heap.size w w5 := BW5.trans (hb5.mono BW5.size)
          have zz6 : w4.heap.size + 1 ≤ w5.heap.size := by have := hb5.size; simp at this; omega
          have HA_6 := Cv.below (by exact HA_5s) hb5
          have X_6 := Blk4.below (by exact X_5s) hb5
          obtain ⟨cX_6_0, cX_6_1, cX_6_2, cX_6_3, _⟩ := X_6.cells
          have lX_6 := X_6.lt
          have Y_6 := Blk3.below (by exact Y_5s) hb5
          obtain ⟨cY_6_0, cY_6_1, cY_6_2, _⟩ := Y_6.cells
          have lY_6 := Y_6.lt
          have HB_6 := Cv.below (by exact HB_5s) hb5
          have P_6 := Blk4.below (by exact P_5s) hb5
          obtain ⟨cP_6_0, cP_6_1, cP_6_2, cP_6_3, _⟩ := P_6.cells
          have lP_6 := P_6.lt
          have HC_6 := Cv.below (by exact HC_5s) hb5
          have Q_6 := Blk4.below (by exact Q_5s) hb5
          obtain ⟨cQ_6_0, cQ_6_1, cQ_6_2, cQ_6_3, _⟩ := Q_6.cells
          have lQ_6 := Q_6.lt
          have G_6 := Blk3.below (by exact G_5s) hb5
          obtain ⟨cG_6_0, cG_6_1, cG_6_2, _⟩ := G_6.cells
          have lG_6 := G_6.lt
          have qb := ((HY.alloc (.cells #[.slice U0 s0 f0, .slice U1 s1 f1, .slice U2 s2 f2, .slice U3 s3 f3] 27))).rowsS.2.2.1
          obtain ⟨gb, zb, eb, _, hgb, hbz, cb, _⟩ := qb.get (k := ja) (by first | omega | (have := lenS qb; omega))
          subst eb
          replace hgb : gb < w5.heap.size + 1 := by simpa using hgb
          have qa := ((HA_6.alloc (.cells #[.slice U0 s0 f0, .slice U1 s1 f1, .slice (some ⟨gb, 0, none⟩) s2 f2, .slice U3 s3 f3] 27))).rowsS.2.2.1
          obtain ⟨ga, za, ea, _, hga, haz, ca, _⟩ := qa.get (k := jq) (by first | omega | (have := lenS qa; omega))
          subst ea
          replace hga : ga < w5.heap.size + 1 := by simpa using hga
          obtain rfl : zb = xv := by have h9 := hbz.out; rw [HAT.out] at h9; simpa using h9.symm
          obtain rfl : za = zb := by have h9 := haz.out; rw [HBT.out] at h9; simpa using h9.symm
          have lb := lenS qb
          have la := lenS qa
          have hji : (ja : Int) < (s2 : Int) := by omega
          have hqi : (jq : Int) < (n2 : Int) := by omega
          clear hbz haz qb qa
          have HA_7s := (HA_6.alloc (.cells #[.slice U0 s0 f0, .slice U1 s1 f1, .slice (some ⟨gb, 0, none⟩) s2 f2, .slice U3 s3 f3] 27))
          have X_7s := (X_6.alloc (.cells #[.slice U0 s0 f0, .slice U1 s1 f1, .slice (some ⟨gb, 0, none⟩) s2 f2, .slice U3 s3 f3] 27))
          obtain ⟨cX_7s_0, cX_7s_1, cX_7s_2, cX_7s_3, _⟩ := X_7s.cells
          have lX_7s := X_7s.lt
          have Y_7s := (Y_6.alloc (.cells #[.slice U0 s0 f0, .slice U1 s1 f1, .slice (some ⟨gb, 0, none⟩) s2 f2, .slice U3 s3 f3] 27))
          obtain ⟨cY_7s_0, cY_7s_1, cY_7s_2, _⟩ := Y_7s.cells
          have lY_7s := Y_7s.lt
          have HB_7s := (HB_6.alloc (.cells #[.slice U0 s0 f0, .slice U1 s1 f1, .slice (some ⟨gb, 0, none⟩) s2 f2, .slice U3 s3 f3] 27))
          have P_7s := (P_6.alloc (.cells #[.slice U0 s0 f0, .slice U1 s1 f1, .slice (some ⟨gb, 0, none⟩) s2 f2, .slice U3 s3 f3] 27))
          obtain ⟨cP_7s_0, cP_7s_1, cP_7s_2, cP_7s_3, _⟩ := P_7s.cells
          have lP_7s := P_7s.lt
          have HC_7s := (HC_6.alloc (.cells #[.slice U0 s0 f0, .slice U1 s1 f1, .slice (some ⟨gb, 0, none⟩) s2 f2, .slice U3 s3 f3] 27))
          have Q_7s := (Q_6.alloc (.cells #[.slice U0 s0 f0, .slice U1 s1 f1, .slice (some ⟨gb, 0, none⟩) s2 f2, .slice U3 s3 f3] 27))
          obtain ⟨cQ_7s_0, cQ_7s_1, cQ_7s_2, cQ_7s_3, _⟩ := Q_7s.cells
          have lQ_7s := Q_7s.lt
          have G_7s := (G_6.alloc (.cells #[.slice U0 s0 f0, .slice U1 s1 f1, .slice (some ⟨gb, 0, none⟩) s2 f2, .slice U3 s3 f3] 27))
          obtain ⟨cG_7s_0, cG_7s_1, cG_7s_2, _⟩ := G_7s.cells
          have lG_7s := G_7s.lt
          have HY_7s := (HY.alloc (.cells #[.slice U0 s0 f0, .slice U1 s1 f1, .slice (some ⟨gb, 0, none⟩) s2 f2, .slice U3 s3 f3] 27))
          have RY_7s := (Blk4.new w5 (.slice U0 s0 f0) (.slice U1 s1 f1) (.slice (some ⟨gb, 0, none⟩) s2 f2) (.slice U3 s3 f3) 27)
          obtain ⟨cRY_7s_0, cRY_7s_1, cRY_7s_2, cRY_7s_3, _⟩ := RY_7s.cells
          have lRY_7s := RY_7s.lt
          have BW7 := (BW6.alloc BW6.size (.cells #[.slice U0 s0 f0, .slice U1 s1 f1, .slice (some ⟨gb, 0, none⟩) s2 f2, .slice U3 s3 f3] 27))
          go_wp2_with fail
          go_quiet (fail)
          go_wp2_with fail
          go_ret
          exact ⟨by simp, below_drewN BW7 _⟩
        · go_wp2_with fail
          refine (I _ _ _ ((HA.alloc (.cells #[.slice A0 n0 c0, .slice A1 n1 c1, .slice A2 n2 c2, .slice A3 n3 c3] 27)).alloc (.cells #[.int .i64 6, .int .i64 (ja : Int), .int .i64 (jq : Int)] 29))).mono ?_; rintro e w2 ⟨v, rfl, HB, hb2⟩
          have HBb := HB
          obtain ⟨B0, k0, d0, B1, k1, d1, B2, k2, d2, B3, k3, d3, rfl, _, ⟨_, _, _, br3⟩, ⟨_, _, _, bl3⟩, _⟩ := HBb.open_
          have BW2 : Below w.heap.size w w2 := ((BW1.alloc BW1.size (.cells #[.slice A0 n0 c0, .slice A1 n1 c1, .slice A2 n2 c2, .slice A3 n3 c3] 27)).alloc (BW1.alloc BW1.size (.cells #[.slice A0 n0 c0, .slice A1 n1 c1, .slice A2 n2 c2, .slice A3 n3 c3] 27)).size (.cells #[.int .i64 6, .int .i64 (ja : Int), .int .i64 (jq : Int)] 29)).trans (hb2.mono ((BW1.alloc BW1.size (.cells #[.slice A0 n0 c0, .slice A1 n1 c1, .slice A2 n2 c2, .slice A3 n3 c3] 27)).alloc (BW1.alloc BW1.size (.cells #[.slice A0 n0 c0, .slice A1 n1 c1, .slice A2 n2 c2, .slice A3 n3 c3] 27)).size (.cells #[.int .i64 6, .int .i64 (ja : Int), .int .i64 (jq : Int)] 29)).size)
          have zz2 : w1.heap.size + 2 ≤ w2.heap.size := by have := hb2.size; simp at this; omega
          have HA_2 := Cv.below (by exact ((HA.alloc (.cells #[.slice A0 n0 c0, .slice A1 n1 c1, .slice A2 n2 c2, .slice A3 n3 c3] 27)).alloc (.cells #[.int .i64 6, .int .i64 (ja : Int), .int .i64 (jq : Int)] 29))) hb2
          have X_2 := Blk4.below (by exact ((Blk4.new w1 (.slice A0 n0 c0) (.slice A1 n1 c1) (.slice A2 n2 c2) (.slice A3 n3 c3) 27).alloc (.cells #[.int .i64 6, .int .i64 (ja : Int), .int .i64 (jq : Int)] 29))) hb2
          obtain ⟨cX_2_0, cX_2_1, cX_2_2, cX_2_3, _⟩ := X_2.cells
          have lX_2 := X_2.lt
          have Y_2 := Blk3.below (by exact (Blk3.new_at (w := w1.alloc (.cells #[.slice A0 n0 c0, .slice A1 n1 c1, .slice A2 n2 c2, .slice A3 n3 c3] 27)) (b := w1.heap.size + 1) (by simp) (.int .i64 6) (.int .i64 (ja : Int)) (.int .i64 (jq : Int)) 29)) hb2
          obtain ⟨cY_2_0, cY_2_1, cY_2_2, _⟩ := Y_2.cells
          have lY_2 := Y_2.lt
          go_wp2_with fail
          refine (S _ _ _ (HA_2.alloc (.cells #[.slice B0 k0 d0, .slice B1 k1 d1, .slice B2 k2 d2, .slice B3 k3 d3] 27))).mono ?_; rintro e w3 ⟨v, rfl, HC, hb3⟩
          have HCb := HC
          obtain ⟨K0, m0, e0, K1, m1, e1, K2, m2, e2, K3, m3, e3, rfl, _⟩ := HCb.open_
          have BW3 : Below w.heap.size w w3 := (BW2.alloc BW2.size (.cells #[.slice B0 k0 d0, .slice B1 k1 d1, .slice B2 k2 d2, .slice B3 k3 d3] 27)).trans (hb3.mono (BW2.alloc BW2.size (.cells #[.slice B0 k0 d0, .slice B1 k1 d1, .slice B2 k2 d2, .slice B3 k3 d3] 27)).size)
          have zz3 : w2.heap.size + 1 ≤ w3.heap.size := by have := hb3.size; simp at this; omega
          have HA_3 := Cv.below (by exact (HA_2.alloc (.cells #[.slice B0 k0 d0, .slice B1 k1 d1, .slice B2 k2 d2, .slice B3 k3 d3] 27))) hb3
          have X_3 := Blk4.below (by exact (X_2.alloc (.cells #[.slice B0 k0 d0, .slice B1 k1 d1, .slice B2 k2 d2, .slice B3 k3 d3] 27))) hb3
          obtain ⟨cX_3_0, cX_3_1, cX_3_2, cX_3_3, _⟩ := X_3.cells
          have lX_3 := X_3.lt
          have Y_3 := Blk3.below (by exact (Y_2.alloc (.cells #[.slice B0 k0 d0, .slice B1 k1 d1, .slice B2 k2 d2, .slice B3 k3 d3] 27))) hb3
          obtain ⟨cY_3_0, cY_3_1, cY_3_2, _⟩ := Y_3.cells
          have lY_3 := Y_3.lt
          have HB_3 := Cv.below (by exact (HB.alloc (.cells #[.slice B0 k0 d0, .slice B1 k1 d1, .slice B2 k2 d2, .slice B3 k3 d3] 27))) hb3
          have P_3 := Blk4.below (by exact (Blk4.new w2 (.slice B0 k0 d0) (.slice B1 k1 d1) (.slice B2 k2 d2) (.slice B3 k3 d3) 27)) hb3
          obtain ⟨cP_3_0, cP_3_1, cP_3_2, cP_3_3, _⟩ := P_3.cells
          have lP_3 := P_3.lt
          have E1 := implStoreSame_any _ _ _ _ _ _ _ (HB_3.alloc (.cells #[.slice K0 m0 e0, .slice K1 m1 e1, .slice K2 m2 e2, .slice K3 m3 e3] 27)) (HC.alloc (.cells #[.slice K0 m0 e0, .slice K1 m1 e1, .slice K2 m2 e2, .slice K3 m3 e3] 27))
          rw [sameC_self] at E1
          go_wp2_with fail
          refine (E1).mono ?_; rintro e w4 ⟨rfl, hb4⟩
          have BW4 : Below w.heap.size w w4 := (BW3.alloc BW3.size (.cells #[.slice K0 m0 e0, .slice K1 m1 e1, .slice K2 m2 e2, .slice K3 m3 e3] 27)).trans (hb4.mono (BW3.alloc BW3.size (.cells #[.slice K0 m0 e0, .slice K1 m1 e1, .slice K2 m2 e2, .slice K3 m3 e3] 27)).size)
          have zz4 : w3.heap.size + 1 ≤ w4.heap.size := by have := hb4.size; simp at this; omega
          have HA_4 := Cv.below (by exact (HA_3.alloc (.cells #[.slice K0 m0 e0, .slice K1 m1 e1, .slice K2 m2 e2, .slice K3 m3 e3] 27))) hb4
          have X_4 := Blk4.below (by exact (X_3.alloc (.cells #[.slice K0 m0 e0, .slice K1 m1 e1, .slice K2 m2 e2, .slice K3 m3 e3] 27))) hb4
          obtain ⟨cX_4_0, cX_4_1, cX_4_2, cX_4_3, _⟩ := X_4.cells
          have lX_4 := X_4.lt
          have Y_4 := Blk3.below (by exact (Y_3.alloc (.cells #[.slice K0 m0 e0, .slice K1 m1 e1, .slice K2 m2 e2, .slice K3 m3 e3] 27))) hb4
          obtain ⟨cY_4_0, cY_4_1, cY_4_2, _⟩ := Y_4.cells
          have lY_4 := Y_4.lt
          have HB_4 := Cv.below (by exact (HB_3.alloc (.cells #[.slice K0 m0 e0, .slice K1 m1 e1, .slice K2 m2 e2, .slice K3 m3 e3] 27))) hb4
          have P_4 := Blk4.below (by exact (P_3.alloc (.cells #[.slice K0 m0 e0, .slice K1 m1 e1, .slice K2 m2 e2, .slice K3 m3 e3] 27))) hb4
          obtain ⟨cP_4_0, cP_4_1, cP_4_2, cP_4_3, _⟩ := P_4.cells
          have lP_4 := P_4.lt
          have HC_4 := Cv.below (by exact (HC.alloc (.cells #[.slice K0 m0 e0, .slice K1 m1 e1, .slice K2 m2 e2, .slice K3 m3 e3] 27))) hb4
          have Q_4 := Blk4.below (by exact (Blk4.new w3 (.slice K0 m0 e0) (.slice K1 m1 e1) (.slice K2 m2 e2) (.slice K3 m3 e3) 27)) hb4
          obtain ⟨cQ_4_0, cQ_4_1, cQ_4_2, cQ_4_3, _⟩ := Q_4.cells
          have lQ_4 := Q_4.lt
          have HA_5s := (HA_4.alloc (.cells #[.int .i64 4, .int .i64 (ja : Int), .int .i64 (ja : Int)] 29))
          have X_5s := (X_4.alloc (.cells #[.int .i64 4, .int .i64 (ja : Int), .int .i64 (ja : Int)] 29))
          obtain ⟨cX_5s_0, cX_5s_1, cX_5s_2, cX_5s_3, _⟩ := X_5s.cells
          have lX_5s := X_5s.lt
          have Y_5s := (Y_4.alloc (.cells #[.int .i64 4, .int .i64 (ja : Int), .int .i64 (ja : Int)] 29))
          obtain ⟨cY_5s_0, cY_5s_1, cY_5s_2, _⟩ := Y_5s.cells
          have lY_5s := Y_5s.lt
          have HB_5s := (HB_4.alloc (.cells #[.int .i64 4, .int .i64 (ja : Int), .int .i64 (ja : Int)] 29))
          have P_5s := (P_4.alloc (.cells #[.int .i64 4, .int .i64 (ja : Int), .int .i64 (ja : Int)] 29))
          obtain ⟨cP_5s_0, cP_5s_1, cP_5s_2, cP_5s_3, _⟩ := P_5s.cells
          have lP_5s := P_5s.lt
          have HC_5s := (HC_4.alloc (.cells #[.int .i64 4, .int .i64 (ja : Int), .int .i64 (ja : Int)] 29))
          have Q_5s := (Q_4.alloc (.cells #[.int .i64 4, .int .i64 (ja : Int), .int .i64 (ja : Int)] 29))
          obtain ⟨cQ_5s_0, cQ_5s_1, cQ_5s_2, cQ_5s_3, _⟩ := Q_5s.cells
          have lQ_5s := Q_5s.lt
          have G_5s := (Blk3.new w4 (.int .i64 4) (.int .i64 (ja : Int)) (.int .i64 (ja : Int)) 29)
          obtain ⟨cG_5s_0, cG_5s_1, cG_5s_2, _⟩ := G_5s.cells
          have lG_5s := G_5s.lt
          have BW5 := (BW4.alloc BW4.size (.cells #[.int .i64 4, .int .i64 (ja : Int), .int .i64 (ja : Int)] 29))
          go_wp2_with fail
          refine (J _ _ _ HB_5s).mono ?_; rintro e w5 ⟨v, rfl, HY, hb5⟩
          have HYb := HY
          obtain ⟨U0, s0, f0, U1, s1, f1, U2, s2, f2, U3, s3, f3, rfl, _⟩ := HYb.open_
          have BW6 : Below w.heap.size w w5 := BW5.trans (hb5.mono BW5.size)
          have zz6 : w4.heap.size + 1 ≤ w5.heap.size := by have := hb5.size; simp at this; omega
          have HA_6 := Cv.below (by exact HA_5s) hb5
          have X_6 := Blk4.below (by exact X_5s) hb5
          obtain ⟨cX_6_0, cX_6_1, cX_6_2, cX_6_3, _⟩ := X_6.cells
          have lX_6 := X_6.lt
          have Y_6 := Blk3.below (by exact Y_5s) hb5
          obtain ⟨cY_6_0, cY_6_1, cY_6_2, _⟩ := Y_6.cells
          have lY_6 := Y_6.lt
          have HB_6 := Cv.below (by exact HB_5s) hb5
          have P_6 := Blk4.below (by exact P_5s) hb5
          obtain ⟨cP_6_0, cP_6_1, cP_6_2, cP_6_3, _⟩ := P_6.cells
          have lP_6 := P_6.lt
          have HC_6 := Cv.below (by exact HC_5s) hb5
          have Q_6 := Blk4.below (by exact Q_5s) hb5
          obtain ⟨cQ_6_0, cQ_6_1, cQ_6_2, cQ_6_3, _⟩ := Q_6.cells
          have lQ_6 := Q_6.lt
          have G_6 := Blk3.below (by exact G_5s) hb5
          obtain ⟨cG_6_0, cG_6_1, cG_6_2, _⟩ := G_6.cells
          have lG_6 := G_6.lt
          have qb := ((HY.alloc (.cells #[.slice U0 s0 f0, .slice U1 s1 f1, .slice U2 s2 f2, .slice U3 s3 f3] 27))).rowsS.2.2.1
          obtain ⟨gb, zb, eb, _, hgb, hbz, cb, _⟩ := qb.get (k := ja) (by first | omega | (have := lenS qb; omega))
          subst eb
          replace hgb : gb < w5.heap.size + 1 := by simpa using hgb
          have qa := ((HA_6.alloc (.cells #[.slice U0 s0 f0, .slice U1 s1 f1, .slice (some ⟨gb, 0, none⟩) s2 f2, .slice U3 s3 f3] 27))).rowsS.2.2.1
          obtain ⟨ga, za, ea, _, hga, haz, ca, _⟩ := qa.get (k := jq) (by first | omega | (have := lenS qa; omega))
          subst ea
          replace hga : ga < w5.heap.size + 1 := by simpa using hga
          obtain rfl : zb = xv := by have h9 := hbz.out; rw [HAT.out] at h9; simpa using h9.symm
          obtain rfl : za = zb := by have h9 := haz.out; rw [HBT.out] at h9; simpa using h9.symm
          have lb := lenS qb
          have la := lenS qa
          have hji : (ja : Int) < (s2 : Int) := by omega
          have hqi : (jq : Int) < (n2 : Int) := by omega
          clear hbz haz qb qa
          have HA_7s := (HA_6.alloc (.cells #[.slice U0 s0 f0, .slice U1 s1 f1, .slice (some ⟨gb, 0, none⟩) s2 f2, .slice U3 s3 f3] 27))
          have X_7s := (X_6.alloc (.cells #[.slice U0 s0 f0, .slice U1 s1 f1, .slice (some ⟨gb, 0, none⟩) s2 f2, .slice U3 s3 f3] 27))
          obtain ⟨cX_7s_0, cX_7s_1, cX_7s_2, cX_7s_3, _⟩ := X_7s.cells
          have lX_7s := X_7s.lt
          have Y_7s := (Y_6.alloc (.cells #[.slice U0 s0 f0, .slice U1 s1 f1, .slice (some ⟨gb, 0, none⟩) s2 f2, .slice U3 s3 f3] 27))
          obtain ⟨cY_7s_0, cY_7s_1, cY_7s_2, _⟩ := Y_7s.cells
          have lY_7s := Y_7s.lt
          have HB_7s := (HB_6.alloc (.cells #[.slice U0 s0 f0, .slice U1 s1 f1, .slice (some ⟨gb, 0, none⟩) s2 f2, .slice U3 s3 f3] 27))
          have P_7s := (P_6.alloc (.cells #[.slice U0 s0 f0, .slice U1 s1 f1, .slice (some ⟨gb, 0, none⟩) s2 f2, .slice U3 s3 f3] 27))
          obtain ⟨cP_7s_0, cP_7s_1, cP_7s_2, cP_7s_3, _⟩ := P_7s.cells
          have lP_7s := P_7s.lt
          have HC_7s := (HC_6.alloc (.cells #[.slice U0 s0 f0, .slice U1 s1 f1, .slice (some ⟨gb, 0, none⟩) s2 f2, .slice U3 s3 f3] 27))
          have Q_7s := (Q_6.alloc (.cells #[.slice U0 s0 f0, .slice U1 s1 f1, .slice (some ⟨gb, 0, none⟩) s2 f2, .slice U3 s3 f3] 27))
          obtain ⟨cQ_7s_0, cQ_7s_1, cQ_7s_2, cQ_7s_3, _⟩ := Q_7s.cells
          have lQ_7s := Q_7s.lt
          have G_7s := (G_6.alloc (.cells #[.slice U0 s0 f0, .slice U1 s1 f1, .slice (some ⟨gb, 0, none⟩) s2 f2, .slice U3 s3 f3] 27))
          obtain ⟨cG_7s_0, cG_7s_1, cG_7s_2, _⟩ := G_7s.cells
          have lG_7s := G_7s.lt
          have HY_7s := (HY.alloc (.cells #[.slice U0 s0 f0, .slice U1 s1 f1, .slice (some ⟨gb, 0, none⟩) s2 f2, .slice U3 s3 f3] 27))
          have RY_7s := (Blk4.new w5 (.slice U0 s0 f0) (.slice U1 s1 f1) (.slice (some ⟨gb, 0, none⟩) s2 f2) (.slice U3 s3 f3) 27)
          obtain ⟨cRY_7s_0, cRY_7s_1, cRY_7s_2, cRY_7s_3, _⟩ := RY_7s.cells
          have lRY_7s := RY_7s.lt
          have BW7 := (BW6.alloc BW6.size (.cells #[.slice U0 s0 f0, .slice U1 s1 f1, .slice (some ⟨gb, 0, none⟩) s2 f2, .slice U3 s3 f3] 27))
          go_wp2_with fail
          go_quiet (fail)
          go_wp2_with fail
          go_ret
          exact ⟨by simp, below_drewN BW7 _⟩
      · have hk5 : (k != 5) = true := by simp; omega
        have hk6 : (k != 6) = true := by simp; omega
        rw [he] at I S
        generalize runC C ⟨k, a, q⟩ = D at I S
        clear ho hk he
        go_wp2_with fail
        refine (I _ _ _ ((HA.alloc (.cells #[.slice A0 n0 c0, .slice A1 n1 c1, .slice A2 n2 c2, .slice A3 n3 c3] 27)).alloc (.cells #[.int .i64 k, .int .i64 a, .int .i64 q] 29))).mono ?_; rintro e w2 ⟨v, rfl, HB, hb2⟩
        have HBb := HB
        obtain ⟨B0, k0, d0, B1, k1, d1, B2, k2, d2, B3, k3, d3, rfl, _, ⟨_, _, _, br3⟩, ⟨_, _, _, bl3⟩, _⟩ := HBb.open_
        have BW2 : Below w.heap.size w w2 := ((BW1.alloc BW1.size (.cells #[.slice A0 n0 c0, .slice A1 n1 c1, .slice A2 n2 c2, .slice A3 n3 c3] 27)).alloc (BW1.alloc BW1.size (.cells #[.slice A0 n0 c0, .slice A1 n1 c1, .slice A2 n2 c2, .slice A3 n3 c3] 27)).size (.cells #[.int .i64 k, .int .i64 a, .int .i64 q] 29)).trans (hb2.mono ((BW1.alloc BW1.size (.cells #[.slice A0 n0 c0, .slice A1 n1 c1, .slice A2 n2 c2, .slice A3 n3 c3] 27)).alloc (BW1.alloc BW1.size (.cells #[.slice A0 n0 c0, .slice A1 n1 c1, .slice A2 n2 c2, .slice A3 n3 c3] 27)).size (.cells #[.int .i64 k, .int .i64 a, .int .i64 q] 29)).size)
        have zz2 : w1.heap.size + 2 ≤ w2.heap.size := by have := hb2.size; simp at this; omega
        have HA_2 := Cv.below (by exact ((HA.alloc (.cells #[.slice A0 n0 c0, .slice A1 n1 c1, .slice A2 n2 c2, .slice A3 n3 c3] 27)).alloc (.cells #[.int .i64 k, .int .i64 a, .int .i64 q] 29))) hb2
        have X_2 := Blk4.below (by exact ((Blk4.new w1 (.slice A0 n0 c0) (.slice A1 n1 c1) (.slice A2 n2 c2) (.slice A3 n3 c3) 27).alloc (.cells #[.int .i64 k, .int .i64 a, .int .i64 q] 29))) hb2
        obtain ⟨cX_2_0, cX_2_1, cX_2_2, cX_2_3, _⟩ := X_2.cells
        have lX_2 := X_2.lt
        have Y_2 := Blk3.below (by exact (Blk3.new_at (w := w1.alloc (.cells #[.slice A0 n0 c0, .slice A1 n1 c1, .slice A2 n2 c2, .slice A3 n3 c3] 27)) (b := w1.heap.size + 1) (by simp) (.int .i64 k) (.int .i64 a) (.int .i64 q) 29)) hb2
        obtain ⟨cY_2_0, cY_2_1, cY_2_2, _⟩ := Y_2.cells
        have lY_2 := Y_2.lt
        go_wp2_with fail
        refine (S _ _ _ (HA_2.alloc (.cells #[.slice B0 k0 d0, .slice B1 k1 d1, .slice B2 k2 d2, .slice B3 k3 d3] 27))).mono ?_; rintro e w3 ⟨v, rfl, HC, hb3⟩
        have HCb := HC
        obtain ⟨K0, m0, e0, K1, m1, e1, K2, m2, e2, K3, m3, e3, rfl, _⟩ := HCb.open_
        have BW3 : Below w.heap.size w w3 := (BW2.alloc BW2.size (.cells #[.slice B0 k0 d0, .slice B1 k1 d1, .slice B2 k2 d2, .slice B3 k3 d3] 27)).trans (hb3.mono (BW2.alloc BW2.size (.cells #[.slice B0 k0 d0, .slice B1 k1 d1, .slice B2 k2 d2, .slice B3 k3 d3] 27)).size)
        have zz3 : w2.heap.size + 1 ≤ w3.heap.size := by have := hb3.size; simp at this; omega
        have HA_3 := Cv.below (by exact (HA_2.alloc (.cells #[.slice B0 k0 d0, .slice B1 k1 d1, .slice B2 k2 d2, .slice B3 k3 d3] 27))) hb3
        have X_3 := Blk4.below (by exact (X_2.alloc (.cells #[.slice B0 k0 d0, .slice B1 k1 d1, .slice B2 k2 d2, .slice B3 k3 d3] 27))) hb3
        obtain ⟨cX_3_0, cX_3_1, cX_3_2, cX_3_3, _⟩ := X_3.cells
        have lX_3 := X_3.lt
        have Y_3 := Blk3.below (by exact (Y_2.alloc (.cells #[.slice B0 k0 d0, .slice B1 k1 d1, .slice B2 k2 d2, .slice B3 k3 d3] 27))) hb3
        obtain ⟨cY_3_0, cY_3_1, cY_3_2, _⟩ := Y_3.cells
        have lY_3 := Y_3.lt
        have HB_3 := Cv.below (by exact (HB.alloc (.cells #[.slice B0 k0 d0, .slice B1 k1 d1, .slice B2 k2 d2, .slice B3 k3 d3] 27))) hb3
        have P_3 := Blk4.below (by exact (Blk4.new w2 (.slice B0 k0 d0) (.slice B1 k1 d1) (.slice B2 k2 d2) (.slice B3 k3 d3) 27)) hb3
        obtain ⟨cP_3_0, cP_3_1, cP_3_2, cP_3_3, _⟩ := P_3.cells
        have lP_3 := P_3.lt
        have E1 := implStoreSame_any _ _ _ _ _ _ _ (HB_3.alloc (.cells #[.slice K0 m0 e0, .slice K1 m1 e1, .slice K2 m2 e2, .slice K3 m3 e3] 27)) (HC.alloc (.cells #[.slice K0 m0 e0, .slice K1 m1 e1, .slice K2 m2 e2, .slice K3 m3 e3] 27))
        rw [sameC_self] at E1
        go_wp2_with fail
        refine (E1).mono ?_; rintro e w4 ⟨rfl, hb4⟩
        have BW4 : Below w.heap.size w w4 := (BW3.alloc BW3.size (.cells #[.slice K0 m0 e0, .slice K1 m1 e1, .slice K2 m2 e2, .slice K3 m3 e3] 27)).trans (hb4.mono (BW3.alloc BW3.size (.cells #[.slice K0 m0 e0, .slice K1 m1 e1, .slice K2 m2 e2, .slice K3 m3 e3] 27)).size)
        have zz4 : w3.heap.size + 1 ≤ w4.heap.size := by have := hb4.size; simp at this; omega
        have HA_4 := Cv.below (by exact (HA_3.alloc (.cells #[.slice K0 m0 e0, .slice K1 m1 e1, .slice K2 m2 e2, .slice K3 m3 e3] 27))) hb4
        have X_4 := Blk4.below (by exact (X_3.alloc (.cells #[.slice K0 m0 e0, .slice K1 m1 e1, .slice K2 m2 e2, .slice K3 m3 e3] 27))) hb4
        obtain ⟨cX_4_0, cX_4_1, cX_4_2, cX_4_3, _⟩ := X_4.cells
        have lX_4 := X_4.lt
        have Y_4 := Blk3.below (by exact (Y_3.alloc (.cells #[.slice K0 m0 e0, .slice K1 m1 e1, .slice K2 m2 e2, .slice K3 m3 e3] 27))) hb4
        obtain ⟨cY_4_0, cY_4_1, cY_4_2, _⟩ := Y_4.cells
        have lY_4 := Y_4.lt
        have HB_4 := Cv.below (by exact (HB_3.alloc (.cells #[.slice K0 m0 e0, .slice K1 m1 e1, .slice K2 m2 e2, .slice K3 m3 e3] 27))) hb4
        have P_4 := Blk4.below (by exact (P_3.alloc (.cells #[.slice K0 m0 e0, .slice K1 m1 e1, .slice K2 m2 e2, .slice K3 m3 e3] 27))) hb4
        obtain ⟨cP_4_0, cP_4_1, cP_4_2, cP_4_3, _⟩ := P_4.cells
        have lP_4 := P_4.lt
        have HC_4 := Cv.below (by exact (HC.alloc (.cells #[.slice K0 m0 e0, .slice K1 m1 e1, .slice K2 m2 e2, .slice K3 m3 e3] 27))) hb4
        have Q_4 := Blk4.below (by exact (Blk4.new w3 (.slice K0 m0 e0) (.slice K1 m1 e1) (.slice K2 m2 e2) (.slice K3 m3 e3) 27)) hb4
        obtain ⟨cQ_4_0, cQ_4_1, cQ_4_2, cQ_4_3, _⟩ := Q_4.cells
        have lQ_4 := Q_4.lt
        have E2 := implStoreSame_any _ _ _ _ _ _ _ HB_4 HC_4
        rw [sameC_self] at E2
        go_wp2_with fail
        refine (E2).mono ?_; rintro e w5 ⟨rfl, hb5⟩
        have BW5 : Below w.heap.size w w5 := BW4.trans (hb5.mono BW4.size)
        have zz5 : w4.heap.size ≤ w5.heap.size := hb5.size
        have HA_5 := Cv.below (by exact HA_4) hb5
        have X_5 := Blk4.below (by exact X_4) hb5
        obtain ⟨cX_5_0, cX_5_1, cX_5_2, cX_5_3, _⟩ := X_5.cells
        have lX_5 := X_5.lt
        have Y_5 := Blk3.below (by exact Y_4) hb5
        obtain ⟨cY_5_0, cY_5_1, cY_5_2, _⟩ := Y_5.cells
        have lY_5 := Y_5.lt
        have HB_5 := Cv.below (by exact HB_4) hb5
        have P_5 := Blk4.below (by exact P_4) hb5
        obtain ⟨cP_5_0, cP_5_1, cP_5_2, cP_5_3, _⟩ := P_5.cells
        have lP_5 := P_5.lt
        have HC_5 := Cv.below (by exact HC_4) hb5
        have Q_5 := Blk4.below (by exact Q_4) hb5
        obtain ⟨cQ_5_0, cQ_5_1, cQ_5_2, cQ_5_3, _⟩ := Q_5.cells
        have lQ_5 := Q_5.lt
        go_wp2_with fail
        go_ret
        exact ⟨rfl, BW5⟩
    · have hx : (runE C ⟨k, a, q⟩ != 0) = true := by simpa using he
      generalize runC C ⟨k, a, q⟩ = D at I S
      clear he ho
      generalize runE C ⟨k, a, q⟩ = x at I S hx
      have hne0 : (x != x) = false := by simp
      have heq0 : (x == x) = true := by simp
      go_wp2_with fail
      refine (I _ _ _ ((HA.alloc (.cells #[.slice A0 n0 c0, .slice A1 n1 c1, .slice A2 n2 c2, .slice A3 n3 c3] 27)).alloc (.cells #[.int .i64 k, .int .i64 a, .int .i64 q] 29))).mono ?_; rintro e w2 ⟨v, rfl, HB, hb2⟩
      have HBb := HB
      obtain ⟨B0, k0, d0, B1, k1, d1, B2, k2, d2, B3, k3, d3, rfl, _, ⟨_, _, _, br3⟩, ⟨_, _, _, bl3⟩, _⟩ := HBb.open_
      have BW2 : Below w.heap.size w w2 := ((BW1.alloc BW1.size (.cells #[.slice A0 n0 c0, .slice A1 n1 c1, .slice A2 n2 c2, .slice A3 n3 c3] 27)).alloc (BW1.alloc BW1.size (.cells #[.slice A0 n0 c0, .slice A1 n1 c1, .slice A2 n2 c2, .slice A3 n3 c3] 27)).size (.cells #[.int .i64 k, .int .i64 a, .int .i64 q] 29)).trans (hb2.mono ((BW1.alloc BW1.size (.cells #[.slice A0 n0 c0, .slice A1 n1 c1, .slice A2 n2 c2, .slice A3 n3 c3] 27)).alloc (BW1.alloc BW1.size (.cells #[.slice A0 n0 c0, .slice A1 n1 c1, .slice A2 n2 c2, .slice A3 n3 c3] 27)).size (.cells #[.int .i64 k, .int .i64 a, .int .i64 q] 29)).size)
      have zz2 : w1.heap.size + 2 ≤ w2.heap.size := by have := hb2.size; simp at this; omega
      have HA_2 := Cv.below (by exact ((HA.alloc (.cells #[.slice A0 n0 c0, .slice A1 n1 c1, .slice A2 n2 c2, .slice A3 n3 c3] 27)).alloc (.cells #[.int .i64 k, .int .i64 a, .int .i64 q] 29))) hb2
      have X_2 := Blk4.below (by exact ((Blk4.new w1 (.slice A0 n0 c0) (.slice A1 n1 c1) (.slice A2 n2 c2) (.slice A3 n3 c3) 27).alloc (.cells #[.int .i64 k, .int .i64 a, .int .i64 q] 29))) hb2
      obtain ⟨cX_2_0, cX_2_1, cX_2_2, cX_2_3, _⟩ := X_2.cells
      have lX_2 := X_2.lt
      have Y_2 := Blk3.below (by exact (Blk3.new_at (w := w1.alloc (.cells #[.slice A0 n0 c0, .slice A1 n1 c1, .slice A2 n2 c2, .slice A3 n3 c3] 27)) (b := w1.heap.size + 1) (by simp) (.int .i64 k) (.int .i64 a) (.int .i64 q) 29)) hb2
      obtain ⟨cY_2_0, cY_2_1, cY_2_2, _⟩ := Y_2.cells
      have lY_2 := Y_2.lt
      go_wp2_with fail
      refine (S _ _ _ (HA_2.alloc (.cells #[.slice B0 k0 d0, .slice B1 k1 d1, .slice B2 k2 d2, .slice B3 k3 d3] 27))).mono ?_; rintro e w3 ⟨v, rfl, HC, hb3⟩
      have HCb := HC
      obtain ⟨K0, m0, e0, K1, m1, e1, K2, m2, e2, K3, m3, e3, rfl, _⟩ := HCb.open_
      have BW3 : Below w.heap.size w w3 := (BW2.alloc BW2.size (.cells #[.slice B0 k0 d0, .slice B1 k1 d1, .slice B2 k2 d2, .slice B3 k3 d3] 27)).trans (hb3.mono (BW2.alloc BW2.size (.cells #[.slice B0 k0 d0, .slice B1 k1 d1, .slice B2 k2 d2, .slice B3 k3 d3] 27)).size)
      have zz3 : w2.heap.size + 1 ≤ w3.heap.size := by have := hb3.size; simp at this; omega
      have HA_3 := Cv.below (by exact (HA_2.alloc (.cells #[.slice B0 k0 d0, .slice B1 k1 d1, .slice B2 k2 d2, .slice B3 k3 d3] 27))) hb3
      have X_3 := Blk4.below (by exact (X_2.alloc (.cells #[.slice B0 k0 d0, .slice B1 k1 d1, .slice B2 k2 d2, .slice B3 k3 d3] 27))) hb3
      obtain ⟨cX_3_0, cX_3_1, cX_3_2, cX_3_3, _⟩ := X_3.cells
      have lX_3 := X_3.lt
      have Y_3 := Blk3.below (by exact (Y_2.alloc (.cells #[.slice B0 k0 d0, .slice B1 k1 d1, .slice B2 k2 d2, .slice B3 k3 d3] 27))) hb3
      obtain ⟨cY_3_0, cY_3_1, cY_3_2, _⟩ := Y_3.cells
      have lY_3 := Y_3.lt
      have HB_3 := Cv.below (by exact (HB.alloc (.cells #[.slice B0 k0 d0, .slice B1 k1 d1, .slice B2 k2 d2, .slice B3 k3 d3] 27))) hb3
      have P_3 := Blk4.below (by exact (Blk4.new w2 (.slice B0 k0 d0) (.slice B1 k1 d1) (.slice B2 k2 d2) (.slice B3 k3 d3) 27)) hb3
      obtain ⟨cP_3_0, cP_3_1, cP_3_2, cP_3_3, _⟩ := P_3.cells
      have lP_3 := P_3.lt
      have E1 := implStoreSame_any _ _ _ _ _ _ _ (HB_3.alloc (.cells #[.slice K0 m0 e0, .slice K1 m1 e1, .slice K2 m2 e2, .slice K3 m3 e3] 27)) (HC.alloc (.cells #[.slice K0 m0 e0, .slice K1 m1 e1, .slice K2 m2 e2, .slice K3 m3 e3] 27))
      rw [sameC_self] at E1
      go_wp2_with fail
      refine (E1).mono ?_; rintro e w4 ⟨rfl, hb4⟩
      have BW4 : Below w.heap.size w w4 := (BW3.alloc BW3.size (.cells #[.slice K0 m0 e0, .slice K1 m1 e1, .slice K2 m2 e2, .slice K3 m3 e3] 27)).trans (hb4.mono (BW3.alloc BW3.size (.cells #[.slice K0 m0 e0, .slice K1 m1 e1, .slice K2 m2 e2, .slice K3 m3 e3] 27)).size)
      have zz4 : w3.heap.size + 1 ≤ w4.heap.size := by have := hb4.size; simp at this; omega
      have HA_4 := Cv.below (by exact (HA_3.alloc (.cells #[.slice K0 m0 e0, .slice K1 m1 e1, .slice K2 m2 e2, .slice K3 m3 e3] 27))) hb4
      have X_4 := Blk4.below (by exact (X_3.alloc (.cells #[.slice K0 m0 e0, .slice K1 m1 e1, .slice K2 m2 e2, .slice K3 m3 e3] 27))) hb4
      obtain ⟨cX_4_0, cX_4_1, cX_4_2, cX_4_3, _⟩ := X_4.cells
      have lX_4 := X_4.lt
      have Y_4 := Blk3.below (by exact (Y_3.alloc (.cells #[.slice K0 m0 e0, .slice K1 m1 e1, .slice K2 m2 e2, .slice K3 m3 e3] 27))) hb4
      obtain ⟨cY_4_0, cY_4_1, cY_4_2, _⟩ := Y_4.cells
      have lY_4 := Y_4.lt
      have HB_4 := Cv.below (by exact (HB_3.alloc (.cells #[.slice K0 m0 e0, .slice K1 m1 e1, .slice K2 m2 e2, .slice K3 m3 e3] 27))) hb4
      have P_4 := Blk4.below (by exact (P_3.alloc (.cells #[.slice K0 m0 e0, .slice K1 m1 e1, .slice K2 m2 e2, .slice K3 m3 e3] 27))) hb4
      obtain ⟨cP_4_0, cP_4_1, cP_4_2, cP_4_3, _⟩ := P_4.cells
      have lP_4 := P_4.lt
      have HC_4 := Cv.below (by exact (HC.alloc (.cells #[.slice K0 m0 e0, .slice K1 m1 e1, .slice K2 m2 e2, .slice K3 m3 e3] 27))) hb4
      have Q_4 := Blk4.below (by exact (Blk4.new w3 (.slice K0 m0 e0) (.slice K1 m1 e1) (.slice K2 m2 e2) (.slice K3 m3 e3) 27)) hb4
      obtain ⟨cQ_4_0, cQ_4_1, cQ_4_2, cQ_4_3, _⟩ := Q_4.cells
      have lQ_4 := Q_4.lt
      have E2 := implStoreSame_any _ _ _ _ _ _ _ HB_4 HC_4
      rw [sameC_self] at E2
      go_wp2_with fail
      refine (E2).mono ?_; rintro e w5 ⟨rfl, hb5⟩
      have BW5 : Below w.heap.size w w5 := BW4.trans (hb5.mono BW4.size)
      have zz5 : w4.heap.size ≤ w5.heap.size := hb5.size
      have HA_5 := Cv.below (by exact HA_4) hb5
      have X_5 := Blk4.below (by exact X_4) hb5
      obtain ⟨cX_5_0, cX_5_1, cX_5_2, cX_5_3, _⟩ := X_5.cells
      have lX_5 := X_5.lt
      have Y_5 := Blk3.below (by exact Y_4) hb5
      obtain ⟨cY_5_0, cY_5_1, cY_5_2, _⟩ := Y_5.cells
      have lY_5 := Y_5.lt
      have HB_5 := Cv.below (by exact HB_4) hb5
      have P_5 := Blk4.below (by exact P_4) hb5
      obtain ⟨cP_5_0, cP_5_1, cP_5_2, cP_5_3, _⟩ := P_5.cells
      have lP_5 := P_5.lt
      have HC_5 := Cv.below (by exact HC_4) hb5
      have Q_5 := Blk4.below (by exact Q_4) hb5
      obtain ⟨cQ_5_0, cQ_5_1, cQ_5_2, cQ_5_3, _⟩ := Q_5.cells
      have lQ_5 := Q_5.lt
      go_wp2_with fail
      go_ret
      exact ⟨rfl, BW5⟩
end Go.Proofs.Ythbflohanjnaeaa
