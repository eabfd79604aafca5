/- The law FnClearOp, walked. -/
import Derived.Test.YthbflohanjnaeaaDRuns
import Derived.Test.YthbflohanjnaeaaIRunA
import Derived.Test.YthbflohanjnaeaaSRunA
import Derived.Test.YthbflohanjnaeaaIStos
import Derived.Test.YthbflohanjnaeaaWLaw
import Derived.Test.YthbflohanjnaeaaLawT
import Derived.Test.YthbflohanjnaeaaRun5
import Derived.Test.YthbflohanjnaeaaNears
import Derived.Test.YthbflohanjnaeaaRun6
namespace Go.Proofs.Ythbflohanjnaeaa
open Go.RowKit

/-- A root that is cleared. -/
theorem run_clear {C : Cp} {k a q : Int} (h : runB C ⟨k, a, q⟩ = true) : runB (runC C ⟨k, a, q⟩) ⟨7, a, 0⟩ = true ∧ runE (runC C ⟨k, a, q⟩) ⟨7, a, 0⟩ = 0 ∧ (runC (runC C ⟨k, a, q⟩) ⟨7, a, 0⟩).h.t[a.toNat]? = some (-1) ∧
    cntB (liveL (runC (runC C ⟨k, a, q⟩) ⟨7, a, 0⟩).h) ≤ cntB (liveL (runC C ⟨k, a, q⟩).h) := by
  obtain ⟨ja, jq, rfl, rfl, hj, _, ⟨h3, _⟩, _⟩ := op_idx h
  have hb := op_again h (p := ⟨7, (ja : Int), 0⟩) (opB_iff.2 ⟨⟨by simp only; omega, by simp only; omega⟩, ⟨by simp only; omega, by simp only; omega, h3⟩, ⟨by simp only; omega, by simp only; omega⟩, fun _ => rfl, fun _ => by simp only; omega⟩)
  have hl := op_roots h
  generalize runC C ⟨k, (ja : Int), (jq : Int)⟩ = D at hb hl ⊢
  have e : runC D ⟨7, (ja : Int), 0⟩ = ⟨⟨D.h.l, D.h.r, D.h.t.set ja (-1)⟩, D.c⟩ := by unfold runC doC; rw [if_pos hb]; simp
  have hv2 := (stoB_parts (run_valid hb)).1
  obtain ⟨hD, _⟩ := runB_iff.1 hb
  have hv := (stoB_parts hD).1
  refine ⟨hb, by unfold runE doE; rw [if_pos hb]; simp, ?_, ?_⟩
  · rw [e]
    simp only [List.getElem?_set, Int.toNat_natCast, if_true]
    rw [if_pos (by omega)]
  · rw [e] at hv2 ⊢
    refine cntB_mono (by rw [liveL_len hv, liveL_len hv2]) (live_sub hv hv2 rfl (fun x hx hne => ?_) (fun _ => .inr rfl) (fun _ => .inr rfl))
    rcases List.mem_or_eq_of_mem_set hx with h9 | h9
    · exact h9
    · exact absurd h9 hne

set_option maxRecDepth 100000 in
set_option maxHeartbeats 4000000 in
theorem lawClearOp_walk (w : World) (A : Option Addr) (n c : Nat) (h : Inp w A n c) :
    Calls Try.prog 9 #[.slice A n c] w (LawTrue w) := by
  by_cases hbig : 1048576 < n
  · go_enter Try.func9, Try.ntmps9
    go_wp2_with fail
    go_ret
    exact ⟨rfl, Below.refl _ _⟩
  go_enter Try.func9, Try.ntmps9
  go_wp2_with fail
  refine (drawRunOp_any _ _ _ _ h).mono ?_; rintro e w1 ⟨v, C, ⟨k, a, q⟩, rfl, HA, hb1⟩
  have BW1 : Below w.heap.size w w1 := (Below.refl w.heap.size w).trans (hb1.mono (Below.refl w.heap.size w).size)
  have zz1 : w.heap.size ≤ w1.heap.size := hb1.size
  have HAo := HA
  obtain ⟨A0, n0, c0, A1, n1, c1, A2, n2, c2, A3, n3, c3, rfl, hh, ⟨r0, r1, r2, r3⟩, ⟨l0, l1, l2, l3⟩, ⟨mm0, mm1, mm2, mm3⟩, _⟩ := HAo.open_
  have I := fun W lo v hW => implRunOp_any W lo v C hW ⟨k, a, q⟩
  have S := fun W lo v hW => specRunOp_any W lo v C hW ⟨k, a, q⟩
  rcases ho : runB C ⟨k, a, q⟩
  · rw [ho] at I S
    generalize runC C ⟨k, a, q⟩ = D at I S
    generalize runE C ⟨k, a, q⟩ = x at I S
    have hne0 : (x != x) = false := by simp
    have heq0 : (x == x) = true := by simp
    clear ho
    go_wp2_with fail
    refine (I _ _ _ ((HA.alloc (.cells #[.slice A0 n0 c0, .slice A1 n1 c1, .slice A2 n2 c2, .slice A3 n3 c3] 27)).alloc (.cells #[.int .i64 k, .int .i64 a, .int .i64 q] 29))).mono ?_; rintro e w2 ⟨v, rfl, HB, hb2⟩
    have HBb := HB
    obtain ⟨B0, k0, d0, B1, k1, d1, B2, k2, d2, B3, k3, d3, rfl, _, ⟨_, _, _, br3⟩, ⟨_, _, _, bl3⟩, _⟩ := HBb.open_
    have BW2 : Below w.heap.size w w2 := ((BW1.alloc BW1.size (.cells #[.slice A0 n0 c0, .slice A1 n1 c1, .slice A2 n2 c2, .slice A3 n3 c3] 27)).alloc (BW1.alloc BW1.size (.cells #[.slice A0 n0 c0, .slice A1 n1 c1, .slice A2 n2 c2, .slice A3 n3 c3] 27)).size (.cells #[.int .i64 k, .int .i64 a, .int .i64 q] 29)).trans (hb2.mono ((BW1.alloc BW1.size (.cells #[.slice A0 n0 c0, .slice A1 n1 c1, .slice A2 n2 c2, .slice A3 n3 c3] 27)).alloc (BW1.alloc BW1.size (.cells #[.slice A0 n0 c0, .slice A1 n1 c1, .slice A2 n2 c2, .slice A3 n3 c3] 27)).size (.cells #[.int .i64 k, .int .i64 a, .int .i64 q] 29)).size)
    have zz2 : w1.heap.size + 2 ≤ w2.heap.size := by have := hb2.size; simp at this; omega
    have HA_2 := Cv.below (by exact ((HA.alloc (.cells #[.slice A0 n0 c0, .slice A1 n1 c1, .slice A2 n2 c2, .slice A3 n3 c3] 27)).alloc (.cells #[.int .i64 k, .int .i64 a, .int .i64 q] 29))) hb2
    have X_2 := Blk4.below (by exact ((Blk4.new w1 (.slice A0 n0 c0) (.slice A1 n1 c1) (.slice A2 n2 c2) (.slice A3 n3 c3) 27).alloc (.cells #[.int .i64 k, .int .i64 a, .int .i64 q] 29))) hb2
    obtain ⟨cX_2_0, cX_2_1, cX_2_2, cX_2_3, _⟩ := X_2.cells
    have lX_2 := X_2.lt
    have Y_2 := Blk3.below (by exact (Blk3.new_at (w := w1.alloc (.cells #[.slice A0 n0 c0, .slice A1 n1 c1, .slice A2 n2 c2, .slice A3 n3 c3] 27)) (b := w1.heap.size + 1) (by simp) (.int .i64 k) (.int .i64 a) (.int .i64 q) 29)) hb2
    obtain ⟨cY_2_0, cY_2_1, cY_2_2, _⟩ := Y_2.cells
    have lY_2 := Y_2.lt
    go_wp2_with fail
    refine (S _ _ _ (HA_2.alloc (.cells #[.slice B0 k0 d0, .slice B1 k1 d1, .slice B2 k2 d2, .slice B3 k3 d3] 27))).mono ?_; rintro e w3 ⟨v, rfl, HC, hb3⟩
    have HCb := HC
    obtain ⟨K0, m0, e0, K1, m1, e1, K2, m2, e2, K3, m3, e3, rfl, _⟩ := HCb.open_
    have BW3 : Below w.heap.size w w3 := (BW2.alloc BW2.size (.cells #[.slice B0 k0 d0, .slice B1 k1 d1, .slice B2 k2 d2, .slice B3 k3 d3] 27)).trans (hb3.mono (BW2.alloc BW2.size (.cells #[.slice B0 k0 d0, .slice B1 k1 d1, .slice B2 k2 d2, .slice B3 k3 d3] 27)).size)
    have zz3 : w2.heap.size + 1 ≤ w3.heap.size := by have := hb3.size; simp at this; omega
    have HA_3 := Cv.below (by exact (HA_2.alloc (.cells #[.slice B0 k0 d0, .slice B1 k1 d1, .slice B2 k2 d2, .slice B3 k3 d3] 27))) hb3
    have X_3 := Blk4.below (by exact (X_2.alloc (.cells #[.slice B0 k0 d0, .slice B1 k1 d1, .slice B2 k2 d2, .slice B3 k3 d3] 27))) hb3
    obtain ⟨cX_3_0, cX_3_1, cX_3_2, cX_3_3, _⟩ := X_3.cells
    have lX_3 := X_3.lt
    have Y_3 := Blk3.below (by exact (Y_2.alloc (.cells #[.slice B0 k0 d0, .slice B1 k1 d1, .slice B2 k2 d2, .slice B3 k3 d3] 27))) hb3
    obtain ⟨cY_3_0, cY_3_1, cY_3_2, _⟩ := Y_3.cells
    have lY_3 := Y_3.lt
    have HB_3 := Cv.below (by exact (HB.alloc (.cells #[.slice B0 k0 d0, .slice B1 k1 d1, .slice B2 k2 d2, .slice B3 k3 d3] 27))) hb3
    have P_3 := Blk4.below (by exact (Blk4.new w2 (.slice B0 k0 d0) (.slice B1 k1 d1) (.slice B2 k2 d2) (.slice B3 k3 d3) 27)) hb3
    obtain ⟨cP_3_0, cP_3_1, cP_3_2, cP_3_3, _⟩ := P_3.cells
    have lP_3 := P_3.lt
    have E1 := implStoreSame_any _ _ _ _ _ _ _ (HB_3.alloc (.cells #[.slice K0 m0 e0, .slice K1 m1 e1, .slice K2 m2 e2, .slice K3 m3 e3] 27)) (HC.alloc (.cells #[.slice K0 m0 e0, .slice K1 m1 e1, .slice K2 m2 e2, .slice K3 m3 e3] 27))
    rw [sameC_self] at E1
    go_wp2_with fail
    refine (E1).mono ?_; rintro e w4 ⟨rfl, hb4⟩
    have BW4 : Below w.heap.size w w4 := (BW3.alloc BW3.size (.cells #[.slice K0 m0 e0, .slice K1 m1 e1, .slice K2 m2 e2, .slice K3 m3 e3] 27)).trans (hb4.mono (BW3.alloc BW3.size (.cells #[.slice K0 m0 e0, .slice K1 m1 e1, .slice K2 m2 e2, .slice K3 m3 e3] 27)).size)
    have zz4 : w3.heap.size + 1 ≤ w4.heap.size := by have := hb4.size; simp at this; omega
    have HA_4 := Cv.below (by exact (HA_3.alloc (.cells #[.slice K0 m0 e0, .slice K1 m1 e1, .slice K2 m2 e2, .slice K3 m3 e3] 27))) hb4
    have X_4 := Blk4.below (by exact (X_3.alloc (.cells #[.slice K0 m0 e0, .slice K1 m1 e1, .slice K2 m2 e2, .slice K3 m3 e3] 27))) hb4
    obtain ⟨cX_4_0, cX_4_1, cX_4_2, cX_4_3, _⟩ := X_4.cells
    have lX_4 := X_4.lt
    have Y_4 := Blk3.below (by exact (Y_3.alloc (.cells #[.slice K0 m0 e0, .slice K1 m1 e1, .slice K2 m2 e2, .slice K3 m3 e3] 27))) hb4
    obtain ⟨cY_4_0, cY_4_1, cY_4_2, _⟩ := Y_4.cells
    have lY_4 := Y_4.lt
    have HB_4 := Cv.below (by exact (HB_3.alloc (.cells #[.slice K0 m0 e0, .slice K1 m1 e1, .slice K2 m2 e2, .slice K3 m3 e3] 27))) hb4
    have P_4 := Blk4.below (by exact (P_3.alloc (.cells #[.slice K0 m0 e0, .slice K1 m1 e1, .slice K2 m2 e2, .slice K3 m3 e3] 27))) hb4
    obtain ⟨cP_4_0, cP_4_1, cP_4_2, cP_4_3, _⟩ := P_4.cells
    have lP_4 := P_4.lt
    have HC_4 := Cv.below (by exact (HC.alloc (.cells #[.slice K0 m0 e0, .slice K1 m1 e1, .slice K2 m2 e2, .slice K3 m3 e3] 27))) hb4
    have Q_4 := Blk4.below (by exact (Blk4.new w3 (.slice K0 m0 e0) (.slice K1 m1 e1) (.slice K2 m2 e2) (.slice K3 m3 e3) 27)) hb4
    obtain ⟨cQ_4_0, cQ_4_1, cQ_4_2, cQ_4_3, _⟩ := Q_4.cells
    have lQ_4 := Q_4.lt
    have E2 := implStoreSame_any _ _ _ _ _ _ _ HB_4 HC_4
    rw [sameC_self] at E2
    go_wp2_with fail
    refine (E2).mono ?_; rintro e w5 ⟨rfl, hb5⟩
    have BW5 : Below w.heap.size w w5 := BW4.trans (hb5.mono BW4.size)
    have zz5 : w4.heap.size ≤ w5.heap.size := hb5.size
    have HA_5 := Cv.below (by exact HA_4) hb5
    have X_5 := Blk4.below (by exact X_4) hb5
    obtain ⟨cX_5_0, cX_5_1, cX_5_2, cX_5_3, _⟩ := X_5.cells
    have lX_5 := X_5.lt
    have Y_5 := Blk3.below (by exact Y_4) hb5
    obtain ⟨cY_5_0, cY_5_1, cY_5_2, _⟩ := Y_5.cells
    have lY_5 := Y_5.lt
    have HB_5 := Cv.below (by exact HB_4) hb5
    have P_5 := Blk4.below (by exact P_4) hb5
    obtain ⟨cP_5_0, cP_5_1, cP_5_2, cP_5_3, _⟩ := P_5.cells
    have lP_5 := P_5.lt
    have HC_5 := Cv.below (by exact HC_4) hb5
    have Q_5 := Blk4.below (by exact Q_4) hb5
    obtain ⟨cQ_5_0, cQ_5_1, cQ_5_2, cQ_5_3, _⟩ := Q_5.cells
    have lQ_5 := Q_5.lt
    go_wp2_with fail
    go_ret
    exact ⟨rfl, BW5⟩
  · rw [ho] at I S
    obtain ⟨hB2, hE2, hat, hle⟩ := run_clear ho
    obtain ⟨ja, jq, rfl, rfl, hja, _⟩ := op_idx ho
    simp only [Int.toNat_natCast] at hat
    have J := fun W lo v hW => implRunOp_any W lo v (runC C ⟨k, (ja : Int), (jq : Int)⟩) hW ⟨7, (ja : Int), 0⟩
    rw [hB2, hE2] at J
    have hln : (runC (runC C ⟨k, (ja : Int), (jq : Int)⟩) ⟨7, (ja : Int), 0⟩).h.t.length = C.h.t.length := by rw [op_roots hB2, op_roots ho]
    generalize runC (runC C ⟨k, (ja : Int), (jq : Int)⟩) ⟨7, (ja : Int), 0⟩ = D2 at J hat hln hle
    generalize runC C ⟨k, (ja : Int), (jq : Int)⟩ = D at I S J hle
    have LY := fun W lo v hW => implLive_any W lo v D2.h hW
    have LX := fun W lo v hW => implLive_any W lo v D.h hW
    generalize cntB (liveL D2.h) = cy at LY hle
    generalize cntB (liveL D.h) = cx at LX hle
    clear ho hB2 hE2
    generalize runE C ⟨k, (ja : Int), (jq : Int)⟩ = x at I S
    have hne0 : (x != x) = false := by simp
    have HAT := Lib.hid hat
    clear hat
    go_wp2_with fail
    refine (I _ _ _ ((HA.alloc (.cells #[.slice A0 n0 c0, .slice A1 n1 c1, .slice A2 n2 c2, .slice A3 n3 c3] 27)).alloc (.cells #[.int .i64 k, .int .i64 (ja : Int), .int .i64 (jq : Int)] 29))).mono ?_; rintro e w2 ⟨v, rfl, HB, hb2⟩
    have HBb := HB
    obtain ⟨B0, k0, d0, B1, k1, d1, B2, k2, d2, B3, k3, d3, rfl, _, ⟨_, _, _, br3⟩, ⟨_, _, _, bl3⟩, _⟩ := HBb.open_
    have BW2 : Below w.heap.size w w2 := ((BW1.alloc BW1.size (.cells #[.slice A0 n0 c0, .slice A1 n1 c1, .slice A2 n2 c2, .slice A3 n3 c3] 27)).alloc (BW1.alloc BW1.size (.cells #[.slice A0 n0 c0, .slice A1 n1 c1, .slice A2 n2 c2, .slice A3 n3 c3] 27)).size (.cells #[.int .i64 k, .int .i64 (ja : Int), .int .i64 (jq : Int)] 29)).trans (hb2.mono ((BW1.alloc BW1.size (.cells #[.slice A0 n0 c0, .slice A1 n1 c1, .slice A2 n2 c2, .slice A3 n3 c3] 27)).alloc (BW1.alloc BW1.size (.cells #[.slice A0 n0 c0, .slice A1 n1 c1, .slice A2 n2 c2, .slice A3 n3 c3] 27)).size (.cells #[.int .i64 k, .int .i64 (ja : Int), .int .i64 (jq : Int)] 29)).size)
    have zz2 : w1.heap.size + 2 ≤ w2.heap.size := by have := hb2.size; simp at this; omega
    have HA_2 := Cv.below (by exact ((HA.alloc (.cells #[.slice A0 n0 c0, .slice A1 n1 c1, .slice A2 n2 c2, .slice A3 n3 c3] 27)).alloc (.cells #[.int .i64 k, .int .i64 (ja : Int), .int .i64 (jq : Int)] 29))) hb2
    have X_2 := Blk4.below (by exact ((Blk4.new w1 (.slice A0 n0 c0) (.slice A1 n1 c1) (.slice A2 n2 c2) (.slice A3 n3 c3) 27).alloc (.cells #[.int .i64 k, .int .i64 (ja : Int), .int .i64 (jq : Int)] 29))) hb2
    obtain ⟨cX_2_0, cX_2_1, cX_2_2, cX_2_3, _⟩ := X_2.cells
    have lX_2 := X_2.lt
    have Y_2 := Blk3.below (by exact (Blk3.new_at (w := w1.alloc (.cells #[.slice A0 n0 c0, .slice A1 n1 c1, .slice A2 n2 c2, .slice A3 n3 c3] 27)) (b := w1.heap.size + 1) (by simp) (.int .i64 k) (.int .i64 (ja : Int)) (.int .i64 (jq : Int)) 29)) hb2
    obtain ⟨cY_2_0, cY_2_1, cY_2_2, _⟩ := Y_2.cells
    have lY_2 := Y_2.lt
    go_wp2_with fail
    refine (S _ _ _ (HA_2.alloc (.cells #[.slice B0 k0 d0, .slice B1 k1 d1, .slice B2 k2 d2, .slice B3 k3 d3] 27))).mono ?_; rintro e w3 ⟨v, rfl, HC, hb3⟩
    have HCb := HC
    obtain ⟨K0, m0, e0, K1, m1, e1, K2, m2, e2, K3, m3, e3, rfl, _⟩ := HCb.open_
    have BW3 : Below w.heap.size w w3 := (BW2.alloc BW2.size (.cells #[.slice B0 k0 d0, .slice B1 k1 d1, .slice B2 k2 d2, .slice B3 k3 d3] 27)).trans (hb3.mono (BW2.alloc BW2.size (.cells #[.slice B0 k0 d0, .slice B1 k1 d1, .slice B2 k2 d2, .slice B3 k3 d3] 27)).size)
    have zz3 : w2.heap.size + 1 ≤ w3.heap.size := by have := hb3.size; simp at this; omega
    have HA_3 := Cv.below (by exact (HA_2.alloc (.cells #[.slice B0 k0 d0, .slice B1 k1 d1, .slice B2 k2 d2, .slice B3 k3 d3] 27))) hb3
    have X_3 := Blk4.below (by exact (X_2.alloc (.cells #[.slice B0 k0 d0, .slice B1 k1 d1, .slice B2 k2 d2, .slice B3 k3 d3] 27))) hb3
    obtain ⟨cX_3_0, cX_3_1, cX_3_2, cX_3_3, _⟩ := X_3.cells
    have lX_3 := X_3.lt
    have Y_3 := Blk3.below (by exact (Y_2.alloc (.cells #[.slice B0 k0 d0, .slice B1 k1 d1, .slice B2 k2 d2, .slice B3 k3 d3] 27))) hb3
    obtain ⟨cY_3_0, cY_3_1, cY_3_2, _⟩ := Y_3.cells
    have lY_3 := Y_3.lt
    have HB_3 := Cv.below (by exact (HB.alloc (.cells #[.slice B0 k0 d0, .slice B1 k1 d1, .slice B2 k2 d2, .slice B3 k3 d3] 27))) hb3
    have P_3 := Blk4.below (by exact (Blk4.new w2 (.slice B0 k0 d0) (.slice B1 k1 d1) (.slice B2 k2 d2) (.slice B3 k3 d3) 27)) hb3
    obtain ⟨cP_3_0, cP_3_1, cP_3_2, cP_3_3, _⟩ := P_3.cells
    have lP_3 := P_3.lt
    have E1 := implStoreSame_any _ _ _ _ _ _ _ (HB_3.alloc (.cells #[.slice K0 m0 e0, .slice K1 m1 e1, .slice K2 m2 e2, .slice K3 m3 e3] 27)) (HC.alloc (.cells #[.slice K0 m0 e0, .slice K1 m1 e1, .slice K2 m2 e2, .slice K3 m3 e3] 27))
    rw [sameC_self] at E1
    go_wp2_with fail
    refine (E1).mono ?_; rintro e w4 ⟨rfl, hb4⟩
    have BW4 : Below w.heap.size w w4 := (BW3.alloc BW3.size (.cells #[.slice K0 m0 e0, .slice K1 m1 e1, .slice K2 m2 e2, .slice K3 m3 e3] 27)).trans (hb4.mono (BW3.alloc BW3.size (.cells #[.slice K0 m0 e0, .slice K1 m1 e1, .slice K2 m2 e2, .slice K3 m3 e3] 27)).size)
    have zz4 : w3.heap.size + 1 ≤ w4.heap.size := by have := hb4.size; simp at this; omega
    have HA_4 := Cv.below (by exact (HA_3.alloc (.cells #[.slice K0 m0 e0, .slice K1 m1 e1, .slice K2 m2 e2, .slice K3 m3 e3] 27))) hb4
    have X_4 := Blk4.below (by exact (X_3.alloc (.cells #[.slice K0 m0 e0, .slice K1 m1 e1, .slice K2 m2 e2, .slice K3 m3 e3] 27))) hb4
    obtain ⟨cX_4_0, cX_4_1, cX_4_2, cX_4_3, _⟩ := X_4.cells
    have lX_4 := X_4.lt
    have Y_4 := Blk3.below (by exact (Y_3.alloc (.cells #[.slice K0 m0 e0, .slice K1 m1 e1, .slice K2 m2 e2, .slice K3 m3 e3] 27))) hb4
    obtain ⟨cY_4_0, cY_4_1, cY_4_2, _⟩ := Y_4.cells
    have lY_4 := Y_4.lt
    have HB_4 := Cv.below (by exact (HB_3.alloc (.cells #[.slice K0 m0 e0, .slice K1 m1 e1, .slice K2 m2 e2, .slice K3 m3 e3] 27))) hb4
    have P_4 := Blk4.below (by exact (P_3.alloc (.cells #[.slice K0 m0 e0, .slice K1 m1 e1, .slice K2 m2 e2, .slice K3 m3 e3] 27))) hb4
    obtain ⟨cP_4_0, cP_4_1, cP_4_2, cP_4_3, _⟩ := P_4.cells
    have lP_4 := P_4.lt
    have HC_4 := Cv.below (by exact (HC.alloc (.cells #[.slice K0 m0 e0, .slice K1 m1 e1, .slice K2 m2 e2, .slice K3 m3 e3] 27))) hb4
    have Q_4 := Blk4.below (by exact (Blk4.new w3 (.slice K0 m0 e0) (.slice K1 m1 e1) (.slice K2 m2 e2) (.slice K3 m3 e3) 27)) hb4
    obtain ⟨cQ_4_0, cQ_4_1, cQ_4_2, cQ_4_3, _⟩ := Q_4.cells
    have lQ_4 := Q_4.lt
    go_wp2_with fail
    refine (J _ _ _ HB_4).mono ?_; rintro e w5 ⟨v, rfl, HY, hb5⟩
    have HYb := HY
    obtain ⟨U0, s0, f0, U1, s1, f1, U2, s2, f2, U3, s3, f3, rfl, _⟩ := HYb.open_
    have BW5 : Below w.heap.size w w5 := BW4.trans (hb5.mono BW4.size)
    have zz5 : w4.heap.size ≤ w5.heap.size := hb5.size
    have HA_5 := Cv.below (by exact HA_4) hb5
    have X_5 := Blk4.below (by exact X_4) hb5
    obtain ⟨cX_5_0, cX_5_1, cX_5_2, cX_5_3, _⟩ := X_5.cells
    have lX_5 := X_5.lt
    have Y_5 := Blk3.below (by exact Y_4) hb5
    obtain ⟨cY_5_0, cY_5_1, cY_5_2, _⟩ := Y_5.cells
    have lY_5 := Y_5.lt
    have HB_5 := Cv.below (by exact HB_4) hb5
    have P_5 := Blk4.below (by exact P_4) hb5
    obtain ⟨cP_5_0, cP_5_1, cP_5_2, cP_5_3, _⟩ := P_5.cells
    have lP_5 := P_5.lt
    have HC_5 := Cv.below (by exact HC_4) hb5
    have Q_5 := Blk4.below (by exact Q_4) hb5
    obtain ⟨cQ_5_0, cQ_5_1, cQ_5_2, cQ_5_3, _⟩ := Q_5.cells
    have lQ_5 := Q_5.lt
    have qb := ((HY.alloc (.cells #[.slice U0 s0 f0, .slice U1 s1 f1, .slice U2 s2 f2, .slice U3 s3 f3] 27))).rowsS.2.2.1
    obtain ⟨gb, zb, eb, _, hgb, hbz, cb, _⟩ := qb.get (k := ja) (by first | omega | (have := lenS qb; omega))
    subst eb
    replace hgb : gb < w5.heap.size + 1 := by simpa using hgb
    obtain rfl : zb = -1 := by have h9 := hbz.out; rw [HAT.out] at h9; simpa using h9.symm
    have lb := lenS qb
    have hji : (ja : Int) < (s2 : Int) := by omega
    clear hbz qb
    have HA_6s := (HA_5.alloc (.cells #[.slice U0 s0 f0, .slice U1 s1 f1, .slice (some ⟨gb, 0, none⟩) s2 f2, .slice U3 s3 f3] 27))
    have X_6s := (X_5.alloc (.cells #[.slice U0 s0 f0, .slice U1 s1 f1, .slice (some ⟨gb, 0, none⟩) s2 f2, .slice U3 s3 f3] 27))
    obtain ⟨cX_6s_0, cX_6s_1, cX_6s_2, cX_6s_3, _⟩ := X_6s.cells
    have lX_6s := X_6s.lt
    have Y_6s := (Y_5.alloc (.cells #[.slice U0 s0 f0, .slice U1 s1 f1, .slice (some ⟨gb, 0, none⟩) s2 f2, .slice U3 s3 f3] 27))
    obtain ⟨cY_6s_0, cY_6s_1, cY_6s_2, _⟩ := Y_6s.cells
    have lY_6s := Y_6s.lt
    have HB_6s := (HB_5.alloc (.cells #[.slice U0 s0 f0, .slice U1 s1 f1, .slice (some ⟨gb, 0, none⟩) s2 f2, .slice U3 s3 f3] 27))
    have P_6s := (P_5.alloc (.cells #[.slice U0 s0 f0, .slice U1 s1 f1, .slice (some ⟨gb, 0, none⟩) s2 f2, .slice U3 s3 f3] 27))
    obtain ⟨cP_6s_0, cP_6s_1, cP_6s_2, cP_6s_3, _⟩ := P_6s.cells
    have lP_6s := P_6s.lt
    have HC_6s := (HC_5.alloc (.cells #[.slice U0 s0 f0, .slice U1 s1 f1, .slice (some ⟨gb, 0, none⟩) s2 f2, .slice U3 s3 f3] 27))
    have Q_6s := (Q_5.alloc (.cells #[.slice U0 s0 f0, .slice U1 s1 f1, .slice (some ⟨gb, 0, none⟩) s2 f2, .slice U3 s3 f3] 27))
    obtain ⟨cQ_6s_0, cQ_6s_1, cQ_6s_2, cQ_6s_3, _⟩ := Q_6s.cells
    have lQ_6s := Q_6s.lt
    have HY_6s := (HY.alloc (.cells #[.slice U0 s0 f0, .slice U1 s1 f1, .slice (some ⟨gb, 0, none⟩) s2 f2, .slice U3 s3 f3] 27))
    have RY_6s := (Blk4.new w5 (.slice U0 s0 f0) (.slice U1 s1 f1) (.slice (some ⟨gb, 0, none⟩) s2 f2) (.slice U3 s3 f3) 27)
    obtain ⟨cRY_6s_0, cRY_6s_1, cRY_6s_2, cRY_6s_3, _⟩ := RY_6s.cells
    have lRY_6s := RY_6s.lt
    have BW6 := (BW5.alloc BW5.size (.cells #[.slice U0 s0 f0, .slice U1 s1 f1, .slice (some ⟨gb, 0, none⟩) s2 f2, .slice U3 s3 f3] 27))
    go_wp2_with fail
    go_region_held3 (fun w' => w'.cell? ⟨w5.heap.size, 0, none⟩ = some (.slice U0 s0 f0) ∧ w'.cell? ⟨w5.heap.size, 1, none⟩ = some (.slice U1 s1 f1) ∧ w'.cell? ⟨w5.heap.size, 2, none⟩ = some (.slice (some ⟨gb, 0, none⟩) s2 f2) ∧ w'.cell? ⟨w5.heap.size, 3, none⟩ = some (.slice U3 s3 f3) ∧ w'.cell? ⟨w2.heap.size, 0, none⟩ = some (.slice B0 k0 d0) ∧ w'.cell? ⟨w2.heap.size, 1, none⟩ = some (.slice B1 k1 d1) ∧ w'.cell? ⟨w2.heap.size, 2, none⟩ = some (.slice B2 k2 d2) ∧ w'.cell? ⟨w2.heap.size, 3, none⟩ = some (.slice B3 k3 d3) ∧ w'.cell? ⟨(w1.heap.size + 1), 0, none⟩ = some (.int .i64 k) ∧ w'.cell? ⟨(w1.heap.size + 1), 1, none⟩ = some (.int .i64 (ja : Int)) ∧ w'.cell? ⟨(w1.heap.size + 1), 2, none⟩ = some (.int .i64 (jq : Int)) ∧ w'.cell? ⟨gb, ja, none⟩ = some (.int .i64 (-1)))
      (((try dsimp only); (repeat' apply And.intro) <;> (with_reducible (first | exact cb_w6_w7 | exact cY_8_2 | exact cY_8_1 | exact cY_8_0 | exact cP_8_3 | exact cP_8_2 | exact cP_8_1 | exact cP_8_0 | exact cRY_8_3 | exact cRY_8_2 | exact cRY_8_1 | exact cRY_8_0 | exact cb_w6 | exact cY_7_2 | exact cY_7_1 | exact cY_7_0 | exact cP_7_3 | exact cP_7_2 | exact cP_7_1 | exact cP_7_0 | exact cRY_7_3 | exact cRY_7_2 | exact cRY_7_1 | exact cRY_7_0 | exact cellD cb | exact cellD cY_6s_2 | exact cellD cY_6s_1 | exact cellD cY_6s_0 | exact cellD cP_6s_3 | exact cellD cP_6s_2 | exact cellD cP_6s_1 | exact cellD cP_6s_0 | exact cellD cRY_6s_3 | exact cellD cRY_6s_2 | exact cellD cRY_6s_1 | exact cellD cRY_6s_0 | exact cb | exact cY_6s_2 | exact cY_6s_1 | exact cY_6s_0 | exact cP_6s_3 | exact cP_6s_2 | exact cP_6s_1 | exact cP_6s_0 | exact cRY_6s_3 | exact cRY_6s_2 | exact cRY_6s_1 | exact cRY_6s_0))))
      (first
        | (go_at_call 26; (with_reducible refine (LY _ _ _ (Cv.hv5 (HY_6s.drew))).mono ?_); rintro e w6 ⟨rfl, hb6⟩; have BW7 : Below w.heap.size w w6 := (Below.drew BW6).trans (hb6.mono (Below.drew BW6).size); (have zz7 : w5.heap.size + 1 ≤ w6.heap.size := by have := hb6.size; simp at this; omega); have HA_7 := Cv.below (by exact (HA_6s.drew)) hb6; have X_7 := Blk4.below (by exact (X_6s.drew)) hb6; obtain ⟨cX_7_0, cX_7_1, cX_7_2, cX_7_3, _⟩ := X_7.cells; have lX_7 := X_7.lt; have Y_7 := Blk3.below (by exact (Y_6s.drew)) hb6; obtain ⟨cY_7_0, cY_7_1, cY_7_2, _⟩ := Y_7.cells; have lY_7 := Y_7.lt; have HB_7 := Cv.below (by exact (HB_6s.drew)) hb6; have P_7 := Blk4.below (by exact (P_6s.drew)) hb6; obtain ⟨cP_7_0, cP_7_1, cP_7_2, cP_7_3, _⟩ := P_7.cells; have lP_7 := P_7.lt; have HC_7 := Cv.below (by exact (HC_6s.drew)) hb6; have Q_7 := Blk4.below (by exact (Q_6s.drew)) hb6; obtain ⟨cQ_7_0, cQ_7_1, cQ_7_2, cQ_7_3, _⟩ := Q_7.cells; have lQ_7 := Q_7.lt; have HY_7 := Cv.below (by exact (HY_6s.drew)) hb6; have RY_7 := Blk4.below (by exact (RY_6s.drew)) hb6; obtain ⟨cRY_7_0, cRY_7_1, cRY_7_2, cRY_7_3, _⟩ := RY_7.cells; have lRY_7 := RY_7.lt; have cb_w6 : w6.cell? ⟨gb, ja, none⟩ = some (.int .i64 (-1)) := (hb6.cell (p := ⟨gb, ja, none⟩) (by simp <;> omega)).trans (by exact cb))
        | (go_at_call 26; (with_reducible refine (LX _ _ _ (Cv.hv5 HB_7)).mono ?_); rintro e w7 ⟨rfl, hb7⟩; have BW8 : Below w.heap.size w w7 := BW7.trans (hb7.mono BW7.size); have zz8 : w6.heap.size ≤ w7.heap.size := hb7.size; have HA_8 := Cv.below (by exact HA_7) hb7; have X_8 := Blk4.below (by exact X_7) hb7; obtain ⟨cX_8_0, cX_8_1, cX_8_2, cX_8_3, _⟩ := X_8.cells; have lX_8 := X_8.lt; have Y_8 := Blk3.below (by exact Y_7) hb7; obtain ⟨cY_8_0, cY_8_1, cY_8_2, _⟩ := Y_8.cells; have lY_8 := Y_8.lt; have HB_8 := Cv.below (by exact HB_7) hb7; have P_8 := Blk4.below (by exact P_7) hb7; obtain ⟨cP_8_0, cP_8_1, cP_8_2, cP_8_3, _⟩ := P_8.cells; have lP_8 := P_8.lt; have HC_8 := Cv.below (by exact HC_7) hb7; have Q_8 := Blk4.below (by exact Q_7) hb7; obtain ⟨cQ_8_0, cQ_8_1, cQ_8_2, cQ_8_3, _⟩ := Q_8.cells; have lQ_8 := Q_8.lt; have HY_8 := Cv.below (by exact HY_7) hb7; have RY_8 := Blk4.below (by exact RY_7) hb7; obtain ⟨cRY_8_0, cRY_8_1, cRY_8_2, cRY_8_3, _⟩ := RY_8.cells; have lRY_8 := RY_8.lt; have cb_w6_w7 : w7.cell? ⟨gb, ja, none⟩ = some (.int .i64 (-1)) := (hb7.cell (p := ⟨gb, ja, none⟩) (by simp <;> omega)).trans (by exact cb_w6)))
    rename_i hHeld1
    clear hHeld1
    go_wp2_with fail
    go_ret
    exact ⟨by simp, BW8⟩
end Go.Proofs.Ythbflohanjnaeaa
