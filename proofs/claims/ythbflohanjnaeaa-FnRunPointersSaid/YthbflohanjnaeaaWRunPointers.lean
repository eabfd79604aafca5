/- The law FnRunPointers, walked. -/
import Derived.Test.YthbflohanjnaeaaDRuns
import Derived.Test.YthbflohanjnaeaaIRunA
import Derived.Test.YthbflohanjnaeaaSRunA
import Derived.Test.YthbflohanjnaeaaIStos
import Derived.Test.YthbflohanjnaeaaWLaw
import Derived.Test.YthbflohanjnaeaaLawT
import Derived.Test.YthbflohanjnaeaaRuns56
namespace Go.Proofs.Ythbflohanjnaeaa
open Go.RowKit

theorem set_else (l : List Int) (p : Nat) (x : Int) (j : Nat) : (l.set p x)[j]? = l[j]? ∨ j = p := by
  by_cases e : j = p
  · exact .inr e
  · exact .inl (List.getElem?_set_ne (fun h => e h.symm))
/-- An operation changes at most one pointer. -/
theorem run_diff {C : Cp} {o : Opv} (h : runB C o = true) : ∃ cc p : Nat, (∀ j : Nat, (runC C o).h.l[j]? = C.h.l[j]? ∨ (cc = 0 ∧ j = p)) ∧ (∀ j : Nat, (runC C o).h.r[j]? = C.h.r[j]? ∨ (cc = 1 ∧ j = p)) ∧ (∀ j : Nat, (runC C o).h.t[j]? = C.h.t[j]? ∨ (cc = 2 ∧ j = p)) := by
  have T : ∀ x : Int, ∀ c : List Int, ∃ cc p : Nat, (∀ j : Nat, (⟨⟨C.h.l, C.h.r, C.h.t.set o.a.toNat x⟩, c⟩ : Cp).h.l[j]? = C.h.l[j]? ∨ (cc = 0 ∧ j = p)) ∧ (∀ j : Nat, (⟨⟨C.h.l, C.h.r, C.h.t.set o.a.toNat x⟩, c⟩ : Cp).h.r[j]? = C.h.r[j]? ∨ (cc = 1 ∧ j = p)) ∧ (∀ j : Nat, (⟨⟨C.h.l, C.h.r, C.h.t.set o.a.toNat x⟩, c⟩ : Cp).h.t[j]? = C.h.t[j]? ∨ (cc = 2 ∧ j = p)) :=
    fun x c => ⟨2, o.a.toNat, fun _ => .inl rfl, fun _ => .inl rfl, fun j => (set_else _ _ _ j).imp id fun e => ⟨rfl, e⟩⟩
  have N : ∃ cc p : Nat, (∀ j : Nat, C.h.l[j]? = C.h.l[j]? ∨ (cc = 0 ∧ j = p)) ∧ (∀ j : Nat, C.h.r[j]? = C.h.r[j]? ∨ (cc = 1 ∧ j = p)) ∧ (∀ j : Nat, C.h.t[j]? = C.h.t[j]? ∨ (cc = 2 ∧ j = p)) := ⟨0, 0, fun _ => .inl rfl, fun _ => .inl rfl, fun _ => .inl rfl⟩
  unfold runC
  rw [if_pos h]
  split
  · split
    · rename_i ha
      unfold allocC
      rw [if_pos ha]
      exact T _ _
    · exact N
  · unfold doC
    split
    · exact T _ _
    split
    · exact T _ _
    split
    · split
      · exact N
      · exact T _ _
    split
    · split
      · exact N
      · exact T _ _
    split
    · split
      · exact N
      · exact ⟨0, _, fun j => (set_else _ _ _ j).imp id fun e => ⟨rfl, e⟩, fun _ => .inl rfl, fun _ => .inl rfl⟩
    · split
      · exact N
      · exact ⟨1, _, fun _ => .inl rfl, fun j => (set_else _ _ _ j).imp id fun e => ⟨rfl, e⟩, fun _ => .inl rfl⟩
theorem op_cells {C : Cp} {o : Opv} (h : runB C o = true) : (runC C o).h.l.length = C.h.l.length := by
  unfold runC
  rw [if_pos h]
  split
  · split
    · rename_i ha
      unfold allocC
      rw [if_pos ha]
    · rfl
  · unfold doC
    repeat' split
    all_goals simp

set_option maxRecDepth 100000 in
set_option maxHeartbeats 4000000 in
theorem lawRunPointers_walk (w : World) (A : Option Addr) (n c : Nat) (h : Inp w A n c) :
    Calls Try.prog 10 #[.slice A n c] w (LawTrue w) := by
  by_cases hbig : 1048576 < n
  · go_enter Try.func10, Try.ntmps10
    go_wp2_with fail
    go_ret
    exact ⟨rfl, Below.refl _ _⟩
  go_enter Try.func10, Try.ntmps10
  go_wp2_with fail
  refine (drawRunOp_any _ _ _ _ h).mono ?_; rintro e w1 ⟨v, C, ⟨k, a, q⟩, rfl, HA, hb1⟩
  have BW1 : Below w.heap.size w w1 := (Below.refl w.heap.size w).trans (hb1.mono (Below.refl w.heap.size w).size)
  have zz1 : w.heap.size ≤ w1.heap.size := hb1.size
  have HAo := HA
  obtain ⟨A0, n0, c0, A1, n1, c1, A2, n2, c2, A3, n3, c3, rfl, hh, ⟨r0, r1, r2, r3⟩, ⟨l0, l1, l2, l3⟩, ⟨mm0, mm1, mm2, mm3⟩, _⟩ := HAo.open_
  have I := fun W lo v hW => implRunOp_any W lo v C hW ⟨k, a, q⟩
  have S := fun W lo v hW => specRunOp_any W lo v C hW ⟨k, a, q⟩
  rcases ho : runB C ⟨k, a, q⟩
  · rw [ho] at I S
    generalize runC C ⟨k, a, q⟩ = D at I S
    generalize runE C ⟨k, a, q⟩ = x at I S
    have hne0 : (x != x) = false := by simp
    have heq0 : (x == x) = true := by simp
    clear ho
    go_wp2_with fail
    refine (I _ _ _ ((HA.alloc (.cells #[.slice A0 n0 c0, .slice A1 n1 c1, .slice A2 n2 c2, .slice A3 n3 c3] 27)).alloc (.cells #[.int .i64 k, .int .i64 a, .int .i64 q] 29))).mono ?_; rintro e w2 ⟨v, rfl, HB, hb2⟩
    have HBb := HB
    obtain ⟨B0, k0, d0, B1, k1, d1, B2, k2, d2, B3, k3, d3, rfl, _, ⟨_, _, _, br3⟩, ⟨_, _, _, bl3⟩, _⟩ := HBb.open_
    have BW2 : Below w.heap.size w w2 := ((BW1.alloc BW1.size (.cells #[.slice A0 n0 c0, .slice A1 n1 c1, .slice A2 n2 c2, .slice A3 n3 c3] 27)).alloc (BW1.alloc BW1.size (.cells #[.slice A0 n0 c0, .slice A1 n1 c1, .slice A2 n2 c2, .slice A3 n3 c3] 27)).size (.cells #[.int .i64 k, .int .i64 a, .int .i64 q] 29)).trans (hb2.mono ((BW1.alloc BW1.size (.cells #[.slice A0 n0 c0, .slice A1 n1 c1, .slice A2 n2 c2, .slice A3 n3 c3] 27)).alloc (BW1.alloc BW1.size (.cells #[.slice A0 n0 c0, .slice A1 n1 c1, .slice A2 n2 c2, .slice A3 n3 c3] 27)).size (.cells #[.int .i64 k, .int .i64 a, .int .i64 q] 29)).size)
    have zz2 : w1.heap.size + 2 ≤ w2.heap.size := by have := hb2.size; simp at this; omega
    have HA_2 := Cv.below (by exact ((HA.alloc (.cells #[.slice A0 n0 c0, .slice A1 n1 c1, .slice A2 n2 c2, .slice A3 n3 c3] 27)).alloc (.cells #[.int .i64 k, .int .i64 a, .int .i64 q] 29))) hb2
    have X_2 := Blk4.below (by exact ((Blk4.new w1 (.slice A0 n0 c0) (.slice A1 n1 c1) (.slice A2 n2 c2) (.slice A3 n3 c3) 27).alloc (.cells #[.int .i64 k, .int .i64 a, .int .i64 q] 29))) hb2
    obtain ⟨cX_2_0, cX_2_1, cX_2_2, cX_2_3, _⟩ := X_2.cells
    have lX_2 := X_2.lt
    have Y_2 := Blk3.below (by exact (Blk3.new_at (w := w1.alloc (.cells #[.slice A0 n0 c0, .slice A1 n1 c1, .slice A2 n2 c2, .slice A3 n3 c3] 27)) (b := w1.heap.size + 1) (by simp) (.int .i64 k) (.int .i64 a) (.int .i64 q) 29)) hb2
    obtain ⟨cY_2_0, cY_2_1, cY_2_2, _⟩ := Y_2.cells
    have lY_2 := Y_2.lt
    go_wp2_with fail
    refine (S _ _ _ (HA_2.alloc (.cells #[.slice B0 k0 d0, .slice B1 k1 d1, .slice B2 k2 d2, .slice B3 k3 d3] 27))).mono ?_; rintro e w3 ⟨v, rfl, HC, hb3⟩
    have HCb := HC
    obtain ⟨K0, m0, e0, K1, m1, e1, K2, m2, e2, K3, m3, e3, rfl, _⟩ := HCb.open_
    have BW3 : Below w.heap.size w w3 := (BW2.alloc BW2.size (.cells #[.slice B0 k0 d0, .slice B1 k1 d1, .slice B2 k2 d2, .slice B3 k3 d3] 27)).trans (hb3.mono (BW2.alloc BW2.size (.cells #[.slice B0 k0 d0, .slice B1 k1 d1, .slice B2 k2 d2, .slice B3 k3 d3] 27)).size)
    have zz3 : w2.heap.size + 1 ≤ w3.heap.size := by have := hb3.size; simp at this; omega
    have HA_3 := Cv.below (by exact (HA_2.alloc (.cells #[.slice B0 k0 d0, .slice B1 k1 d1, .slice B2 k2 d2, .slice B3 k3 d3] 27))) hb3
    have X_3 := Blk4.below (by exact (X_2.alloc (.cells #[.slice B0 k0 d0, .slice B1 k1 d1, .slice B2 k2 d2, .slice B3 k3 d3] 27))) hb3
    obtain ⟨cX_3_0, cX_3_1, cX_3_2, cX_3_3, _⟩ := X_3.cells
    have lX_3 := X_3.lt
    have Y_3 := Blk3.below (by exact (Y_2.alloc (.cells #[.slice B0 k0 d0, .slice B1 k1 d1, .slice B2 k2 d2, .slice B3 k3 d3] 27))) hb3
    obtain ⟨cY_3_0, cY_3_1, cY_3_2, _⟩ := Y_3.cells
    have lY_3 := Y_3.lt
    have HB_3 := Cv.below (by exact (HB.alloc (.cells #[.slice B0 k0 d0, .slice B1 k1 d1, .slice B2 k2 d2, .slice B3 k3 d3] 27))) hb3
    have P_3 := Blk4.below (by exact (Blk4.new w2 (.slice B0 k0 d0) (.slice B1 k1 d1) (.slice B2 k2 d2) (.slice B3 k3 d3) 27)) hb3
    obtain ⟨cP_3_0, cP_3_1, cP_3_2, cP_3_3, _⟩ := P_3.cells
    have lP_3 := P_3.lt
    have E1 := implStoreSame_any _ _ _ _ _ _ _ (HB_3.alloc (.cells #[.slice K0 m0 e0, .slice K1 m1 e1, .slice K2 m2 e2, .slice K3 m3 e3] 27)) (HC.alloc (.cells #[.slice K0 m0 e0, .slice K1 m1 e1, .slice K2 m2 e2, .slice K3 m3 e3] 27))
    rw [sameC_self] at E1
    go_wp2_with fail
    refine (E1).mono ?_; rintro e w4 ⟨rfl, hb4⟩
    have BW4 : Below w.heap.size w w4 := (BW3.alloc BW3.size (.cells #[.slice K0 m0 e0, .slice K1 m1 e1, .slice K2 m2 e2, .slice K3 m3 e3] 27)).trans (hb4.mono (BW3.alloc BW3.size (.cells #[.slice K0 m0 e0, .slice K1 m1 e1, .slice K2 m2 e2, .slice K3 m3 e3] 27)).size)
    have zz4 : w3.heap.size + 1 ≤ w4.heap.size := by have := hb4.size; simp at this; omega
    have HA_4 := Cv.below (by exact (HA_3.alloc (.cells #[.slice K0 m0 e0, .slice K1 m1 e1, .slice K2 m2 e2, .slice K3 m3 e3] 27))) hb4
    have X_4 := Blk4.below (by exact (X_3.alloc (.cells #[.slice K0 m0 e0, .slice K1 m1 e1, .slice K2 m2 e2, .slice K3 m3 e3] 27))) hb4
    obtain ⟨cX_4_0, cX_4_1, cX_4_2, cX_4_3, _⟩ := X_4.cells
    have lX_4 := X_4.lt
    have Y_4 := Blk3.below (by exact (Y_3.alloc (.cells #[.slice K0 m0 e0, .slice K1 m1 e1, .slice K2 m2 e2, .slice K3 m3 e3] 27))) hb4
    obtain ⟨cY_4_0, cY_4_1, cY_4_2, _⟩ := Y_4.cells
    have lY_4 := Y_4.lt
    have HB_4 := Cv.below (by exact (HB_3.alloc (.cells #[.slice K0 m0 e0, .slice K1 m1 e1, .slice K2 m2 e2, .slice K3 m3 e3] 27))) hb4
    have P_4 := Blk4.below (by exact (P_3.alloc (.cells #[.slice K0 m0 e0, .slice K1 m1 e1, .slice K2 m2 e2, .slice K3 m3 e3] 27))) hb4
    obtain ⟨cP_4_0, cP_4_1, cP_4_2, cP_4_3, _⟩ := P_4.cells
    have lP_4 := P_4.lt
    have HC_4 := Cv.below (by exact (HC.alloc (.cells #[.slice K0 m0 e0, .slice K1 m1 e1, .slice K2 m2 e2, .slice K3 m3 e3] 27))) hb4
    have Q_4 := Blk4.below (by exact (Blk4.new w3 (.slice K0 m0 e0) (.slice K1 m1 e1) (.slice K2 m2 e2) (.slice K3 m3 e3) 27)) hb4
    obtain ⟨cQ_4_0, cQ_4_1, cQ_4_2, cQ_4_3, _⟩ := Q_4.cells
    have lQ_4 := Q_4.lt
    have E2 := implStoreSame_any _ _ _ _ _ _ _ HB_4 HC_4
    rw [sameC_self] at E2
    go_wp2_with fail
    refine (E2).mono ?_; rintro e w5 ⟨rfl, hb5⟩
    have BW5 : Below w.heap.size w w5 := BW4.trans (hb5.mono BW4.size)
    have zz5 : w4.heap.size ≤ w5.heap.size := hb5.size
    have HA_5 := Cv.below (by exact HA_4) hb5
    have X_5 := Blk4.below (by exact X_4) hb5
    obtain ⟨cX_5_0, cX_5_1, cX_5_2, cX_5_3, _⟩ := X_5.cells
    have lX_5 := X_5.lt
    have Y_5 := Blk3.below (by exact Y_4) hb5
    obtain ⟨cY_5_0, cY_5_1, cY_5_2, _⟩ := Y_5.cells
    have lY_5 := Y_5.lt
    have HB_5 := Cv.below (by exact HB_4) hb5
    have P_5 := Blk4.below (by exact P_4) hb5
    obtain ⟨cP_5_0, cP_5_1, cP_5_2, cP_5_3, _⟩ := P_5.cells
    have lP_5 := P_5.lt
    have HC_5 := Cv.below (by exact HC_4) hb5
    have Q_5 := Blk4.below (by exact Q_4) hb5
    obtain ⟨cQ_5_0, cQ_5_1, cQ_5_2, cQ_5_3, _⟩ := Q_5.cells
    have lQ_5 := Q_5.lt
    go_wp2_with fail
    go_ret
    exact ⟨rfl, BW5⟩
  · rw [ho] at I S
    obtain ⟨cc, p, hL, hR, hT⟩ := run_diff ho
    have hcl := op_cells ho
    have hrt := op_roots ho
    obtain ⟨⟨hrC, _⟩, _⟩ := hvB_parts (stoB_parts (runB_iff.1 ho).1).1
    obtain ⟨⟨hrD, _⟩, _⟩ := hvB_parts (stoB_parts (run_valid ho)).1
    have h8 := hvB_len (stoB_parts (runB_iff.1 ho).1).1
    have le0 := l0.out
    have le1 := l1.out
    have le2 := l2.out
    generalize runC C ⟨k, a, q⟩ = D at I S hL hR hT hcl hrt hrD
    generalize runE C ⟨k, a, q⟩ = x at I S
    have hne0 : (x != x) = false := by simp
    have HL := Lib.hid hL
    have HR := Lib.hid hR
    have HT := Lib.hid hT
    clear ho hL hR hT
    go_wp2_with fail
    refine (I _ _ _ ((HA.alloc (.cells #[.slice A0 n0 c0, .slice A1 n1 c1, .slice A2 n2 c2, .slice A3 n3 c3] 27)).alloc (.cells #[.int .i64 k, .int .i64 a, .int .i64 q] 29))).mono ?_; rintro e w2 ⟨v, rfl, HB, hb2⟩
    have HBb := HB
    obtain ⟨B0, k0, d0, B1, k1, d1, B2, k2, d2, B3, k3, d3, rfl, _, ⟨_, _, _, br3⟩, ⟨_, _, _, bl3⟩, _⟩ := HBb.open_
    have BW2 : Below w.heap.size w w2 := ((BW1.alloc BW1.size (.cells #[.slice A0 n0 c0, .slice A1 n1 c1, .slice A2 n2 c2, .slice A3 n3 c3] 27)).alloc (BW1.alloc BW1.size (.cells #[.slice A0 n0 c0, .slice A1 n1 c1, .slice A2 n2 c2, .slice A3 n3 c3] 27)).size (.cells #[.int .i64 k, .int .i64 a, .int .i64 q] 29)).trans (hb2.mono ((BW1.alloc BW1.size (.cells #[.slice A0 n0 c0, .slice A1 n1 c1, .slice A2 n2 c2, .slice A3 n3 c3] 27)).alloc (BW1.alloc BW1.size (.cells #[.slice A0 n0 c0, .slice A1 n1 c1, .slice A2 n2 c2, .slice A3 n3 c3] 27)).size (.cells #[.int .i64 k, .int .i64 a, .int .i64 q] 29)).size)
    have zz2 : w1.heap.size + 2 ≤ w2.heap.size := by have := hb2.size; simp at this; omega
    have HA_2 := Cv.below (by exact ((HA.alloc (.cells #[.slice A0 n0 c0, .slice A1 n1 c1, .slice A2 n2 c2, .slice A3 n3 c3] 27)).alloc (.cells #[.int .i64 k, .int .i64 a, .int .i64 q] 29))) hb2
    have X_2 := Blk4.below (by exact ((Blk4.new w1 (.slice A0 n0 c0) (.slice A1 n1 c1) (.slice A2 n2 c2) (.slice A3 n3 c3) 27).alloc (.cells #[.int .i64 k, .int .i64 a, .int .i64 q] 29))) hb2
    obtain ⟨cX_2_0, cX_2_1, cX_2_2, cX_2_3, _⟩ := X_2.cells
    have lX_2 := X_2.lt
    have Y_2 := Blk3.below (by exact (Blk3.new_at (w := w1.alloc (.cells #[.slice A0 n0 c0, .slice A1 n1 c1, .slice A2 n2 c2, .slice A3 n3 c3] 27)) (b := w1.heap.size + 1) (by simp) (.int .i64 k) (.int .i64 a) (.int .i64 q) 29)) hb2
    obtain ⟨cY_2_0, cY_2_1, cY_2_2, _⟩ := Y_2.cells
    have lY_2 := Y_2.lt
    go_wp2_with fail
    refine (S _ _ _ (HA_2.alloc (.cells #[.slice B0 k0 d0, .slice B1 k1 d1, .slice B2 k2 d2, .slice B3 k3 d3] 27))).mono ?_; rintro e w3 ⟨v, rfl, HC, hb3⟩
    have HCb := HC
    obtain ⟨K0, m0, e0, K1, m1, e1, K2, m2, e2, K3, m3, e3, rfl, _⟩ := HCb.open_
    have BW3 : Below w.heap.size w w3 := (BW2.alloc BW2.size (.cells #[.slice B0 k0 d0, .slice B1 k1 d1, .slice B2 k2 d2, .slice B3 k3 d3] 27)).trans (hb3.mono (BW2.alloc BW2.size (.cells #[.slice B0 k0 d0, .slice B1 k1 d1, .slice B2 k2 d2, .slice B3 k3 d3] 27)).size)
    have zz3 : w2.heap.size + 1 ≤ w3.heap.size := by have := hb3.size; simp at this; omega
    have HA_3 := Cv.below (by exact (HA_2.alloc (.cells #[.slice B0 k0 d0, .slice B1 k1 d1, .slice B2 k2 d2, .slice B3 k3 d3] 27))) hb3
    have X_3 := Blk4.below (by exact (X_2.alloc (.cells #[.slice B0 k0 d0, .slice B1 k1 d1, .slice B2 k2 d2, .slice B3 k3 d3] 27))) hb3
    obtain ⟨cX_3_0, cX_3_1, cX_3_2, cX_3_3, _⟩ := X_3.cells
    have lX_3 := X_3.lt
    have Y_3 := Blk3.below (by exact (Y_2.alloc (.cells #[.slice B0 k0 d0, .slice B1 k1 d1, .slice B2 k2 d2, .slice B3 k3 d3] 27))) hb3
    obtain ⟨cY_3_0, cY_3_1, cY_3_2, _⟩ := Y_3.cells
    have lY_3 := Y_3.lt
    have HB_3 := Cv.below (by exact (HB.alloc (.cells #[.slice B0 k0 d0, .slice B1 k1 d1, .slice B2 k2 d2, .slice B3 k3 d3] 27))) hb3
    have P_3 := Blk4.below (by exact (Blk4.new w2 (.slice B0 k0 d0) (.slice B1 k1 d1) (.slice B2 k2 d2) (.slice B3 k3 d3) 27)) hb3
    obtain ⟨cP_3_0, cP_3_1, cP_3_2, cP_3_3, _⟩ := P_3.cells
    have lP_3 := P_3.lt
    have E1 := implStoreSame_any _ _ _ _ _ _ _ (HB_3.alloc (.cells #[.slice K0 m0 e0, .slice K1 m1 e1, .slice K2 m2 e2, .slice K3 m3 e3] 27)) (HC.alloc (.cells #[.slice K0 m0 e0, .slice K1 m1 e1, .slice K2 m2 e2, .slice K3 m3 e3] 27))
    rw [sameC_self] at E1
    go_wp2_with fail
    refine (E1).mono ?_; rintro e w4 ⟨rfl, hb4⟩
    have BW4 : Below w.heap.size w w4 := (BW3.alloc BW3.size (.cells #[.slice K0 m0 e0, .slice K1 m1 e1, .slice K2 m2 e2, .slice K3 m3 e3] 27)).trans (hb4.mono (BW3.alloc BW3.size (.cells #[.slice K0 m0 e0, .slice K1 m1 e1, .slice K2 m2 e2, .slice K3 m3 e3] 27)).size)
    have zz4 : w3.heap.size + 1 ≤ w4.heap.size := by have := hb4.size; simp at this; omega
    have HA_4 := Cv.below (by exact (HA_3.alloc (.cells #[.slice K0 m0 e0, .slice K1 m1 e1, .slice K2 m2 e2, .slice K3 m3 e3] 27))) hb4
    have X_4 := Blk4.below (by exact (X_3.alloc (.cells #[.slice K0 m0 e0, .slice K1 m1 e1, .slice K2 m2 e2, .slice K3 m3 e3] 27))) hb4
    obtain ⟨cX_4_0, cX_4_1, cX_4_2, cX_4_3, _⟩ := X_4.cells
    have lX_4 := X_4.lt
    have Y_4 := Blk3.below (by exact (Y_3.alloc (.cells #[.slice K0 m0 e0, .slice K1 m1 e1, .slice K2 m2 e2, .slice K3 m3 e3] 27))) hb4
    obtain ⟨cY_4_0, cY_4_1, cY_4_2, _⟩ := Y_4.cells
    have lY_4 := Y_4.lt
    have HB_4 := Cv.below (by exact (HB_3.alloc (.cells #[.slice K0 m0 e0, .slice K1 m1 e1, .slice K2 m2 e2, .slice K3 m3 e3] 27))) hb4
    have P_4 := Blk4.below (by exact (P_3.alloc (.cells #[.slice K0 m0 e0, .slice K1 m1 e1, .slice K2 m2 e2, .slice K3 m3 e3] 27))) hb4
    obtain ⟨cP_4_0, cP_4_1, cP_4_2, cP_4_3, _⟩ := P_4.cells
    have lP_4 := P_4.lt
    have HC_4 := Cv.below (by exact (HC.alloc (.cells #[.slice K0 m0 e0, .slice K1 m1 e1, .slice K2 m2 e2, .slice K3 m3 e3] 27))) hb4
    have Q_4 := Blk4.below (by exact (Blk4.new w3 (.slice K0 m0 e0) (.slice K1 m1 e1) (.slice K2 m2 e2) (.slice K3 m3 e3) 27)) hb4
    obtain ⟨cQ_4_0, cQ_4_1, cQ_4_2, cQ_4_3, _⟩ := Q_4.cells
    have lQ_4 := Q_4.lt
    obtain ⟨qb0, qb1, qb2, _⟩ := (HB_4).rowsS
    have lb0 := lenS qb0
    have lb1 := lenS qb1
    have lb2 := lenS qb2
    have n8 : k0 ≤ n0 ∧ n0 ≤ k0 ∧ k1 ≤ n0 ∧ n0 ≤ k1 ∧ n1 ≤ n0 ∧ n0 ≤ n1 ∧ k2 ≤ n2 ∧ n2 ≤ k2 ∧ n0 ≤ 8 ∧ n2 ≤ 3 := by omega
    obtain ⟨a1, a2, a3, a4, a5, a6, a7, a8, a9, a10⟩ := n8
    clear qb0 qb1 qb2 lb0 lb1 lb2 le0 le1 le2 h8 hcl hrt hrC hrD
    go_wp2_with fail
    have PP : Blk4 w4 (w2.heap.size) (.slice B0 k0 d0) (.slice B1 k1 d1) (.slice B2 k2 d2) (.slice B3 k3 d3) 27 := P_4
    generalize w2.heap.size = bP at PP ⊢
    go_loopw [11, 12] (fun c i wr => ∃ j m : Nat, j ≤ k0 ∧ c = .int .i64 (m : Int) ∧ i = .int .i64 (j : Int) ∧ Hid (m ≤ 1 ∧ (cc = 2 → m = 0) ∧ (j ≤ p → m = 0)) ∧ Blk4 wr w1.heap.size (.slice A0 n0 c0) (.slice A1 n1 c1) (.slice A2 n2 c2) (.slice A3 n3 c3) 27 ∧ Blk4 wr bP (.slice B0 k0 d0) (.slice B1 k1 d1) (.slice B2 k2 d2) (.slice B3 k3 d3) 27 ∧ Cv wr 0 (.agg #[.slice A0 n0 c0, .slice A1 n1 c1, .slice A2 n2 c2, .slice A3 n3 c3]) C ∧ Cv wr 0 (.agg #[.slice B0 k0 d0, .slice B1 k1 d1, .slice B2 k2 d2, .slice B3 k3 d3]) D ∧ Below w.heap.size w wr) (fun _ i _ => k0 - (intOf i).toNat)
    case atStart => exact ⟨0, 0, Nat.zero_le _, rfl, rfl, ⟨by omega, fun _ => rfl, fun _ => rfl⟩, X_4, PP, (HA_4).mono (Nat.zero_le _), (HB_4).mono (Nat.zero_le _), BW4⟩
    case round =>
      obtain ⟨j, m, hj, rfl, rfl, hm, X9, P9, HA9, HB9, B9⟩ := hrel
      by_cases hjn : j < k0
      · obtain ⟨gp, zp, ep, _, _, hzp, cp, _⟩ := (HB9.rowsS.1).get (k := j) (by have := lenS HB9.rowsS.1; omega)
        subst ep
        obtain ⟨gs, zs, es, _, _, hzs, cs, _⟩ := (HA9.rowsS.1).get (k := j) (by have := lenS HA9.rowsS.1; omega)
        subst es
        have dp : zp = zs ∨ (cc = 0 ∧ j = p) := by
          rcases HL.out j with h9 | h9
          · have h8 := hzp.out; rw [h9, hzs.out] at h8; exact .inl (by simpa using h8.symm)
          · exact .inr h9
        obtain ⟨gu, zu, eu, _, _, hzu, cu, _⟩ := (HB9.rowsS.2.1).get (k := j) (by have := lenS HB9.rowsS.2.1; omega)
        subst eu
        obtain ⟨gv, zv, ev, _, _, hzv, cv, _⟩ := (HA9.rowsS.2.1).get (k := j) (by have := lenS HA9.rowsS.2.1; omega)
        subst ev
        have du : zu = zv ∨ (cc = 1 ∧ j = p) := by
          rcases HR.out j with h9 | h9
          · have h8 := hzu.out; rw [h9, hzv.out] at h8; exact .inl (by simpa using h8.symm)
          · exact .inr h9
        obtain ⟨x0, x1, x2, x3, _⟩ := X9.cells
        obtain ⟨y0, y1, y2, y3, _⟩ := P9.cells
        have i0 : (j : Int) < (k0 : Int) := by omega
        have i1 : (j : Int) < (n0 : Int) := by omega
        have i2 : (j : Int) < (k1 : Int) := by omega
        have i3 : (j : Int) < (n1 : Int) := by omega
        obtain ⟨m1, m2, m3⟩ := hm.out
        have hw : IntKind.i64.wrap ((m : Int) + 1) = (m : Int) + 1 := IntWalk.i64_in _ (by omega)
        clear hzp hzs hzu hzv m1 m2 m3
        rcases hpq : (zp != zs) <;> rcases huv : (zu != zv)
        · have hm9 : Hid (m ≤ 1 ∧ (cc = 2 → m = 0) ∧ (j + 1 ≤ p → m = 0)) := by
            obtain ⟨m1, m2, m3⟩ := hm.out
            exact ⟨m1, m2, fun h => m3 (by omega)⟩
          clear dp du hm
          go_wp2_with fail
          go_quiet (fail)
          go_wp2_with fail
          go_quiet (fail)
          go_wp2_with fail
          go_roundw
          case rel => exact ⟨j + 1, m, by omega, by go_num, by go_num, hm9, X9, P9, HA9, HB9, below_drewN B9 _⟩
          case measure => simp [intOf]; omega
        · have hm9 : Hid ((m + 1) ≤ 1 ∧ (cc = 2 → (m + 1) = 0) ∧ (j + 1 ≤ p → (m + 1) = 0)) := by
            obtain ⟨m1, m2, m3⟩ := hm.out
            have hc := du.resolve_left (by simpa using huv)
            have := m3 (by omega)
            exact ⟨by omega, fun h => by omega, fun h => by omega⟩
          clear dp du hm
          go_wp2_with fail
          go_quiet (fail)
          go_wp2_with fail
          go_quiet (fail)
          go_wp2_with fail
          go_roundw
          case rel => exact ⟨j + 1, (m + 1), by omega, by go_num, by go_num, hm9, X9, P9, HA9, HB9, below_drewN B9 _⟩
          case measure => simp [intOf]; omega
        · have hm9 : Hid ((m + 1) ≤ 1 ∧ (cc = 2 → (m + 1) = 0) ∧ (j + 1 ≤ p → (m + 1) = 0)) := by
            obtain ⟨m1, m2, m3⟩ := hm.out
            have hc := dp.resolve_left (by simpa using hpq)
            have := m3 (by omega)
            exact ⟨by omega, fun h => by omega, fun h => by omega⟩
          clear dp du hm
          go_wp2_with fail
          go_quiet (fail)
          go_wp2_with fail
          go_quiet (fail)
          go_wp2_with fail
          go_roundw
          case rel => exact ⟨j + 1, (m + 1), by omega, by go_num, by go_num, hm9, X9, P9, HA9, HB9, below_drewN B9 _⟩
          case measure => simp [intOf]; omega
        · exfalso
          have hc := du.resolve_left (by simpa using huv)
          have hd := dp.resolve_left (by simpa using hpq)
          omega
      · obtain rfl : k0 = j := by omega
        obtain ⟨x0, x1, x2, x3, _⟩ := X9.cells
        obtain ⟨y0, y1, y2, y3, _⟩ := P9.cells
        go_wp2_with fail
        clear x0 x1 x2 x3 y0 y1 y2 y3
        go_loopw [11, 13] (fun c i wr => ∃ j m : Nat, j ≤ k2 ∧ c = .int .i64 (m : Int) ∧ i = .int .i64 (j : Int) ∧ Hid (m ≤ 1 ∧ (cc = 2 → j ≤ p → m = 0)) ∧ Blk4 wr w1.heap.size (.slice A0 n0 c0) (.slice A1 n1 c1) (.slice A2 n2 c2) (.slice A3 n3 c3) 27 ∧ Blk4 wr bP (.slice B0 k0 d0) (.slice B1 k1 d1) (.slice B2 k2 d2) (.slice B3 k3 d3) 27 ∧ Cv wr 0 (.agg #[.slice A0 n0 c0, .slice A1 n1 c1, .slice A2 n2 c2, .slice A3 n3 c3]) C ∧ Cv wr 0 (.agg #[.slice B0 k0 d0, .slice B1 k1 d1, .slice B2 k2 d2, .slice B3 k3 d3]) D ∧ Below w.heap.size w wr) (fun _ i _ => k2 - (intOf i).toNat)
        case atStart => exact ⟨0, m, Nat.zero_le _, rfl, rfl, ⟨hm.out.1, fun h _ => hm.out.2.1 h⟩, X9, P9, HA9, HB9, B9⟩
        case round =>
          clear X9 P9 HA9 HB9 B9 hm
          obtain ⟨j, m, hj, rfl, rfl, hm, X9, P9, HA9, HB9, B9⟩ := hrel
          by_cases hjn : j < k2
          · obtain ⟨gp, zp, ep, _, _, hzp, cp, _⟩ := (HB9.rowsS.2.2.1).get (k := j) (by have := lenS HB9.rowsS.2.2.1; omega)
            subst ep
            obtain ⟨gs, zs, es, _, _, hzs, cs, _⟩ := (HA9.rowsS.2.2.1).get (k := j) (by have := lenS HA9.rowsS.2.2.1; omega)
            subst es
            have dp : zp = zs ∨ (cc = 2 ∧ j = p) := by
              rcases HT.out j with h9 | h9
              · have h8 := hzp.out; rw [h9, hzs.out] at h8; exact .inl (by simpa using h8.symm)
              · exact .inr h9
            obtain ⟨x0, x1, x2, x3, _⟩ := X9.cells
            obtain ⟨y0, y1, y2, y3, _⟩ := P9.cells
            have i0 : (j : Int) < (k2 : Int) := by omega
            have i1 : (j : Int) < (n2 : Int) := by omega
            obtain ⟨m1, m2⟩ := hm.out
            have hw : IntKind.i64.wrap ((m : Int) + 1) = (m : Int) + 1 := IntWalk.i64_in _ (by omega)
            clear hzp hzs m1 m2
            rcases hpq : (zp != zs)
            · have hm9 : Hid (m ≤ 1 ∧ (cc = 2 → j + 1 ≤ p → m = 0)) := by
                obtain ⟨m1, m2⟩ := hm.out
                exact ⟨m1, fun h h9 => m2 h (by omega)⟩
              clear dp hm
              go_wp2_with fail
              go_quiet (fail)
              go_wp2_with fail
              go_roundw
              case rel => exact ⟨j + 1, m, by omega, by go_num, by go_num, hm9, X9, P9, HA9, HB9, below_drewN B9 _⟩
              case measure => simp [intOf]; omega
            · have hm9 : Hid ((m + 1) ≤ 1 ∧ (cc = 2 → j + 1 ≤ p → (m + 1) = 0)) := by
                obtain ⟨m1, m2⟩ := hm.out
                have hc := dp.resolve_left (by simpa using hpq)
                have := m2 hc.1 (by omega)
                exact ⟨by omega, fun h h9 => by omega⟩
              clear dp hm
              go_wp2_with fail
              go_quiet (fail)
              go_wp2_with fail
              go_roundw
              case rel => exact ⟨j + 1, (m + 1), by omega, by go_num, by go_num, hm9, X9, P9, HA9, HB9, below_drewN B9 _⟩
              case measure => simp [intOf]; omega
          · obtain rfl : k2 = j := by omega
            have hm1 := hm.out.1
            have hmi : (m : Int) ≤ 1 := by omega
            obtain ⟨x0, x1, x2, x3, _⟩ := X9.cells
            obtain ⟨y0, y1, y2, y3, _⟩ := P9.cells
            go_wp2_with fail
            go_ret
            exact ⟨by simp, B9⟩
end Go.Proofs.Ythbflohanjnaeaa
