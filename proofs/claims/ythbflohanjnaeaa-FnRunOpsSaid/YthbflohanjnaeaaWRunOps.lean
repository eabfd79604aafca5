/- The law FnRunOps, walked. -/
import Derived.Deep.CutRange
import Derived.Test.YthbflohanjnaeaaDRunOps
import Derived.Test.YthbflohanjnaeaaIRuns
import Derived.Test.YthbflohanjnaeaaSRuns
import Derived.Test.YthbflohanjnaeaaIRunA
import Derived.Test.YthbflohanjnaeaaIStos
import Derived.Test.YthbflohanjnaeaaLaws0
import Derived.Test.YthbflohanjnaeaaRuns56
namespace Go.Proofs.Ythbflohanjnaeaa
open Go.RowKit

theorem atK_go {C D : Cp} {os : List Opv} {k : Nat} (h : AtK C os k D) (hk : k < (runsC C os).2) : ∃ o, os[k]? = some o ∧ runE D o = 0 := by
  unfold AtK at h
  rw [h] at hk
  simp only at hk
  rcases hd : os.drop k with _ | ⟨o, tl⟩
  · rw [hd] at hk; simp [runsC] at hk
  · rw [hd] at hk
    have ho : os[k]? = some o := by
      have h9 : (os.drop k)[0]? = some o := by rw [hd]; rfl
      rw [List.getElem?_drop] at h9; simpa using h9
    refine ⟨o, ho, ?_⟩
    simp only [runsC] at hk
    split at hk
    · rename_i h9; exact h9
    · simp at hk
theorem atK_fin {C D : Cp} {os : List Opv} {k : Nat} (h : AtK C os k D) (hk : k = (runsC C os).2) : (runsC C os).1 = D ∧ ∀ o, os[k]? = some o → runE D o ≠ 0 := by
  unfold AtK at h
  have h1 := congrArg Prod.fst h
  have h2 := congrArg Prod.snd h
  simp only at h1 h2
  rcases hd : os.drop k with _ | ⟨o, tl⟩
  · rw [hd] at h1
    refine ⟨by rw [h1]; rfl, fun o ho => ?_⟩
    have := (List.getElem?_eq_some_iff.1 ho).1
    have hl := congrArg List.length hd
    simp at hl; omega
  · rw [hd] at h1 h2
    simp only [runsC] at h1 h2
    split at h2
    · simp only at h2; omega
    · rename_i hne
      rw [if_neg hne] at h1
      refine ⟨h1, fun o' ho => ?_⟩
      have h9 : (os.drop k)[0]? = some o := by rw [hd]; rfl
      rw [List.getElem?_drop] at h9
      simp only [Nat.add_zero] at h9
      rw [h9] at ho
      cases ho
      exact hne
theorem runs_le (os : List Opv) : ∀ C : Cp, (runsC C os).2 ≤ os.length := by
  induction os with
  | nil => intro C; simp [runsC]
  | cons o os ih =>
    intro C
    simp only [runsC]
    split
    · have := ih (runC C o); simp; omega
    · simp
/-- A store came back into a variable of its own. -/
def GotR (W0 : World) (D : Cp) (x : Int) (p e1 e2 : Value) (w' : World) : Prop :=
  ∃ (bk : Nat) (v0 v1 v2 v3 : Value), p = .pointer (some ⟨bk, 0, none⟩) ∧ e1 = .int .i64 x ∧ e2 = .bool true ∧ Blk4 w' bk v0 v1 v2 v3 27 ∧ Cv w' W0.heap.size (.agg #[v0, v1, v2, v3]) D ∧ Below W0.heap.size W0 w'
theorem gotR_new {W0 w' : World} {lo : Nat} {v0 v1 v2 v3 : Value} {D : Cp} {x : Int} (hN : Cv w' lo (.agg #[v0, v1, v2, v3]) D) (hl : W0.heap.size ≤ lo) (hB : Below W0.heap.size W0 w') :
    GotR W0 D x (.pointer (some ⟨w'.heap.size, 0, none⟩)) (.int .i64 x) (.bool true) (w'.alloc (.cells #[v0, v1, v2, v3] 27)) :=
  ⟨_, _, _, _, _, rfl, rfl, rfl, Blk4.new _ _ _ _ _ _, (hN.alloc _).mono hl, hB.alloc hB.size _⟩
theorem gotR_set {W0 w' : World} {lo zb : Nat} {v0 v1 v2 v3 u0 u1 u2 u3 : Value} {D : Cp} {x : Int} (hZ : Blk4 w' zb u0 u1 u2 u3 27) (hN : Cv w' lo (.agg #[v0, v1, v2, v3]) D) (hz : W0.heap.size ≤ zb) (hl : zb < lo) (hB : Below W0.heap.size W0 w') :
    GotR W0 D x (.pointer (some ⟨zb, 0, none⟩)) (.int .i64 x) (.bool true) ((((w'.setCell ⟨zb, 0, none⟩ v0).setCell ⟨zb, 1, none⟩ v1).setCell ⟨zb, 2, none⟩ v2).setCell ⟨zb, 3, none⟩ v3) :=
  ⟨_, _, _, _, _, rfl, rfl, rfl, hZ.set4R _ _ _ _, (hN.set4O (hN.ownLt zb (.inl hl)) _ _ _ _).mono (by omega), below_set4 hB hz _ _ _ _⟩
theorem orow_set4R {w : World} {lo b : Nat} {v : Value} {os : List Opv} (h : ORow w lo v os) (hne : v.ownBlock ≠ some b) (u0 u1 u2 u3 : Value) : ORow ((((w.setCell ⟨b, 0, none⟩ u0).setCell ⟨b, 1, none⟩ u1).setCell ⟨b, 2, none⟩ u2).setCell ⟨b, 3, none⟩ u3) lo v os := by
  unfold ORow at *
  exact ownsRow_setCell_other (ownsRow_setCell_other (ownsRow_setCell_other (ownsRow_setCell_other h hne u0) hne u1) hne u2) hne u3

set_option maxRecDepth 100000 in
set_option maxHeartbeats 4000000 in
theorem lawRunOps_walk (w : World) (A : Option Addr) (n c : Nat) (h : Inp w A n c) :
    Calls Try.prog 11 #[.slice A n c] w (LawTrue w) := by
  by_cases hbig : 1048576 < n
  · go_enter Try.func11, Try.ntmps11
    go_wp2_with fail
    go_ret
    exact ⟨rfl, Below.refl _ _⟩
  go_enter Try.func11, Try.ntmps11
  go_wp2_with fail
  refine (drawRunOps_any _ _ _ _ h).mono ?_; rintro e w1 ⟨v, C, os, LA, lc, rfl, HA, HU, hos, hb1⟩
  have BW1 : Below w.heap.size w w1 := (Below.refl w.heap.size w).trans (hb1.mono (Below.refl w.heap.size w).size)
  have zz1 : w.heap.size ≤ w1.heap.size := hb1.size
  have HAo := HA
  obtain ⟨A0, n0, c0, A1, n1, c1, A2, n2, c2, A3, n3, c3, rfl, hh, ⟨r0, r1, r2, r3⟩, ⟨l0, l1, l2, l3⟩, ⟨mm0, mm1, mm2, mm3⟩, _⟩ := HAo.open_
  obtain ⟨nl, hnl⟩ : ∃ nl, Hid (os.length = nl) := ⟨_, rfl⟩
  rw [hnl.out] at HU ⊢
  have HUo := HU
  have I := fun W lo lo2 v u hW hU => implRunOps_any W lo lo2 v u C os hW hU
  have S := fun W lo lo2 v u hW hU => specRunOps_any W lo lo2 v u C os hW hU
  rcases ho : progB C os
  · rw [ho] at I S
    generalize progC C os = E at I S
    generalize progN C os = x at I S
    have hne0 : (x != x) = false := by simp
    have heq0 : (x == x) = true := by simp
    clear ho
    go_wp2_with fail
    refine (I _ _ _ _ _ (HA.alloc (.cells #[.slice A0 n0 c0, .slice A1 n1 c1, .slice A2 n2 c2, .slice A3 n3 c3] 27)) (HU.alloc (.cells #[.slice A0 n0 c0, .slice A1 n1 c1, .slice A2 n2 c2, .slice A3 n3 c3] 27))).mono ?_; rintro e w2 ⟨v, rfl, HB, hb2⟩
    have HBb := HB
    obtain ⟨B0, k0, d0, B1, k1, d1, B2, k2, d2, B3, k3, d3, rfl, _⟩ := HBb.open_
    have BW2 : Below w.heap.size w w2 := (BW1.alloc BW1.size (.cells #[.slice A0 n0 c0, .slice A1 n1 c1, .slice A2 n2 c2, .slice A3 n3 c3] 27)).trans (hb2.mono (BW1.alloc BW1.size (.cells #[.slice A0 n0 c0, .slice A1 n1 c1, .slice A2 n2 c2, .slice A3 n3 c3] 27)).size)
    have zz2 : w1.heap.size + 1 ≤ w2.heap.size := by have := hb2.size; simp at this; omega
    have HA_2 := Cv.below (by exact (HA.alloc (.cells #[.slice A0 n0 c0, .slice A1 n1 c1, .slice A2 n2 c2, .slice A3 n3 c3] 27))) hb2
    have X_2 := Blk4.below (by exact (Blk4.new w1 (.slice A0 n0 c0) (.slice A1 n1 c1) (.slice A2 n2 c2) (.slice A3 n3 c3) 27)) hb2
    obtain ⟨cX_2_0, cX_2_1, cX_2_2, cX_2_3, _⟩ := X_2.cells
    have lX_2 := X_2.lt
    have HU_w2 := ORow.below (by exact HU.alloc (.cells #[.slice A0 n0 c0, .slice A1 n1 c1, .slice A2 n2 c2, .slice A3 n3 c3] 27)) hb2
    go_wp2_with fail
    refine (S _ _ _ _ _ (HA_2.alloc (.cells #[.slice B0 k0 d0, .slice B1 k1 d1, .slice B2 k2 d2, .slice B3 k3 d3] 27)) ((HU_w2).alloc (.cells #[.slice B0 k0 d0, .slice B1 k1 d1, .slice B2 k2 d2, .slice B3 k3 d3] 27))).mono ?_; rintro e w3 ⟨v, rfl, HC, hb3⟩
    have HCb := HC
    obtain ⟨K0, m0, e0, K1, m1, e1, K2, m2, e2, K3, m3, e3, rfl, _⟩ := HCb.open_
    have BW3 : Below w.heap.size w w3 := (BW2.alloc BW2.size (.cells #[.slice B0 k0 d0, .slice B1 k1 d1, .slice B2 k2 d2, .slice B3 k3 d3] 27)).trans (hb3.mono (BW2.alloc BW2.size (.cells #[.slice B0 k0 d0, .slice B1 k1 d1, .slice B2 k2 d2, .slice B3 k3 d3] 27)).size)
    have zz3 : w2.heap.size + 1 ≤ w3.heap.size := by have := hb3.size; simp at this; omega
    have HA_3 := Cv.below (by exact (HA_2.alloc (.cells #[.slice B0 k0 d0, .slice B1 k1 d1, .slice B2 k2 d2, .slice B3 k3 d3] 27))) hb3
    have X_3 := Blk4.below (by exact (X_2.alloc (.cells #[.slice B0 k0 d0, .slice B1 k1 d1, .slice B2 k2 d2, .slice B3 k3 d3] 27))) hb3
    obtain ⟨cX_3_0, cX_3_1, cX_3_2, cX_3_3, _⟩ := X_3.cells
    have lX_3 := X_3.lt
    have HB_3 := Cv.below (by exact (HB.alloc (.cells #[.slice B0 k0 d0, .slice B1 k1 d1, .slice B2 k2 d2, .slice B3 k3 d3] 27))) hb3
    have P_3 := Blk4.below (by exact (Blk4.new w2 (.slice B0 k0 d0) (.slice B1 k1 d1) (.slice B2 k2 d2) (.slice B3 k3 d3) 27)) hb3
    obtain ⟨cP_3_0, cP_3_1, cP_3_2, cP_3_3, _⟩ := P_3.cells
    have lP_3 := P_3.lt
    have HU_w3 := ORow.below (by exact (HU_w2).alloc (.cells #[.slice B0 k0 d0, .slice B1 k1 d1, .slice B2 k2 d2, .slice B3 k3 d3] 27)) hb3
    have E1 := implStoreSame_any _ _ _ _ _ _ _ (HB_3.alloc (.cells #[.slice K0 m0 e0, .slice K1 m1 e1, .slice K2 m2 e2, .slice K3 m3 e3] 27)) (HC.alloc (.cells #[.slice K0 m0 e0, .slice K1 m1 e1, .slice K2 m2 e2, .slice K3 m3 e3] 27))
    rw [sameC_self] at E1
    go_wp2_with fail
    refine (E1).mono ?_; rintro e w4 ⟨rfl, hb4⟩
    have BW4 : Below w.heap.size w w4 := (BW3.alloc BW3.size (.cells #[.slice K0 m0 e0, .slice K1 m1 e1, .slice K2 m2 e2, .slice K3 m3 e3] 27)).trans (hb4.mono (BW3.alloc BW3.size (.cells #[.slice K0 m0 e0, .slice K1 m1 e1, .slice K2 m2 e2, .slice K3 m3 e3] 27)).size)
    have zz4 : w3.heap.size + 1 ≤ w4.heap.size := by have := hb4.size; simp at this; omega
    have HA_4 := Cv.below (by exact (HA_3.alloc (.cells #[.slice K0 m0 e0, .slice K1 m1 e1, .slice K2 m2 e2, .slice K3 m3 e3] 27))) hb4
    have X_4 := Blk4.below (by exact (X_3.alloc (.cells #[.slice K0 m0 e0, .slice K1 m1 e1, .slice K2 m2 e2, .slice K3 m3 e3] 27))) hb4
    obtain ⟨cX_4_0, cX_4_1, cX_4_2, cX_4_3, _⟩ := X_4.cells
    have lX_4 := X_4.lt
    have HB_4 := Cv.below (by exact (HB_3.alloc (.cells #[.slice K0 m0 e0, .slice K1 m1 e1, .slice K2 m2 e2, .slice K3 m3 e3] 27))) hb4
    have P_4 := Blk4.below (by exact (P_3.alloc (.cells #[.slice K0 m0 e0, .slice K1 m1 e1, .slice K2 m2 e2, .slice K3 m3 e3] 27))) hb4
    obtain ⟨cP_4_0, cP_4_1, cP_4_2, cP_4_3, _⟩ := P_4.cells
    have lP_4 := P_4.lt
    have HC_4 := Cv.below (by exact (HC.alloc (.cells #[.slice K0 m0 e0, .slice K1 m1 e1, .slice K2 m2 e2, .slice K3 m3 e3] 27))) hb4
    have Q_4 := Blk4.below (by exact (Blk4.new w3 (.slice K0 m0 e0) (.slice K1 m1 e1) (.slice K2 m2 e2) (.slice K3 m3 e3) 27)) hb4
    obtain ⟨cQ_4_0, cQ_4_1, cQ_4_2, cQ_4_3, _⟩ := Q_4.cells
    have lQ_4 := Q_4.lt
    have E2 := implStoreSame_any _ _ _ _ _ _ _ HB_4 HC_4
    rw [sameC_self] at E2
    go_wp2_with fail
    refine (E2).mono ?_; rintro e w5 ⟨rfl, hb5⟩
    have BW5 : Below w.heap.size w w5 := BW4.trans (hb5.mono BW4.size)
    have zz5 : w4.heap.size ≤ w5.heap.size := hb5.size
    have HA_5 := Cv.below (by exact HA_4) hb5
    have X_5 := Blk4.below (by exact X_4) hb5
    obtain ⟨cX_5_0, cX_5_1, cX_5_2, cX_5_3, _⟩ := X_5.cells
    have lX_5 := X_5.lt
    have HB_5 := Cv.below (by exact HB_4) hb5
    have P_5 := Blk4.below (by exact P_4) hb5
    obtain ⟨cP_5_0, cP_5_1, cP_5_2, cP_5_3, _⟩ := P_5.cells
    have lP_5 := P_5.lt
    have HC_5 := Cv.below (by exact HC_4) hb5
    have Q_5 := Blk4.below (by exact Q_4) hb5
    obtain ⟨cQ_5_0, cQ_5_1, cQ_5_2, cQ_5_3, _⟩ := Q_5.cells
    have lQ_5 := Q_5.lt
    go_wp2_with fail
    go_ret
    exact ⟨rfl, BW5⟩
  · rw [ho] at I S
    obtain ⟨hC, _, hops⟩ := progB_iff.1 ho
    have hpc : progC C os = (runsC C os).1 := by unfold progC; rw [if_pos ho]
    have hpn : progN C os = ((runsC C os).2 : Int) := by unfold progN; rw [if_pos ho]
    rw [hpc, hpn] at I S
    have hle := runs_le os C
    have hn9 := hos.1
    rw [hnl.out] at hle hn9
    have hval := Lib.hid (opsB_iff.1 hops)
    have le2 := l2.out
    have hC9 := Lib.hid hC
    have hgo := Lib.hid (fun (k : Nat) (D : Cp) (h : AtK C os k D) (hk : k < (runsC C os).2) => atK_go h hk)
    have hfin := Lib.hid (fun (k : Nat) (D : Cp) (h : AtK C os k D) (hk : k = (runsC C os).2) => atK_fin h hk)
    have hat0 := Lib.hid (atK_start C os)
    generalize hE : (runsC C os).1 = E at I S hfin
    generalize hm : (runsC C os).2 = m at I S hle hgo hfin
    clear ho hpc hpn hops hos hC hE hm
    have hne0 : ((m : Int) != (m : Int)) = false := by simp
    have R := fun W lo v D hW o => implRunOp_any W lo v D hW o
    go_wp2_with fail
    refine (I _ _ _ _ _ (HA.alloc (.cells #[.slice A0 n0 c0, .slice A1 n1 c1, .slice A2 n2 c2, .slice A3 n3 c3] 27)) (HU.alloc (.cells #[.slice A0 n0 c0, .slice A1 n1 c1, .slice A2 n2 c2, .slice A3 n3 c3] 27))).mono ?_; rintro e w2 ⟨v, rfl, HB, hb2⟩
    have HBb := HB
    obtain ⟨B0, k0, d0, B1, k1, d1, B2, k2, d2, B3, k3, d3, rfl, _⟩ := HBb.open_
    have BW2 : Below w.heap.size w w2 := (BW1.alloc BW1.size (.cells #[.slice A0 n0 c0, .slice A1 n1 c1, .slice A2 n2 c2, .slice A3 n3 c3] 27)).trans (hb2.mono (BW1.alloc BW1.size (.cells #[.slice A0 n0 c0, .slice A1 n1 c1, .slice A2 n2 c2, .slice A3 n3 c3] 27)).size)
    have zz2 : w1.heap.size + 1 ≤ w2.heap.size := by have := hb2.size; simp at this; omega
    have HA_2 := Cv.below (by exact (HA.alloc (.cells #[.slice A0 n0 c0, .slice A1 n1 c1, .slice A2 n2 c2, .slice A3 n3 c3] 27))) hb2
    have X_2 := Blk4.below (by exact (Blk4.new w1 (.slice A0 n0 c0) (.slice A1 n1 c1) (.slice A2 n2 c2) (.slice A3 n3 c3) 27)) hb2
    obtain ⟨cX_2_0, cX_2_1, cX_2_2, cX_2_3, _⟩ := X_2.cells
    have lX_2 := X_2.lt
    have HU_w2 := ORow.below (by exact HU.alloc (.cells #[.slice A0 n0 c0, .slice A1 n1 c1, .slice A2 n2 c2, .slice A3 n3 c3] 27)) hb2
    go_wp2_with fail
    refine (S _ _ _ _ _ (HA_2.alloc (.cells #[.slice B0 k0 d0, .slice B1 k1 d1, .slice B2 k2 d2, .slice B3 k3 d3] 27)) ((HU_w2).alloc (.cells #[.slice B0 k0 d0, .slice B1 k1 d1, .slice B2 k2 d2, .slice B3 k3 d3] 27))).mono ?_; rintro e w3 ⟨v, rfl, HC, hb3⟩
    have HCb := HC
    obtain ⟨K0, m0, e0, K1, m1, e1, K2, m2, e2, K3, m3, e3, rfl, _⟩ := HCb.open_
    have BW3 : Below w.heap.size w w3 := (BW2.alloc BW2.size (.cells #[.slice B0 k0 d0, .slice B1 k1 d1, .slice B2 k2 d2, .slice B3 k3 d3] 27)).trans (hb3.mono (BW2.alloc BW2.size (.cells #[.slice B0 k0 d0, .slice B1 k1 d1, .slice B2 k2 d2, .slice B3 k3 d3] 27)).size)
    have zz3 : w2.heap.size + 1 ≤ w3.heap.size := by have := hb3.size; simp at this; omega
    have HA_3 := Cv.below (by exact (HA_2.alloc (.cells #[.slice B0 k0 d0, .slice B1 k1 d1, .slice B2 k2 d2, .slice B3 k3 d3] 27))) hb3
    have X_3 := Blk4.below (by exact (X_2.alloc (.cells #[.slice B0 k0 d0, .slice B1 k1 d1, .slice B2 k2 d2, .slice B3 k3 d3] 27))) hb3
    obtain ⟨cX_3_0, cX_3_1, cX_3_2, cX_3_3, _⟩ := X_3.cells
    have lX_3 := X_3.lt
    have HB_3 := Cv.below (by exact (HB.alloc (.cells #[.slice B0 k0 d0, .slice B1 k1 d1, .slice B2 k2 d2, .slice B3 k3 d3] 27))) hb3
    have P_3 := Blk4.below (by exact (Blk4.new w2 (.slice B0 k0 d0) (.slice B1 k1 d1) (.slice B2 k2 d2) (.slice B3 k3 d3) 27)) hb3
    obtain ⟨cP_3_0, cP_3_1, cP_3_2, cP_3_3, _⟩ := P_3.cells
    have lP_3 := P_3.lt
    have HU_w3 := ORow.below (by exact (HU_w2).alloc (.cells #[.slice B0 k0 d0, .slice B1 k1 d1, .slice B2 k2 d2, .slice B3 k3 d3] 27)) hb3
    have E1 := implStoreSame_any _ _ _ _ _ _ _ (HB_3.alloc (.cells #[.slice K0 m0 e0, .slice K1 m1 e1, .slice K2 m2 e2, .slice K3 m3 e3] 27)) (HC.alloc (.cells #[.slice K0 m0 e0, .slice K1 m1 e1, .slice K2 m2 e2, .slice K3 m3 e3] 27))
    rw [sameC_self] at E1
    go_wp2_with fail
    refine (E1).mono ?_; rintro e w4 ⟨rfl, hb4⟩
    have BW4 : Below w.heap.size w w4 := (BW3.alloc BW3.size (.cells #[.slice K0 m0 e0, .slice K1 m1 e1, .slice K2 m2 e2, .slice K3 m3 e3] 27)).trans (hb4.mono (BW3.alloc BW3.size (.cells #[.slice K0 m0 e0, .slice K1 m1 e1, .slice K2 m2 e2, .slice K3 m3 e3] 27)).size)
    have zz4 : w3.heap.size + 1 ≤ w4.heap.size := by have := hb4.size; simp at this; omega
    have HA_4 := Cv.below (by exact (HA_3.alloc (.cells #[.slice K0 m0 e0, .slice K1 m1 e1, .slice K2 m2 e2, .slice K3 m3 e3] 27))) hb4
    have X_4 := Blk4.below (by exact (X_3.alloc (.cells #[.slice K0 m0 e0, .slice K1 m1 e1, .slice K2 m2 e2, .slice K3 m3 e3] 27))) hb4
    obtain ⟨cX_4_0, cX_4_1, cX_4_2, cX_4_3, _⟩ := X_4.cells
    have lX_4 := X_4.lt
    have HB_4 := Cv.below (by exact (HB_3.alloc (.cells #[.slice K0 m0 e0, .slice K1 m1 e1, .slice K2 m2 e2, .slice K3 m3 e3] 27))) hb4
    have P_4 := Blk4.below (by exact (P_3.alloc (.cells #[.slice K0 m0 e0, .slice K1 m1 e1, .slice K2 m2 e2, .slice K3 m3 e3] 27))) hb4
    obtain ⟨cP_4_0, cP_4_1, cP_4_2, cP_4_3, _⟩ := P_4.cells
    have lP_4 := P_4.lt
    have HC_4 := Cv.below (by exact (HC.alloc (.cells #[.slice K0 m0 e0, .slice K1 m1 e1, .slice K2 m2 e2, .slice K3 m3 e3] 27))) hb4
    have Q_4 := Blk4.below (by exact (Blk4.new w3 (.slice K0 m0 e0) (.slice K1 m1 e1) (.slice K2 m2 e2) (.slice K3 m3 e3) 27)) hb4
    obtain ⟨cQ_4_0, cQ_4_1, cQ_4_2, cQ_4_3, _⟩ := Q_4.cells
    have lQ_4 := Q_4.lt
    have HU_w4 := ORow.below (by exact (HU_w3).alloc (.cells #[.slice K0 m0 e0, .slice K1 m1 e1, .slice K2 m2 e2, .slice K3 m3 e3] 27)) hb4
    go_wp2_with fail
    have P4 : Blk4 (w4.alloc (.cells #[.slice A0 n0 c0, .slice A1 n1 c1, .slice A2 n2 c2, .slice A3 n3 c3] 27)) (w2.heap.size) (.slice B0 k0 d0) (.slice B1 k1 d1) (.slice B2 k2 d2) (.slice B3 k3 d3) 27 := (P_4.alloc (.cells #[.slice A0 n0 c0, .slice A1 n1 c1, .slice A2 n2 c2, .slice A3 n3 c3] 27))
    have H4 : Cv (w4.alloc (.cells #[.slice A0 n0 c0, .slice A1 n1 c1, .slice A2 n2 c2, .slice A3 n3 c3] 27)) 0 (.agg #[.slice B0 k0 d0, .slice B1 k1 d1, .slice B2 k2 d2, .slice B3 k3 d3]) E := ((HB_4.alloc (.cells #[.slice A0 n0 c0, .slice A1 n1 c1, .slice A2 n2 c2, .slice A3 n3 c3] 27))).mono (Nat.zero_le _)
    have N4 : Cv (w4.alloc (.cells #[.slice A0 n0 c0, .slice A1 n1 c1, .slice A2 n2 c2, .slice A3 n3 c3] 27)) w.heap.size (.agg #[.slice A0 n0 c0, .slice A1 n1 c1, .slice A2 n2 c2, .slice A3 n3 c3]) C := (HA_4.alloc (.cells #[.slice A0 n0 c0, .slice A1 n1 c1, .slice A2 n2 c2, .slice A3 n3 c3] 27))
    have T4 : Blk4 (w4.alloc (.cells #[.slice A0 n0 c0, .slice A1 n1 c1, .slice A2 n2 c2, .slice A3 n3 c3] 27)) w4.heap.size (.slice A0 n0 c0) (.slice A1 n1 c1) (.slice A2 n2 c2) (.slice A3 n3 c3) 27 := (Blk4.new w4 (.slice A0 n0 c0) (.slice A1 n1 c1) (.slice A2 n2 c2) (.slice A3 n3 c3) 27)
    have U4 := (HU_w4).alloc (.cells #[.slice A0 n0 c0, .slice A1 n1 c1, .slice A2 n2 c2, .slice A3 n3 c3] 27)
    have ow := (HB_4).oldO (Nat.le_refl _)
    have ow2 := (HA_4).oldO (Nat.le_refl _)
    have B4 := (BW4.alloc BW4.size (.cells #[.slice A0 n0 c0, .slice A1 n1 c1, .slice A2 n2 c2, .slice A3 n3 c3] 27))
    have hlu : ∀ b, (Value.slice LA nl lc).ownBlock = some b → b < w4.heap.size := fun b hb => by have := (HU_w4.lt b hb).2; omega
    have hlP := P_4.lt
    generalize w4.alloc (.cells #[.slice A0 n0 c0, .slice A1 n1 c1, .slice A2 n2 c2, .slice A3 n3 c3] 27) = W4 at P4 H4 N4 T4 U4 B4 ⊢
    generalize hb11 : w4.heap.size = b11 at T4 ow ow2 hlu hlP ⊢
    generalize w2.heap.size = bP at P4 hlP ⊢
    have hPb : bP ≠ b11 := by omega
    have hUb : (Value.slice LA nl lc).ownBlock ≠ some b11 := fun e => by have := hlu _ e; omega
    have hwb : w.heap.size ≤ b11 := by rw [← hb11]; omega
    clear hb11 hlP hlu
    go_loopw [12] (fun i wr => ∃ (k : Nat) (D : Cp) (v0 v1 v2 v3 : Value), k ≤ m ∧ i = .int .i64 (k : Int) ∧ Hid (AtK C os k D) ∧ Hid (stoB D = true ∧ D.h.t.length = n2) ∧ Blk4 wr b11 v0 v1 v2 v3 27 ∧ Cv wr w.heap.size (.agg #[v0, v1, v2, v3]) D ∧ Hid (v0.ownBlock ≠ some b11 ∧ v1.ownBlock ≠ some b11 ∧ v2.ownBlock ≠ some b11 ∧ v3.ownBlock ≠ some b11) ∧ Blk4 wr bP (.slice B0 k0 d0) (.slice B1 k1 d1) (.slice B2 k2 d2) (.slice B3 k3 d3) 27 ∧ Cv wr 0 (.agg #[.slice B0 k0 d0, .slice B1 k1 d1, .slice B2 k2 d2, .slice B3 k3 d3]) E ∧ ORow wr w.heap.size (.slice LA nl lc) os ∧ Below w.heap.size w wr) (fun i _ => m - (intOf i).toNat)
    case atStart => exact ⟨0, C, _, _, _, _, Nat.zero_le _, rfl, hat0, ⟨hC9.out, le2⟩, T4, N4, ow2, P4, H4, U4, B4⟩
    case round =>
      obtain ⟨k, D, v0, v1, v2, v3, hk, rfl, hat, hD, T3, N3, ow3, P3, H3, U3, B3⟩ := hrel
      clear T4 N4 P4 H4 U4 B4
      have HNp := N3
      obtain ⟨G0, ga0, gb0, G1, ga1, gb1, G2, ga2, gb2, G3, ga3, gb3, eG, _⟩ := HNp.open_
      cases eG
      by_cases hkm : k < m
      · obtain ⟨o9, ho9, he⟩ := hgo.out k D hat.out hkm
        obtain ⟨g, ⟨ok, oa, oq⟩, rfl, _, hg, hoo, o0, o1, o2⟩ := U3.get (k := k) (by have := (List.getElem?_eq_some_iff.1 ho9).1; exact this)
        have e9 := hoo.out
        rw [ho9] at e9
        cases e9
        simp only at o0 o1 o2
        have hkl : (k : Int) < (nl : Int) := by omega
        have hkmi : (k : Int) < (m : Int) := by omega
        have hrb : runB D ⟨ok, oa, oq⟩ = true := runB_iff.2 ⟨hD.out.1, hval.out _ (List.mem_of_getElem? ho9) |> fun h9 => by rw [hD.out.2, ← le2]; exact h9⟩
        have hD2 : Hid (stoB (runC D ⟨ok, oa, oq⟩) = true ∧ (runC D ⟨ok, oa, oq⟩).h.t.length = n2) := ⟨run_valid hrb, by rw [op_roots hrb]; exact hD.out.2⟩
        have hnx := Lib.hid (atK_next hat.out ho9 he)
        have RU := fun W (hW : Cv W w.heap.size (.agg #[.slice G0 ga0 gb0, .slice G1 ga1 gb1, .slice G2 ga2 gb2, .slice G3 ga3 gb3]) D) => R W _ _ D hW ⟨ok, oa, oq⟩
        rw [hrb, he] at RU
        have hbl : b11 < wr.heap.size := T3.lt
        have nzb : wr.heap.size ≠ b11 := by omega
        have nzg : wr.heap.size ≠ g := by omega
        clear hrb he ho9 hoo hD hat
        go_wp2_with fail
        go_cut [13, 14, 15] from 73 to 94 (fun p e1 e2 w' => GotR wr (runC D ⟨ok, oa, oq⟩) 0 p e1 e2 w')
        case first =>
          have SO : ∀ w' : World, Blk4 w' b11 (.slice G0 ga0 gb0) (.slice G1 ga1 gb1) (.slice G2 ga2 gb2) (.slice G3 ga3 gb3) 27 → w'.cell? ⟨g, k * 3, none⟩ = some (.int .i64 ok) → w'.cell? ⟨g, k * 3 + 1, none⟩ = some (.int .i64 oa) → w'.cell? ⟨g, k * 3 + 2, none⟩ = some (.int .i64 oq) → w'.cell? ⟨b11, 0, none⟩ = some (.slice G0 ga0 gb0) ∧ w'.cell? ⟨b11, 1, none⟩ = some (.slice G1 ga1 gb1) ∧ w'.cell? ⟨b11, 2, none⟩ = some (.slice G2 ga2 gb2) ∧ w'.cell? ⟨b11, 3, none⟩ = some (.slice G3 ga3 gb3) ∧ w'.cell? ⟨g, k * 3, none⟩ = some (.int .i64 ok) ∧ w'.cell? ⟨g, k * 3 + 1, none⟩ = some (.int .i64 oa) ∧ w'.cell? ⟨g, k * 3 + 2, none⟩ = some (.int .i64 oq) := fun w' h a0 a1 a2 => ⟨h.cells.1, h.cells.2.1, h.cells.2.2.1, h.cells.2.2.2.1, a0, a1, a2⟩
          go_region_held3 (fun w' => w'.cell? ⟨b11, 0, none⟩ = some (.slice G0 ga0 gb0) ∧ w'.cell? ⟨b11, 1, none⟩ = some (.slice G1 ga1 gb1) ∧ w'.cell? ⟨b11, 2, none⟩ = some (.slice G2 ga2 gb2) ∧ w'.cell? ⟨b11, 3, none⟩ = some (.slice G3 ga3 gb3) ∧ w'.cell? ⟨g, k * 3, none⟩ = some (.int .i64 ok) ∧ w'.cell? ⟨g, k * 3 + 1, none⟩ = some (.int .i64 oa) ∧ w'.cell? ⟨g, k * 3 + 2, none⟩ = some (.int .i64 oq))
            (((try dsimp only); (with_reducible (first | exact SO _ (T4.far4 nzb.symm _ _ _ _) (cellF4 p4 nzg _ _ _ _) (cellF4 p5 nzg _ _ _ _) (cellF4 p6 nzg _ _ _ _) | exact SO _ T4 p4 p5 p6 | exact SO _ (T4.alloc _) (cellA p4 _) (cellA p5 _) (cellA p6 _) | exact SO _ ((T3.alloc _).drew) (cellD (cellA o0 _)) (cellD (cellA o1 _)) (cellD (cellA o2 _)) | exact SO _ (T3.alloc _) (cellA o0 _) (cellA o1 _) (cellA o2 _) | exact SO _ T3.drew (cellD o0) (cellD o1) (cellD o2) | exact SO _ T3 o0 o1 o2))))
            (first
              | (go_at_call 14; (with_reducible refine (RU wr.drew N3.drew).mono ?_); rintro e w4 ⟨vv, rfl, HN0, hb40⟩; (have HN : Cv w4 wr.heap.size vv (runC D ⟨ok, oa, oq⟩) := HN0); (have hb4 : Below wr.heap.size wr w4 := (Below.refl wr.heap.size wr).drew.trans hb40); (have sB := hb4.size); (have T4 := T3.below hb4); (have p4 := (hb4.cell (p := ⟨g, k * 3, none⟩) hg).trans o0); (have p5 := (hb4.cell (p := ⟨g, k * 3 + 1, none⟩) hg).trans o1); (have p6 := (hb4.cell (p := ⟨g, k * 3 + 2, none⟩) hg).trans o2); (obtain ⟨E0, h0', i0', E1, h1', i1', E2, h2', i2', E3, h3', i3', rfl, _⟩ := Cv.open_ HN))
              | (go_at_call 14; (with_reducible refine (RU (wr.alloc (.cells #[.slice none 0 0, .slice none 0 0, .slice none 0 0, .slice none 0 0] 27)).drew (N3.alloc (.cells #[.slice none 0 0, .slice none 0 0, .slice none 0 0, .slice none 0 0] 27)).drew).mono ?_); rintro e w4 ⟨vv, rfl, HN, hb40⟩; (have hb4 : Below wr.heap.size wr w4 := (((Below.refl wr.heap.size wr).alloc (Nat.le_refl _) (.cells #[.slice none 0 0, .slice none 0 0, .slice none 0 0, .slice none 0 0] 27)).drew).trans (hb40.mono (by show wr.heap.size ≤ (wr.alloc _).heap.size; simp))); (have Z4 : Blk4 w4 wr.heap.size (.slice none 0 0) (.slice none 0 0) (.slice none 0 0) (.slice none 0 0) 27 := Blk4.below (w := (wr.alloc (.cells #[.slice none 0 0, .slice none 0 0, .slice none 0 0, .slice none 0 0] 27)).drew) (Blk4.new wr _ _ _ _ _) hb40); (obtain ⟨zc0, zc1, zc2, zc3, zf0, zf1, zf2, zf3⟩ := Z4.cells); (have hzl : wr.heap.size < (wr.alloc (.cells #[.slice none 0 0, .slice none 0 0, .slice none 0 0, .slice none 0 0] 27)).drew.heap.size := by show wr.heap.size < (wr.alloc _).heap.size; simp); (have sB := hb4.size); (have T4 := T3.below hb4); (have p4 := (hb4.cell (p := ⟨g, k * 3, none⟩) hg).trans o0); (have p5 := (hb4.cell (p := ⟨g, k * 3 + 1, none⟩) hg).trans o1); (have p6 := (hb4.cell (p := ⟨g, k * 3 + 2, none⟩) hg).trans o2); (obtain ⟨E0, h0', i0', E1, h1', i1', E2, h2', i2', E3, h3', i3', rfl, _⟩ := Cv.open_ HN)))
          all_goals
            rename_i hHeld
            clear hHeld
            go_wp2_with fail
            go_meet
            case rel => first | (with_reducible exact gotR_new HN (Nat.le_refl _) hb4) | (with_reducible exact gotR_set Z4 HN (Nat.le_refl _) hzl hb4) | fail
        case rest =>
          obtain ⟨bk, u0, u1, u2, u3, rfl, rfl, rfl, K5, M5, hb5⟩ := hcut
          obtain ⟨w5, rfl⟩ : ∃ w5, w5 = wc := ⟨_, rfl⟩
          have M5o := M5
          obtain ⟨E0, h0', i0', E1, h1', i1', E2, h2', i2', E3, h3', i3', ev, _⟩ := Cv.open_ M5o
          cases ev
          have sB := hb5.size
          have T5 := T3.below hb5
          have N5 := N3.below hb5
          have U5 := U3.below hb5
          have P5 := P3.below hb5
          have H5 := H3.below hb5
          have B5 := B3.trans (hb5.mono B3.size)
          clear T3 N3 U3 P3 H3 B3 o0 o1 o2 M5o
          obtain ⟨k0', k1', k2', k3', _⟩ := K5.cells
          obtain ⟨t0, t1, t2, t3, tf0, tf1, tf2, tf3⟩ := T5.cells
          have owN := M5.ownLt b11 (.inl hbl)
          have T6 := T5.set4R (.slice E0 h0' i0') (.slice E1 h1' i1') (.slice E2 h2' i2') (.slice E3 h3' i3')
          have M6 := (M5.set4O owN (.slice E0 h0' i0') (.slice E1 h1' i1') (.slice E2 h2' i2') (.slice E3 h3' i3')).mono (lo' := w.heap.size) (by omega)
          have P6 := P5.far4 hPb (.slice E0 h0' i0') (.slice E1 h1' i1') (.slice E2 h2' i2') (.slice E3 h3' i3')
          have H6 := H5.set4O ow (.slice E0 h0' i0') (.slice E1 h1' i1') (.slice E2 h2' i2') (.slice E3 h3' i3')
          have U6 := orow_set4R U5 hUb (.slice E0 h0' i0') (.slice E1 h1' i1') (.slice E2 h2' i2') (.slice E3 h3' i3')
          have B6 := below_set4 B5 hwb (.slice E0 h0' i0') (.slice E1 h1' i1') (.slice E2 h2' i2') (.slice E3 h3' i3')
          go_wp2_with fail
          go_roundw
          case rel => exact ⟨k + 1, _, _, _, _, _, by omega, by go_num, hnx, hD2, T6, M6, owN, P6, H6, U6, B6⟩
          case measure => simp [intOf]; omega
      · obtain rfl : m = k := by omega
        obtain ⟨hDE, hstop⟩ := hfin.out m D hat.out rfl
        subst hDE
        have V := fun W lo v hW => implStoreValid_any W lo v E hW
        rw [hD.out.1] at V
        by_cases hml : m < nl
        · obtain ⟨g, ⟨ok, oa, oq⟩, rfl, _, hg, hoo, o0, o1, o2⟩ := U3.get (k := m) (by rw [hnl.out]; exact hml)
          simp only at o0 o1 o2
          obtain ⟨k, hkk⟩ : ∃ k, k = m := ⟨_, rfl⟩
          rw [← hkk] at o0 o1 o2
          have hne := hstop _ hoo.out
          have hrb : runB E ⟨ok, oa, oq⟩ = true := runB_iff.2 ⟨hD.out.1, hval.out _ (List.mem_of_getElem? hoo.out) |> fun h9 => by rw [hD.out.2, ← le2]; exact h9⟩
          have RU := fun W (hW : Cv W w.heap.size (.agg #[.slice G0 ga0 gb0, .slice G1 ga1 gb1, .slice G2 ga2 gb2, .slice G3 ga3 gb3]) E) => R W _ _ E hW ⟨ok, oa, oq⟩
          rw [hrb] at RU
          generalize runE E ⟨ok, oa, oq⟩ = xx at RU hne
          have hxb : (xx == 0) = false := by simpa using hne
          have nzb : wr.heap.size ≠ b11 := by have := T3.lt; omega
          have nzg : wr.heap.size ≠ g := by omega
          have hmi : (m : Int) < (nl : Int) := by omega
          clear hrb hoo hD hat hne hstop
          subst hkk
          go_wp2_with fail
          go_cut [16, 17, 18] from 19 (fun p e1 e2 w' => GotR wr (runC E ⟨ok, oa, oq⟩) xx p e1 e2 w')
          case first =>
            have SO : ∀ w' : World, Blk4 w' b11 (.slice G0 ga0 gb0) (.slice G1 ga1 gb1) (.slice G2 ga2 gb2) (.slice G3 ga3 gb3) 27 → w'.cell? ⟨g, k * 3, none⟩ = some (.int .i64 ok) → w'.cell? ⟨g, k * 3 + 1, none⟩ = some (.int .i64 oa) → w'.cell? ⟨g, k * 3 + 2, none⟩ = some (.int .i64 oq) → w'.cell? ⟨b11, 0, none⟩ = some (.slice G0 ga0 gb0) ∧ w'.cell? ⟨b11, 1, none⟩ = some (.slice G1 ga1 gb1) ∧ w'.cell? ⟨b11, 2, none⟩ = some (.slice G2 ga2 gb2) ∧ w'.cell? ⟨b11, 3, none⟩ = some (.slice G3 ga3 gb3) ∧ w'.cell? ⟨g, k * 3, none⟩ = some (.int .i64 ok) ∧ w'.cell? ⟨g, k * 3 + 1, none⟩ = some (.int .i64 oa) ∧ w'.cell? ⟨g, k * 3 + 2, none⟩ = some (.int .i64 oq) := fun w' h a0 a1 a2 => ⟨h.cells.1, h.cells.2.1, h.cells.2.2.1, h.cells.2.2.2.1, a0, a1, a2⟩
            go_region_held3 (fun w' => w'.cell? ⟨b11, 0, none⟩ = some (.slice G0 ga0 gb0) ∧ w'.cell? ⟨b11, 1, none⟩ = some (.slice G1 ga1 gb1) ∧ w'.cell? ⟨b11, 2, none⟩ = some (.slice G2 ga2 gb2) ∧ w'.cell? ⟨b11, 3, none⟩ = some (.slice G3 ga3 gb3) ∧ w'.cell? ⟨g, k * 3, none⟩ = some (.int .i64 ok) ∧ w'.cell? ⟨g, k * 3 + 1, none⟩ = some (.int .i64 oa) ∧ w'.cell? ⟨g, k * 3 + 2, none⟩ = some (.int .i64 oq))
              (((try dsimp only); (with_reducible (first | exact SO _ (T4.far4 nzb.symm _ _ _ _) (cellF4 p4 nzg _ _ _ _) (cellF4 p5 nzg _ _ _ _) (cellF4 p6 nzg _ _ _ _) | exact SO _ T4 p4 p5 p6 | exact SO _ (T4.alloc _) (cellA p4 _) (cellA p5 _) (cellA p6 _) | exact SO _ ((T3.alloc _).drew) (cellD (cellA o0 _)) (cellD (cellA o1 _)) (cellD (cellA o2 _)) | exact SO _ (T3.alloc _) (cellA o0 _) (cellA o1 _) (cellA o2 _) | exact SO _ T3.drew (cellD o0) (cellD o1) (cellD o2) | exact SO _ T3 o0 o1 o2))))
              (first
                | (go_at_call 14; (with_reducible refine (RU wr.drew N3.drew).mono ?_); rintro e w4 ⟨vv, rfl, HN0, hb40⟩; (have HN : Cv w4 wr.heap.size vv (runC E ⟨ok, oa, oq⟩) := HN0); (have hb4 : Below wr.heap.size wr w4 := (Below.refl wr.heap.size wr).drew.trans hb40); (have sB := hb4.size); (have T4 := T3.below hb4); (have p4 := (hb4.cell (p := ⟨g, k * 3, none⟩) hg).trans o0); (have p5 := (hb4.cell (p := ⟨g, k * 3 + 1, none⟩) hg).trans o1); (have p6 := (hb4.cell (p := ⟨g, k * 3 + 2, none⟩) hg).trans o2); (obtain ⟨E0, h0', i0', E1, h1', i1', E2, h2', i2', E3, h3', i3', rfl, _⟩ := Cv.open_ HN))
                | (go_at_call 14; (with_reducible refine (RU (wr.alloc (.cells #[.slice none 0 0, .slice none 0 0, .slice none 0 0, .slice none 0 0] 27)).drew (N3.alloc (.cells #[.slice none 0 0, .slice none 0 0, .slice none 0 0, .slice none 0 0] 27)).drew).mono ?_); rintro e w4 ⟨vv, rfl, HN, hb40⟩; (have hb4 : Below wr.heap.size wr w4 := (((Below.refl wr.heap.size wr).alloc (Nat.le_refl _) (.cells #[.slice none 0 0, .slice none 0 0, .slice none 0 0, .slice none 0 0] 27)).drew).trans (hb40.mono (by show wr.heap.size ≤ (wr.alloc _).heap.size; simp))); (have Z4 : Blk4 w4 wr.heap.size (.slice none 0 0) (.slice none 0 0) (.slice none 0 0) (.slice none 0 0) 27 := Blk4.below (w := (wr.alloc (.cells #[.slice none 0 0, .slice none 0 0, .slice none 0 0, .slice none 0 0] 27)).drew) (Blk4.new wr _ _ _ _ _) hb40); (obtain ⟨zc0, zc1, zc2, zc3, zf0, zf1, zf2, zf3⟩ := Z4.cells); (have hzl : wr.heap.size < (wr.alloc (.cells #[.slice none 0 0, .slice none 0 0, .slice none 0 0, .slice none 0 0] 27)).drew.heap.size := by show wr.heap.size < (wr.alloc _).heap.size; simp); (have sB := hb4.size); (have T4 := T3.below hb4); (have p4 := (hb4.cell (p := ⟨g, k * 3, none⟩) hg).trans o0); (have p5 := (hb4.cell (p := ⟨g, k * 3 + 1, none⟩) hg).trans o1); (have p6 := (hb4.cell (p := ⟨g, k * 3 + 2, none⟩) hg).trans o2); (obtain ⟨E0, h0', i0', E1, h1', i1', E2, h2', i2', E3, h3', i3', rfl, _⟩ := Cv.open_ HN)))
            all_goals
              rename_i hHeld
              clear hHeld
              go_wp2_with fail
              go_meet
              case rel => first | (with_reducible exact gotR_new HN (Nat.le_refl _) hb4) | (with_reducible exact gotR_set Z4 HN (Nat.le_refl _) hzl hb4) | fail
          case rest =>
            obtain ⟨bk, u0, u1, u2, u3, rfl, rfl, rfl, K5, M5, hb5⟩ := hcut
            obtain ⟨w5, rfl⟩ : ∃ w5, w5 = wc := ⟨_, rfl⟩
            have M5o := M5
            obtain ⟨E0, h0', i0', E1, h1', i1', E2, h2', i2', E3, h3', i3', ev, _⟩ := Cv.open_ M5o
            cases ev
            have sB := hb5.size
            have T5 := T3.below hb5
            have N5 := N3.below hb5
            have U5 := U3.below hb5
            have P5 := P3.below hb5
            have H5 := H3.below hb5
            have B5 := B3.trans (hb5.mono B3.size)
            clear T3 N3 U3 P3 H3 B3 o0 o1 o2 M5o
            obtain ⟨t0, t1, t2, t3, _⟩ := T5.cells
            obtain ⟨p0, p1, p2, p3, _⟩ := P5.cells
            go_wp2_with fail
            refine (V _ _ _ H5).mono ?_; rintro e w6 ⟨rfl, hb6⟩
            have T6 := T5.below hb6
            have P6 := P5.below hb6
            have H6 := H5.below hb6
            have N6 := N5.below hb6
            have B6 := B5.trans (hb6.mono B5.size)
            clear t0 t1 t2 t3 p0 p1 p2 p3
            obtain ⟨t0, t1, t2, t3, _⟩ := T6.cells
            obtain ⟨p0, p1, p2, p3, _⟩ := P6.cells
            go_wp2_with fail
            refine (sto_same5 H6 N6).mono ?_; rintro e w7 ⟨rfl, hb7⟩
            have B7 := B6.trans (hb7.mono B6.size)
            go_wp2_with fail
            go_ret
            exact ⟨by simp, B7⟩
        · obtain rfl : m = nl := by omega
          have T5 := T3
          have P5 := P3
          have H5 := H3
          have N5 := N3
          have B5 := B3
          obtain ⟨t0, t1, t2, t3, _⟩ := T5.cells
          obtain ⟨p0, p1, p2, p3, _⟩ := P5.cells
          go_wp2_with fail
          refine (V _ _ _ H5).mono ?_; rintro e w6 ⟨rfl, hb6⟩
          have T6 := T5.below hb6
          have P6 := P5.below hb6
          have H6 := H5.below hb6
          have N6 := N5.below hb6
          have B6 := B5.trans (hb6.mono B5.size)
          clear t0 t1 t2 t3 p0 p1 p2 p3
          obtain ⟨t0, t1, t2, t3, _⟩ := T6.cells
          obtain ⟨p0, p1, p2, p3, _⟩ := P6.cells
          go_wp2_with fail
          refine (sto_same5 H6 N6).mono ?_; rintro e w7 ⟨rfl, hb7⟩
          have B7 := B6.trans (hb7.mono B6.size)
          go_wp2_with fail
          go_ret
          exact ⟨by simp, B7⟩
end Go.Proofs.Ythbflohanjnaeaa
