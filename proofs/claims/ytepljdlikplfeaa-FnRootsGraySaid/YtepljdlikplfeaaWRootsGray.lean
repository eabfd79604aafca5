/- The law FnRootsGray, walked. -/
import Derived.Test.YtepljdlikplfeaaDNewColored
import Derived.Test.YtepljdlikplfeaaMarks
import Derived.Test.YtepljdlikplfeaaINewC
import Derived.Test.YtepljdlikplfeaaIRoots
import Derived.Test.YtepljdlikplfeaaICol2
import Derived.Test.YtepljdlikplfeaaWLaw
namespace Go.Proofs.Ytepljdlikplfeaa
open Go.RowKit

set_option maxRecDepth 100000 in
set_option maxHeartbeats 4000000 in
theorem lawRootsGray_walk (w : World) (A : Option Addr) (n c : Nat) (h : Inp w A n c) :
    Calls Try.prog 5 #[.slice A n c] w (LawTrue w) := by
  by_cases hbig : 1048576 < n
  · go_enter Try.func5, Try.ntmps5
    go_wp2_with fail
    go_ret
    exact ⟨rfl, Below.refl _ _⟩
  go_enter Try.func5, Try.ntmps5
  go_wp2_with fail
  refine (drawNewColored_any _ _ _ _ h).mono ?_; rintro e w1 ⟨v, hp, rfl, HA, hb1⟩
  have BW1 : Below w.heap.size w w1 := (Below.refl w.heap.size w).trans (hb1.mono (Below.refl w.heap.size w).size)
  have zz1 : w.heap.size ≤ w1.heap.size := hb1.size
  have HAo := HA
  obtain ⟨A0, n0, c0, A1, n1, c1, A2, n2, c2, rfl, ⟨r0, r1, r2⟩, ⟨l0, l1, l2⟩, _⟩ := HAo.open_
  have I := fun W lo v hW => implNewColored_any W lo v hp hW
  have S := fun W lo v hW => specNewColored_any W lo v hp hW
  rcases ho : newCO hp with _ | C1
  · rw [ho] at I S
    go_wp2_with fail
    refine (I _ _ _ (HA.alloc (.cells #[.slice A0 n0 c0, .slice A1 n1 c1, .slice A2 n2 c2] 25))).mono ?_; rintro e w2 ⟨v, rfl, HB, hb2⟩
    simp only [Option.isSome_none, Option.getD_none] at HB ⊢
    have HBb := HB
    obtain ⟨B0, k0, d0, B1, k1, d1, B2, k2, d2, B3, k3, d3, rfl, _, ⟨_, _, _, br3⟩, ⟨_, _, _, bl3⟩, _⟩ := HBb.open_
    have BW2 : Below w.heap.size w w2 := (BW1.alloc BW1.size (.cells #[.slice A0 n0 c0, .slice A1 n1 c1, .slice A2 n2 c2] 25)).trans (hb2.mono (BW1.alloc BW1.size (.cells #[.slice A0 n0 c0, .slice A1 n1 c1, .slice A2 n2 c2] 25)).size)
    have zz2 : w1.heap.size + 1 ≤ w2.heap.size := by have := hb2.size; simp at this; omega
    have HA_2 := Hv.below (by exact (HA.alloc (.cells #[.slice A0 n0 c0, .slice A1 n1 c1, .slice A2 n2 c2] 25))) hb2
    have X_2 := Blk3.below (by exact (Blk3.new w1 (.slice A0 n0 c0) (.slice A1 n1 c1) (.slice A2 n2 c2) 25)) hb2
    obtain ⟨cX_2_0, cX_2_1, cX_2_2, _⟩ := X_2.cells
    have lX_2 := X_2.lt
    go_wp2_with fail
    refine (S _ _ _ (HA_2.alloc (.cells #[.slice B0 k0 d0, .slice B1 k1 d1, .slice B2 k2 d2, .slice B3 k3 d3] 28))).mono ?_; rintro e w3 ⟨v, rfl, HC, hb3⟩
    simp only [Option.isSome_none, Option.getD_none] at HC ⊢
    have HCb := HC
    obtain ⟨K0, m0, e0, K1, m1, e1, K2, m2, e2, K3, m3, e3, rfl, _⟩ := HCb.open_
    have BW3 : Below w.heap.size w w3 := (BW2.alloc BW2.size (.cells #[.slice B0 k0 d0, .slice B1 k1 d1, .slice B2 k2 d2, .slice B3 k3 d3] 28)).trans (hb3.mono (BW2.alloc BW2.size (.cells #[.slice B0 k0 d0, .slice B1 k1 d1, .slice B2 k2 d2, .slice B3 k3 d3] 28)).size)
    have zz3 : w2.heap.size + 1 ≤ w3.heap.size := by have := hb3.size; simp at this; omega
    have HA_3 := Hv.below (by exact (HA_2.alloc (.cells #[.slice B0 k0 d0, .slice B1 k1 d1, .slice B2 k2 d2, .slice B3 k3 d3] 28))) hb3
    have X_3 := Blk3.below (by exact (X_2.alloc (.cells #[.slice B0 k0 d0, .slice B1 k1 d1, .slice B2 k2 d2, .slice B3 k3 d3] 28))) hb3
    obtain ⟨cX_3_0, cX_3_1, cX_3_2, _⟩ := X_3.cells
    have lX_3 := X_3.lt
    have HB_3 := Cv.below (by exact (HB.alloc (.cells #[.slice B0 k0 d0, .slice B1 k1 d1, .slice B2 k2 d2, .slice B3 k3 d3] 28))) hb3
    have P_3 := Blk4.below (by exact (Blk4.new w2 (.slice B0 k0 d0) (.slice B1 k1 d1) (.slice B2 k2 d2) (.slice B3 k3 d3) 28)) hb3
    obtain ⟨cP_3_0, cP_3_1, cP_3_2, cP_3_3, _⟩ := P_3.cells
    have lP_3 := P_3.lt
    have E1 := implColoredSame_any _ _ _ _ _ _ _ (HB_3.alloc (.cells #[.slice K0 m0 e0, .slice K1 m1 e1, .slice K2 m2 e2, .slice K3 m3 e3] 28)) (HC.alloc (.cells #[.slice K0 m0 e0, .slice K1 m1 e1, .slice K2 m2 e2, .slice K3 m3 e3] 28))
    rw [sameC_self] at E1
    go_wp2_with fail
    refine (E1).mono ?_; rintro e w4 ⟨rfl, hb4⟩
    have BW4 : Below w.heap.size w w4 := (BW3.alloc BW3.size (.cells #[.slice K0 m0 e0, .slice K1 m1 e1, .slice K2 m2 e2, .slice K3 m3 e3] 28)).trans (hb4.mono (BW3.alloc BW3.size (.cells #[.slice K0 m0 e0, .slice K1 m1 e1, .slice K2 m2 e2, .slice K3 m3 e3] 28)).size)
    have zz4 : w3.heap.size + 1 ≤ w4.heap.size := by have := hb4.size; simp at this; omega
    have HA_4 := Hv.below (by exact (HA_3.alloc (.cells #[.slice K0 m0 e0, .slice K1 m1 e1, .slice K2 m2 e2, .slice K3 m3 e3] 28))) hb4
    have X_4 := Blk3.below (by exact (X_3.alloc (.cells #[.slice K0 m0 e0, .slice K1 m1 e1, .slice K2 m2 e2, .slice K3 m3 e3] 28))) hb4
    obtain ⟨cX_4_0, cX_4_1, cX_4_2, _⟩ := X_4.cells
    have lX_4 := X_4.lt
    have HB_4 := Cv.below (by exact (HB_3.alloc (.cells #[.slice K0 m0 e0, .slice K1 m1 e1, .slice K2 m2 e2, .slice K3 m3 e3] 28))) hb4
    have P_4 := Blk4.below (by exact (P_3.alloc (.cells #[.slice K0 m0 e0, .slice K1 m1 e1, .slice K2 m2 e2, .slice K3 m3 e3] 28))) hb4
    obtain ⟨cP_4_0, cP_4_1, cP_4_2, cP_4_3, _⟩ := P_4.cells
    have lP_4 := P_4.lt
    have HC_4 := Cv.below (by exact (HC.alloc (.cells #[.slice K0 m0 e0, .slice K1 m1 e1, .slice K2 m2 e2, .slice K3 m3 e3] 28))) hb4
    have Q_4 := Blk4.below (by exact (Blk4.new w3 (.slice K0 m0 e0) (.slice K1 m1 e1) (.slice K2 m2 e2) (.slice K3 m3 e3) 28)) hb4
    obtain ⟨cQ_4_0, cQ_4_1, cQ_4_2, cQ_4_3, _⟩ := Q_4.cells
    have lQ_4 := Q_4.lt
    have E2 := implColoredSame_any _ _ _ _ _ _ _ HB_4 HC_4
    rw [sameC_self] at E2
    go_wp2_with fail
    refine (E2).mono ?_; rintro e w5 ⟨rfl, hb5⟩
    have BW5 : Below w.heap.size w w5 := BW4.trans (hb5.mono BW4.size)
    have zz5 : w4.heap.size ≤ w5.heap.size := hb5.size
    have HA_5 := Hv.below (by exact HA_4) hb5
    have X_5 := Blk3.below (by exact X_4) hb5
    obtain ⟨cX_5_0, cX_5_1, cX_5_2, _⟩ := X_5.cells
    have lX_5 := X_5.lt
    have HB_5 := Cv.below (by exact HB_4) hb5
    have P_5 := Blk4.below (by exact P_4) hb5
    obtain ⟨cP_5_0, cP_5_1, cP_5_2, cP_5_3, _⟩ := P_5.cells
    have lP_5 := P_5.lt
    have HC_5 := Cv.below (by exact HC_4) hb5
    have Q_5 := Blk4.below (by exact Q_4) hb5
    obtain ⟨cQ_5_0, cQ_5_1, cQ_5_2, cQ_5_3, _⟩ := Q_5.cells
    have lQ_5 := Q_5.lt
    go_wp2_with fail
    go_ret
    exact ⟨rfl, BW5⟩
  · rw [ho] at I S
    have hv : hvB hp = true := by
      unfold newCO at ho; split at ho
      · assumption
      · cases ho
    have hC1 : C1 = ⟨hp, List.replicate hp.l.length 0⟩ := by
      rw [(cvB_newC hv).1] at ho; cases ho; rfl
    subst hC1
    have hlen := l0.out
    have h8 := hvB_len hv
    have hr := Lib.hid (rootC_roots hv)
    have hgr : Hid (∀ (k : Nat) y, (rootC hp)[k]? = some y → (y = 1 ∧ dokB hp k = true ∧ dstN hp k = 1) ∨ (y = 0 ∧ (dokB hp k = false ∨ dstN hp k ≠ 1))) := fun k y hk => rootC_gray hv hk
    have hRL : (rootC hp).length = n0 := by rw [rootC_len]; exact hlen
    have J1 := fun W lo v hW => implCountColor_any W lo v ⟨hp, rootC hp⟩ hW 1
    have J0 := fun W lo v hW => implCountColor_any W lo v ⟨hp, List.replicate hp.l.length 0⟩ hW 0
    rw [countO_valid (rootC_valid hv)] at J1
    rw [countO_valid (cvB_newC hv).2] at J0
    have hz : (List.replicate hp.l.length (0 : Int)).count 0 = n0 := by rw [List.count_replicate_self]; exact hlen
    simp only [hz] at J0
    have DD := fun W lo v hW (k : Nat) hk => implDst_any W lo v hp hW (k : Int) hk
    have HL8 : Hid (n0 ≤ 8) := by unfold Hid; omega
    clear ho hv hz
    go_wp2_with fail
    refine (I _ _ _ (HA.alloc (.cells #[.slice A0 n0 c0, .slice A1 n1 c1, .slice A2 n2 c2] 25))).mono ?_; rintro e w2 ⟨v, rfl, HB, hb2⟩
    simp only [Option.isSome_some, Option.getD_some] at HB ⊢
    have HBb := HB
    obtain ⟨B0, k0, d0, B1, k1, d1, B2, k2, d2, B3, k3, d3, rfl, _, ⟨_, _, _, br3⟩, ⟨_, _, _, bl3⟩, _⟩ := HBb.open_
    have BW2 : Below w.heap.size w w2 := (BW1.alloc BW1.size (.cells #[.slice A0 n0 c0, .slice A1 n1 c1, .slice A2 n2 c2] 25)).trans (hb2.mono (BW1.alloc BW1.size (.cells #[.slice A0 n0 c0, .slice A1 n1 c1, .slice A2 n2 c2] 25)).size)
    have zz2 : w1.heap.size + 1 ≤ w2.heap.size := by have := hb2.size; simp at this; omega
    have HA_2 := Hv.below (by exact (HA.alloc (.cells #[.slice A0 n0 c0, .slice A1 n1 c1, .slice A2 n2 c2] 25))) hb2
    have X_2 := Blk3.below (by exact (Blk3.new w1 (.slice A0 n0 c0) (.slice A1 n1 c1) (.slice A2 n2 c2) 25)) hb2
    obtain ⟨cX_2_0, cX_2_1, cX_2_2, _⟩ := X_2.cells
    have lX_2 := X_2.lt
    go_wp2_with fail
    refine (S _ _ _ (HA_2.alloc (.cells #[.slice B0 k0 d0, .slice B1 k1 d1, .slice B2 k2 d2, .slice B3 k3 d3] 28))).mono ?_; rintro e w3 ⟨v, rfl, HC, hb3⟩
    simp only [Option.isSome_some, Option.getD_some] at HC ⊢
    have HCb := HC
    obtain ⟨K0, m0, e0, K1, m1, e1, K2, m2, e2, K3, m3, e3, rfl, _⟩ := HCb.open_
    have BW3 : Below w.heap.size w w3 := (BW2.alloc BW2.size (.cells #[.slice B0 k0 d0, .slice B1 k1 d1, .slice B2 k2 d2, .slice B3 k3 d3] 28)).trans (hb3.mono (BW2.alloc BW2.size (.cells #[.slice B0 k0 d0, .slice B1 k1 d1, .slice B2 k2 d2, .slice B3 k3 d3] 28)).size)
    have zz3 : w2.heap.size + 1 ≤ w3.heap.size := by have := hb3.size; simp at this; omega
    have HA_3 := Hv.below (by exact (HA_2.alloc (.cells #[.slice B0 k0 d0, .slice B1 k1 d1, .slice B2 k2 d2, .slice B3 k3 d3] 28))) hb3
    have X_3 := Blk3.below (by exact (X_2.alloc (.cells #[.slice B0 k0 d0, .slice B1 k1 d1, .slice B2 k2 d2, .slice B3 k3 d3] 28))) hb3
    obtain ⟨cX_3_0, cX_3_1, cX_3_2, _⟩ := X_3.cells
    have lX_3 := X_3.lt
    have HB_3 := Cv.below (by exact (HB.alloc (.cells #[.slice B0 k0 d0, .slice B1 k1 d1, .slice B2 k2 d2, .slice B3 k3 d3] 28))) hb3
    have P_3 := Blk4.below (by exact (Blk4.new w2 (.slice B0 k0 d0) (.slice B1 k1 d1) (.slice B2 k2 d2) (.slice B3 k3 d3) 28)) hb3
    obtain ⟨cP_3_0, cP_3_1, cP_3_2, cP_3_3, _⟩ := P_3.cells
    have lP_3 := P_3.lt
    have E1 := implColoredSame_any _ _ _ _ _ _ _ (HB_3.alloc (.cells #[.slice K0 m0 e0, .slice K1 m1 e1, .slice K2 m2 e2, .slice K3 m3 e3] 28)) (HC.alloc (.cells #[.slice K0 m0 e0, .slice K1 m1 e1, .slice K2 m2 e2, .slice K3 m3 e3] 28))
    rw [sameC_self] at E1
    go_wp2_with fail
    refine (E1).mono ?_; rintro e w4 ⟨rfl, hb4⟩
    have BW4 : Below w.heap.size w w4 := (BW3.alloc BW3.size (.cells #[.slice K0 m0 e0, .slice K1 m1 e1, .slice K2 m2 e2, .slice K3 m3 e3] 28)).trans (hb4.mono (BW3.alloc BW3.size (.cells #[.slice K0 m0 e0, .slice K1 m1 e1, .slice K2 m2 e2, .slice K3 m3 e3] 28)).size)
    have zz4 : w3.heap.size + 1 ≤ w4.heap.size := by have := hb4.size; simp at this; omega
    have HA_4 := Hv.below (by exact (HA_3.alloc (.cells #[.slice K0 m0 e0, .slice K1 m1 e1, .slice K2 m2 e2, .slice K3 m3 e3] 28))) hb4
    have X_4 := Blk3.below (by exact (X_3.alloc (.cells #[.slice K0 m0 e0, .slice K1 m1 e1, .slice K2 m2 e2, .slice K3 m3 e3] 28))) hb4
    obtain ⟨cX_4_0, cX_4_1, cX_4_2, _⟩ := X_4.cells
    have lX_4 := X_4.lt
    have HB_4 := Cv.below (by exact (HB_3.alloc (.cells #[.slice K0 m0 e0, .slice K1 m1 e1, .slice K2 m2 e2, .slice K3 m3 e3] 28))) hb4
    have P_4 := Blk4.below (by exact (P_3.alloc (.cells #[.slice K0 m0 e0, .slice K1 m1 e1, .slice K2 m2 e2, .slice K3 m3 e3] 28))) hb4
    obtain ⟨cP_4_0, cP_4_1, cP_4_2, cP_4_3, _⟩ := P_4.cells
    have lP_4 := P_4.lt
    have HC_4 := Cv.below (by exact (HC.alloc (.cells #[.slice K0 m0 e0, .slice K1 m1 e1, .slice K2 m2 e2, .slice K3 m3 e3] 28))) hb4
    have Q_4 := Blk4.below (by exact (Blk4.new w3 (.slice K0 m0 e0) (.slice K1 m1 e1) (.slice K2 m2 e2) (.slice K3 m3 e3) 28)) hb4
    obtain ⟨cQ_4_0, cQ_4_1, cQ_4_2, cQ_4_3, _⟩ := Q_4.cells
    have lQ_4 := Q_4.lt
    clear I S E1
    have AG5 := implShadeRoots_any _ _ _ _ HB_4
    rw [hr.out] at AG5
    go_wp2_with fail
    refine AG5.mono ?_; rintro e w5 ⟨v, rfl, HS, hb5⟩
    simp only [Option.isSome_some, Option.getD_some] at HS ⊢
    have HSb := HS
    obtain ⟨U0, s0, f0, U1, s1, f1, U2, s2, f2, U3, s3, f3, rfl, _⟩ := HSb.open_
    have BW5 : Below w.heap.size w w5 := BW4.trans (hb5.mono BW4.size)
    have zz5 : w4.heap.size ≤ w5.heap.size := hb5.size
    have HA_5 := Hv.below (by exact HA_4) hb5
    have X_5 := Blk3.below (by exact X_4) hb5
    obtain ⟨cX_5_0, cX_5_1, cX_5_2, _⟩ := X_5.cells
    have lX_5 := X_5.lt
    have HB_5 := Cv.below (by exact HB_4) hb5
    have P_5 := Blk4.below (by exact P_4) hb5
    obtain ⟨cP_5_0, cP_5_1, cP_5_2, cP_5_3, _⟩ := P_5.cells
    have lP_5 := P_5.lt
    have HC_5 := Cv.below (by exact HC_4) hb5
    have Q_5 := Blk4.below (by exact Q_4) hb5
    obtain ⟨cQ_5_0, cQ_5_1, cQ_5_2, cQ_5_3, _⟩ := Q_5.cells
    have lQ_5 := Q_5.lt
    have HA_6s := (HA_5.alloc (.cells #[.slice U0 s0 f0, .slice U1 s1 f1, .slice U2 s2 f2, .slice U3 s3 f3] 28))
    have X_6s := (X_5.alloc (.cells #[.slice U0 s0 f0, .slice U1 s1 f1, .slice U2 s2 f2, .slice U3 s3 f3] 28))
    obtain ⟨cX_6s_0, cX_6s_1, cX_6s_2, _⟩ := X_6s.cells
    have lX_6s := X_6s.lt
    have HB_6s := (HB_5.alloc (.cells #[.slice U0 s0 f0, .slice U1 s1 f1, .slice U2 s2 f2, .slice U3 s3 f3] 28))
    have P_6s := (P_5.alloc (.cells #[.slice U0 s0 f0, .slice U1 s1 f1, .slice U2 s2 f2, .slice U3 s3 f3] 28))
    obtain ⟨cP_6s_0, cP_6s_1, cP_6s_2, cP_6s_3, _⟩ := P_6s.cells
    have lP_6s := P_6s.lt
    have HC_6s := (HC_5.alloc (.cells #[.slice U0 s0 f0, .slice U1 s1 f1, .slice U2 s2 f2, .slice U3 s3 f3] 28))
    have Q_6s := (Q_5.alloc (.cells #[.slice U0 s0 f0, .slice U1 s1 f1, .slice U2 s2 f2, .slice U3 s3 f3] 28))
    obtain ⟨cQ_6s_0, cQ_6s_1, cQ_6s_2, cQ_6s_3, _⟩ := Q_6s.cells
    have lQ_6s := Q_6s.lt
    have HS_6s := (HS.alloc (.cells #[.slice U0 s0 f0, .slice U1 s1 f1, .slice U2 s2 f2, .slice U3 s3 f3] 28))
    have U_6s := (Blk4.new w5 (.slice U0 s0 f0) (.slice U1 s1 f1) (.slice U2 s2 f2) (.slice U3 s3 f3) 28)
    obtain ⟨cU_6s_0, cU_6s_1, cU_6s_2, cU_6s_3, _⟩ := U_6s.cells
    have lU_6s := U_6s.lt
    have BW6 := (BW5.alloc BW5.size (.cells #[.slice U0 s0 f0, .slice U1 s1 f1, .slice U2 s2 f2, .slice U3 s3 f3] 28))
    go_wp2_with fail
    generalize (w5.alloc (.cells #[.slice U0 s0 f0, .slice U1 s1 f1, .slice U2 s2 f2, .slice U3 s3 f3] 28)) = W5 at *
    go_loopw [10, 11] (fun m i wr => ∃ k q : Nat, k ≤ n0 ∧ i = .int .i64 k ∧ m = .int .i64 q ∧ q ≤ k ∧ Hid (q = ((rootC hp).take k).count 1) ∧ Blk3 wr w1.heap.size (.slice A0 n0 c0) (.slice A1 n1 c1) (.slice A2 n2 c2) 25 ∧ Blk4 wr (w2.heap.size) (.slice B0 k0 d0) (.slice B1 k1 d1) (.slice B2 k2 d2) (.slice B3 k3 d3) 28 ∧ Blk4 wr (w5.heap.size) (.slice U0 s0 f0) (.slice U1 s1 f1) (.slice U2 s2 f2) (.slice U3 s3 f3) 28 ∧ Hv wr 0 (.agg #[.slice A0 n0 c0, .slice A1 n1 c1, .slice A2 n2 c2]) hp ∧ Cv wr 0 (.agg #[.slice B0 k0 d0, .slice B1 k1 d1, .slice B2 k2 d2, .slice B3 k3 d3]) ⟨hp, List.replicate hp.l.length 0⟩ ∧ Cv wr 0 (.agg #[.slice U0 s0 f0, .slice U1 s1 f1, .slice U2 s2 f2, .slice U3 s3 f3]) ⟨hp, rootC hp⟩ ∧ Below w.heap.size w wr) (fun _ i _ => n0 - (intOf i).toNat)
    case atStart => exact ⟨0, 0, Nat.zero_le _, rfl, rfl, Nat.le_refl _, by unfold Hid; simp, X_6s, P_6s, U_6s, HA_6s.mono (Nat.zero_le _), HB_6s.mono (Nat.zero_le _), HS_6s.mono (Nat.zero_le _), BW6⟩
    case round =>
      obtain ⟨k, q, hk, rfl, rfl, hqk, hq, XR, PR, UR, HAR, HBR, HSR, BR⟩ := hrel
      obtain ⟨x0, x1, x2, _⟩ := XR.cells
      by_cases hlt : k < n0
      · have hki : (k : Int) < (n0 : Int) := by omega
        have h8k := HL8.out
        have DK := DD _ _ _ HAR k (dstN_wf k (by omega))
        obtain ⟨y, hy⟩ : ∃ y, (rootC hp)[k]? = some y := ⟨_, List.getElem?_eq_getElem (by omega)⟩
        have hct := count_take 1 hy
        have hgk := hgr.out k y hy
        clear hy
        have next : ∀ (w9 : World) (hb9 : Below wr.heap.size wr w9), Blk3 w9 w1.heap.size (.slice A0 n0 c0) (.slice A1 n1 c1) (.slice A2 n2 c2) 25 ∧ Blk4 w9 (w2.heap.size) (.slice B0 k0 d0) (.slice B1 k1 d1) (.slice B2 k2 d2) (.slice B3 k3 d3) 28 ∧ Blk4 w9 (w5.heap.size) (.slice U0 s0 f0) (.slice U1 s1 f1) (.slice U2 s2 f2) (.slice U3 s3 f3) 28 ∧ Hv w9 0 (.agg #[.slice A0 n0 c0, .slice A1 n1 c1, .slice A2 n2 c2]) hp ∧ Cv w9 0 (.agg #[.slice B0 k0 d0, .slice B1 k1 d1, .slice B2 k2 d2, .slice B3 k3 d3]) ⟨hp, List.replicate hp.l.length 0⟩ ∧ Cv w9 0 (.agg #[.slice U0 s0 f0, .slice U1 s1 f1, .slice U2 s2 f2, .slice U3 s3 f3]) ⟨hp, rootC hp⟩ ∧ Below w.heap.size w w9 := fun w9 hb9 => ⟨XR.below hb9, PR.below hb9, UR.below hb9, HAR.below hb9, HBR.below hb9, HSR.below hb9, BR.trans (hb9.mono BR.size)⟩
        clear XR PR UR HAR HBR HSR BR
        rcases hgk with ⟨rfl, g1, g2⟩ | ⟨rfl, g1⟩
        · rw [g1, g2] at DK
          have hq1 : Hid (q + 1 = ((rootC hp).take (k + 1)).count 1) := by unfold Hid; rw [hct, ← hq.out]; rfl
          clear g1 g2 hct hq
          go_wp2_with fail
          refine DK.mono ?_; rintro e w9 ⟨rfl, hb9⟩
          have N9 := next _ hb9
          clear next DK hb9
          go_wp2_with fail
          go_roundw
          case rel => exact ⟨k + 1, q + 1, by omega, by go_num, by go_num, by omega, hq1, N9⟩
          case measure => simp [intOf]; omega
        · have hq1 : Hid (q = ((rootC hp).take (k + 1)).count 1) := by unfold Hid; rw [hct, ← hq.out]; rfl
          clear hct hq
          generalize dstN hp k = dk at DK g1
          rcases hd : dokB hp k
          · rw [hd] at DK
            clear hd g1
            go_wp2_with fail
            refine DK.mono ?_; rintro e w9 ⟨rfl, hb9⟩
            have N9 := next _ hb9
            clear next DK hb9
            go_wp2_with fail
            go_roundw
            case rel => exact ⟨k + 1, q, by omega, by go_num, rfl, by omega, hq1, N9⟩
            case measure => simp [intOf]; omega
          · rw [hd] at DK
            have hdk : (dk == 1) = false := by
              rcases g1 with h9 | h9
              · rw [hd] at h9; cases h9
              · simpa using h9
            clear hd g1
            go_wp2_with fail
            refine DK.mono ?_; rintro e w9 ⟨rfl, hb9⟩
            have N9 := next _ hb9
            clear next DK hb9
            go_wp2_with fail
            go_roundw
            case rel => exact ⟨k + 1, q, by omega, by go_num, rfl, by omega, hq1, N9⟩
            case measure => simp [intOf]; omega
      · obtain rfl : n0 = k := by omega
        have hqe : (rootC hp).count 1 = q := by
          have h9 := hq.out; rw [List.take_of_length_le (by omega)] at h9; exact h9.symm
        simp only [hqe] at J1
        have hqq : ((q : Int) == (q : Int)) = true := by simp
        have hnn : ((n0 : Int) == (n0 : Int)) = true := by simp
        obtain ⟨p0, p1, p2, p3, _⟩ := PR.cells
        obtain ⟨u0, u1, u2, u3, _⟩ := UR.cells
        clear hqe hq x0 x1 x2
        obtain ⟨x0, x1, x2, _⟩ := XR.cells
        have X_21s := XR
        obtain ⟨cX_21s_0, cX_21s_1, cX_21s_2, _⟩ := X_21s.cells
        have lX_21s := X_21s.lt
        have P_21s := PR
        obtain ⟨cP_21s_0, cP_21s_1, cP_21s_2, cP_21s_3, _⟩ := P_21s.cells
        have lP_21s := P_21s.lt
        have U_21s := UR
        obtain ⟨cU_21s_0, cU_21s_1, cU_21s_2, cU_21s_3, _⟩ := U_21s.cells
        have lU_21s := U_21s.lt
        have HB_21s := HBR
        have HS_21s := HSR
        have BW21 := BR
        go_wp2_with fail
        go_region_held3 (fun w' => w'.cell? ⟨w1.heap.size, 0, none⟩ = some (.slice A0 n0 c0) ∧ w'.cell? ⟨w1.heap.size, 1, none⟩ = some (.slice A1 n1 c1) ∧ w'.cell? ⟨w1.heap.size, 2, none⟩ = some (.slice A2 n2 c2) ∧ w'.cell? ⟨w2.heap.size, 0, none⟩ = some (.slice B0 k0 d0) ∧ w'.cell? ⟨w2.heap.size, 1, none⟩ = some (.slice B1 k1 d1) ∧ w'.cell? ⟨w2.heap.size, 2, none⟩ = some (.slice B2 k2 d2) ∧ w'.cell? ⟨w2.heap.size, 3, none⟩ = some (.slice B3 k3 d3) ∧ w'.cell? ⟨w5.heap.size, 0, none⟩ = some (.slice U0 s0 f0) ∧ w'.cell? ⟨w5.heap.size, 1, none⟩ = some (.slice U1 s1 f1) ∧ w'.cell? ⟨w5.heap.size, 2, none⟩ = some (.slice U2 s2 f2) ∧ w'.cell? ⟨w5.heap.size, 3, none⟩ = some (.slice U3 s3 f3))
          (((try dsimp only); (repeat' apply And.intro) <;> (with_reducible (first | exact cU_23_3 | exact cU_23_2 | exact cU_23_1 | exact cU_23_0 | exact cP_23_3 | exact cP_23_2 | exact cP_23_1 | exact cP_23_0 | exact cX_23_2 | exact cX_23_1 | exact cX_23_0 | exact cU_22_3 | exact cU_22_2 | exact cU_22_1 | exact cU_22_0 | exact cP_22_3 | exact cP_22_2 | exact cP_22_1 | exact cP_22_0 | exact cX_22_2 | exact cX_22_1 | exact cX_22_0 | exact cellD cU_21s_3 | exact cellD cU_21s_2 | exact cellD cU_21s_1 | exact cellD cU_21s_0 | exact cellD cP_21s_3 | exact cellD cP_21s_2 | exact cellD cP_21s_1 | exact cellD cP_21s_0 | exact cellD cX_21s_2 | exact cellD cX_21s_1 | exact cellD cX_21s_0 | exact cU_21s_3 | exact cU_21s_2 | exact cU_21s_1 | exact cU_21s_0 | exact cP_21s_3 | exact cP_21s_2 | exact cP_21s_1 | exact cP_21s_0 | exact cX_21s_2 | exact cX_21s_1 | exact cX_21s_0))))
          (first
            | (go_at_call 19; (with_reducible refine (J1 _ _ _ (HS_21s.drew)).mono ?_); rintro e w9 ⟨rfl, hb9⟩; have BW22 : Below w.heap.size w w9 := (Below.drew BW21).trans (hb9.mono (Below.drew BW21).size); have zz22 : wr.heap.size ≤ w9.heap.size := hb9.size; have X_22 := Blk3.below (by exact (X_21s.drew)) hb9; obtain ⟨cX_22_0, cX_22_1, cX_22_2, _⟩ := X_22.cells; have lX_22 := X_22.lt; have P_22 := Blk4.below (by exact (P_21s.drew)) hb9; obtain ⟨cP_22_0, cP_22_1, cP_22_2, cP_22_3, _⟩ := P_22.cells; have lP_22 := P_22.lt; have U_22 := Blk4.below (by exact (U_21s.drew)) hb9; obtain ⟨cU_22_0, cU_22_1, cU_22_2, cU_22_3, _⟩ := U_22.cells; have lU_22 := U_22.lt; have HB_22 := Cv.below (by exact (HB_21s.drew)) hb9; have HS_22 := Cv.below (by exact (HS_21s.drew)) hb9)
            | (go_at_call 19; (with_reducible refine (J0 _ _ _ HB_22).mono ?_); rintro e w10 ⟨rfl, hb10⟩; have BW23 : Below w.heap.size w w10 := BW22.trans (hb10.mono BW22.size); have zz23 : w9.heap.size ≤ w10.heap.size := hb10.size; have X_23 := Blk3.below (by exact X_22) hb10; obtain ⟨cX_23_0, cX_23_1, cX_23_2, _⟩ := X_23.cells; have lX_23 := X_23.lt; have P_23 := Blk4.below (by exact P_22) hb10; obtain ⟨cP_23_0, cP_23_1, cP_23_2, cP_23_3, _⟩ := P_23.cells; have lP_23 := P_23.lt; have U_23 := Blk4.below (by exact U_22) hb10; obtain ⟨cU_23_0, cU_23_1, cU_23_2, cU_23_3, _⟩ := U_23.cells; have lU_23 := U_23.lt; have HB_23 := Cv.below (by exact HB_22) hb10; have HS_23 := Cv.below (by exact HS_22) hb10))
        rename_i hHeld1
        clear hHeld1
        go_wp2_with fail
        go_ret
        exact ⟨rfl, BW23⟩
end Go.Proofs.Ytepljdlikplfeaa
