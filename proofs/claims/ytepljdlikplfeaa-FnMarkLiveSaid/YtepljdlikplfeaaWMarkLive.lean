/- The law FnMarkLive, walked. -/
import Derived.Test.YtepljdlikplfeaaDNewColored
import Derived.Test.YtepljdlikplfeaaMarks
import Derived.Test.YtepljdlikplfeaaINewC
import Derived.Test.YtepljdlikplfeaaIRoots
import Derived.Test.YtepljdlikplfeaaIAll
import Derived.Test.YtepljdlikplfeaaWLaw
namespace Go.Proofs.Ytepljdlikplfeaa
open Go.RowKit

theorem Blk3.drewN {w : World} {b : Nat} {x y z : Value} {t : TypeId} (h : Blk3 w b x y z t) (n : Nat) : Blk3 (w.drewN n) b x y z t := h

set_option maxRecDepth 100000 in
set_option maxHeartbeats 4000000 in
theorem lawMarkLive_walk (w : World) (A : Option Addr) (n c : Nat) (h : Inp w A n c) :
    Calls Try.prog 3 #[.slice A n c] w (LawTrue w) := by
  by_cases hbig : 1048576 < n
  · go_enter Try.func3, Try.ntmps3
    go_wp2_with fail
    go_ret
    exact ⟨rfl, Below.refl _ _⟩
  go_enter Try.func3, Try.ntmps3
  go_wp2_with fail
  refine (drawNewColored_any _ _ _ _ h).mono ?_; rintro e w1 ⟨v, hp, rfl, HA, hb1⟩
  have BW1 : Below w.heap.size w w1 := (Below.refl w.heap.size w).trans (hb1.mono (Below.refl w.heap.size w).size)
  have zz1 : w.heap.size ≤ w1.heap.size := hb1.size
  have HAo := HA
  obtain ⟨A0, n0, c0, A1, n1, c1, A2, n2, c2, rfl, ⟨r0, r1, r2⟩, ⟨l0, l1, l2⟩, _⟩ := HAo.open_
  have I := fun W lo v hW => implNewColored_any W lo v hp hW
  have S := fun W lo v hW => specNewColored_any W lo v hp hW
  rcases ho : newCO hp with _ | C1
  · rw [ho] at I S
    go_wp2_with fail
    refine (I _ _ _ (HA.alloc (.cells #[.slice A0 n0 c0, .slice A1 n1 c1, .slice A2 n2 c2] 25))).mono ?_; rintro e w2 ⟨v, rfl, HB, hb2⟩
    simp only [Option.isSome_none, Option.getD_none] at HB ⊢
    have HBb := HB
    obtain ⟨B0, k0, d0, B1, k1, d1, B2, k2, d2, B3, k3, d3, rfl, _, ⟨_, _, _, br3⟩, ⟨_, _, _, bl3⟩, _⟩ := HBb.open_
    have BW2 : Below w.heap.size w w2 := (BW1.alloc BW1.size (.cells #[.slice A0 n0 c0, .slice A1 n1 c1, .slice A2 n2 c2] 25)).trans (hb2.mono (BW1.alloc BW1.size (.cells #[.slice A0 n0 c0, .slice A1 n1 c1, .slice A2 n2 c2] 25)).size)
    have zz2 : w1.heap.size + 1 ≤ w2.heap.size := by have := hb2.size; simp at this; omega
    have HA_2 := Hv.below (by exact (HA.alloc (.cells #[.slice A0 n0 c0, .slice A1 n1 c1, .slice A2 n2 c2] 25))) hb2
    have X_2 := Blk3.below (by exact (Blk3.new w1 (.slice A0 n0 c0) (.slice A1 n1 c1) (.slice A2 n2 c2) 25)) hb2
    obtain ⟨cX_2_0, cX_2_1, cX_2_2, _⟩ := X_2.cells
    have lX_2 := X_2.lt
    go_wp2_with fail
    refine (S _ _ _ (HA_2.alloc (.cells #[.slice B0 k0 d0, .slice B1 k1 d1, .slice B2 k2 d2, .slice B3 k3 d3] 28))).mono ?_; rintro e w3 ⟨v, rfl, HC, hb3⟩
    simp only [Option.isSome_none, Option.getD_none] at HC ⊢
    have HCb := HC
    obtain ⟨K0, m0, e0, K1, m1, e1, K2, m2, e2, K3, m3, e3, rfl, _⟩ := HCb.open_
    have BW3 : Below w.heap.size w w3 := (BW2.alloc BW2.size (.cells #[.slice B0 k0 d0, .slice B1 k1 d1, .slice B2 k2 d2, .slice B3 k3 d3] 28)).trans (hb3.mono (BW2.alloc BW2.size (.cells #[.slice B0 k0 d0, .slice B1 k1 d1, .slice B2 k2 d2, .slice B3 k3 d3] 28)).size)
    have zz3 : w2.heap.size + 1 ≤ w3.heap.size := by have := hb3.size; simp at this; omega
    have HA_3 := Hv.below (by exact (HA_2.alloc (.cells #[.slice B0 k0 d0, .slice B1 k1 d1, .slice B2 k2 d2, .slice B3 k3 d3] 28))) hb3
    have X_3 := Blk3.below (by exact (X_2.alloc (.cells #[.slice B0 k0 d0, .slice B1 k1 d1, .slice B2 k2 d2, .slice B3 k3 d3] 28))) hb3
    obtain ⟨cX_3_0, cX_3_1, cX_3_2, _⟩ := X_3.cells
    have lX_3 := X_3.lt
    have HB_3 := Cv.below (by exact (HB.alloc (.cells #[.slice B0 k0 d0, .slice B1 k1 d1, .slice B2 k2 d2, .slice B3 k3 d3] 28))) hb3
    have P_3 := Blk4.below (by exact (Blk4.new w2 (.slice B0 k0 d0) (.slice B1 k1 d1) (.slice B2 k2 d2) (.slice B3 k3 d3) 28)) hb3
    obtain ⟨cP_3_0, cP_3_1, cP_3_2, cP_3_3, _⟩ := P_3.cells
    have lP_3 := P_3.lt
    have E1 := implColoredSame_any _ _ _ _ _ _ _ (HB_3.alloc (.cells #[.slice K0 m0 e0, .slice K1 m1 e1, .slice K2 m2 e2, .slice K3 m3 e3] 28)) (HC.alloc (.cells #[.slice K0 m0 e0, .slice K1 m1 e1, .slice K2 m2 e2, .slice K3 m3 e3] 28))
    rw [sameC_self] at E1
    go_wp2_with fail
    refine (E1).mono ?_; rintro e w4 ⟨rfl, hb4⟩
    have BW4 : Below w.heap.size w w4 := (BW3.alloc BW3.size (.cells #[.slice K0 m0 e0, .slice K1 m1 e1, .slice K2 m2 e2, .slice K3 m3 e3] 28)).trans (hb4.mono (BW3.alloc BW3.size (.cells #[.slice K0 m0 e0, .slice K1 m1 e1, .slice K2 m2 e2, .slice K3 m3 e3] 28)).size)
    have zz4 : w3.heap.size + 1 ≤ w4.heap.size := by have := hb4.size; simp at this; omega
    have HA_4 := Hv.below (by exact (HA_3.alloc (.cells #[.slice K0 m0 e0, .slice K1 m1 e1, .slice K2 m2 e2, .slice K3 m3 e3] 28))) hb4
    have X_4 := Blk3.below (by exact (X_3.alloc (.cells #[.slice K0 m0 e0, .slice K1 m1 e1, .slice K2 m2 e2, .slice K3 m3 e3] 28))) hb4
    obtain ⟨cX_4_0, cX_4_1, cX_4_2, _⟩ := X_4.cells
    have lX_4 := X_4.lt
    have HB_4 := Cv.below (by exact (HB_3.alloc (.cells #[.slice K0 m0 e0, .slice K1 m1 e1, .slice K2 m2 e2, .slice K3 m3 e3] 28))) hb4
    have P_4 := Blk4.below (by exact (P_3.alloc (.cells #[.slice K0 m0 e0, .slice K1 m1 e1, .slice K2 m2 e2, .slice K3 m3 e3] 28))) hb4
    obtain ⟨cP_4_0, cP_4_1, cP_4_2, cP_4_3, _⟩ := P_4.cells
    have lP_4 := P_4.lt
    have HC_4 := Cv.below (by exact (HC.alloc (.cells #[.slice K0 m0 e0, .slice K1 m1 e1, .slice K2 m2 e2, .slice K3 m3 e3] 28))) hb4
    have Q_4 := Blk4.below (by exact (Blk4.new w3 (.slice K0 m0 e0) (.slice K1 m1 e1) (.slice K2 m2 e2) (.slice K3 m3 e3) 28)) hb4
    obtain ⟨cQ_4_0, cQ_4_1, cQ_4_2, cQ_4_3, _⟩ := Q_4.cells
    have lQ_4 := Q_4.lt
    have E2 := implColoredSame_any _ _ _ _ _ _ _ HB_4 HC_4
    rw [sameC_self] at E2
    go_wp2_with fail
    refine (E2).mono ?_; rintro e w5 ⟨rfl, hb5⟩
    have BW5 : Below w.heap.size w w5 := BW4.trans (hb5.mono BW4.size)
    have zz5 : w4.heap.size ≤ w5.heap.size := hb5.size
    have HA_5 := Hv.below (by exact HA_4) hb5
    have X_5 := Blk3.below (by exact X_4) hb5
    obtain ⟨cX_5_0, cX_5_1, cX_5_2, _⟩ := X_5.cells
    have lX_5 := X_5.lt
    have HB_5 := Cv.below (by exact HB_4) hb5
    have P_5 := Blk4.below (by exact P_4) hb5
    obtain ⟨cP_5_0, cP_5_1, cP_5_2, cP_5_3, _⟩ := P_5.cells
    have lP_5 := P_5.lt
    have HC_5 := Cv.below (by exact HC_4) hb5
    have Q_5 := Blk4.below (by exact Q_4) hb5
    obtain ⟨cQ_5_0, cQ_5_1, cQ_5_2, cQ_5_3, _⟩ := Q_5.cells
    have lQ_5 := Q_5.lt
    go_wp2_with fail
    go_ret
    exact ⟨rfl, BW5⟩
  · rw [ho] at I S
    have hv : hvB hp = true := by
      unfold newCO at ho; split at ho
      · assumption
      · cases ho
    have hC1 : C1 = ⟨hp, List.replicate hp.l.length 0⟩ := by
      rw [(cvB_newC hv).1] at ho; cases ho; rfl
    subst hC1
    have hlen := l0.out
    have h8 := hvB_len hv
    have hr := Lib.hid (rootC_roots hv)
    have hal : Hid (allO ⟨hp, rootC hp⟩ = some ⟨hp, allL hp (rootC hp)⟩) := allO_of (rootC_valid hv)
    have hvm := all_valid (rootC_valid hv)
    have hml : Hid (∀ (i : Nat) b x, (liveL hp)[i]? = some b → (allL hp (rootC hp))[i]? = some x → (b = true → x = 2) ∧ (b = false → x = 0)) := fun i b x h1 h2 => mark_live hv h1 h2
    have hLL : (liveL hp).length = n0 := by rw [liveL_len hv]; exact hlen
    have hML : (allL hp (rootC hp)).length = n0 := by rw [allL_len, rootC_len]; exact hlen
    have RR := fun W lo v hW => implReach_any W lo v hp hW
    have VM := fun W lo v hW => implColoredValid_any W lo v ⟨hp, allL hp (rootC hp)⟩ hW
    rw [hvm] at VM
    clear ho hvm
    go_wp2_with fail
    refine (I _ _ _ (HA.alloc (.cells #[.slice A0 n0 c0, .slice A1 n1 c1, .slice A2 n2 c2] 25))).mono ?_; rintro e w2 ⟨v, rfl, HB, hb2⟩
    simp only [Option.isSome_some, Option.getD_some] at HB ⊢
    have HBb := HB
    obtain ⟨B0, k0, d0, B1, k1, d1, B2, k2, d2, B3, k3, d3, rfl, _, ⟨_, _, _, br3⟩, ⟨_, _, _, bl3⟩, _⟩ := HBb.open_
    have BW2 : Below w.heap.size w w2 := (BW1.alloc BW1.size (.cells #[.slice A0 n0 c0, .slice A1 n1 c1, .slice A2 n2 c2] 25)).trans (hb2.mono (BW1.alloc BW1.size (.cells #[.slice A0 n0 c0, .slice A1 n1 c1, .slice A2 n2 c2] 25)).size)
    have zz2 : w1.heap.size + 1 ≤ w2.heap.size := by have := hb2.size; simp at this; omega
    have HA_2 := Hv.below (by exact (HA.alloc (.cells #[.slice A0 n0 c0, .slice A1 n1 c1, .slice A2 n2 c2] 25))) hb2
    have X_2 := Blk3.below (by exact (Blk3.new w1 (.slice A0 n0 c0) (.slice A1 n1 c1) (.slice A2 n2 c2) 25)) hb2
    obtain ⟨cX_2_0, cX_2_1, cX_2_2, _⟩ := X_2.cells
    have lX_2 := X_2.lt
    go_wp2_with fail
    refine (S _ _ _ (HA_2.alloc (.cells #[.slice B0 k0 d0, .slice B1 k1 d1, .slice B2 k2 d2, .slice B3 k3 d3] 28))).mono ?_; rintro e w3 ⟨v, rfl, HC, hb3⟩
    simp only [Option.isSome_some, Option.getD_some] at HC ⊢
    have HCb := HC
    obtain ⟨K0, m0, e0, K1, m1, e1, K2, m2, e2, K3, m3, e3, rfl, _⟩ := HCb.open_
    have BW3 : Below w.heap.size w w3 := (BW2.alloc BW2.size (.cells #[.slice B0 k0 d0, .slice B1 k1 d1, .slice B2 k2 d2, .slice B3 k3 d3] 28)).trans (hb3.mono (BW2.alloc BW2.size (.cells #[.slice B0 k0 d0, .slice B1 k1 d1, .slice B2 k2 d2, .slice B3 k3 d3] 28)).size)
    have zz3 : w2.heap.size + 1 ≤ w3.heap.size := by have := hb3.size; simp at this; omega
    have HA_3 := Hv.below (by exact (HA_2.alloc (.cells #[.slice B0 k0 d0, .slice B1 k1 d1, .slice B2 k2 d2, .slice B3 k3 d3] 28))) hb3
    have X_3 := Blk3.below (by exact (X_2.alloc (.cells #[.slice B0 k0 d0, .slice B1 k1 d1, .slice B2 k2 d2, .slice B3 k3 d3] 28))) hb3
    obtain ⟨cX_3_0, cX_3_1, cX_3_2, _⟩ := X_3.cells
    have lX_3 := X_3.lt
    have HB_3 := Cv.below (by exact (HB.alloc (.cells #[.slice B0 k0 d0, .slice B1 k1 d1, .slice B2 k2 d2, .slice B3 k3 d3] 28))) hb3
    have P_3 := Blk4.below (by exact (Blk4.new w2 (.slice B0 k0 d0) (.slice B1 k1 d1) (.slice B2 k2 d2) (.slice B3 k3 d3) 28)) hb3
    obtain ⟨cP_3_0, cP_3_1, cP_3_2, cP_3_3, _⟩ := P_3.cells
    have lP_3 := P_3.lt
    have E1 := implColoredSame_any _ _ _ _ _ _ _ (HB_3.alloc (.cells #[.slice K0 m0 e0, .slice K1 m1 e1, .slice K2 m2 e2, .slice K3 m3 e3] 28)) (HC.alloc (.cells #[.slice K0 m0 e0, .slice K1 m1 e1, .slice K2 m2 e2, .slice K3 m3 e3] 28))
    rw [sameC_self] at E1
    go_wp2_with fail
    refine (E1).mono ?_; rintro e w4 ⟨rfl, hb4⟩
    have BW4 : Below w.heap.size w w4 := (BW3.alloc BW3.size (.cells #[.slice K0 m0 e0, .slice K1 m1 e1, .slice K2 m2 e2, .slice K3 m3 e3] 28)).trans (hb4.mono (BW3.alloc BW3.size (.cells #[.slice K0 m0 e0, .slice K1 m1 e1, .slice K2 m2 e2, .slice K3 m3 e3] 28)).size)
    have zz4 : w3.heap.size + 1 ≤ w4.heap.size := by have := hb4.size; simp at this; omega
    have HA_4 := Hv.below (by exact (HA_3.alloc (.cells #[.slice K0 m0 e0, .slice K1 m1 e1, .slice K2 m2 e2, .slice K3 m3 e3] 28))) hb4
    have X_4 := Blk3.below (by exact (X_3.alloc (.cells #[.slice K0 m0 e0, .slice K1 m1 e1, .slice K2 m2 e2, .slice K3 m3 e3] 28))) hb4
    obtain ⟨cX_4_0, cX_4_1, cX_4_2, _⟩ := X_4.cells
    have lX_4 := X_4.lt
    have HB_4 := Cv.below (by exact (HB_3.alloc (.cells #[.slice K0 m0 e0, .slice K1 m1 e1, .slice K2 m2 e2, .slice K3 m3 e3] 28))) hb4
    have P_4 := Blk4.below (by exact (P_3.alloc (.cells #[.slice K0 m0 e0, .slice K1 m1 e1, .slice K2 m2 e2, .slice K3 m3 e3] 28))) hb4
    obtain ⟨cP_4_0, cP_4_1, cP_4_2, cP_4_3, _⟩ := P_4.cells
    have lP_4 := P_4.lt
    have HC_4 := Cv.below (by exact (HC.alloc (.cells #[.slice K0 m0 e0, .slice K1 m1 e1, .slice K2 m2 e2, .slice K3 m3 e3] 28))) hb4
    have Q_4 := Blk4.below (by exact (Blk4.new w3 (.slice K0 m0 e0) (.slice K1 m1 e1) (.slice K2 m2 e2) (.slice K3 m3 e3) 28)) hb4
    obtain ⟨cQ_4_0, cQ_4_1, cQ_4_2, cQ_4_3, _⟩ := Q_4.cells
    have lQ_4 := Q_4.lt
    clear I S E1
    have AG5 := implShadeRoots_any _ _ _ _ HB_4
    rw [hr.out] at AG5
    go_wp2_with fail
    refine AG5.mono ?_; rintro e w5 ⟨v, rfl, HS, hb5⟩
    simp only [Option.isSome_some, Option.getD_some] at HS ⊢
    have HSb := HS
    obtain ⟨U0, s0, f0, U1, s1, f1, U2, s2, f2, U3, s3, f3, rfl, _⟩ := HSb.open_
    have BW5 : Below w.heap.size w w5 := BW4.trans (hb5.mono BW4.size)
    have zz5 : w4.heap.size ≤ w5.heap.size := hb5.size
    have HA_5 := Hv.below (by exact HA_4) hb5
    have X_5 := Blk3.below (by exact X_4) hb5
    obtain ⟨cX_5_0, cX_5_1, cX_5_2, _⟩ := X_5.cells
    have lX_5 := X_5.lt
    have HB_5 := Cv.below (by exact HB_4) hb5
    have P_5 := Blk4.below (by exact P_4) hb5
    obtain ⟨cP_5_0, cP_5_1, cP_5_2, cP_5_3, _⟩ := P_5.cells
    have lP_5 := P_5.lt
    have HC_5 := Cv.below (by exact HC_4) hb5
    have Q_5 := Blk4.below (by exact Q_4) hb5
    obtain ⟨cQ_5_0, cQ_5_1, cQ_5_2, cQ_5_3, _⟩ := Q_5.cells
    have lQ_5 := Q_5.lt
    have AG6 := implMarkAll_any _ _ _ _ (HS.alloc (.cells #[.slice U0 s0 f0, .slice U1 s1 f1, .slice U2 s2 f2, .slice U3 s3 f3] 28))
    rw [hal.out] at AG6
    go_wp2_with fail
    refine AG6.mono ?_; rintro e w6 ⟨v, rfl, HM, hb6⟩
    simp only [Option.isSome_some, Option.getD_some] at HM ⊢
    have HMb := HM
    obtain ⟨M0, t0, g0, M1, t1, g1, M2, t2, g2, M3, t3, g3, rfl, _⟩ := HMb.open_
    have BW6 : Below w.heap.size w w6 := (BW5.alloc BW5.size (.cells #[.slice U0 s0 f0, .slice U1 s1 f1, .slice U2 s2 f2, .slice U3 s3 f3] 28)).trans (hb6.mono (BW5.alloc BW5.size (.cells #[.slice U0 s0 f0, .slice U1 s1 f1, .slice U2 s2 f2, .slice U3 s3 f3] 28)).size)
    have zz6 : w5.heap.size + 1 ≤ w6.heap.size := by have := hb6.size; simp at this; omega
    have HA_6 := Hv.below (by exact (HA_5.alloc (.cells #[.slice U0 s0 f0, .slice U1 s1 f1, .slice U2 s2 f2, .slice U3 s3 f3] 28))) hb6
    have X_6 := Blk3.below (by exact (X_5.alloc (.cells #[.slice U0 s0 f0, .slice U1 s1 f1, .slice U2 s2 f2, .slice U3 s3 f3] 28))) hb6
    obtain ⟨cX_6_0, cX_6_1, cX_6_2, _⟩ := X_6.cells
    have lX_6 := X_6.lt
    have HB_6 := Cv.below (by exact (HB_5.alloc (.cells #[.slice U0 s0 f0, .slice U1 s1 f1, .slice U2 s2 f2, .slice U3 s3 f3] 28))) hb6
    have P_6 := Blk4.below (by exact (P_5.alloc (.cells #[.slice U0 s0 f0, .slice U1 s1 f1, .slice U2 s2 f2, .slice U3 s3 f3] 28))) hb6
    obtain ⟨cP_6_0, cP_6_1, cP_6_2, cP_6_3, _⟩ := P_6.cells
    have lP_6 := P_6.lt
    have HC_6 := Cv.below (by exact (HC_5.alloc (.cells #[.slice U0 s0 f0, .slice U1 s1 f1, .slice U2 s2 f2, .slice U3 s3 f3] 28))) hb6
    have Q_6 := Blk4.below (by exact (Q_5.alloc (.cells #[.slice U0 s0 f0, .slice U1 s1 f1, .slice U2 s2 f2, .slice U3 s3 f3] 28))) hb6
    obtain ⟨cQ_6_0, cQ_6_1, cQ_6_2, cQ_6_3, _⟩ := Q_6.cells
    have lQ_6 := Q_6.lt
    have HS_6 := Cv.below (by exact (HS.alloc (.cells #[.slice U0 s0 f0, .slice U1 s1 f1, .slice U2 s2 f2, .slice U3 s3 f3] 28))) hb6
    have U_6 := Blk4.below (by exact (Blk4.new w5 (.slice U0 s0 f0) (.slice U1 s1 f1) (.slice U2 s2 f2) (.slice U3 s3 f3) 28)) hb6
    obtain ⟨cU_6_0, cU_6_1, cU_6_2, cU_6_3, _⟩ := U_6.cells
    have lU_6 := U_6.lt
    generalize hxs : liveL hp = xs at RR hml hLL
    clear hxs hv
    go_wp2_with fail
    refine (RR _ _ _ (HA_6.alloc (.cells #[.slice M0 t0 g0, .slice M1 t1 g1, .slice M2 t2 g2, .slice M3 t3 g3] 28))).mono ?_; rintro e w7 ⟨R7, q7, rfl, RW, hb7⟩
    have BW7 : Below w.heap.size w w7 := (BW6.alloc BW6.size (.cells #[.slice M0 t0 g0, .slice M1 t1 g1, .slice M2 t2 g2, .slice M3 t3 g3] 28)).trans (hb7.mono (BW6.alloc BW6.size (.cells #[.slice M0 t0 g0, .slice M1 t1 g1, .slice M2 t2 g2, .slice M3 t3 g3] 28)).size)
    have zz7 : w6.heap.size + 1 ≤ w7.heap.size := by have := hb7.size; simp at this; omega
    have HA_7 := Hv.below (by exact (HA_6.alloc (.cells #[.slice M0 t0 g0, .slice M1 t1 g1, .slice M2 t2 g2, .slice M3 t3 g3] 28))) hb7
    have X_7 := Blk3.below (by exact (X_6.alloc (.cells #[.slice M0 t0 g0, .slice M1 t1 g1, .slice M2 t2 g2, .slice M3 t3 g3] 28))) hb7
    obtain ⟨cX_7_0, cX_7_1, cX_7_2, _⟩ := X_7.cells
    have lX_7 := X_7.lt
    have HB_7 := Cv.below (by exact (HB_6.alloc (.cells #[.slice M0 t0 g0, .slice M1 t1 g1, .slice M2 t2 g2, .slice M3 t3 g3] 28))) hb7
    have P_7 := Blk4.below (by exact (P_6.alloc (.cells #[.slice M0 t0 g0, .slice M1 t1 g1, .slice M2 t2 g2, .slice M3 t3 g3] 28))) hb7
    obtain ⟨cP_7_0, cP_7_1, cP_7_2, cP_7_3, _⟩ := P_7.cells
    have lP_7 := P_7.lt
    have HC_7 := Cv.below (by exact (HC_6.alloc (.cells #[.slice M0 t0 g0, .slice M1 t1 g1, .slice M2 t2 g2, .slice M3 t3 g3] 28))) hb7
    have Q_7 := Blk4.below (by exact (Q_6.alloc (.cells #[.slice M0 t0 g0, .slice M1 t1 g1, .slice M2 t2 g2, .slice M3 t3 g3] 28))) hb7
    obtain ⟨cQ_7_0, cQ_7_1, cQ_7_2, cQ_7_3, _⟩ := Q_7.cells
    have lQ_7 := Q_7.lt
    have HS_7 := Cv.below (by exact (HS_6.alloc (.cells #[.slice M0 t0 g0, .slice M1 t1 g1, .slice M2 t2 g2, .slice M3 t3 g3] 28))) hb7
    have U_7 := Blk4.below (by exact (U_6.alloc (.cells #[.slice M0 t0 g0, .slice M1 t1 g1, .slice M2 t2 g2, .slice M3 t3 g3] 28))) hb7
    obtain ⟨cU_7_0, cU_7_1, cU_7_2, cU_7_3, _⟩ := U_7.cells
    have lU_7 := U_7.lt
    have HM_7 := Cv.below (by exact (HM.alloc (.cells #[.slice M0 t0 g0, .slice M1 t1 g1, .slice M2 t2 g2, .slice M3 t3 g3] 28))) hb7
    have M_7 := Blk4.below (by exact (Blk4.new w6 (.slice M0 t0 g0) (.slice M1 t1 g1) (.slice M2 t2 g2) (.slice M3 t3 g3) 28)) hb7
    obtain ⟨cM_7_0, cM_7_1, cM_7_2, cM_7_3, _⟩ := M_7.cells
    have lM_7 := M_7.lt
    generalize hm7 : xs.length = mx at RW ⊢
    have HM7 := Lib.hid hm7
    have hmx : mx = n0 := by omega
    clear hm7
    obtain ⟨rM, lM⟩ := (HM_7).last'
    have ltm : t3 = n0 := by have h9 := lM; have h7 := hML; simp only at h9; omega
    have HT := Lib.hid ltm
    have HX := Lib.hid hmx
    clear ltm hmx
    go_wp2_with fail
    go_loopw [13] (fun i wr => (∃ k : Nat, k ≤ mx ∧ i = .int .i64 k) ∧ ∃ nq, wr = w7.drewN nq) (fun i _ => mx - (intOf i).toNat)
    case atStart => exact ⟨⟨0, Nat.zero_le _, rfl⟩, 0, rfl⟩
    case round =>
      obtain ⟨⟨k, hk, rfl⟩, nq, rfl⟩ := hrel
      by_cases hlt : k < mx
      · obtain ⟨gR, b, rfl, _, _, hb, hcR, _⟩ := RW.get (k := k) (by have := HM7.out; omega)
        obtain ⟨gM, x, rfl, _, _, hx, hcM, _⟩ := rM.get (k := k) (by have h9 := HX.out; have h8 := hML; show k < (allL hp (rootC hp)).length; omega)
        have hki : (k : Int) < (mx : Int) := by omega
        have hkt : (k : Int) < (t3 : Int) := by have := HT.out; have := HX.out; omega
        obtain ⟨m1, m2⟩ := hml.out k b x hb.out hx.out
        clear hb hx
        cases b
        · obtain rfl := m2 rfl
          clear m1 m2
          go_wp2_with fail
          go_quiet (fail)
          go_wp2_with fail
          go_roundw
          case rel => exact ⟨⟨k + 1, by omega, by go_num⟩, _, by first | rfl | (rw [World.drewN_drewN])⟩
          case measure => simp [intOf]; omega
        · obtain rfl := m1 rfl
          clear m1 m2
          go_wp2_with fail
          go_quiet (fail)
          go_wp2_with fail
          go_roundw
          case rel => exact ⟨⟨k + 1, by omega, by go_num⟩, _, by first | rfl | (rw [World.drewN_drewN])⟩
          case measure => simp [intOf]; omega
      · obtain rfl : mx = k := by omega
        go_wp2_with fail
        refine (VM _ _ _ (HM_7.drewN nq)).mono ?_; rintro e w8 ⟨rfl, hb8⟩
        have BW8 : Below w.heap.size w w8 := (below_drewN BW7 nq).trans (hb8.mono (below_drewN BW7 nq).size)
        have zz8 : w7.heap.size ≤ w8.heap.size := hb8.size
        have HA_8 := Hv.below (by exact (HA_7.drewN nq)) hb8
        have X_8 := Blk3.below (by exact (X_7.drewN nq)) hb8
        obtain ⟨cX_8_0, cX_8_1, cX_8_2, _⟩ := X_8.cells
        have lX_8 := X_8.lt
        have HB_8 := Cv.below (by exact (HB_7.drewN nq)) hb8
        have P_8 := Blk4.below (by exact (P_7.drewN nq)) hb8
        obtain ⟨cP_8_0, cP_8_1, cP_8_2, cP_8_3, _⟩ := P_8.cells
        have lP_8 := P_8.lt
        have HC_8 := Cv.below (by exact (HC_7.drewN nq)) hb8
        have Q_8 := Blk4.below (by exact (Q_7.drewN nq)) hb8
        obtain ⟨cQ_8_0, cQ_8_1, cQ_8_2, cQ_8_3, _⟩ := Q_8.cells
        have lQ_8 := Q_8.lt
        have HS_8 := Cv.below (by exact (HS_7.drewN nq)) hb8
        have U_8 := Blk4.below (by exact (U_7.drewN nq)) hb8
        obtain ⟨cU_8_0, cU_8_1, cU_8_2, cU_8_3, _⟩ := U_8.cells
        have lU_8 := U_8.lt
        have HM_8 := Cv.below (by exact (HM_7.drewN nq)) hb8
        have M_8 := Blk4.below (by exact (M_7.drewN nq)) hb8
        obtain ⟨cM_8_0, cM_8_1, cM_8_2, cM_8_3, _⟩ := M_8.cells
        have lM_8 := M_8.lt
        have SH := implHeapSame_any _ _ _ _ _ _ _ (HM_8).hv HA_8
        rw [sameB_self'] at SH
        go_wp2_with fail
        refine (SH).mono ?_; rintro e w9 ⟨rfl, hb9⟩
        have BW9 : Below w.heap.size w w9 := BW8.trans (hb9.mono BW8.size)
        have zz9 : w8.heap.size ≤ w9.heap.size := hb9.size
        have HA_9 := Hv.below (by exact HA_8) hb9
        have X_9 := Blk3.below (by exact X_8) hb9
        obtain ⟨cX_9_0, cX_9_1, cX_9_2, _⟩ := X_9.cells
        have lX_9 := X_9.lt
        have HB_9 := Cv.below (by exact HB_8) hb9
        have P_9 := Blk4.below (by exact P_8) hb9
        obtain ⟨cP_9_0, cP_9_1, cP_9_2, cP_9_3, _⟩ := P_9.cells
        have lP_9 := P_9.lt
        have HC_9 := Cv.below (by exact HC_8) hb9
        have Q_9 := Blk4.below (by exact Q_8) hb9
        obtain ⟨cQ_9_0, cQ_9_1, cQ_9_2, cQ_9_3, _⟩ := Q_9.cells
        have lQ_9 := Q_9.lt
        have HS_9 := Cv.below (by exact HS_8) hb9
        have U_9 := Blk4.below (by exact U_8) hb9
        obtain ⟨cU_9_0, cU_9_1, cU_9_2, cU_9_3, _⟩ := U_9.cells
        have lU_9 := U_9.lt
        have HM_9 := Cv.below (by exact HM_8) hb9
        have M_9 := Blk4.below (by exact M_8) hb9
        obtain ⟨cM_9_0, cM_9_1, cM_9_2, cM_9_3, _⟩ := M_9.cells
        have lM_9 := M_9.lt
        go_wp2_with fail
        go_ret
        exact ⟨rfl, BW9⟩
end Go.Proofs.Ytepljdlikplfeaa
