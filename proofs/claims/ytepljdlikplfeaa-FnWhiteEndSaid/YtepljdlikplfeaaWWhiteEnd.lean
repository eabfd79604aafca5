/- The law FnWhiteEnd, walked. -/
import Derived.Test.YtepljdlikplfeaaCaseC
import Derived.Test.YtepljdlikplfeaaMarks
import Derived.Test.YtepljdlikplfeaaIAll
import Derived.Test.YtepljdlikplfeaaIHolds
import Derived.Test.YtepljdlikplfeaaWLaw
namespace Go.Proofs.Ytepljdlikplfeaa
open Go.RowKit

set_option maxRecDepth 100000 in
set_option maxHeartbeats 4000000 in
theorem lawWhiteEnd_walk (w : World) (A : Option Addr) (n c : Nat) (h : Inp w A n c) :
    Calls Try.prog 6 #[.slice A n c] w (LawTrue w) := by
  by_cases hbig : 1048576 < n
  · go_enter Try.func6, Try.ntmps6
    go_wp2_with fail
    go_ret
    exact ⟨rfl, Below.refl _ _⟩
  go_enter Try.func6, Try.ntmps6
  go_wp2_with fail
  refine (drawMarkAll_any _ _ _ _ h).mono ?_; rintro e w1 ⟨v, C, rfl, HA, hb1⟩
  have BW1 : Below w.heap.size w w1 := (Below.refl w.heap.size w).trans (hb1.mono (Below.refl w.heap.size w).size)
  have zz1 : w.heap.size ≤ w1.heap.size := hb1.size
  have HAo := HA
  obtain ⟨A0, n0, c0, A1, n1, c1, A2, n2, c2, A3, n3, c3, rfl, hh, ⟨r0, r1, r2, r3⟩, ⟨l0, l1, l2, l3⟩, ⟨mm0, mm1, mm2, mm3⟩, _⟩ := HAo.open_
  have I := fun W lo v hW => implMarkAll_any W lo v C hW
  have S := fun W lo v hW => specMarkAll_any W lo v C hW
  rcases ho : allO C with _ | C2
  · rw [ho] at I S
    go_wp2_with fail
    refine (I _ _ _ (HA.alloc (.cells #[.slice A0 n0 c0, .slice A1 n1 c1, .slice A2 n2 c2, .slice A3 n3 c3] 28))).mono ?_; rintro e w2 ⟨v, rfl, HB, hb2⟩
    simp only [Option.isSome_none, Option.getD_none] at HB ⊢
    have HBb := HB
    obtain ⟨B0, k0, d0, B1, k1, d1, B2, k2, d2, B3, k3, d3, rfl, _, ⟨_, _, _, br3⟩, ⟨_, _, _, bl3⟩, _⟩ := HBb.open_
    have BW2 : Below w.heap.size w w2 := (BW1.alloc BW1.size (.cells #[.slice A0 n0 c0, .slice A1 n1 c1, .slice A2 n2 c2, .slice A3 n3 c3] 28)).trans (hb2.mono (BW1.alloc BW1.size (.cells #[.slice A0 n0 c0, .slice A1 n1 c1, .slice A2 n2 c2, .slice A3 n3 c3] 28)).size)
    have zz2 : w1.heap.size + 1 ≤ w2.heap.size := by have := hb2.size; simp at this; omega
    have HA_2 := Cv.below (by exact (HA.alloc (.cells #[.slice A0 n0 c0, .slice A1 n1 c1, .slice A2 n2 c2, .slice A3 n3 c3] 28))) hb2
    have X_2 := Blk4.below (by exact (Blk4.new w1 (.slice A0 n0 c0) (.slice A1 n1 c1) (.slice A2 n2 c2) (.slice A3 n3 c3) 28)) hb2
    obtain ⟨cX_2_0, cX_2_1, cX_2_2, cX_2_3, _⟩ := X_2.cells
    have lX_2 := X_2.lt
    go_wp2_with fail
    refine (S _ _ _ (HA_2.alloc (.cells #[.slice B0 k0 d0, .slice B1 k1 d1, .slice B2 k2 d2, .slice B3 k3 d3] 28))).mono ?_; rintro e w3 ⟨v, rfl, HC, hb3⟩
    simp only [Option.isSome_none, Option.getD_none] at HC ⊢
    have HCb := HC
    obtain ⟨K0, m0, e0, K1, m1, e1, K2, m2, e2, K3, m3, e3, rfl, _⟩ := HCb.open_
    have BW3 : Below w.heap.size w w3 := (BW2.alloc BW2.size (.cells #[.slice B0 k0 d0, .slice B1 k1 d1, .slice B2 k2 d2, .slice B3 k3 d3] 28)).trans (hb3.mono (BW2.alloc BW2.size (.cells #[.slice B0 k0 d0, .slice B1 k1 d1, .slice B2 k2 d2, .slice B3 k3 d3] 28)).size)
    have zz3 : w2.heap.size + 1 ≤ w3.heap.size := by have := hb3.size; simp at this; omega
    have HA_3 := Cv.below (by exact (HA_2.alloc (.cells #[.slice B0 k0 d0, .slice B1 k1 d1, .slice B2 k2 d2, .slice B3 k3 d3] 28))) hb3
    have X_3 := Blk4.below (by exact (X_2.alloc (.cells #[.slice B0 k0 d0, .slice B1 k1 d1, .slice B2 k2 d2, .slice B3 k3 d3] 28))) hb3
    obtain ⟨cX_3_0, cX_3_1, cX_3_2, cX_3_3, _⟩ := X_3.cells
    have lX_3 := X_3.lt
    have HB_3 := Cv.below (by exact (HB.alloc (.cells #[.slice B0 k0 d0, .slice B1 k1 d1, .slice B2 k2 d2, .slice B3 k3 d3] 28))) hb3
    have P_3 := Blk4.below (by exact (Blk4.new w2 (.slice B0 k0 d0) (.slice B1 k1 d1) (.slice B2 k2 d2) (.slice B3 k3 d3) 28)) hb3
    obtain ⟨cP_3_0, cP_3_1, cP_3_2, cP_3_3, _⟩ := P_3.cells
    have lP_3 := P_3.lt
    have E1 := implColoredSame_any _ _ _ _ _ _ _ (HB_3.alloc (.cells #[.slice K0 m0 e0, .slice K1 m1 e1, .slice K2 m2 e2, .slice K3 m3 e3] 28)) (HC.alloc (.cells #[.slice K0 m0 e0, .slice K1 m1 e1, .slice K2 m2 e2, .slice K3 m3 e3] 28))
    rw [sameC_self] at E1
    go_wp2_with fail
    refine (E1).mono ?_; rintro e w4 ⟨rfl, hb4⟩
    have BW4 : Below w.heap.size w w4 := (BW3.alloc BW3.size (.cells #[.slice K0 m0 e0, .slice K1 m1 e1, .slice K2 m2 e2, .slice K3 m3 e3] 28)).trans (hb4.mono (BW3.alloc BW3.size (.cells #[.slice K0 m0 e0, .slice K1 m1 e1, .slice K2 m2 e2, .slice K3 m3 e3] 28)).size)
    have zz4 : w3.heap.size + 1 ≤ w4.heap.size := by have := hb4.size; simp at this; omega
    have HA_4 := Cv.below (by exact (HA_3.alloc (.cells #[.slice K0 m0 e0, .slice K1 m1 e1, .slice K2 m2 e2, .slice K3 m3 e3] 28))) hb4
    have X_4 := Blk4.below (by exact (X_3.alloc (.cells #[.slice K0 m0 e0, .slice K1 m1 e1, .slice K2 m2 e2, .slice K3 m3 e3] 28))) hb4
    obtain ⟨cX_4_0, cX_4_1, cX_4_2, cX_4_3, _⟩ := X_4.cells
    have lX_4 := X_4.lt
    have HB_4 := Cv.below (by exact (HB_3.alloc (.cells #[.slice K0 m0 e0, .slice K1 m1 e1, .slice K2 m2 e2, .slice K3 m3 e3] 28))) hb4
    have P_4 := Blk4.below (by exact (P_3.alloc (.cells #[.slice K0 m0 e0, .slice K1 m1 e1, .slice K2 m2 e2, .slice K3 m3 e3] 28))) hb4
    obtain ⟨cP_4_0, cP_4_1, cP_4_2, cP_4_3, _⟩ := P_4.cells
    have lP_4 := P_4.lt
    have HC_4 := Cv.below (by exact (HC.alloc (.cells #[.slice K0 m0 e0, .slice K1 m1 e1, .slice K2 m2 e2, .slice K3 m3 e3] 28))) hb4
    have Q_4 := Blk4.below (by exact (Blk4.new w3 (.slice K0 m0 e0) (.slice K1 m1 e1) (.slice K2 m2 e2) (.slice K3 m3 e3) 28)) hb4
    obtain ⟨cQ_4_0, cQ_4_1, cQ_4_2, cQ_4_3, _⟩ := Q_4.cells
    have lQ_4 := Q_4.lt
    have E2 := implColoredSame_any _ _ _ _ _ _ _ HB_4 HC_4
    rw [sameC_self] at E2
    go_wp2_with fail
    refine (E2).mono ?_; rintro e w5 ⟨rfl, hb5⟩
    have BW5 : Below w.heap.size w w5 := BW4.trans (hb5.mono BW4.size)
    have zz5 : w4.heap.size ≤ w5.heap.size := hb5.size
    have HA_5 := Cv.below (by exact HA_4) hb5
    have X_5 := Blk4.below (by exact X_4) hb5
    obtain ⟨cX_5_0, cX_5_1, cX_5_2, cX_5_3, _⟩ := X_5.cells
    have lX_5 := X_5.lt
    have HB_5 := Cv.below (by exact HB_4) hb5
    have P_5 := Blk4.below (by exact P_4) hb5
    obtain ⟨cP_5_0, cP_5_1, cP_5_2, cP_5_3, _⟩ := P_5.cells
    have lP_5 := P_5.lt
    have HC_5 := Cv.below (by exact HC_4) hb5
    have Q_5 := Blk4.below (by exact Q_4) hb5
    obtain ⟨cQ_5_0, cQ_5_1, cQ_5_2, cQ_5_3, _⟩ := Q_5.cells
    have lQ_5 := Q_5.lt
    go_wp2_with fail
    go_ret
    exact ⟨rfl, BW5⟩
  · rw [ho] at I S
    obtain ⟨hv, hC2, hv2⟩ := allO_parts ho
    have hlen := l3.out
    have L2 : C2.c.length = n3 := by rw [hC2]; show (allL C.h C.c).length = _; rw [allL_len]; exact hlen
    have H1 := fun W lo v hW => implColorHolds_any W lo v C hW
    have hws : Hid (holdsB C = true → ∀ (i : Nat) (s : Int), s ∈ srcs C2.h (i : Int) → C2.c[i]? = some 0 → 0 ≤ s ∧ s < n3 ∧ C2.c[s.toNat]? = some 0) := fun e i s hs hi => by
      rw [hC2] at hs hi ⊢
      obtain ⟨h1, h2, h3⟩ := white_sources hv ((holdsB_iff hv).1 e) hs hi
      obtain ⟨_, h4, _⟩ := cvB_parts hv
      exact ⟨h1, by omega, h3⟩
    have hsl : Hid (∀ i : Int, (srcs C2.h i).length ≤ n3) := fun i => by
      obtain ⟨_, h4, _⟩ := cvB_parts hv2
      have := srcs_len C2.h i; omega
    clear hC2 hv hv2 ho
    go_wp2_with fail
    refine (I _ _ _ (HA.alloc (.cells #[.slice A0 n0 c0, .slice A1 n1 c1, .slice A2 n2 c2, .slice A3 n3 c3] 28))).mono ?_; rintro e w2 ⟨v, rfl, HB, hb2⟩
    simp only [Option.isSome_some, Option.getD_some] at HB ⊢
    have HBb := HB
    obtain ⟨B0, k0, d0, B1, k1, d1, B2, k2, d2, B3, k3, d3, rfl, _, ⟨_, _, _, br3⟩, ⟨_, _, _, bl3⟩, _⟩ := HBb.open_
    have BW2 : Below w.heap.size w w2 := (BW1.alloc BW1.size (.cells #[.slice A0 n0 c0, .slice A1 n1 c1, .slice A2 n2 c2, .slice A3 n3 c3] 28)).trans (hb2.mono (BW1.alloc BW1.size (.cells #[.slice A0 n0 c0, .slice A1 n1 c1, .slice A2 n2 c2, .slice A3 n3 c3] 28)).size)
    have zz2 : w1.heap.size + 1 ≤ w2.heap.size := by have := hb2.size; simp at this; omega
    have HA_2 := Cv.below (by exact (HA.alloc (.cells #[.slice A0 n0 c0, .slice A1 n1 c1, .slice A2 n2 c2, .slice A3 n3 c3] 28))) hb2
    have X_2 := Blk4.below (by exact (Blk4.new w1 (.slice A0 n0 c0) (.slice A1 n1 c1) (.slice A2 n2 c2) (.slice A3 n3 c3) 28)) hb2
    obtain ⟨cX_2_0, cX_2_1, cX_2_2, cX_2_3, _⟩ := X_2.cells
    have lX_2 := X_2.lt
    go_wp2_with fail
    refine (S _ _ _ (HA_2.alloc (.cells #[.slice B0 k0 d0, .slice B1 k1 d1, .slice B2 k2 d2, .slice B3 k3 d3] 28))).mono ?_; rintro e w3 ⟨v, rfl, HC, hb3⟩
    simp only [Option.isSome_some, Option.getD_some] at HC ⊢
    have HCb := HC
    obtain ⟨K0, m0, e0, K1, m1, e1, K2, m2, e2, K3, m3, e3, rfl, _⟩ := HCb.open_
    have BW3 : Below w.heap.size w w3 := (BW2.alloc BW2.size (.cells #[.slice B0 k0 d0, .slice B1 k1 d1, .slice B2 k2 d2, .slice B3 k3 d3] 28)).trans (hb3.mono (BW2.alloc BW2.size (.cells #[.slice B0 k0 d0, .slice B1 k1 d1, .slice B2 k2 d2, .slice B3 k3 d3] 28)).size)
    have zz3 : w2.heap.size + 1 ≤ w3.heap.size := by have := hb3.size; simp at this; omega
    have HA_3 := Cv.below (by exact (HA_2.alloc (.cells #[.slice B0 k0 d0, .slice B1 k1 d1, .slice B2 k2 d2, .slice B3 k3 d3] 28))) hb3
    have X_3 := Blk4.below (by exact (X_2.alloc (.cells #[.slice B0 k0 d0, .slice B1 k1 d1, .slice B2 k2 d2, .slice B3 k3 d3] 28))) hb3
    obtain ⟨cX_3_0, cX_3_1, cX_3_2, cX_3_3, _⟩ := X_3.cells
    have lX_3 := X_3.lt
    have HB_3 := Cv.below (by exact (HB.alloc (.cells #[.slice B0 k0 d0, .slice B1 k1 d1, .slice B2 k2 d2, .slice B3 k3 d3] 28))) hb3
    have P_3 := Blk4.below (by exact (Blk4.new w2 (.slice B0 k0 d0) (.slice B1 k1 d1) (.slice B2 k2 d2) (.slice B3 k3 d3) 28)) hb3
    obtain ⟨cP_3_0, cP_3_1, cP_3_2, cP_3_3, _⟩ := P_3.cells
    have lP_3 := P_3.lt
    have E1 := implColoredSame_any _ _ _ _ _ _ _ (HB_3.alloc (.cells #[.slice K0 m0 e0, .slice K1 m1 e1, .slice K2 m2 e2, .slice K3 m3 e3] 28)) (HC.alloc (.cells #[.slice K0 m0 e0, .slice K1 m1 e1, .slice K2 m2 e2, .slice K3 m3 e3] 28))
    rw [sameC_self] at E1
    go_wp2_with fail
    refine (E1).mono ?_; rintro e w4 ⟨rfl, hb4⟩
    have BW4 : Below w.heap.size w w4 := (BW3.alloc BW3.size (.cells #[.slice K0 m0 e0, .slice K1 m1 e1, .slice K2 m2 e2, .slice K3 m3 e3] 28)).trans (hb4.mono (BW3.alloc BW3.size (.cells #[.slice K0 m0 e0, .slice K1 m1 e1, .slice K2 m2 e2, .slice K3 m3 e3] 28)).size)
    have zz4 : w3.heap.size + 1 ≤ w4.heap.size := by have := hb4.size; simp at this; omega
    have HA_4 := Cv.below (by exact (HA_3.alloc (.cells #[.slice K0 m0 e0, .slice K1 m1 e1, .slice K2 m2 e2, .slice K3 m3 e3] 28))) hb4
    have X_4 := Blk4.below (by exact (X_3.alloc (.cells #[.slice K0 m0 e0, .slice K1 m1 e1, .slice K2 m2 e2, .slice K3 m3 e3] 28))) hb4
    obtain ⟨cX_4_0, cX_4_1, cX_4_2, cX_4_3, _⟩ := X_4.cells
    have lX_4 := X_4.lt
    have HB_4 := Cv.below (by exact (HB_3.alloc (.cells #[.slice K0 m0 e0, .slice K1 m1 e1, .slice K2 m2 e2, .slice K3 m3 e3] 28))) hb4
    have P_4 := Blk4.below (by exact (P_3.alloc (.cells #[.slice K0 m0 e0, .slice K1 m1 e1, .slice K2 m2 e2, .slice K3 m3 e3] 28))) hb4
    obtain ⟨cP_4_0, cP_4_1, cP_4_2, cP_4_3, _⟩ := P_4.cells
    have lP_4 := P_4.lt
    have HC_4 := Cv.below (by exact (HC.alloc (.cells #[.slice K0 m0 e0, .slice K1 m1 e1, .slice K2 m2 e2, .slice K3 m3 e3] 28))) hb4
    have Q_4 := Blk4.below (by exact (Blk4.new w3 (.slice K0 m0 e0) (.slice K1 m1 e1) (.slice K2 m2 e2) (.slice K3 m3 e3) 28)) hb4
    obtain ⟨cQ_4_0, cQ_4_1, cQ_4_2, cQ_4_3, _⟩ := Q_4.cells
    have lQ_4 := Q_4.lt
    clear I S E1
    rcases e1 : holdsB C
    · rw [e1] at H1
      clear e1 hws
      go_wp2_with fail
      refine (H1 _ _ _ HA_4).mono ?_; rintro e w5 ⟨rfl, hb5⟩
      have BW5 : Below w.heap.size w w5 := BW4.trans (hb5.mono BW4.size)
      have zz5 : w4.heap.size ≤ w5.heap.size := hb5.size
      have HA_5 := Cv.below (by exact HA_4) hb5
      have X_5 := Blk4.below (by exact X_4) hb5
      obtain ⟨cX_5_0, cX_5_1, cX_5_2, cX_5_3, _⟩ := X_5.cells
      have lX_5 := X_5.lt
      have HB_5 := Cv.below (by exact HB_4) hb5
      have P_5 := Blk4.below (by exact P_4) hb5
      obtain ⟨cP_5_0, cP_5_1, cP_5_2, cP_5_3, _⟩ := P_5.cells
      have lP_5 := P_5.lt
      have HC_5 := Cv.below (by exact HC_4) hb5
      have Q_5 := Blk4.below (by exact Q_4) hb5
      obtain ⟨cQ_5_0, cQ_5_1, cQ_5_2, cQ_5_3, _⟩ := Q_5.cells
      have lQ_5 := Q_5.lt
      have E2 := implColoredSame_any _ _ _ _ _ _ _ HB_5 HC_5
      rw [sameC_self] at E2
      go_wp2_with fail
      refine (E2).mono ?_; rintro e w6 ⟨rfl, hb6⟩
      have BW6 : Below w.heap.size w w6 := BW5.trans (hb6.mono BW5.size)
      have zz6 : w5.heap.size ≤ w6.heap.size := hb6.size
      have HA_6 := Cv.below (by exact HA_5) hb6
      have X_6 := Blk4.below (by exact X_5) hb6
      obtain ⟨cX_6_0, cX_6_1, cX_6_2, cX_6_3, _⟩ := X_6.cells
      have lX_6 := X_6.lt
      have HB_6 := Cv.below (by exact HB_5) hb6
      have P_6 := Blk4.below (by exact P_5) hb6
      obtain ⟨cP_6_0, cP_6_1, cP_6_2, cP_6_3, _⟩ := P_6.cells
      have lP_6 := P_6.lt
      have HC_6 := Cv.below (by exact HC_5) hb6
      have Q_6 := Blk4.below (by exact Q_5) hb6
      obtain ⟨cQ_6_0, cQ_6_1, cQ_6_2, cQ_6_3, _⟩ := Q_6.cells
      have lQ_6 := Q_6.lt
      go_wp2_with fail
      go_ret
      exact ⟨rfl, BW6⟩
    · rw [e1] at H1
      have hw1 := Lib.hid (hws.out e1)
      clear e1 hws
      go_wp2_with fail
      refine (H1 _ _ _ HA_4).mono ?_; rintro e w5 ⟨rfl, hb5⟩
      have BW5 : Below w.heap.size w w5 := BW4.trans (hb5.mono BW4.size)
      have zz5 : w4.heap.size ≤ w5.heap.size := hb5.size
      have HA_5 := Cv.below (by exact HA_4) hb5
      have X_5 := Blk4.below (by exact X_4) hb5
      obtain ⟨cX_5_0, cX_5_1, cX_5_2, cX_5_3, _⟩ := X_5.cells
      have lX_5 := X_5.lt
      have HB_5 := Cv.below (by exact HB_4) hb5
      have P_5 := Blk4.below (by exact P_4) hb5
      obtain ⟨cP_5_0, cP_5_1, cP_5_2, cP_5_3, _⟩ := P_5.cells
      have lP_5 := P_5.lt
      have HC_5 := Cv.below (by exact HC_4) hb5
      have Q_5 := Blk4.below (by exact Q_4) hb5
      obtain ⟨cQ_5_0, cQ_5_1, cQ_5_2, cQ_5_3, _⟩ := Q_5.cells
      have lQ_5 := Q_5.lt
      go_wp2_with fail
      go_loopw [8] (fun i wr => ∃ k : Nat, k ≤ n3 ∧ i = .int .i64 k ∧ Blk4 wr w2.heap.size (.slice B0 k0 d0) (.slice B1 k1 d1) (.slice B2 k2 d2) (.slice B3 k3 d3) 28 ∧ Cv wr 0 (.agg #[.slice B0 k0 d0, .slice B1 k1 d1, .slice B2 k2 d2, .slice B3 k3 d3]) C2 ∧ Below w.heap.size w wr) (fun i _ => n3 - (intOf i).toNat)
      case atStart => exact ⟨0, Nat.zero_le _, rfl, P_5, HB_5.mono (Nat.zero_le _), BW5⟩
      case round =>
        obtain ⟨k, hk, rfl, PR, HBR, BR⟩ := hrel
        obtain ⟨p0, p1, p2, p3, _⟩ := PR.cells
        obtain ⟨rB, lB⟩ := HBR.last'
        have HK := Lib.hid (show k3 = n3 by omega)
        by_cases hlt : k < n3
        · have hki : (k : Int) < (k3 : Int) := by omega
          have SR := implSources_any _ _ _ _ HBR.hv (k : Int)
          have hsk := hsl.out (k : Int)
          have hwk := Lib.hid (hw1.out k)
          generalize srcs C2.h (k : Int) = xs at SR hsk hwk
          go_wp2_with fail
          refine SR.mono ?_; rintro e w6 ⟨S6, q6, rfl, RS, hb6⟩
          have PR6 := PR.below hb6
          have HB6 := HBR.below hb6
          have B6 := BR.trans (hb6.mono BR.size)
          generalize hm6 : xs.length = mx at RS hsk ⊢
          have HM6 := Lib.hid hm6
          clear hm6 PR HBR BR rB lB SR p0 p1 p2 p3 hb6
          obtain ⟨p0, p1, p2, p3, _⟩ := PR6.cells
          obtain ⟨rB, lB⟩ := HB6.last'
          obtain ⟨gB, ci, eB, _, _, hci, hcB, _⟩ := rB.get (k := k) (by omega)
          subst eB
          have hwc : Hid (ci = 0 → ∀ s ∈ xs, 0 ≤ s ∧ s < n3 ∧ C2.c[s.toNat]? = some 0) := fun e s hs => hwk.out s hs (by rw [hci.out, e])
          clear hci hwk
          go_wp2_with fail
          go_loopw [10] (fun j wq => (∃ q : Nat, q ≤ mx ∧ j = .int .i64 q) ∧ ∃ nq, wq = w6.drewN nq) (fun j _ => mx - (intOf j).toNat)
          case atStart => exact ⟨⟨0, Nat.zero_le _, rfl⟩, 0, rfl⟩
          case round =>
            obtain ⟨⟨q, hq, rfl⟩, nq, rfl⟩ := hrel
            by_cases hlq : q < mx
            · obtain ⟨gS, s, rfl, _, _, hs, hcS, _⟩ := RS.get (k := q) (by have := HM6.out; omega)
              have hqi : (q : Int) < (mx : Int) := by omega
              by_cases hc0 : ci = 0
              · subst hc0
                obtain ⟨s1, s2, s3⟩ := hwc.out rfl s (List.mem_of_getElem? hs.out)
                obtain ⟨a, rfl⟩ := Int.eq_ofNat_of_zero_le s1
                obtain ⟨_, z, eZ, _, _, hz, hcZ, _⟩ := rB.get (k := a) (by omega)
                cases eZ
                have ez := hz.out
                simp only [Int.toNat_natCast] at s3
                rw [s3] at ez
                obtain rfl : z = 0 := by simpa using ez.symm
                have hak : (a : Int) < (k3 : Int) := by omega
                clear hs hz ez s3
                go_wp2_with fail
                go_quiet (fail)
                go_wp2_with fail
                go_roundw
                case rel => exact ⟨⟨q + 1, by omega, by go_num⟩, _, by first | rfl | (rw [World.drewN_drewN])⟩
                case measure => simp [intOf]; omega
              · have hc1 : (ci == 0) = false := by simp [hc0]
                clear hs
                go_wp2_with fail
                go_quiet (fail)
                go_wp2_with fail
                go_roundw
                case rel => exact ⟨⟨q + 1, by omega, by go_num⟩, _, by first | rfl | (rw [World.drewN_drewN])⟩
                case measure => simp [intOf]; omega
            · obtain rfl : mx = q := by omega
              go_wp2_with fail
              go_roundw
              case rel => exact ⟨k + 1, by omega, by go_num, PR6.drewN nq, HB6.drewN nq, below_drewN B6 nq⟩
              case measure => simp [intOf]; omega
        · obtain rfl : n3 = k := by omega
          obtain rfl : n3 = k3 := HK.out.symm
          go_wp2_with fail
          go_ret
          exact ⟨rfl, BR⟩
end Go.Proofs.Ytepljdlikplfeaa
