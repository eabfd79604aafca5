/- The law FnMarkCount, walked. -/
import Derived.Test.YtepljdlikplfeaaCaseC
import Derived.Test.YtepljdlikplfeaaMarks
import Derived.Test.YtepljdlikplfeaaIAll
import Derived.Test.YtepljdlikplfeaaIStep
import Derived.Test.YtepljdlikplfeaaICol2
import Derived.Test.YtepljdlikplfeaaWLaw
namespace Go.Proofs.Ytepljdlikplfeaa
open Go.RowKit

theorem sameCE (w : World) (lo lo' : Nat) (v v' : Value) (a : Cp) (hv : Cv w lo v a) (hv' : Cv w lo' v' a) : Calls Try.prog 10 #[v, v'] w (RetB w true) := by
  have E := implColoredSame_any w lo lo' v v' a a hv hv'
  rwa [sameC_self] at E

set_option maxRecDepth 100000 in
set_option maxHeartbeats 4000000 in
theorem lawMarkCount_walk (w : World) (A : Option Addr) (n c : Nat) (h : Inp w A n c) :
    Calls Try.prog 4 #[.slice A n c] w (LawTrue w) := by
  by_cases hbig : 1048576 < n
  · go_enter Try.func4, Try.ntmps4
    go_wp2_with fail
    go_ret
    exact ⟨rfl, Below.refl _ _⟩
  go_enter Try.func4, Try.ntmps4
  go_wp2_with fail
  refine (drawMarkAll_any _ _ _ _ h).mono ?_; rintro e w1 ⟨v, C, rfl, HA, hb1⟩
  have BW1 : Below w.heap.size w w1 := (Below.refl w.heap.size w).trans (hb1.mono (Below.refl w.heap.size w).size)
  have zz1 : w.heap.size ≤ w1.heap.size := hb1.size
  have HAo := HA
  obtain ⟨A0, n0, c0, A1, n1, c1, A2, n2, c2, A3, n3, c3, rfl, hh, ⟨r0, r1, r2, r3⟩, ⟨l0, l1, l2, l3⟩, ⟨mm0, mm1, mm2, mm3⟩, _⟩ := HAo.open_
  have I := fun W lo v hW => implMarkAll_any W lo v C hW
  have S := fun W lo v hW => specMarkAll_any W lo v C hW
  rcases ho : allO C with _ | C2
  · rw [ho] at I S
    go_wp2_with fail
    refine (I _ _ _ (HA.alloc (.cells #[.slice A0 n0 c0, .slice A1 n1 c1, .slice A2 n2 c2, .slice A3 n3 c3] 28))).mono ?_; rintro e w2 ⟨v, rfl, HB, hb2⟩
    simp only [Option.isSome_none, Option.getD_none] at HB ⊢
    have HBb := HB
    obtain ⟨B0, k0, d0, B1, k1, d1, B2, k2, d2, B3, k3, d3, rfl, _, ⟨_, _, _, br3⟩, ⟨_, _, _, bl3⟩, _⟩ := HBb.open_
    have BW2 : Below w.heap.size w w2 := (BW1.alloc BW1.size (.cells #[.slice A0 n0 c0, .slice A1 n1 c1, .slice A2 n2 c2, .slice A3 n3 c3] 28)).trans (hb2.mono (BW1.alloc BW1.size (.cells #[.slice A0 n0 c0, .slice A1 n1 c1, .slice A2 n2 c2, .slice A3 n3 c3] 28)).size)
    have zz2 : w1.heap.size + 1 ≤ w2.heap.size := by have := hb2.size; simp at this; omega
    have HA_2 := Cv.below (by exact (HA.alloc (.cells #[.slice A0 n0 c0, .slice A1 n1 c1, .slice A2 n2 c2, .slice A3 n3 c3] 28))) hb2
    have X_2 := Blk4.below (by exact (Blk4.new w1 (.slice A0 n0 c0) (.slice A1 n1 c1) (.slice A2 n2 c2) (.slice A3 n3 c3) 28)) hb2
    obtain ⟨cX_2_0, cX_2_1, cX_2_2, cX_2_3, _⟩ := X_2.cells
    have lX_2 := X_2.lt
    go_wp2_with fail
    refine (S _ _ _ (HA_2.alloc (.cells #[.slice B0 k0 d0, .slice B1 k1 d1, .slice B2 k2 d2, .slice B3 k3 d3] 28))).mono ?_; rintro e w3 ⟨v, rfl, HC, hb3⟩
    simp only [Option.isSome_none, Option.getD_none] at HC ⊢
    have HCb := HC
    obtain ⟨K0, m0, e0, K1, m1, e1, K2, m2, e2, K3, m3, e3, rfl, _⟩ := HCb.open_
    have BW3 : Below w.heap.size w w3 := (BW2.alloc BW2.size (.cells #[.slice B0 k0 d0, .slice B1 k1 d1, .slice B2 k2 d2, .slice B3 k3 d3] 28)).trans (hb3.mono (BW2.alloc BW2.size (.cells #[.slice B0 k0 d0, .slice B1 k1 d1, .slice B2 k2 d2, .slice B3 k3 d3] 28)).size)
    have zz3 : w2.heap.size + 1 ≤ w3.heap.size := by have := hb3.size; simp at this; omega
    have HA_3 := Cv.below (by exact (HA_2.alloc (.cells #[.slice B0 k0 d0, .slice B1 k1 d1, .slice B2 k2 d2, .slice B3 k3 d3] 28))) hb3
    have X_3 := Blk4.below (by exact (X_2.alloc (.cells #[.slice B0 k0 d0, .slice B1 k1 d1, .slice B2 k2 d2, .slice B3 k3 d3] 28))) hb3
    obtain ⟨cX_3_0, cX_3_1, cX_3_2, cX_3_3, _⟩ := X_3.cells
    have lX_3 := X_3.lt
    have HB_3 := Cv.below (by exact (HB.alloc (.cells #[.slice B0 k0 d0, .slice B1 k1 d1, .slice B2 k2 d2, .slice B3 k3 d3] 28))) hb3
    have P_3 := Blk4.below (by exact (Blk4.new w2 (.slice B0 k0 d0) (.slice B1 k1 d1) (.slice B2 k2 d2) (.slice B3 k3 d3) 28)) hb3
    obtain ⟨cP_3_0, cP_3_1, cP_3_2, cP_3_3, _⟩ := P_3.cells
    have lP_3 := P_3.lt
    have E1 := implColoredSame_any _ _ _ _ _ _ _ (HB_3.alloc (.cells #[.slice K0 m0 e0, .slice K1 m1 e1, .slice K2 m2 e2, .slice K3 m3 e3] 28)) (HC.alloc (.cells #[.slice K0 m0 e0, .slice K1 m1 e1, .slice K2 m2 e2, .slice K3 m3 e3] 28))
    rw [sameC_self] at E1
    go_wp2_with fail
    refine (E1).mono ?_; rintro e w4 ⟨rfl, hb4⟩
    have BW4 : Below w.heap.size w w4 := (BW3.alloc BW3.size (.cells #[.slice K0 m0 e0, .slice K1 m1 e1, .slice K2 m2 e2, .slice K3 m3 e3] 28)).trans (hb4.mono (BW3.alloc BW3.size (.cells #[.slice K0 m0 e0, .slice K1 m1 e1, .slice K2 m2 e2, .slice K3 m3 e3] 28)).size)
    have zz4 : w3.heap.size + 1 ≤ w4.heap.size := by have := hb4.size; simp at this; omega
    have HA_4 := Cv.below (by exact (HA_3.alloc (.cells #[.slice K0 m0 e0, .slice K1 m1 e1, .slice K2 m2 e2, .slice K3 m3 e3] 28))) hb4
    have X_4 := Blk4.below (by exact (X_3.alloc (.cells #[.slice K0 m0 e0, .slice K1 m1 e1, .slice K2 m2 e2, .slice K3 m3 e3] 28))) hb4
    obtain ⟨cX_4_0, cX_4_1, cX_4_2, cX_4_3, _⟩ := X_4.cells
    have lX_4 := X_4.lt
    have HB_4 := Cv.below (by exact (HB_3.alloc (.cells #[.slice K0 m0 e0, .slice K1 m1 e1, .slice K2 m2 e2, .slice K3 m3 e3] 28))) hb4
    have P_4 := Blk4.below (by exact (P_3.alloc (.cells #[.slice K0 m0 e0, .slice K1 m1 e1, .slice K2 m2 e2, .slice K3 m3 e3] 28))) hb4
    obtain ⟨cP_4_0, cP_4_1, cP_4_2, cP_4_3, _⟩ := P_4.cells
    have lP_4 := P_4.lt
    have HC_4 := Cv.below (by exact (HC.alloc (.cells #[.slice K0 m0 e0, .slice K1 m1 e1, .slice K2 m2 e2, .slice K3 m3 e3] 28))) hb4
    have Q_4 := Blk4.below (by exact (Blk4.new w3 (.slice K0 m0 e0) (.slice K1 m1 e1) (.slice K2 m2 e2) (.slice K3 m3 e3) 28)) hb4
    obtain ⟨cQ_4_0, cQ_4_1, cQ_4_2, cQ_4_3, _⟩ := Q_4.cells
    have lQ_4 := Q_4.lt
    have E2 := implColoredSame_any _ _ _ _ _ _ _ HB_4 HC_4
    rw [sameC_self] at E2
    go_wp2_with fail
    refine (E2).mono ?_; rintro e w5 ⟨rfl, hb5⟩
    have BW5 : Below w.heap.size w w5 := BW4.trans (hb5.mono BW4.size)
    have zz5 : w4.heap.size ≤ w5.heap.size := hb5.size
    have HA_5 := Cv.below (by exact HA_4) hb5
    have X_5 := Blk4.below (by exact X_4) hb5
    obtain ⟨cX_5_0, cX_5_1, cX_5_2, cX_5_3, _⟩ := X_5.cells
    have lX_5 := X_5.lt
    have HB_5 := Cv.below (by exact HB_4) hb5
    have P_5 := Blk4.below (by exact P_4) hb5
    obtain ⟨cP_5_0, cP_5_1, cP_5_2, cP_5_3, _⟩ := P_5.cells
    have lP_5 := P_5.lt
    have HC_5 := Cv.below (by exact HC_4) hb5
    have Q_5 := Blk4.below (by exact Q_4) hb5
    obtain ⟨cQ_5_0, cQ_5_1, cQ_5_2, cQ_5_3, _⟩ := Q_5.cells
    have lQ_5 := Q_5.lt
    go_wp2_with fail
    go_ret
    exact ⟨rfl, BW5⟩
  · rw [ho] at I S
    obtain ⟨hv, hC2, hv2⟩ := allO_parts ho
    obtain ⟨hvh, hcl, _⟩ := cvB_parts hv
    have h8 := hvB_len hvh
    have hlen := l3.out
    have X2 := fun W lo v hW => implCountColor_any W lo v C2 hW 2
    have Y2 := fun W lo v hW => implCountColor_any W lo v C hW 2
    rw [countO_valid hv2] at X2
    rw [countO_valid hv] at Y2
    have HC2 := Lib.hid hC2
    have HV := Lib.hid hv
    have hb9 : C2.c.count 2 ≤ 8 := by
      have h7 : C2.c.count 2 ≤ C2.c.length := List.count_le_length
      have h6 : C2.c.length = C.c.length := by rw [hC2]; exact allL_len _ _
      omega
    have HB9 := Lib.hid hb9
    have HN8 : Hid (C.c.length ≤ 8) := by unfold Hid; omega
    clear hC2 hv hv2 hvh hcl h8 ho hb9
    go_wp2_with fail
    refine (I _ _ _ (HA.alloc (.cells #[.slice A0 n0 c0, .slice A1 n1 c1, .slice A2 n2 c2, .slice A3 n3 c3] 28))).mono ?_; rintro e w2 ⟨v, rfl, HB, hb2⟩
    simp only [Option.isSome_some, Option.getD_some] at HB ⊢
    have HBb := HB
    obtain ⟨B0, k0, d0, B1, k1, d1, B2, k2, d2, B3, k3, d3, rfl, _, ⟨_, _, _, br3⟩, ⟨_, _, _, bl3⟩, _⟩ := HBb.open_
    have BW2 : Below w.heap.size w w2 := (BW1.alloc BW1.size (.cells #[.slice A0 n0 c0, .slice A1 n1 c1, .slice A2 n2 c2, .slice A3 n3 c3] 28)).trans (hb2.mono (BW1.alloc BW1.size (.cells #[.slice A0 n0 c0, .slice A1 n1 c1, .slice A2 n2 c2, .slice A3 n3 c3] 28)).size)
    have zz2 : w1.heap.size + 1 ≤ w2.heap.size := by have := hb2.size; simp at this; omega
    have HA_2 := Cv.below (by exact (HA.alloc (.cells #[.slice A0 n0 c0, .slice A1 n1 c1, .slice A2 n2 c2, .slice A3 n3 c3] 28))) hb2
    have X_2 := Blk4.below (by exact (Blk4.new w1 (.slice A0 n0 c0) (.slice A1 n1 c1) (.slice A2 n2 c2) (.slice A3 n3 c3) 28)) hb2
    obtain ⟨cX_2_0, cX_2_1, cX_2_2, cX_2_3, _⟩ := X_2.cells
    have lX_2 := X_2.lt
    go_wp2_with fail
    refine (S _ _ _ (HA_2.alloc (.cells #[.slice B0 k0 d0, .slice B1 k1 d1, .slice B2 k2 d2, .slice B3 k3 d3] 28))).mono ?_; rintro e w3 ⟨v, rfl, HC, hb3⟩
    simp only [Option.isSome_some, Option.getD_some] at HC ⊢
    have HCb := HC
    obtain ⟨K0, m0, e0, K1, m1, e1, K2, m2, e2, K3, m3, e3, rfl, _⟩ := HCb.open_
    have BW3 : Below w.heap.size w w3 := (BW2.alloc BW2.size (.cells #[.slice B0 k0 d0, .slice B1 k1 d1, .slice B2 k2 d2, .slice B3 k3 d3] 28)).trans (hb3.mono (BW2.alloc BW2.size (.cells #[.slice B0 k0 d0, .slice B1 k1 d1, .slice B2 k2 d2, .slice B3 k3 d3] 28)).size)
    have zz3 : w2.heap.size + 1 ≤ w3.heap.size := by have := hb3.size; simp at this; omega
    have HA_3 := Cv.below (by exact (HA_2.alloc (.cells #[.slice B0 k0 d0, .slice B1 k1 d1, .slice B2 k2 d2, .slice B3 k3 d3] 28))) hb3
    have X_3 := Blk4.below (by exact (X_2.alloc (.cells #[.slice B0 k0 d0, .slice B1 k1 d1, .slice B2 k2 d2, .slice B3 k3 d3] 28))) hb3
    obtain ⟨cX_3_0, cX_3_1, cX_3_2, cX_3_3, _⟩ := X_3.cells
    have lX_3 := X_3.lt
    have HB_3 := Cv.below (by exact (HB.alloc (.cells #[.slice B0 k0 d0, .slice B1 k1 d1, .slice B2 k2 d2, .slice B3 k3 d3] 28))) hb3
    have P_3 := Blk4.below (by exact (Blk4.new w2 (.slice B0 k0 d0) (.slice B1 k1 d1) (.slice B2 k2 d2) (.slice B3 k3 d3) 28)) hb3
    obtain ⟨cP_3_0, cP_3_1, cP_3_2, cP_3_3, _⟩ := P_3.cells
    have lP_3 := P_3.lt
    have E1 := implColoredSame_any _ _ _ _ _ _ _ (HB_3.alloc (.cells #[.slice K0 m0 e0, .slice K1 m1 e1, .slice K2 m2 e2, .slice K3 m3 e3] 28)) (HC.alloc (.cells #[.slice K0 m0 e0, .slice K1 m1 e1, .slice K2 m2 e2, .slice K3 m3 e3] 28))
    rw [sameC_self] at E1
    go_wp2_with fail
    refine (E1).mono ?_; rintro e w4 ⟨rfl, hb4⟩
    have BW4 : Below w.heap.size w w4 := (BW3.alloc BW3.size (.cells #[.slice K0 m0 e0, .slice K1 m1 e1, .slice K2 m2 e2, .slice K3 m3 e3] 28)).trans (hb4.mono (BW3.alloc BW3.size (.cells #[.slice K0 m0 e0, .slice K1 m1 e1, .slice K2 m2 e2, .slice K3 m3 e3] 28)).size)
    have zz4 : w3.heap.size + 1 ≤ w4.heap.size := by have := hb4.size; simp at this; omega
    have HA_4 := Cv.below (by exact (HA_3.alloc (.cells #[.slice K0 m0 e0, .slice K1 m1 e1, .slice K2 m2 e2, .slice K3 m3 e3] 28))) hb4
    have X_4 := Blk4.below (by exact (X_3.alloc (.cells #[.slice K0 m0 e0, .slice K1 m1 e1, .slice K2 m2 e2, .slice K3 m3 e3] 28))) hb4
    obtain ⟨cX_4_0, cX_4_1, cX_4_2, cX_4_3, _⟩ := X_4.cells
    have lX_4 := X_4.lt
    have HB_4 := Cv.below (by exact (HB_3.alloc (.cells #[.slice K0 m0 e0, .slice K1 m1 e1, .slice K2 m2 e2, .slice K3 m3 e3] 28))) hb4
    have P_4 := Blk4.below (by exact (P_3.alloc (.cells #[.slice K0 m0 e0, .slice K1 m1 e1, .slice K2 m2 e2, .slice K3 m3 e3] 28))) hb4
    obtain ⟨cP_4_0, cP_4_1, cP_4_2, cP_4_3, _⟩ := P_4.cells
    have lP_4 := P_4.lt
    have HC_4 := Cv.below (by exact (HC.alloc (.cells #[.slice K0 m0 e0, .slice K1 m1 e1, .slice K2 m2 e2, .slice K3 m3 e3] 28))) hb4
    have Q_4 := Blk4.below (by exact (Blk4.new w3 (.slice K0 m0 e0) (.slice K1 m1 e1) (.slice K2 m2 e2) (.slice K3 m3 e3) 28)) hb4
    obtain ⟨cQ_4_0, cQ_4_1, cQ_4_2, cQ_4_3, _⟩ := Q_4.cells
    have lQ_4 := Q_4.lt
    clear I S E1
    have HA_5s := (HA_4.alloc (.cells #[.slice A0 n0 c0, .slice A1 n1 c1, .slice A2 n2 c2, .slice A3 n3 c3] 28))
    have X_5s := (X_4.alloc (.cells #[.slice A0 n0 c0, .slice A1 n1 c1, .slice A2 n2 c2, .slice A3 n3 c3] 28))
    obtain ⟨cX_5s_0, cX_5s_1, cX_5s_2, cX_5s_3, _⟩ := X_5s.cells
    have lX_5s := X_5s.lt
    have HB_5s := (HB_4.alloc (.cells #[.slice A0 n0 c0, .slice A1 n1 c1, .slice A2 n2 c2, .slice A3 n3 c3] 28))
    have P_5s := (P_4.alloc (.cells #[.slice A0 n0 c0, .slice A1 n1 c1, .slice A2 n2 c2, .slice A3 n3 c3] 28))
    obtain ⟨cP_5s_0, cP_5s_1, cP_5s_2, cP_5s_3, _⟩ := P_5s.cells
    have lP_5s := P_5s.lt
    have Y_5s := (Blk4.new w4 (.slice A0 n0 c0) (.slice A1 n1 c1) (.slice A2 n2 c2) (.slice A3 n3 c3) 28)
    obtain ⟨cY_5s_0, cY_5s_1, cY_5s_2, cY_5s_3, _⟩ := Y_5s.cells
    have lY_5s := Y_5s.lt
    have BW5 := (BW4.alloc BW4.size (.cells #[.slice A0 n0 c0, .slice A1 n1 c1, .slice A2 n2 c2, .slice A3 n3 c3] 28))
    have FA := HA_4.old (Nat.le_refl _)
    have FB := HB_4.old (Nat.le_refl _)
    go_wp2_with fail
    generalize (w4.alloc (.cells #[.slice A0 n0 c0, .slice A1 n1 c1, .slice A2 n2 c2, .slice A3 n3 c3] 28)) = W5 at *
    generalize hby : w4.heap.size = yb at *
    have Ly : w1.heap.size ≠ yb ∧ w2.heap.size ≠ yb ∧ w.heap.size ≤ yb := by omega
    have W5s : yb < W5.heap.size := lY_5s
    go_loopg [9] (C.c.length - C.c.count 2) (fun gk m wr => ∃ (q : Nat) (cur : List Int) (K0 : Option Addr) (j0 u0 : Nat) (K1 : Option Addr) (j1 u1 : Nat) (K2 : Option Addr) (j2 u2 : Nat) (K3 : Option Addr) (j3 u3 : Nat), m = .int .i64 q ∧ Hid (q + C.c.count 2 = cur.count 2 ∧ cvB ⟨C.h, cur⟩ = true ∧ allL C.h cur = allL C.h C.c ∧ gk = cur.length - cur.count 2 ∧ cur.length = C.c.length) ∧ Blk4 wr w1.heap.size (.slice A0 n0 c0) (.slice A1 n1 c1) (.slice A2 n2 c2) (.slice A3 n3 c3) 28 ∧ Blk4 wr w2.heap.size (.slice B0 k0 d0) (.slice B1 k1 d1) (.slice B2 k2 d2) (.slice B3 k3 d3) 28 ∧ Blk4 wr yb (.slice K0 j0 u0) (.slice K1 j1 u1) (.slice K2 j2 u2) (.slice K3 j3 u3) 28 ∧ Cv wr 0 (.agg #[.slice A0 n0 c0, .slice A1 n1 c1, .slice A2 n2 c2, .slice A3 n3 c3]) C ∧ Cv wr 0 (.agg #[.slice B0 k0 d0, .slice B1 k1 d1, .slice B2 k2 d2, .slice B3 k3 d3]) C2 ∧ Cv wr 0 (.agg #[.slice K0 j0 u0, .slice K1 j1 u1, .slice K2 j2 u2, .slice K3 j3 u3]) ⟨C.h, cur⟩ ∧ Below w.heap.size w wr)
    case atStart => exact ⟨0, C.c, _, _, _, _, _, _, _, _, _, _, _, _, rfl, ⟨Nat.zero_add _, HV.out, rfl, rfl, rfl⟩, X_5s, P_5s, Y_5s, HA_5s.mono (Nat.zero_le _), HB_5s.mono (Nat.zero_le _), HA_5s.mono (Nat.zero_le _), BW5⟩
    case round =>
      obtain ⟨q, cur, K0, j0, u0, K1, j1, u1, K2, j2, u2, K3, j3, u3, rfl, hcur, XR, PR, YR, HAR, HBR, HYR, BR⟩ := hrel
      obtain ⟨y0, y1, y2, y3, yf0, yf1, yf2, yf3⟩ := YR.cells
      have lY := YR.lt
      have MS := implMarkStep_any wr _ _ _ HYR
      rw [hcur.out.2.1] at MS
      obtain ⟨Ly1, Ly2, Ly3⟩ := Ly
      rcases hm : movesO ⟨C.h, cur⟩
      · obtain ⟨hst, hz⟩ := stays_parts hcur.out.2.1 hm
        rw [hm, hst] at MS
        have hcc : C2 = ⟨C.h, cur⟩ := by
          rw [HC2.out, ← hcur.out.2.2.1]
          have : firstOf cur 1 = -1 := no_first (fun h9 => by have h7 := List.count_pos_iff.2 h9; simp only at hz; omega)
          rw [all_done this]
        have hq2 : C2.c.count 2 = q + C.c.count 2 := by rw [hcc]; exact hcur.out.1.symm
        subst hcc
        clear hm hst hz HC2
        generalize C.c.count 2 = p2 at Y2 hq2
        have hb8 := HB9.out
        have hsub : IntKind.i64.wrap (((q + p2 : Nat) : Int) - (p2 : Int)) = (q : Int) := by rw [show ((q + p2 : Nat) : Int) - (p2 : Int) = (q : Int) by omega]; exact IntWalk.i64_in _ (by omega)
        have hsub2 : IntKind.i64.wrap ((q : Int) + (p2 : Int) - (p2 : Int)) = (q : Int) := by rw [show (q : Int) + (p2 : Int) - (p2 : Int) = (q : Int) by omega]; exact IntWalk.i64_in _ (by omega)
        have hwq : IntKind.i64.wrap (q : Int) = (q : Int) := IntWalk.i64_in _ (by omega)
        have hqq : ((q : Int) == (q : Int)) = true := by simp
        simp only [hq2] at X2
        clear hcur hq2 HB9 HN8 hb8
        clear y0 y1 y2 y3
        obtain ⟨y0, y1, y2, y3, _⟩ := YR.cells
        go_wp2_with fail
        refine (MS).mono ?_; rintro e w6 ⟨v, rfl, HN, hb6⟩
        have BW21 : Below w.heap.size w w6 := BR.trans (hb6.mono BR.size)
        have zz21 : wr.heap.size ≤ w6.heap.size := hb6.size
        have X_21 := Blk4.below (by exact XR) hb6
        obtain ⟨cX_21_0, cX_21_1, cX_21_2, cX_21_3, _⟩ := X_21.cells
        have lX_21 := X_21.lt
        have P_21 := Blk4.below (by exact PR) hb6
        obtain ⟨cP_21_0, cP_21_1, cP_21_2, cP_21_3, _⟩ := P_21.cells
        have lP_21 := P_21.lt
        have Y_21 := Blk4.below (by exact YR) hb6
        obtain ⟨cY_21_0, cY_21_1, cY_21_2, cY_21_3, _⟩ := Y_21.cells
        have lY_21 := Y_21.lt
        have HA_21 := Cv.below (by exact HAR) hb6
        have HB_21 := Cv.below (by exact HBR) hb6
        have HY_21 := Cv.below (by exact HYR) hb6
        obtain ⟨G0, s0, t0, G1, s1, t1, G2, s2, t2, G3, s3, t3, rfl, _⟩ := HN.open_
        have X_22s := (X_21.alloc (.cells #[.slice G0 s0 t0, .slice G1 s1 t1, .slice G2 s2 t2, .slice G3 s3 t3] 28))
        obtain ⟨cX_22s_0, cX_22s_1, cX_22s_2, cX_22s_3, _⟩ := X_22s.cells
        have lX_22s := X_22s.lt
        have P_22s := (P_21.alloc (.cells #[.slice G0 s0 t0, .slice G1 s1 t1, .slice G2 s2 t2, .slice G3 s3 t3] 28))
        obtain ⟨cP_22s_0, cP_22s_1, cP_22s_2, cP_22s_3, _⟩ := P_22s.cells
        have lP_22s := P_22s.lt
        have Y_22s := (Y_21.alloc (.cells #[.slice G0 s0 t0, .slice G1 s1 t1, .slice G2 s2 t2, .slice G3 s3 t3] 28))
        obtain ⟨cY_22s_0, cY_22s_1, cY_22s_2, cY_22s_3, _⟩ := Y_22s.cells
        have lY_22s := Y_22s.lt
        have HA_22s := (HA_21.alloc (.cells #[.slice G0 s0 t0, .slice G1 s1 t1, .slice G2 s2 t2, .slice G3 s3 t3] 28))
        have HB_22s := (HB_21.alloc (.cells #[.slice G0 s0 t0, .slice G1 s1 t1, .slice G2 s2 t2, .slice G3 s3 t3] 28))
        have HY_22s := (HY_21.alloc (.cells #[.slice G0 s0 t0, .slice G1 s1 t1, .slice G2 s2 t2, .slice G3 s3 t3] 28))
        have N_22s := (Blk4.new w6 (.slice G0 s0 t0) (.slice G1 s1 t1) (.slice G2 s2 t2) (.slice G3 s3 t3) 28)
        obtain ⟨cN_22s_0, cN_22s_1, cN_22s_2, cN_22s_3, _⟩ := N_22s.cells
        have lN_22s := N_22s.lt
        have BW22 := (BW21.alloc BW21.size (.cells #[.slice G0 s0 t0, .slice G1 s1 t1, .slice G2 s2 t2, .slice G3 s3 t3] 28))
        go_wp2_with fail
        go_region_held3 (fun w' => w'.cell? ⟨yb, 0, none⟩ = some (.slice K0 j0 u0) ∧ w'.cell? ⟨yb, 1, none⟩ = some (.slice K1 j1 u1) ∧ w'.cell? ⟨yb, 2, none⟩ = some (.slice K2 j2 u2) ∧ w'.cell? ⟨yb, 3, none⟩ = some (.slice K3 j3 u3) ∧ w'.cell? ⟨w2.heap.size, 0, none⟩ = some (.slice B0 k0 d0) ∧ w'.cell? ⟨w2.heap.size, 1, none⟩ = some (.slice B1 k1 d1) ∧ w'.cell? ⟨w2.heap.size, 2, none⟩ = some (.slice B2 k2 d2) ∧ w'.cell? ⟨w2.heap.size, 3, none⟩ = some (.slice B3 k3 d3) ∧ w'.cell? ⟨w1.heap.size, 0, none⟩ = some (.slice A0 n0 c0) ∧ w'.cell? ⟨w1.heap.size, 1, none⟩ = some (.slice A1 n1 c1) ∧ w'.cell? ⟨w1.heap.size, 2, none⟩ = some (.slice A2 n2 c2) ∧ w'.cell? ⟨w1.heap.size, 3, none⟩ = some (.slice A3 n3 c3))
          (((try dsimp only); (repeat' apply And.intro) <;> (with_reducible (first | exact cX_25_3 | exact cX_25_2 | exact cX_25_1 | exact cX_25_0 | exact cP_25_3 | exact cP_25_2 | exact cP_25_1 | exact cP_25_0 | exact cY_25_3 | exact cY_25_2 | exact cY_25_1 | exact cY_25_0 | exact cX_24_3 | exact cX_24_2 | exact cX_24_1 | exact cX_24_0 | exact cP_24_3 | exact cP_24_2 | exact cP_24_1 | exact cP_24_0 | exact cY_24_3 | exact cY_24_2 | exact cY_24_1 | exact cY_24_0 | exact cX_23_3 | exact cX_23_2 | exact cX_23_1 | exact cX_23_0 | exact cP_23_3 | exact cP_23_2 | exact cP_23_1 | exact cP_23_0 | exact cY_23_3 | exact cY_23_2 | exact cY_23_1 | exact cY_23_0 | exact cellD cX_22s_3 | exact cellD cX_22s_2 | exact cellD cX_22s_1 | exact cellD cX_22s_0 | exact cellD cP_22s_3 | exact cellD cP_22s_2 | exact cellD cP_22s_1 | exact cellD cP_22s_0 | exact cellD cY_22s_3 | exact cellD cY_22s_2 | exact cellD cY_22s_1 | exact cellD cY_22s_0 | exact cX_22s_3 | exact cX_22s_2 | exact cX_22s_1 | exact cX_22s_0 | exact cP_22s_3 | exact cP_22s_2 | exact cP_22s_1 | exact cP_22s_0 | exact cY_22s_3 | exact cY_22s_2 | exact cY_22s_1 | exact cY_22s_0))))
          (first
            | (go_at_call 10; (with_reducible refine (sameCE _ _ _ _ _ _ (HY_22s.drew) (HB_22s.drew)).mono ?_); rintro e w7 ⟨rfl, hb7⟩; have BW23 : Below w.heap.size w w7 := (Below.drew BW22).trans (hb7.mono (Below.drew BW22).size); (have zz23 : w6.heap.size + 1 ≤ w7.heap.size := by have := hb7.size; simp at this; omega); have X_23 := Blk4.below (by exact (X_22s.drew)) hb7; obtain ⟨cX_23_0, cX_23_1, cX_23_2, cX_23_3, _⟩ := X_23.cells; have lX_23 := X_23.lt; have P_23 := Blk4.below (by exact (P_22s.drew)) hb7; obtain ⟨cP_23_0, cP_23_1, cP_23_2, cP_23_3, _⟩ := P_23.cells; have lP_23 := P_23.lt; have Y_23 := Blk4.below (by exact (Y_22s.drew)) hb7; obtain ⟨cY_23_0, cY_23_1, cY_23_2, cY_23_3, _⟩ := Y_23.cells; have lY_23 := Y_23.lt; have HA_23 := Cv.below (by exact (HA_22s.drew)) hb7; have HB_23 := Cv.below (by exact (HB_22s.drew)) hb7; have HY_23 := Cv.below (by exact (HY_22s.drew)) hb7; have N_23 := Blk4.below (by exact (N_22s.drew)) hb7; obtain ⟨cN_23_0, cN_23_1, cN_23_2, cN_23_3, _⟩ := N_23.cells; have lN_23 := N_23.lt)
            | (go_at_call 19; (with_reducible refine (X2 _ _ _ HB_23).mono ?_); rintro e w8 ⟨rfl, hb8⟩; have BW24 : Below w.heap.size w w8 := BW23.trans (hb8.mono BW23.size); have zz24 : w7.heap.size ≤ w8.heap.size := hb8.size; have X_24 := Blk4.below (by exact X_23) hb8; obtain ⟨cX_24_0, cX_24_1, cX_24_2, cX_24_3, _⟩ := X_24.cells; have lX_24 := X_24.lt; have P_24 := Blk4.below (by exact P_23) hb8; obtain ⟨cP_24_0, cP_24_1, cP_24_2, cP_24_3, _⟩ := P_24.cells; have lP_24 := P_24.lt; have Y_24 := Blk4.below (by exact Y_23) hb8; obtain ⟨cY_24_0, cY_24_1, cY_24_2, cY_24_3, _⟩ := Y_24.cells; have lY_24 := Y_24.lt; have HA_24 := Cv.below (by exact HA_23) hb8; have HB_24 := Cv.below (by exact HB_23) hb8; have HY_24 := Cv.below (by exact HY_23) hb8; have N_24 := Blk4.below (by exact N_23) hb8; obtain ⟨cN_24_0, cN_24_1, cN_24_2, cN_24_3, _⟩ := N_24.cells; have lN_24 := N_24.lt)
            | (go_at_call 19; (with_reducible refine (Y2 _ _ _ HA_24).mono ?_); rintro e w9 ⟨rfl, hb9⟩; have BW25 : Below w.heap.size w w9 := BW24.trans (hb9.mono BW24.size); have zz25 : w8.heap.size ≤ w9.heap.size := hb9.size; have X_25 := Blk4.below (by exact X_24) hb9; obtain ⟨cX_25_0, cX_25_1, cX_25_2, cX_25_3, _⟩ := X_25.cells; have lX_25 := X_25.lt; have P_25 := Blk4.below (by exact P_24) hb9; obtain ⟨cP_25_0, cP_25_1, cP_25_2, cP_25_3, _⟩ := P_25.cells; have lP_25 := P_25.lt; have Y_25 := Blk4.below (by exact Y_24) hb9; obtain ⟨cY_25_0, cY_25_1, cY_25_2, cY_25_3, _⟩ := Y_25.cells; have lY_25 := Y_25.lt; have HA_25 := Cv.below (by exact HA_24) hb9; have HB_25 := Cv.below (by exact HB_24) hb9; have HY_25 := Cv.below (by exact HY_24) hb9; have N_25 := Blk4.below (by exact N_24) hb9; obtain ⟨cN_25_0, cN_25_1, cN_25_2, cN_25_3, _⟩ := N_25.cells; have lN_25 := N_25.lt))
        rename_i hHeld1
        clear hHeld1
        go_wp2_with fail
        go_ret
        exact ⟨by first | rfl | (simp [hwq]; done) | simp, BW25⟩
      · obtain ⟨_, f, hf, hfl, hfc, hst⟩ := moves_parts hm
        rw [hm, hst] at MS
        simp only at hfc hfl hf
        have hblk2 := black_count C.h hfc
        have hq' : q < 8 := by
          have h7 : cur.count 2 ≤ cur.length := List.count_le_length
          have h6 := hcur.out.1
          have h5 := hcur.out.2.2.2.2
          have h4 := HN8.out
          have h3 := black_less C.h hfc
          have h2 := blackC_len C.h cur f
          have h1 : (blackC C.h cur f).count 2 ≤ (blackC C.h cur f).length := List.count_le_length
          omega
        have hsum : IntKind.i64.wrap ((q : Int) + 1) = (q : Int) + 1 := IntWalk.i64_in _ (by omega)
        have hnew : Hid (q + 1 + C.c.count 2 = (blackC C.h cur f).count 2 ∧ cvB ⟨C.h, blackC C.h cur f⟩ = true ∧ allL C.h (blackC C.h cur f) = allL C.h C.c ∧ (blackC C.h cur f).length = C.c.length) :=
          ⟨by rw [hblk2]; have := hcur.out.1; omega, cvB_black f hcur.out.2.1, (all_step hf hfc).trans hcur.out.2.2.1, by rw [blackC_len]; exact hcur.out.2.2.2.2⟩
        have hless : Hid ((blackC C.h cur f).length - (blackC C.h cur f).count 2 < gk) := by
          unfold Hid; have h8 := black_less C.h hfc; have h9 := hcur.out.2.2.2.1; omega
        clear hcur hfc hfl hf hst hm hblk2
        generalize blackC C.h cur f = nxt at MS hnew hless
        go_wp2_with fail
        refine MS.mono ?_; rintro e w6 ⟨v, rfl, HN, hb6⟩
        have HNo := HN
        obtain ⟨G0, s0, t0, G1, s1, t1, G2, s2, t2, G3, s3, t3, rfl, _⟩ := HNo.open_
        have ON : (.cells #[.slice G0 s0 t0, .slice G1 s1 t1, .slice G2 s2 t2, .slice G3 s3 t3] 28 : Obj) = (.cells #[.slice G0 s0 t0, .slice G1 s1 t1, .slice G2 s2 t2, .slice G3 s3 t3] 28 : Obj) := rfl
        clear ON
        have X6 := (XR.below hb6).alloc (.cells #[.slice G0 s0 t0, .slice G1 s1 t1, .slice G2 s2 t2, .slice G3 s3 t3] 28)
        have P6 := (PR.below hb6).alloc (.cells #[.slice G0 s0 t0, .slice G1 s1 t1, .slice G2 s2 t2, .slice G3 s3 t3] 28)
        have Y6 := (YR.below hb6).alloc (.cells #[.slice G0 s0 t0, .slice G1 s1 t1, .slice G2 s2 t2, .slice G3 s3 t3] 28)
        have N6 := Blk4.new w6 (.slice G0 s0 t0) (.slice G1 s1 t1) (.slice G2 s2 t2) (.slice G3 s3 t3) 28
        have A6 := (HAR.below hb6).alloc (.cells #[.slice G0 s0 t0, .slice G1 s1 t1, .slice G2 s2 t2, .slice G3 s3 t3] 28)
        have C6 := (HBR.below hb6).alloc (.cells #[.slice G0 s0 t0, .slice G1 s1 t1, .slice G2 s2 t2, .slice G3 s3 t3] 28)
        have H6 := HN.alloc (.cells #[.slice G0 s0 t0, .slice G1 s1 t1, .slice G2 s2 t2, .slice G3 s3 t3] 28)
        have B6 := (BR.trans (hb6.mono BR.size)).alloc (BR.trans (hb6.mono BR.size)).size (.cells #[.slice G0 s0 t0, .slice G1 s1 t1, .slice G2 s2 t2, .slice G3 s3 t3] 28)
        have FN := HN.far_of (b := yb) lY
        clear XR PR YR HAR HBR HYR BR HN MS y0 y1 y2 y3 yf0 yf1 yf2 yf3
        obtain ⟨y0, y1, y2, y3, yf0, yf1, yf2, yf3⟩ := Y6.cells
        obtain ⟨g0, g1, g2, g3, _⟩ := N6.cells
        have Y7 := Y6.set4 (.slice G0 s0 t0) (.slice G1 s1 t1) (.slice G2 s2 t2) (.slice G3 s3 t3)
        have X7 := (((X6.other (p := ⟨yb, 0, none⟩) Ly1 (.slice G0 s0 t0)).other (p := ⟨yb, 1, none⟩) Ly1 (.slice G1 s1 t1)).other (p := ⟨yb, 2, none⟩) Ly1 (.slice G2 s2 t2)).other (p := ⟨yb, 3, none⟩) Ly1 (.slice G3 s3 t3)
        have P7 := (((P6.other (p := ⟨yb, 0, none⟩) Ly2 (.slice G0 s0 t0)).other (p := ⟨yb, 1, none⟩) Ly2 (.slice G1 s1 t1)).other (p := ⟨yb, 2, none⟩) Ly2 (.slice G2 s2 t2)).other (p := ⟨yb, 3, none⟩) Ly2 (.slice G3 s3 t3)
        have A7 := A6.setBlk (b := yb) FA (.slice G0 s0 t0) (.slice G1 s1 t1) (.slice G2 s2 t2) (.slice G3 s3 t3)
        have C7 := C6.setBlk (b := yb) FB (.slice G0 s0 t0) (.slice G1 s1 t1) (.slice G2 s2 t2) (.slice G3 s3 t3)
        have H7 := (H6.setBlk (b := yb) FN (.slice G0 s0 t0) (.slice G1 s1 t1) (.slice G2 s2 t2) (.slice G3 s3 t3)).mono (Nat.zero_le _)
        have B7 := (((B6.setCell (p := ⟨yb, 0, none⟩) Ly3 (.slice G0 s0 t0)).setCell (p := ⟨yb, 1, none⟩) Ly3 (.slice G1 s1 t1)).setCell (p := ⟨yb, 2, none⟩) Ly3 (.slice G2 s2 t2)).setCell (p := ⟨yb, 3, none⟩) Ly3 (.slice G3 s3 t3)
        clear X6 P6 Y6 N6 A6 C6 H6 B6 FN hb6
        go_wp2_with fail
        go_roundg (nxt.length - nxt.count 2)
        case measure => exact hless.out
        case rel => exact ⟨q + 1, nxt, _, _, _, _, _, _, _, _, _, _, _, _, by go_num, ⟨hnew.out.1, hnew.out.2.1, hnew.out.2.2.1, rfl, hnew.out.2.2.2⟩, X7, P7, Y7, A7, C7, H7, B7⟩
end Go.Proofs.Ytepljdlikplfeaa
