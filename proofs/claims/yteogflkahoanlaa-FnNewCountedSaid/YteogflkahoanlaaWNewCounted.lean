/- The law FnNewCounted, walked. -/
import Derived.Test.YteogflkahoanlaaLaws0
import Derived.Test.YteogflkahoanlaaCVal
import Derived.Test.YteogflkahoanlaaDrwCnt
import Derived.Test.YteogflkahoanlaaIStos
import Derived.Test.YteogflkahoanlaaCcs
import Derived.Test.YteogflkahoanlaaCnt2
import Derived.Test.YteogflkahoanlaaLawSs
namespace Go.Proofs.Yteogflkahoanlaa
open Go.RowKit

theorem free_zero {D : Dp} (h : dpB D = true) {x : Int} (hx : x ∈ D.C.c) : ∃ j : Nat, x = j ∧ D.n[j]? = some 0 := by
  obtain ⟨v, nl, _, cnt, cl, cf, cn⟩ := dp_inv h
  dsimp only at v nl cnt cl cf cn
  obtain ⟨fx, _⟩ := cf x hx
  obtain ⟨i, rfl⟩ := fr_nat fx
  obtain ⟨x1, x2, x3, x4, x5, x6⟩ := fr_iff.1 fx
  refine ⟨i, rfl, ?_⟩
  rw [cnt i x1, List.count_eq_zero.2 x4, List.count_eq_zero.2 x5, List.count_eq_zero.2 x6]; simp
theorem new_valid {C : Cp} (h : stoB C = true) : dpB ⟨C, cntO C.h⟩ = true := by
  rw [dpB_iff]
  exact ⟨h, by unfold cntO; rw [if_pos (stoB_parts h).1]⟩
theorem newDO_some {C : Cp} {D : Dp} (h : newDO C = some D) : stoB C = true ∧ D = ⟨C, cntO C.h⟩ := by
  unfold newDO at h
  split at h
  · rename_i e; cases h; exact ⟨e, rfl⟩
  · cases h
theorem Dv.cv5 {w : World} {lo : Nat} {a b c d e : Value} {D : Dp} (h : Dv w lo (.agg #[a, b, c, d, e]) D) : Cv w lo (.agg #[a, b, c, d]) D.C ∧ Row w lo e D.n := by
  obtain ⟨_, _, _, _, _, e', h1, h2, _⟩ := h
  cases e'
  exact ⟨h1, h2⟩
theorem row_max9 {w : World} {lo n c : Nat} {A : Option Addr} {xs : List Int} (h : Row w lo (.slice A n c) xs) : xs.length = n ∧ n ≤ 9223372036854775807 := by
  obtain ⟨A', c', e, h1, h2⟩ := h.form
  cases e
  unfold maxLen at h2
  exact ⟨rfl, by omega⟩
theorem ccInts_eq9 (w : World) (lo lo' : Nat) (A A' : Option Addr) (n c n' c' : Nat) (xs : List Int) (h : Row w lo (.slice A n c) xs) (h' : Row w lo' (.slice A' n' c') xs) :
    Calls Try.prog 30 #[.slice A n c, .slice A' n' c'] w (RetB w true) :=
  (ccInts_any w lo lo' A A' n c n' c' xs xs h (row_max9 h).1 ((row_max9 h).1 ▸ (row_max9 h).2) h' (row_max9 h').1 ((row_max9 h').1 ▸ (row_max9 h').2)).mono fun _ _ ⟨he, nq, hw⟩ => ⟨by rw [he]; simp, by rw [hw]; exact below_drewN (Below.refl _ _) _⟩

set_option maxRecDepth 100000 in
set_option maxHeartbeats 4000000 in
theorem lawNewCounted_walk (w : World) (A : Option Addr) (n c : Nat) (h : Inp w A n c) :
    Calls Try.prog 7 #[.slice A n c] w (LawTrue w) := by
  by_cases hbig : 1048576 < n
  · go_enter Try.func7, Try.ntmps7
    go_wp2_with fail
    go_ret
    exact ⟨rfl, Below.refl _ _⟩
  go_enter Try.func7, Try.ntmps7
  go_wp2_with fail
  refine (drawNewCounted_any _ _ _ _ h).mono ?_; rintro e w1 ⟨v, C, rfl, HA, hb1⟩
  have BW1 : Below w.heap.size w w1 := (Below.refl w.heap.size w).trans (hb1.mono (Below.refl w.heap.size w).size)
  have zz1 : w.heap.size ≤ w1.heap.size := hb1.size
  have HAo := HA
  obtain ⟨A0, n0, c0, A1, n1, c1, A2, n2, c2, A3, n3, c3, rfl, -⟩ := HAo.open_
  clear HAo
  have I := fun W lo v hW => implNewCounted_any W lo v C hW
  have S := fun W lo v hW => specNewCounted_any W lo v C hW
  rcases ho : newDO C with _ | D
  · rw [ho] at I S
    go_wp2_with fail
    refine (I _ _ _ (HA.alloc (.cells #[.slice A0 n0 c0, .slice A1 n1 c1, .slice A2 n2 c2, .slice A3 n3 c3] 27))).mono ?_; rintro e w2 ⟨vHB, rfl, HB, hb2⟩
    simp only [Option.isSome_none, Option.getD_none] at HB ⊢
    have HBo := HB
    obtain ⟨B0, k0, d0, B1, k1, d1, B2, k2, d2, B3, k3, d3, B4, k4, d4, rfl, -⟩ := HBo.open_
    clear HBo
    have BW2 : Below w.heap.size w w2 := (BW1.alloc BW1.size (.cells #[.slice A0 n0 c0, .slice A1 n1 c1, .slice A2 n2 c2, .slice A3 n3 c3] 27)).trans (hb2.mono (BW1.alloc BW1.size (.cells #[.slice A0 n0 c0, .slice A1 n1 c1, .slice A2 n2 c2, .slice A3 n3 c3] 27)).size)
    have zz2 : w1.heap.size + 1 ≤ w2.heap.size := by have := hb2.size; simp at this; omega
    have HA_2 := Cv.below (by exact (HA.alloc (.cells #[.slice A0 n0 c0, .slice A1 n1 c1, .slice A2 n2 c2, .slice A3 n3 c3] 27))) hb2
    have X_2 := Blk4.below (by exact (Blk4.new w1 (.slice A0 n0 c0) (.slice A1 n1 c1) (.slice A2 n2 c2) (.slice A3 n3 c3) 27)) hb2
    obtain ⟨cX_2_0, cX_2_1, cX_2_2, cX_2_3, -⟩ := X_2.cells
    have lX_2 := X_2.lt
    go_wp2_with fail
    refine (S _ _ _ (HA_2.alloc (.cells #[.slice B0 k0 d0, .slice B1 k1 d1, .slice B2 k2 d2, .slice B3 k3 d3, .slice B4 k4 d4] 29))).mono ?_; rintro e w3 ⟨vHC, rfl, HC, hb3⟩
    simp only [Option.isSome_none, Option.getD_none] at HC ⊢
    have HCo := HC
    obtain ⟨K0, m0, e0, K1, m1, e1, K2, m2, e2, K3, m3, e3, K4, m4, e4, rfl, -⟩ := HCo.open_
    clear HCo
    have BW3 : Below w.heap.size w w3 := (BW2.alloc BW2.size (.cells #[.slice B0 k0 d0, .slice B1 k1 d1, .slice B2 k2 d2, .slice B3 k3 d3, .slice B4 k4 d4] 29)).trans (hb3.mono (BW2.alloc BW2.size (.cells #[.slice B0 k0 d0, .slice B1 k1 d1, .slice B2 k2 d2, .slice B3 k3 d3, .slice B4 k4 d4] 29)).size)
    have zz3 : w2.heap.size + 1 ≤ w3.heap.size := by have := hb3.size; simp at this; omega
    have HA_3 := Cv.below (by exact (HA_2.alloc (.cells #[.slice B0 k0 d0, .slice B1 k1 d1, .slice B2 k2 d2, .slice B3 k3 d3, .slice B4 k4 d4] 29))) hb3
    have X_3 := Blk4.below (by exact (X_2.alloc (.cells #[.slice B0 k0 d0, .slice B1 k1 d1, .slice B2 k2 d2, .slice B3 k3 d3, .slice B4 k4 d4] 29))) hb3
    obtain ⟨cX_3_0, cX_3_1, cX_3_2, cX_3_3, -⟩ := X_3.cells
    have lX_3 := X_3.lt
    have HB_3 := Dv.below (by exact (HB.alloc (.cells #[.slice B0 k0 d0, .slice B1 k1 d1, .slice B2 k2 d2, .slice B3 k3 d3, .slice B4 k4 d4] 29))) hb3
    have P_3 := Blk5.below (by exact (Blk5.new w2 (.slice B0 k0 d0) (.slice B1 k1 d1) (.slice B2 k2 d2) (.slice B3 k3 d3) (.slice B4 k4 d4) 29)) hb3
    obtain ⟨cP_3_0, cP_3_1, cP_3_2, cP_3_3, cP_3_4, -⟩ := P_3.cells
    have lP_3 := P_3.lt
    have E1 := implCountedSame_any _ _ _ _ _ _ _ (HB_3.alloc (.cells #[.slice K0 m0 e0, .slice K1 m1 e1, .slice K2 m2 e2, .slice K3 m3 e3, .slice K4 m4 e4] 29)) (HC.alloc (.cells #[.slice K0 m0 e0, .slice K1 m1 e1, .slice K2 m2 e2, .slice K3 m3 e3, .slice K4 m4 e4] 29))
    rw [sameD_self] at E1
    go_wp2_with fail
    refine (E1).mono ?_; rintro e w4 ⟨rfl, hb4⟩
    have BW4 : Below w.heap.size w w4 := (BW3.alloc BW3.size (.cells #[.slice K0 m0 e0, .slice K1 m1 e1, .slice K2 m2 e2, .slice K3 m3 e3, .slice K4 m4 e4] 29)).trans (hb4.mono (BW3.alloc BW3.size (.cells #[.slice K0 m0 e0, .slice K1 m1 e1, .slice K2 m2 e2, .slice K3 m3 e3, .slice K4 m4 e4] 29)).size)
    have zz4 : w3.heap.size + 1 ≤ w4.heap.size := by have := hb4.size; simp at this; omega
    have HA_4 := Cv.below (by exact (HA_3.alloc (.cells #[.slice K0 m0 e0, .slice K1 m1 e1, .slice K2 m2 e2, .slice K3 m3 e3, .slice K4 m4 e4] 29))) hb4
    have X_4 := Blk4.below (by exact (X_3.alloc (.cells #[.slice K0 m0 e0, .slice K1 m1 e1, .slice K2 m2 e2, .slice K3 m3 e3, .slice K4 m4 e4] 29))) hb4
    obtain ⟨cX_4_0, cX_4_1, cX_4_2, cX_4_3, -⟩ := X_4.cells
    have lX_4 := X_4.lt
    have HB_4 := Dv.below (by exact (HB_3.alloc (.cells #[.slice K0 m0 e0, .slice K1 m1 e1, .slice K2 m2 e2, .slice K3 m3 e3, .slice K4 m4 e4] 29))) hb4
    have P_4 := Blk5.below (by exact (P_3.alloc (.cells #[.slice K0 m0 e0, .slice K1 m1 e1, .slice K2 m2 e2, .slice K3 m3 e3, .slice K4 m4 e4] 29))) hb4
    obtain ⟨cP_4_0, cP_4_1, cP_4_2, cP_4_3, cP_4_4, -⟩ := P_4.cells
    have lP_4 := P_4.lt
    have HC_4 := Dv.below (by exact (HC.alloc (.cells #[.slice K0 m0 e0, .slice K1 m1 e1, .slice K2 m2 e2, .slice K3 m3 e3, .slice K4 m4 e4] 29))) hb4
    have Q_4 := Blk5.below (by exact (Blk5.new w3 (.slice K0 m0 e0) (.slice K1 m1 e1) (.slice K2 m2 e2) (.slice K3 m3 e3) (.slice K4 m4 e4) 29)) hb4
    obtain ⟨cQ_4_0, cQ_4_1, cQ_4_2, cQ_4_3, cQ_4_4, -⟩ := Q_4.cells
    have lQ_4 := Q_4.lt
    have E2 := implCountedSame_any _ _ _ _ _ _ _ HB_4 HC_4
    rw [sameD_self] at E2
    go_wp2_with fail
    refine (E2).mono ?_; rintro e w5 ⟨rfl, hb5⟩
    have BW5 : Below w.heap.size w w5 := BW4.trans (hb5.mono BW4.size)
    have zz5 : w4.heap.size ≤ w5.heap.size := hb5.size
    have HA_5 := Cv.below (by exact HA_4) hb5
    have X_5 := Blk4.below (by exact X_4) hb5
    obtain ⟨cX_5_0, cX_5_1, cX_5_2, cX_5_3, -⟩ := X_5.cells
    have lX_5 := X_5.lt
    have HB_5 := Dv.below (by exact HB_4) hb5
    have P_5 := Blk5.below (by exact P_4) hb5
    obtain ⟨cP_5_0, cP_5_1, cP_5_2, cP_5_3, cP_5_4, -⟩ := P_5.cells
    have lP_5 := P_5.lt
    have HC_5 := Dv.below (by exact HC_4) hb5
    have Q_5 := Blk5.below (by exact Q_4) hb5
    obtain ⟨cQ_5_0, cQ_5_1, cQ_5_2, cQ_5_3, cQ_5_4, -⟩ := Q_5.cells
    have lQ_5 := Q_5.lt
    go_wp2_with fail
    go_ret
    exact ⟨rfl, BW5⟩
  · rw [ho] at I S
    obtain ⟨hst, rfl⟩ := newDO_some ho
    have hval := Lib.hid (new_valid hst)
    have hfz := fun (x : Int) (hx : x ∈ C.c) => free_zero (new_valid hst) hx
    have CV := fun W lo v hW => implCountedValid_any W lo v ⟨C, cntO C.h⟩ hW
    rw [new_valid hst] at CV
    have CO := fun W lo v hW => implCountsOf_any W lo v C.h hW
    have IF := fun W lo v hW x => implIsFree_any W lo v C hW x
    have FE : ∀ i : Nat, isFreeB C (i : Int) = true → (cntO C.h)[i]? = some 0 := fun i hi => by
      unfold isFreeB at hi; rw [Bool.and_eq_true] at hi
      obtain ⟨j, e, hj⟩ := hfz (i : Int) (by simpa using hi.2)
      obtain rfl : i = j := by omega
      exact hj
    clear ho hst hfz
    go_wp2_with fail
    refine (I _ _ _ (HA.alloc (.cells #[.slice A0 n0 c0, .slice A1 n1 c1, .slice A2 n2 c2, .slice A3 n3 c3] 27))).mono ?_; rintro e w2 ⟨vHB, rfl, HB, hb2⟩
    simp only [Option.isSome_some, Option.getD_some] at HB ⊢
    have HBo := HB
    obtain ⟨B0, k0, d0, B1, k1, d1, B2, k2, d2, B3, k3, d3, B4, k4, d4, rfl, -⟩ := HBo.open_
    clear HBo
    have BW2 : Below w.heap.size w w2 := (BW1.alloc BW1.size (.cells #[.slice A0 n0 c0, .slice A1 n1 c1, .slice A2 n2 c2, .slice A3 n3 c3] 27)).trans (hb2.mono (BW1.alloc BW1.size (.cells #[.slice A0 n0 c0, .slice A1 n1 c1, .slice A2 n2 c2, .slice A3 n3 c3] 27)).size)
    have zz2 : w1.heap.size + 1 ≤ w2.heap.size := by have := hb2.size; simp at this; omega
    have HA_2 := Cv.below (by exact (HA.alloc (.cells #[.slice A0 n0 c0, .slice A1 n1 c1, .slice A2 n2 c2, .slice A3 n3 c3] 27))) hb2
    have X_2 := Blk4.below (by exact (Blk4.new w1 (.slice A0 n0 c0) (.slice A1 n1 c1) (.slice A2 n2 c2) (.slice A3 n3 c3) 27)) hb2
    obtain ⟨cX_2_0, cX_2_1, cX_2_2, cX_2_3, -⟩ := X_2.cells
    have lX_2 := X_2.lt
    go_wp2_with fail
    refine (S _ _ _ (HA_2.alloc (.cells #[.slice B0 k0 d0, .slice B1 k1 d1, .slice B2 k2 d2, .slice B3 k3 d3, .slice B4 k4 d4] 29))).mono ?_; rintro e w3 ⟨vHC, rfl, HC, hb3⟩
    simp only [Option.isSome_some, Option.getD_some] at HC ⊢
    have HCo := HC
    obtain ⟨K0, m0, e0, K1, m1, e1, K2, m2, e2, K3, m3, e3, K4, m4, e4, rfl, -⟩ := HCo.open_
    clear HCo
    have BW3 : Below w.heap.size w w3 := (BW2.alloc BW2.size (.cells #[.slice B0 k0 d0, .slice B1 k1 d1, .slice B2 k2 d2, .slice B3 k3 d3, .slice B4 k4 d4] 29)).trans (hb3.mono (BW2.alloc BW2.size (.cells #[.slice B0 k0 d0, .slice B1 k1 d1, .slice B2 k2 d2, .slice B3 k3 d3, .slice B4 k4 d4] 29)).size)
    have zz3 : w2.heap.size + 1 ≤ w3.heap.size := by have := hb3.size; simp at this; omega
    have HA_3 := Cv.below (by exact (HA_2.alloc (.cells #[.slice B0 k0 d0, .slice B1 k1 d1, .slice B2 k2 d2, .slice B3 k3 d3, .slice B4 k4 d4] 29))) hb3
    have X_3 := Blk4.below (by exact (X_2.alloc (.cells #[.slice B0 k0 d0, .slice B1 k1 d1, .slice B2 k2 d2, .slice B3 k3 d3, .slice B4 k4 d4] 29))) hb3
    obtain ⟨cX_3_0, cX_3_1, cX_3_2, cX_3_3, -⟩ := X_3.cells
    have lX_3 := X_3.lt
    have HB_3 := Dv.below (by exact (HB.alloc (.cells #[.slice B0 k0 d0, .slice B1 k1 d1, .slice B2 k2 d2, .slice B3 k3 d3, .slice B4 k4 d4] 29))) hb3
    have P_3 := Blk5.below (by exact (Blk5.new w2 (.slice B0 k0 d0) (.slice B1 k1 d1) (.slice B2 k2 d2) (.slice B3 k3 d3) (.slice B4 k4 d4) 29)) hb3
    obtain ⟨cP_3_0, cP_3_1, cP_3_2, cP_3_3, cP_3_4, -⟩ := P_3.cells
    have lP_3 := P_3.lt
    have E1 := implCountedSame_any _ _ _ _ _ _ _ (HB_3.alloc (.cells #[.slice K0 m0 e0, .slice K1 m1 e1, .slice K2 m2 e2, .slice K3 m3 e3, .slice K4 m4 e4] 29)) (HC.alloc (.cells #[.slice K0 m0 e0, .slice K1 m1 e1, .slice K2 m2 e2, .slice K3 m3 e3, .slice K4 m4 e4] 29))
    rw [sameD_self] at E1
    go_wp2_with fail
    refine (E1).mono ?_; rintro e w4 ⟨rfl, hb4⟩
    have BW4 : Below w.heap.size w w4 := (BW3.alloc BW3.size (.cells #[.slice K0 m0 e0, .slice K1 m1 e1, .slice K2 m2 e2, .slice K3 m3 e3, .slice K4 m4 e4] 29)).trans (hb4.mono (BW3.alloc BW3.size (.cells #[.slice K0 m0 e0, .slice K1 m1 e1, .slice K2 m2 e2, .slice K3 m3 e3, .slice K4 m4 e4] 29)).size)
    have zz4 : w3.heap.size + 1 ≤ w4.heap.size := by have := hb4.size; simp at this; omega
    have HA_4 := Cv.below (by exact (HA_3.alloc (.cells #[.slice K0 m0 e0, .slice K1 m1 e1, .slice K2 m2 e2, .slice K3 m3 e3, .slice K4 m4 e4] 29))) hb4
    have X_4 := Blk4.below (by exact (X_3.alloc (.cells #[.slice K0 m0 e0, .slice K1 m1 e1, .slice K2 m2 e2, .slice K3 m3 e3, .slice K4 m4 e4] 29))) hb4
    obtain ⟨cX_4_0, cX_4_1, cX_4_2, cX_4_3, -⟩ := X_4.cells
    have lX_4 := X_4.lt
    have HB_4 := Dv.below (by exact (HB_3.alloc (.cells #[.slice K0 m0 e0, .slice K1 m1 e1, .slice K2 m2 e2, .slice K3 m3 e3, .slice K4 m4 e4] 29))) hb4
    have P_4 := Blk5.below (by exact (P_3.alloc (.cells #[.slice K0 m0 e0, .slice K1 m1 e1, .slice K2 m2 e2, .slice K3 m3 e3, .slice K4 m4 e4] 29))) hb4
    obtain ⟨cP_4_0, cP_4_1, cP_4_2, cP_4_3, cP_4_4, -⟩ := P_4.cells
    have lP_4 := P_4.lt
    have HC_4 := Dv.below (by exact (HC.alloc (.cells #[.slice K0 m0 e0, .slice K1 m1 e1, .slice K2 m2 e2, .slice K3 m3 e3, .slice K4 m4 e4] 29))) hb4
    have Q_4 := Blk5.below (by exact (Blk5.new w3 (.slice K0 m0 e0) (.slice K1 m1 e1) (.slice K2 m2 e2) (.slice K3 m3 e3) (.slice K4 m4 e4) 29)) hb4
    obtain ⟨cQ_4_0, cQ_4_1, cQ_4_2, cQ_4_3, cQ_4_4, -⟩ := Q_4.cells
    have lQ_4 := Q_4.lt
    obtain ⟨lk4, mk4⟩ := row_max9 (Dv.cv5 HB_4).2
    replace lk4 : (cntO C.h).length = k4 := lk4
    have z4 : w2.heap.size + 1 ≤ w4.heap.size := by omega
    have S0 := (⟨X_4, P_4, HA_4.mono (Nat.zero_le _), HB_4.mono (Nat.zero_le _), BW4⟩ : Blk4 w4 w1.heap.size (.slice A0 n0 c0) (.slice A1 n1 c1) (.slice A2 n2 c2) (.slice A3 n3 c3) 27 ∧ Blk5 w4 w2.heap.size (.slice B0 k0 d0) (.slice B1 k1 d1) (.slice B2 k2 d2) (.slice B3 k3 d3) (.slice B4 k4 d4) 29 ∧ Cv w4 0 (.agg #[.slice A0 n0 c0, .slice A1 n1 c1, .slice A2 n2 c2, .slice A3 n3 c3]) C ∧ Dv w4 0 (.agg #[.slice B0 k0 d0, .slice B1 k1 d1, .slice B2 k2 d2, .slice B3 k3 d3, .slice B4 k4 d4]) ⟨C, cntO C.h⟩ ∧ Below w.heap.size w w4)
    go_wp2_with fail
    go_loopg [8] k4 (fun gk iv_ wr => ∃ i : Nat, iv_ = .int .i64 (i : Int) ∧ i ≤ k4 ∧ gk = k4 - i ∧ Blk4 wr w1.heap.size (.slice A0 n0 c0) (.slice A1 n1 c1) (.slice A2 n2 c2) (.slice A3 n3 c3) 27 ∧ Blk5 wr w2.heap.size (.slice B0 k0 d0) (.slice B1 k1 d1) (.slice B2 k2 d2) (.slice B3 k3 d3) (.slice B4 k4 d4) 29 ∧ Cv wr 0 (.agg #[.slice A0 n0 c0, .slice A1 n1 c1, .slice A2 n2 c2, .slice A3 n3 c3]) C ∧ Dv wr 0 (.agg #[.slice B0 k0 d0, .slice B1 k1 d1, .slice B2 k2 d2, .slice B3 k3 d3, .slice B4 k4 d4]) ⟨C, cntO C.h⟩ ∧ Below w.heap.size w wr ∧ w2.heap.size + 1 ≤ wr.heap.size)
    case atStart => exact ⟨0, rfl, Nat.zero_le _, rfl, S0.1, S0.2.1, S0.2.2.1, S0.2.2.2.1, S0.2.2.2.2, z4⟩
    case round =>
      obtain ⟨i, rfl, hi, rfl, X, P, HA', HB', B', z'⟩ := hrel
      obtain ⟨x0, x1, x2, x3, -⟩ := X.cells
      obtain ⟨p0, p1, p2, p3, p4, -⟩ := P.cells
      by_cases hlt : i < k4
      · have q1 : (i : Int) < (k4 : Int) := by omega
        have hfe := FE i
        have IF1 := IF wr _ _ HA' (i : Int)
        obtain ⟨g, y, rfl, _, hgl, hy, hcy, -⟩ := (Dv.cv5 HB').2.get (k := i) (by show i < (cntO C.h).length; omega)
        rcases ef : isFreeB C (i : Int)
        · rw [ef] at IF1
          go_wp2_with fail
          refine IF1.mono ?_; rintro e w5 ⟨rfl, hb5⟩
          have X5 := X.below hb5
          have P5 := P.below hb5
          have A5 := HA'.below hb5
          have D5 := HB'.below hb5
          have B5 := B'.trans (hb5.mono B'.size)
          have z5 := hb5.size
          clear X P HA' HB'
          go_wp2_with fail
          go_roundg (k4 - (i + 1))
          case measure => omega
          case rel => exact ⟨i + 1, by go_num, by omega, rfl, X5, P5, A5, D5, B5, by omega⟩
        · rw [ef] at IF1
          have hy0 := hfe ef
          obtain rfl : y = 0 := by have h9 := hy.out; dsimp only at h9; rw [hy0] at h9; cases h9; rfl
          go_wp2_with fail
          refine IF1.mono ?_; rintro e w5 ⟨rfl, hb5⟩
          have X5 := X.below hb5
          have P5 := P.below hb5
          have A5 := HA'.below hb5
          have D5 := HB'.below hb5
          have B5 := B'.trans (hb5.mono B'.size)
          have z5 := hb5.size
          have hcy5 := (World.cell?_of_block (w := wr) (a := ⟨g, i, none⟩) (hb5.block g hgl)).trans hcy
          obtain ⟨s0, s1, s2, s3, s4, -⟩ := P5.cells
          clear X P HA' HB'
          go_wp2_with fail
          go_roundg (k4 - (i + 1))
          case measure => omega
          case rel => exact ⟨i + 1, by go_num, by omega, rfl, X5, P5, A5, D5, B5, by omega⟩
      · have q1 : ¬ ((i : Int) < (k4 : Int)) := by omega
        have SO : ∀ w' : World, Below wr.heap.size wr w' → w'.cell? ⟨w1.heap.size, 0, none⟩ = some (.slice A0 n0 c0) ∧ w'.cell? ⟨w1.heap.size, 1, none⟩ = some (.slice A1 n1 c1) ∧ w'.cell? ⟨w1.heap.size, 2, none⟩ = some (.slice A2 n2 c2) ∧ w'.cell? ⟨w1.heap.size, 3, none⟩ = some (.slice A3 n3 c3) ∧ w'.cell? ⟨w2.heap.size, 0, none⟩ = some (.slice B0 k0 d0) ∧ w'.cell? ⟨w2.heap.size, 1, none⟩ = some (.slice B1 k1 d1) ∧ w'.cell? ⟨w2.heap.size, 2, none⟩ = some (.slice B2 k2 d2) ∧ w'.cell? ⟨w2.heap.size, 3, none⟩ = some (.slice B3 k3 d3) ∧ w'.cell? ⟨w2.heap.size, 4, none⟩ = some (.slice B4 k4 d4) := fun w' hb => ⟨(X.below hb).cells.1, (X.below hb).cells.2.1, (X.below hb).cells.2.2.1, (X.below hb).cells.2.2.2.1, (P.below hb).cells.1, (P.below hb).cells.2.1, (P.below hb).cells.2.2.1, (P.below hb).cells.2.2.2.1, (P.below hb).cells.2.2.2.2.1⟩
        have SS := fun V (hb : Below wr.heap.size wr V) => implStoreSame_any V _ _ _ _ C C ((Dv.cv5 HB').1.below hb) (HA'.below hb)
        rw [sameC_self] at SS
        go_wp2_with fail
        go_region_held3 (fun w' => w'.cell? ⟨w1.heap.size, 0, none⟩ = some (.slice A0 n0 c0) ∧ w'.cell? ⟨w1.heap.size, 1, none⟩ = some (.slice A1 n1 c1) ∧ w'.cell? ⟨w1.heap.size, 2, none⟩ = some (.slice A2 n2 c2) ∧ w'.cell? ⟨w1.heap.size, 3, none⟩ = some (.slice A3 n3 c3) ∧ w'.cell? ⟨w2.heap.size, 0, none⟩ = some (.slice B0 k0 d0) ∧ w'.cell? ⟨w2.heap.size, 1, none⟩ = some (.slice B1 k1 d1) ∧ w'.cell? ⟨w2.heap.size, 2, none⟩ = some (.slice B2 k2 d2) ∧ w'.cell? ⟨w2.heap.size, 3, none⟩ = some (.slice B3 k3 d3) ∧ w'.cell? ⟨w2.heap.size, 4, none⟩ = some (.slice B4 k4 d4))
          (((try dsimp only); (refine SO _ ?_); (repeat (with_reducible (first | exact Below.refl _ _ | exact hR4 | exact hR3 | exact hR2 | exact hR1 | refine B5_dr ?_ | refine B5_al ?_ _)))))
          (first
            | (go_at_call 20; (with_reducible refine (CV _ _ _ HB'.drew).mono ?_); rintro e w5 ⟨rfl, hb5⟩; (have hR1 : Below wr.heap.size wr w5 := B5_th (B5_dr (Below.refl _ _)) hb5))
            | (go_at_call 36; (with_reducible refine (SS _ hR1).mono ?_); rintro e w6 ⟨rfl, hb6⟩; (have hR2 : Below wr.heap.size wr w6 := B5_th hR1 hb6))
            | (go_at_call 37; (with_reducible refine (CO _ _ _ (HA'.below hR2).hvS).mono ?_); rintro e w7 ⟨A9, k9, rfl, R9, hb7⟩; rw [lk4] at R9; (have hR3 : Below wr.heap.size wr w7 := B5_th hR2 hb7))
            | (go_at_call 30; (with_reducible refine (ccInts_eq9 _ _ _ _ _ _ _ _ _ _ ((Dv.cv5 HB').2.below hR3) R9).mono ?_); rintro e w8 ⟨rfl, hb8⟩; (have hR4 : Below wr.heap.size wr w8 := B5_th hR3 hb8)))
        all_goals
          rename_i hHeld
          clear hHeld
          go_wp2_with fail
          go_ret
          exact ⟨rfl, B'.trans (hR4.mono B'.size)⟩
end Go.Proofs.Yteogflkahoanlaa
