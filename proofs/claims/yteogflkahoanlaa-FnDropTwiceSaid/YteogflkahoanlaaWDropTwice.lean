/- The law FnDropTwice, walked. -/
import Derived.Test.YteogflkahoanlaaLaws0
import Derived.Test.YteogflkahoanlaaWrgDs
import Derived.Test.YteogflkahoanlaaDropI
import Derived.Test.YteogflkahoanlaaDropS
import Derived.Test.YteogflkahoanlaaShortD
import Derived.Test.YteogflkahoanlaaLinkDs
namespace Go.Proofs.Yteogflkahoanlaa
open Go.RowKit

theorem set_same {l : List Int} {k : Nat} {x : Int} (h : l[k]? = some x) : l.set k x = l := by
  obtain ⟨hk, e⟩ := List.getElem?_eq_some_iff.1 h
  rw [← e]; exact List.set_getElem_self hk
theorem drop_parts {D E : Dp} {k : Int} (h : dropO D k = some E) : dpB D = true ∧ ∃ (j : Nat) (old : Int), k = j ∧ D.C.h.t[j]? = some old ∧ E = fin_ ⟨⟨D.C.h.l, D.C.h.r, D.C.h.t.set j (-1)⟩, D.C.c, D.n, [old]⟩ := by
  rcases e : (dpB D && plB k D.C.h.t.length)
  · unfold dropO at h; rw [e] at h; simp at h
  · rw [Bool.and_eq_true] at e
    obtain ⟨evd, evp⟩ := e
    have hk : 0 ≤ k ∧ k < D.C.h.t.length := by simpa [plB] using evp
    obtain ⟨j, rfl⟩ := Int.eq_ofNat_of_zero_le hk.1
    obtain ⟨old, hold⟩ : ∃ old, D.C.h.t[j]? = some old := ⟨_, List.getElem?_eq_getElem (by omega)⟩
    rw [dropO_some evd hold] at h
    cases h
    exact ⟨evd, j, old, rfl, hold, rfl⟩
theorem drop_root {D E : Dp} {k : Int} (h : dropO D k = some E) : ∃ j : Nat, k = j ∧ E.C.h.t[j]? = some (-1) := by
  obtain ⟨_, j, old, rfl, hold, rfl⟩ := drop_parts h
  exact ⟨j, rfl, by rw [fin_t]; simp [(List.getElem?_eq_some_iff.1 hold).1]⟩
theorem drop_twice {D E : Dp} {k : Int} (h : dropO D k = some E) : dropO E k = some E := by
  have hv := dropO_valid h
  obtain ⟨j, rfl, hj⟩ := drop_root h
  have I := drop_inv hv hj
  rw [set_same hj] at I
  rw [dropO_some hv hj, set_same hj, fin_cons I]
  have e : dn ⟨E.C.h.l, E.C.h.r, E.C.h.t⟩ E.C.c E.n (-1) [] = ⟨⟨E.C.h.l, E.C.h.r, E.C.h.t⟩, E.C.c, E.n, []⟩ := by unfold dn; rw [if_pos rfl]
  rw [e, fin_nil]

set_option maxRecDepth 100000 in
set_option maxHeartbeats 4000000 in
theorem lawDropTwice_walk (w : World) (A : Option Addr) (n c : Nat) (h : Inp w A n c) :
    Calls Try.prog 11 #[.slice A n c] w (LawTrue w) := by
  by_cases hbig : 1048576 < n
  · go_enter Try.func11, Try.ntmps11
    go_wp2_with fail
    go_ret
    exact ⟨rfl, Below.refl _ _⟩
  go_enter Try.func11, Try.ntmps11
  go_wp2_with fail
  refine (drawDropRoot_any _ _ _ _ h).mono ?_; rintro e w1 ⟨v, D, x, rfl, HA, hb1⟩
  have BW1 : Below w.heap.size w w1 := (Below.refl w.heap.size w).trans (hb1.mono (Below.refl w.heap.size w).size)
  have zz1 : w.heap.size ≤ w1.heap.size := hb1.size
  have HAo := HA
  obtain ⟨A0, n0, c0, A1, n1, c1, A2, n2, c2, A3, n3, c3, A4, n4, c4, rfl, -⟩ := HAo.open_
  clear HAo
  have I := fun W lo v hW => implDropRoot_any W lo v D hW x
  have S := fun W lo v hW => specDropRoot_any W lo v D hW x
  rcases ho : dropO D x with _ | E
  · rw [ho] at I S
    go_wp2_with fail
    refine (I _ _ _ (HA.alloc (.cells #[.slice A0 n0 c0, .slice A1 n1 c1, .slice A2 n2 c2, .slice A3 n3 c3, .slice A4 n4 c4] 29))).mono ?_; rintro e w2 ⟨vHB, rfl, HB, hb2⟩
    simp only [Option.isSome_none, Option.getD_none] at HB ⊢
    have HBo := HB
    obtain ⟨B0, k0, d0, B1, k1, d1, B2, k2, d2, B3, k3, d3, B4, k4, d4, rfl, -⟩ := HBo.open_
    clear HBo
    have BW2 : Below w.heap.size w w2 := (BW1.alloc BW1.size (.cells #[.slice A0 n0 c0, .slice A1 n1 c1, .slice A2 n2 c2, .slice A3 n3 c3, .slice A4 n4 c4] 29)).trans (hb2.mono (BW1.alloc BW1.size (.cells #[.slice A0 n0 c0, .slice A1 n1 c1, .slice A2 n2 c2, .slice A3 n3 c3, .slice A4 n4 c4] 29)).size)
    have zz2 : w1.heap.size + 1 ≤ w2.heap.size := by have := hb2.size; simp at this; omega
    have HA_2 := Dv.below (by exact (HA.alloc (.cells #[.slice A0 n0 c0, .slice A1 n1 c1, .slice A2 n2 c2, .slice A3 n3 c3, .slice A4 n4 c4] 29))) hb2
    have X_2 := Blk5.below (by exact (Blk5.new w1 (.slice A0 n0 c0) (.slice A1 n1 c1) (.slice A2 n2 c2) (.slice A3 n3 c3) (.slice A4 n4 c4) 29)) hb2
    obtain ⟨cX_2_0, cX_2_1, cX_2_2, cX_2_3, cX_2_4, -⟩ := X_2.cells
    have lX_2 := X_2.lt
    go_wp2_with fail
    refine (S _ _ _ (HA_2.alloc (.cells #[.slice B0 k0 d0, .slice B1 k1 d1, .slice B2 k2 d2, .slice B3 k3 d3, .slice B4 k4 d4] 29))).mono ?_; rintro e w3 ⟨vHC, rfl, HC, hb3⟩
    simp only [Option.isSome_none, Option.getD_none] at HC ⊢
    have HCo := HC
    obtain ⟨K0, m0, e0, K1, m1, e1, K2, m2, e2, K3, m3, e3, K4, m4, e4, rfl, -⟩ := HCo.open_
    clear HCo
    have BW3 : Below w.heap.size w w3 := (BW2.alloc BW2.size (.cells #[.slice B0 k0 d0, .slice B1 k1 d1, .slice B2 k2 d2, .slice B3 k3 d3, .slice B4 k4 d4] 29)).trans (hb3.mono (BW2.alloc BW2.size (.cells #[.slice B0 k0 d0, .slice B1 k1 d1, .slice B2 k2 d2, .slice B3 k3 d3, .slice B4 k4 d4] 29)).size)
    have zz3 : w2.heap.size + 1 ≤ w3.heap.size := by have := hb3.size; simp at this; omega
    have HA_3 := Dv.below (by exact (HA_2.alloc (.cells #[.slice B0 k0 d0, .slice B1 k1 d1, .slice B2 k2 d2, .slice B3 k3 d3, .slice B4 k4 d4] 29))) hb3
    have X_3 := Blk5.below (by exact (X_2.alloc (.cells #[.slice B0 k0 d0, .slice B1 k1 d1, .slice B2 k2 d2, .slice B3 k3 d3, .slice B4 k4 d4] 29))) hb3
    obtain ⟨cX_3_0, cX_3_1, cX_3_2, cX_3_3, cX_3_4, -⟩ := X_3.cells
    have lX_3 := X_3.lt
    have HB_3 := Dv.below (by exact (HB.alloc (.cells #[.slice B0 k0 d0, .slice B1 k1 d1, .slice B2 k2 d2, .slice B3 k3 d3, .slice B4 k4 d4] 29))) hb3
    have P_3 := Blk5.below (by exact (Blk5.new w2 (.slice B0 k0 d0) (.slice B1 k1 d1) (.slice B2 k2 d2) (.slice B3 k3 d3) (.slice B4 k4 d4) 29)) hb3
    obtain ⟨cP_3_0, cP_3_1, cP_3_2, cP_3_3, cP_3_4, -⟩ := P_3.cells
    have lP_3 := P_3.lt
    have E1 := implCountedSame_any _ _ _ _ _ _ _ (HB_3.alloc (.cells #[.slice K0 m0 e0, .slice K1 m1 e1, .slice K2 m2 e2, .slice K3 m3 e3, .slice K4 m4 e4] 29)) (HC.alloc (.cells #[.slice K0 m0 e0, .slice K1 m1 e1, .slice K2 m2 e2, .slice K3 m3 e3, .slice K4 m4 e4] 29))
    rw [sameD_self] at E1
    go_wp2_with fail
    refine (E1).mono ?_; rintro e w4 ⟨rfl, hb4⟩
    have BW4 : Below w.heap.size w w4 := (BW3.alloc BW3.size (.cells #[.slice K0 m0 e0, .slice K1 m1 e1, .slice K2 m2 e2, .slice K3 m3 e3, .slice K4 m4 e4] 29)).trans (hb4.mono (BW3.alloc BW3.size (.cells #[.slice K0 m0 e0, .slice K1 m1 e1, .slice K2 m2 e2, .slice K3 m3 e3, .slice K4 m4 e4] 29)).size)
    have zz4 : w3.heap.size + 1 ≤ w4.heap.size := by have := hb4.size; simp at this; omega
    have HA_4 := Dv.below (by exact (HA_3.alloc (.cells #[.slice K0 m0 e0, .slice K1 m1 e1, .slice K2 m2 e2, .slice K3 m3 e3, .slice K4 m4 e4] 29))) hb4
    have X_4 := Blk5.below (by exact (X_3.alloc (.cells #[.slice K0 m0 e0, .slice K1 m1 e1, .slice K2 m2 e2, .slice K3 m3 e3, .slice K4 m4 e4] 29))) hb4
    obtain ⟨cX_4_0, cX_4_1, cX_4_2, cX_4_3, cX_4_4, -⟩ := X_4.cells
    have lX_4 := X_4.lt
    have HB_4 := Dv.below (by exact (HB_3.alloc (.cells #[.slice K0 m0 e0, .slice K1 m1 e1, .slice K2 m2 e2, .slice K3 m3 e3, .slice K4 m4 e4] 29))) hb4
    have P_4 := Blk5.below (by exact (P_3.alloc (.cells #[.slice K0 m0 e0, .slice K1 m1 e1, .slice K2 m2 e2, .slice K3 m3 e3, .slice K4 m4 e4] 29))) hb4
    obtain ⟨cP_4_0, cP_4_1, cP_4_2, cP_4_3, cP_4_4, -⟩ := P_4.cells
    have lP_4 := P_4.lt
    have HC_4 := Dv.below (by exact (HC.alloc (.cells #[.slice K0 m0 e0, .slice K1 m1 e1, .slice K2 m2 e2, .slice K3 m3 e3, .slice K4 m4 e4] 29))) hb4
    have Q_4 := Blk5.below (by exact (Blk5.new w3 (.slice K0 m0 e0) (.slice K1 m1 e1) (.slice K2 m2 e2) (.slice K3 m3 e3) (.slice K4 m4 e4) 29)) hb4
    obtain ⟨cQ_4_0, cQ_4_1, cQ_4_2, cQ_4_3, cQ_4_4, -⟩ := Q_4.cells
    have lQ_4 := Q_4.lt
    have E2 := implCountedSame_any _ _ _ _ _ _ _ HB_4 HC_4
    rw [sameD_self] at E2
    go_wp2_with fail
    refine (E2).mono ?_; rintro e w5 ⟨rfl, hb5⟩
    have BW5 : Below w.heap.size w w5 := BW4.trans (hb5.mono BW4.size)
    have zz5 : w4.heap.size ≤ w5.heap.size := hb5.size
    have HA_5 := Dv.below (by exact HA_4) hb5
    have X_5 := Blk5.below (by exact X_4) hb5
    obtain ⟨cX_5_0, cX_5_1, cX_5_2, cX_5_3, cX_5_4, -⟩ := X_5.cells
    have lX_5 := X_5.lt
    have HB_5 := Dv.below (by exact HB_4) hb5
    have P_5 := Blk5.below (by exact P_4) hb5
    obtain ⟨cP_5_0, cP_5_1, cP_5_2, cP_5_3, cP_5_4, -⟩ := P_5.cells
    have lP_5 := P_5.lt
    have HC_5 := Dv.below (by exact HC_4) hb5
    have Q_5 := Blk5.below (by exact Q_4) hb5
    obtain ⟨cQ_5_0, cQ_5_1, cQ_5_2, cQ_5_3, cQ_5_4, -⟩ := Q_5.cells
    have lQ_5 := Q_5.lt
    go_wp2_with fail
    go_ret
    exact ⟨rfl, BW5⟩
  · rw [ho] at I S
    have J := fun W lo v hW => implDropRoot_any W lo v E hW x
    rw [drop_twice ho] at J
    clear ho
    go_wp2_with fail
    refine (I _ _ _ (HA.alloc (.cells #[.slice A0 n0 c0, .slice A1 n1 c1, .slice A2 n2 c2, .slice A3 n3 c3, .slice A4 n4 c4] 29))).mono ?_; rintro e w2 ⟨vHB, rfl, HB, hb2⟩
    simp only [Option.isSome_some, Option.getD_some] at HB ⊢
    have HBo := HB
    obtain ⟨B0, k0, d0, B1, k1, d1, B2, k2, d2, B3, k3, d3, B4, k4, d4, rfl, -⟩ := HBo.open_
    clear HBo
    have BW2 : Below w.heap.size w w2 := (BW1.alloc BW1.size (.cells #[.slice A0 n0 c0, .slice A1 n1 c1, .slice A2 n2 c2, .slice A3 n3 c3, .slice A4 n4 c4] 29)).trans (hb2.mono (BW1.alloc BW1.size (.cells #[.slice A0 n0 c0, .slice A1 n1 c1, .slice A2 n2 c2, .slice A3 n3 c3, .slice A4 n4 c4] 29)).size)
    have zz2 : w1.heap.size + 1 ≤ w2.heap.size := by have := hb2.size; simp at this; omega
    have HA_2 := Dv.below (by exact (HA.alloc (.cells #[.slice A0 n0 c0, .slice A1 n1 c1, .slice A2 n2 c2, .slice A3 n3 c3, .slice A4 n4 c4] 29))) hb2
    have X_2 := Blk5.below (by exact (Blk5.new w1 (.slice A0 n0 c0) (.slice A1 n1 c1) (.slice A2 n2 c2) (.slice A3 n3 c3) (.slice A4 n4 c4) 29)) hb2
    obtain ⟨cX_2_0, cX_2_1, cX_2_2, cX_2_3, cX_2_4, -⟩ := X_2.cells
    have lX_2 := X_2.lt
    go_wp2_with fail
    refine (S _ _ _ (HA_2.alloc (.cells #[.slice B0 k0 d0, .slice B1 k1 d1, .slice B2 k2 d2, .slice B3 k3 d3, .slice B4 k4 d4] 29))).mono ?_; rintro e w3 ⟨vHC, rfl, HC, hb3⟩
    simp only [Option.isSome_some, Option.getD_some] at HC ⊢
    have HCo := HC
    obtain ⟨K0, m0, e0, K1, m1, e1, K2, m2, e2, K3, m3, e3, K4, m4, e4, rfl, -⟩ := HCo.open_
    clear HCo
    have BW3 : Below w.heap.size w w3 := (BW2.alloc BW2.size (.cells #[.slice B0 k0 d0, .slice B1 k1 d1, .slice B2 k2 d2, .slice B3 k3 d3, .slice B4 k4 d4] 29)).trans (hb3.mono (BW2.alloc BW2.size (.cells #[.slice B0 k0 d0, .slice B1 k1 d1, .slice B2 k2 d2, .slice B3 k3 d3, .slice B4 k4 d4] 29)).size)
    have zz3 : w2.heap.size + 1 ≤ w3.heap.size := by have := hb3.size; simp at this; omega
    have HA_3 := Dv.below (by exact (HA_2.alloc (.cells #[.slice B0 k0 d0, .slice B1 k1 d1, .slice B2 k2 d2, .slice B3 k3 d3, .slice B4 k4 d4] 29))) hb3
    have X_3 := Blk5.below (by exact (X_2.alloc (.cells #[.slice B0 k0 d0, .slice B1 k1 d1, .slice B2 k2 d2, .slice B3 k3 d3, .slice B4 k4 d4] 29))) hb3
    obtain ⟨cX_3_0, cX_3_1, cX_3_2, cX_3_3, cX_3_4, -⟩ := X_3.cells
    have lX_3 := X_3.lt
    have HB_3 := Dv.below (by exact (HB.alloc (.cells #[.slice B0 k0 d0, .slice B1 k1 d1, .slice B2 k2 d2, .slice B3 k3 d3, .slice B4 k4 d4] 29))) hb3
    have P_3 := Blk5.below (by exact (Blk5.new w2 (.slice B0 k0 d0) (.slice B1 k1 d1) (.slice B2 k2 d2) (.slice B3 k3 d3) (.slice B4 k4 d4) 29)) hb3
    obtain ⟨cP_3_0, cP_3_1, cP_3_2, cP_3_3, cP_3_4, -⟩ := P_3.cells
    have lP_3 := P_3.lt
    have E1 := implCountedSame_any _ _ _ _ _ _ _ (HB_3.alloc (.cells #[.slice K0 m0 e0, .slice K1 m1 e1, .slice K2 m2 e2, .slice K3 m3 e3, .slice K4 m4 e4] 29)) (HC.alloc (.cells #[.slice K0 m0 e0, .slice K1 m1 e1, .slice K2 m2 e2, .slice K3 m3 e3, .slice K4 m4 e4] 29))
    rw [sameD_self] at E1
    go_wp2_with fail
    refine (E1).mono ?_; rintro e w4 ⟨rfl, hb4⟩
    have BW4 : Below w.heap.size w w4 := (BW3.alloc BW3.size (.cells #[.slice K0 m0 e0, .slice K1 m1 e1, .slice K2 m2 e2, .slice K3 m3 e3, .slice K4 m4 e4] 29)).trans (hb4.mono (BW3.alloc BW3.size (.cells #[.slice K0 m0 e0, .slice K1 m1 e1, .slice K2 m2 e2, .slice K3 m3 e3, .slice K4 m4 e4] 29)).size)
    have zz4 : w3.heap.size + 1 ≤ w4.heap.size := by have := hb4.size; simp at this; omega
    have HA_4 := Dv.below (by exact (HA_3.alloc (.cells #[.slice K0 m0 e0, .slice K1 m1 e1, .slice K2 m2 e2, .slice K3 m3 e3, .slice K4 m4 e4] 29))) hb4
    have X_4 := Blk5.below (by exact (X_3.alloc (.cells #[.slice K0 m0 e0, .slice K1 m1 e1, .slice K2 m2 e2, .slice K3 m3 e3, .slice K4 m4 e4] 29))) hb4
    obtain ⟨cX_4_0, cX_4_1, cX_4_2, cX_4_3, cX_4_4, -⟩ := X_4.cells
    have lX_4 := X_4.lt
    have HB_4 := Dv.below (by exact (HB_3.alloc (.cells #[.slice K0 m0 e0, .slice K1 m1 e1, .slice K2 m2 e2, .slice K3 m3 e3, .slice K4 m4 e4] 29))) hb4
    have P_4 := Blk5.below (by exact (P_3.alloc (.cells #[.slice K0 m0 e0, .slice K1 m1 e1, .slice K2 m2 e2, .slice K3 m3 e3, .slice K4 m4 e4] 29))) hb4
    obtain ⟨cP_4_0, cP_4_1, cP_4_2, cP_4_3, cP_4_4, -⟩ := P_4.cells
    have lP_4 := P_4.lt
    have HC_4 := Dv.below (by exact (HC.alloc (.cells #[.slice K0 m0 e0, .slice K1 m1 e1, .slice K2 m2 e2, .slice K3 m3 e3, .slice K4 m4 e4] 29))) hb4
    have Q_4 := Blk5.below (by exact (Blk5.new w3 (.slice K0 m0 e0) (.slice K1 m1 e1) (.slice K2 m2 e2) (.slice K3 m3 e3) (.slice K4 m4 e4) 29)) hb4
    obtain ⟨cQ_4_0, cQ_4_1, cQ_4_2, cQ_4_3, cQ_4_4, -⟩ := Q_4.cells
    have lQ_4 := Q_4.lt
    go_wp2_with fail
    refine (J _ _ _ HB_4).mono ?_; rintro e w5 ⟨vHY, rfl, HY, hb5⟩
    simp only [Option.isSome_some, Option.getD_some] at HY ⊢
    have HYo := HY
    obtain ⟨F0, f0, y0, F1, f1, y1, F2, f2, y2, F3, f3, y3, F4, f4, y4, rfl, -⟩ := HYo.open_
    clear HYo
    have BW5 : Below w.heap.size w w5 := BW4.trans (hb5.mono BW4.size)
    have zz5 : w4.heap.size ≤ w5.heap.size := hb5.size
    have HA_5 := Dv.below (by exact HA_4) hb5
    have X_5 := Blk5.below (by exact X_4) hb5
    obtain ⟨cX_5_0, cX_5_1, cX_5_2, cX_5_3, cX_5_4, -⟩ := X_5.cells
    have lX_5 := X_5.lt
    have HB_5 := Dv.below (by exact HB_4) hb5
    have P_5 := Blk5.below (by exact P_4) hb5
    obtain ⟨cP_5_0, cP_5_1, cP_5_2, cP_5_3, cP_5_4, -⟩ := P_5.cells
    have lP_5 := P_5.lt
    have HC_5 := Dv.below (by exact HC_4) hb5
    have Q_5 := Blk5.below (by exact Q_4) hb5
    obtain ⟨cQ_5_0, cQ_5_1, cQ_5_2, cQ_5_3, cQ_5_4, -⟩ := Q_5.cells
    have lQ_5 := Q_5.lt
    have E2 := implCountedSame_any _ _ _ _ _ _ _ (HY.alloc (.cells #[.slice F0 f0 y0, .slice F1 f1 y1, .slice F2 f2 y2, .slice F3 f3 y3, .slice F4 f4 y4] 29)) (HB_5.alloc (.cells #[.slice F0 f0 y0, .slice F1 f1 y1, .slice F2 f2 y2, .slice F3 f3 y3, .slice F4 f4 y4] 29))
    rw [sameD_self] at E2
    go_wp2_with fail
    refine (E2).mono ?_; rintro e w6 ⟨rfl, hb6⟩
    have BW6 : Below w.heap.size w w6 := (BW5.alloc BW5.size (.cells #[.slice F0 f0 y0, .slice F1 f1 y1, .slice F2 f2 y2, .slice F3 f3 y3, .slice F4 f4 y4] 29)).trans (hb6.mono (BW5.alloc BW5.size (.cells #[.slice F0 f0 y0, .slice F1 f1 y1, .slice F2 f2 y2, .slice F3 f3 y3, .slice F4 f4 y4] 29)).size)
    have zz6 : w5.heap.size + 1 ≤ w6.heap.size := by have := hb6.size; simp at this; omega
    have HA_6 := Dv.below (by exact (HA_5.alloc (.cells #[.slice F0 f0 y0, .slice F1 f1 y1, .slice F2 f2 y2, .slice F3 f3 y3, .slice F4 f4 y4] 29))) hb6
    have X_6 := Blk5.below (by exact (X_5.alloc (.cells #[.slice F0 f0 y0, .slice F1 f1 y1, .slice F2 f2 y2, .slice F3 f3 y3, .slice F4 f4 y4] 29))) hb6
    obtain ⟨cX_6_0, cX_6_1, cX_6_2, cX_6_3, cX_6_4, -⟩ := X_6.cells
    have lX_6 := X_6.lt
    have HB_6 := Dv.below (by exact (HB_5.alloc (.cells #[.slice F0 f0 y0, .slice F1 f1 y1, .slice F2 f2 y2, .slice F3 f3 y3, .slice F4 f4 y4] 29))) hb6
    have P_6 := Blk5.below (by exact (P_5.alloc (.cells #[.slice F0 f0 y0, .slice F1 f1 y1, .slice F2 f2 y2, .slice F3 f3 y3, .slice F4 f4 y4] 29))) hb6
    obtain ⟨cP_6_0, cP_6_1, cP_6_2, cP_6_3, cP_6_4, -⟩ := P_6.cells
    have lP_6 := P_6.lt
    have HC_6 := Dv.below (by exact (HC_5.alloc (.cells #[.slice F0 f0 y0, .slice F1 f1 y1, .slice F2 f2 y2, .slice F3 f3 y3, .slice F4 f4 y4] 29))) hb6
    have Q_6 := Blk5.below (by exact (Q_5.alloc (.cells #[.slice F0 f0 y0, .slice F1 f1 y1, .slice F2 f2 y2, .slice F3 f3 y3, .slice F4 f4 y4] 29))) hb6
    obtain ⟨cQ_6_0, cQ_6_1, cQ_6_2, cQ_6_3, cQ_6_4, -⟩ := Q_6.cells
    have lQ_6 := Q_6.lt
    have HY_6 := Dv.below (by exact (HY.alloc (.cells #[.slice F0 f0 y0, .slice F1 f1 y1, .slice F2 f2 y2, .slice F3 f3 y3, .slice F4 f4 y4] 29))) hb6
    have Y_6 := Blk5.below (by exact (Blk5.new w5 (.slice F0 f0 y0) (.slice F1 f1 y1) (.slice F2 f2 y2) (.slice F3 f3 y3) (.slice F4 f4 y4) 29)) hb6
    obtain ⟨cY_6_0, cY_6_1, cY_6_2, cY_6_3, cY_6_4, -⟩ := Y_6.cells
    have lY_6 := Y_6.lt
    go_wp2_with fail
    go_ret
    exact ⟨rfl, BW6⟩
end Go.Proofs.Yteogflkahoanlaa
