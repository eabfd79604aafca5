/- The law FnDropAll, walked. -/
import Derived.Test.YteogflkahoanlaaLaws0
import Derived.Test.YteogflkahoanlaaWrgDs
import Derived.Test.YteogflkahoanlaaDropI
import Derived.Test.YteogflkahoanlaaDropS
import Derived.Test.YteogflkahoanlaaShortD
import Derived.Test.YteogflkahoanlaaLinkDs
import Derived.Test.YteogflkahoanlaaCVal
import Derived.Test.YteogflkahoanlaaLives
import Derived.Test.YteogflkahoanlaaNears
import Derived.Test.YteogflkahoanlaaPureKS
import Derived.Test.YteogflkahoanlaaLawSs
namespace Go.Proofs.Yteogflkahoanlaa
open Go.RowKit

theorem none_live {h : Hp} (hv : hvB h = true) (ht : ∀ x ∈ h.t, x = -1) : cntB (liveL h) = 0 := by
  obtain ⟨_, _, _, h5⟩ := hvB_parts hv
  have hb : ∀ b ∈ liveL h, b = false := fun b hb => by
    obtain ⟨k, hk, e⟩ := List.getElem_of_mem hb
    have h9 := live_get hv (k := k) (b := b) (by rw [List.getElem?_eq_getElem hk, e])
    rw [h9]
    exact decide_eq_false fun h0 => dist_least hv h5 (fun _ => False) (fun x hx hne => hne (ht x hx)) (fun _ hc _ _ _ => hc) (k : Int) (by omega) h0
  unfold cntB
  have e : (liveL h).filter id = [] := List.filter_eq_nil_iff.2 (fun b hb' => by rw [hb b hb']; simp)
  rw [e]; rfl
theorem drop_next {X : Dp} (hv : dpB X = true) {i m : Nat} (hm : X.C.h.t.length = m) (hi : i < m) (hpre : ∀ j : Nat, j < i → X.C.h.t[j]? = some (-1)) : ∃ X', dropO X (i : Int) = some X' ∧ dpB X' = true ∧ X'.C.h.t.length = m ∧ ∀ j : Nat, j < i + 1 → X'.C.h.t[j]? = some (-1) := by
  obtain ⟨old, hold⟩ : ∃ old, X.C.h.t[i]? = some old := ⟨_, List.getElem?_eq_getElem (by omega)⟩
  have e := dropO_some hv hold
  refine ⟨_, e, dropO_valid e, ?_, fun j hj => ?_⟩
  · rw [fin_t]; simp [hm]
  · rw [fin_t]
    dsimp only
    by_cases hij : i = j
    · subst hij; rw [List.getElem?_set_self (by omega)]
    · rw [List.getElem?_set_ne hij]; exact hpre j (by omega)
theorem drop_end {X : Dp} (hv : dpB X = true) {m : Nat} (hm : X.C.h.t.length = m) (hall : ∀ j : Nat, j < m → X.C.h.t[j]? = some (-1)) : cntB (liveL X.C.h) = 0 ∧ cycL X = leakL X.C ∧ ((leakL X.C).length : Int) + X.C.c.length = X.n.length := by
  obtain ⟨hs, hn⟩ := dpB_iff.1 hv
  have h0 : cntB (liveL X.C.h) = 0 := none_live (stoB_parts hs).1 (fun x hx => by
    obtain ⟨k, hk, e⟩ := List.getElem_of_mem hx
    have h9 := hall k (by omega)
    rw [List.getElem?_eq_getElem hk, e] at h9
    exact Option.some.inj h9)
  have hc := leak_count hs
  rw [h0] at hc
  refine ⟨h0, by unfold cycL; rw [if_pos hv], ?_⟩
  rw [hn, cnts_len]; omega
theorem nr_len5 {w : World} {xs : List Int} {n : Nat} (hn : xs.length = n) {e : Ending} {w' : World} (h : NewRow w xs e w') : ∃ A c, e = .returned (.slice A n c) ∧ Below w.heap.size w w' := by
  obtain ⟨A, c, h1, h2, h3⟩ := h
  subst hn
  exact ⟨A, c, h1, h3⟩

set_option maxRecDepth 100000 in
set_option maxHeartbeats 4000000 in
theorem lawDropAll_walk (w : World) (A : Option Addr) (n c : Nat) (h : Inp w A n c) :
    Calls Try.prog 10 #[.slice A n c] w (LawTrue w) := by
  by_cases hbig : 1048576 < n
  · go_enter Try.func10, Try.ntmps10
    go_wp2_with fail
    go_ret
    exact ⟨rfl, Below.refl _ _⟩
  go_enter Try.func10, Try.ntmps10
  go_wp2_with fail
  refine (drawDropRoot_any _ _ _ _ h).mono ?_; rintro e w1 ⟨v, D, x, rfl, HA, hb1⟩
  have BW1 : Below w.heap.size w w1 := (Below.refl w.heap.size w).trans (hb1.mono (Below.refl w.heap.size w).size)
  have zz1 : w.heap.size ≤ w1.heap.size := hb1.size
  have HAo := HA
  obtain ⟨A0, n0, c0, A1, n1, c1, A2, n2, c2, A3, n3, c3, A4, n4, c4, rfl, -⟩ := HAo.open_
  clear HAo
  have I := fun W lo v hW => implDropRoot_any W lo v D hW x
  have S := fun W lo v hW => specDropRoot_any W lo v D hW x
  rcases ho : dropO D x with _ | E
  · rw [ho] at I S
    go_wp2_with fail
    refine (I _ _ _ (HA.alloc (.cells #[.slice A0 n0 c0, .slice A1 n1 c1, .slice A2 n2 c2, .slice A3 n3 c3, .slice A4 n4 c4] 29))).mono ?_; rintro e w2 ⟨vHB, rfl, HB, hb2⟩
    simp only [Option.isSome_none, Option.getD_none] at HB ⊢
    have HBo := HB
    obtain ⟨B0, k0, d0, B1, k1, d1, B2, k2, d2, B3, k3, d3, B4, k4, d4, rfl, -⟩ := HBo.open_
    clear HBo
    have BW2 : Below w.heap.size w w2 := (BW1.alloc BW1.size (.cells #[.slice A0 n0 c0, .slice A1 n1 c1, .slice A2 n2 c2, .slice A3 n3 c3, .slice A4 n4 c4] 29)).trans (hb2.mono (BW1.alloc BW1.size (.cells #[.slice A0 n0 c0, .slice A1 n1 c1, .slice A2 n2 c2, .slice A3 n3 c3, .slice A4 n4 c4] 29)).size)
    have zz2 : w1.heap.size + 1 ≤ w2.heap.size := by have := hb2.size; simp at this; omega
    have HA_2 := Dv.below (by exact (HA.alloc (.cells #[.slice A0 n0 c0, .slice A1 n1 c1, .slice A2 n2 c2, .slice A3 n3 c3, .slice A4 n4 c4] 29))) hb2
    have X_2 := Blk5.below (by exact (Blk5.new w1 (.slice A0 n0 c0) (.slice A1 n1 c1) (.slice A2 n2 c2) (.slice A3 n3 c3) (.slice A4 n4 c4) 29)) hb2
    obtain ⟨cX_2_0, cX_2_1, cX_2_2, cX_2_3, cX_2_4, -⟩ := X_2.cells
    have lX_2 := X_2.lt
    go_wp2_with fail
    refine (S _ _ _ (HA_2.alloc (.cells #[.slice B0 k0 d0, .slice B1 k1 d1, .slice B2 k2 d2, .slice B3 k3 d3, .slice B4 k4 d4] 29))).mono ?_; rintro e w3 ⟨vHC, rfl, HC, hb3⟩
    simp only [Option.isSome_none, Option.getD_none] at HC ⊢
    have HCo := HC
    obtain ⟨K0, m0, e0, K1, m1, e1, K2, m2, e2, K3, m3, e3, K4, m4, e4, rfl, -⟩ := HCo.open_
    clear HCo
    have BW3 : Below w.heap.size w w3 := (BW2.alloc BW2.size (.cells #[.slice B0 k0 d0, .slice B1 k1 d1, .slice B2 k2 d2, .slice B3 k3 d3, .slice B4 k4 d4] 29)).trans (hb3.mono (BW2.alloc BW2.size (.cells #[.slice B0 k0 d0, .slice B1 k1 d1, .slice B2 k2 d2, .slice B3 k3 d3, .slice B4 k4 d4] 29)).size)
    have zz3 : w2.heap.size + 1 ≤ w3.heap.size := by have := hb3.size; simp at this; omega
    have HA_3 := Dv.below (by exact (HA_2.alloc (.cells #[.slice B0 k0 d0, .slice B1 k1 d1, .slice B2 k2 d2, .slice B3 k3 d3, .slice B4 k4 d4] 29))) hb3
    have X_3 := Blk5.below (by exact (X_2.alloc (.cells #[.slice B0 k0 d0, .slice B1 k1 d1, .slice B2 k2 d2, .slice B3 k3 d3, .slice B4 k4 d4] 29))) hb3
    obtain ⟨cX_3_0, cX_3_1, cX_3_2, cX_3_3, cX_3_4, -⟩ := X_3.cells
    have lX_3 := X_3.lt
    have HB_3 := Dv.below (by exact (HB.alloc (.cells #[.slice B0 k0 d0, .slice B1 k1 d1, .slice B2 k2 d2, .slice B3 k3 d3, .slice B4 k4 d4] 29))) hb3
    have P_3 := Blk5.below (by exact (Blk5.new w2 (.slice B0 k0 d0) (.slice B1 k1 d1) (.slice B2 k2 d2) (.slice B3 k3 d3) (.slice B4 k4 d4) 29)) hb3
    obtain ⟨cP_3_0, cP_3_1, cP_3_2, cP_3_3, cP_3_4, -⟩ := P_3.cells
    have lP_3 := P_3.lt
    have E1 := implCountedSame_any _ _ _ _ _ _ _ (HB_3.alloc (.cells #[.slice K0 m0 e0, .slice K1 m1 e1, .slice K2 m2 e2, .slice K3 m3 e3, .slice K4 m4 e4] 29)) (HC.alloc (.cells #[.slice K0 m0 e0, .slice K1 m1 e1, .slice K2 m2 e2, .slice K3 m3 e3, .slice K4 m4 e4] 29))
    rw [sameD_self] at E1
    go_wp2_with fail
    refine (E1).mono ?_; rintro e w4 ⟨rfl, hb4⟩
    have BW4 : Below w.heap.size w w4 := (BW3.alloc BW3.size (.cells #[.slice K0 m0 e0, .slice K1 m1 e1, .slice K2 m2 e2, .slice K3 m3 e3, .slice K4 m4 e4] 29)).trans (hb4.mono (BW3.alloc BW3.size (.cells #[.slice K0 m0 e0, .slice K1 m1 e1, .slice K2 m2 e2, .slice K3 m3 e3, .slice K4 m4 e4] 29)).size)
    have zz4 : w3.heap.size + 1 ≤ w4.heap.size := by have := hb4.size; simp at this; omega
    have HA_4 := Dv.below (by exact (HA_3.alloc (.cells #[.slice K0 m0 e0, .slice K1 m1 e1, .slice K2 m2 e2, .slice K3 m3 e3, .slice K4 m4 e4] 29))) hb4
    have X_4 := Blk5.below (by exact (X_3.alloc (.cells #[.slice K0 m0 e0, .slice K1 m1 e1, .slice K2 m2 e2, .slice K3 m3 e3, .slice K4 m4 e4] 29))) hb4
    obtain ⟨cX_4_0, cX_4_1, cX_4_2, cX_4_3, cX_4_4, -⟩ := X_4.cells
    have lX_4 := X_4.lt
    have HB_4 := Dv.below (by exact (HB_3.alloc (.cells #[.slice K0 m0 e0, .slice K1 m1 e1, .slice K2 m2 e2, .slice K3 m3 e3, .slice K4 m4 e4] 29))) hb4
    have P_4 := Blk5.below (by exact (P_3.alloc (.cells #[.slice K0 m0 e0, .slice K1 m1 e1, .slice K2 m2 e2, .slice K3 m3 e3, .slice K4 m4 e4] 29))) hb4
    obtain ⟨cP_4_0, cP_4_1, cP_4_2, cP_4_3, cP_4_4, -⟩ := P_4.cells
    have lP_4 := P_4.lt
    have HC_4 := Dv.below (by exact (HC.alloc (.cells #[.slice K0 m0 e0, .slice K1 m1 e1, .slice K2 m2 e2, .slice K3 m3 e3, .slice K4 m4 e4] 29))) hb4
    have Q_4 := Blk5.below (by exact (Blk5.new w3 (.slice K0 m0 e0) (.slice K1 m1 e1) (.slice K2 m2 e2) (.slice K3 m3 e3) (.slice K4 m4 e4) 29)) hb4
    obtain ⟨cQ_4_0, cQ_4_1, cQ_4_2, cQ_4_3, cQ_4_4, -⟩ := Q_4.cells
    have lQ_4 := Q_4.lt
    have E2 := implCountedSame_any _ _ _ _ _ _ _ HB_4 HC_4
    rw [sameD_self] at E2
    go_wp2_with fail
    refine (E2).mono ?_; rintro e w5 ⟨rfl, hb5⟩
    have BW5 : Below w.heap.size w w5 := BW4.trans (hb5.mono BW4.size)
    have zz5 : w4.heap.size ≤ w5.heap.size := hb5.size
    have HA_5 := Dv.below (by exact HA_4) hb5
    have X_5 := Blk5.below (by exact X_4) hb5
    obtain ⟨cX_5_0, cX_5_1, cX_5_2, cX_5_3, cX_5_4, -⟩ := X_5.cells
    have lX_5 := X_5.lt
    have HB_5 := Dv.below (by exact HB_4) hb5
    have P_5 := Blk5.below (by exact P_4) hb5
    obtain ⟨cP_5_0, cP_5_1, cP_5_2, cP_5_3, cP_5_4, -⟩ := P_5.cells
    have lP_5 := P_5.lt
    have HC_5 := Dv.below (by exact HC_4) hb5
    have Q_5 := Blk5.below (by exact Q_4) hb5
    obtain ⟨cQ_5_0, cQ_5_1, cQ_5_2, cQ_5_3, cQ_5_4, -⟩ := Q_5.cells
    have lQ_5 := Q_5.lt
    go_wp2_with fail
    go_ret
    exact ⟨rfl, BW5⟩
  · rw [ho] at I S
    have hvE := Lib.hid (dropO_valid ho)
    obtain ⟨m, hm⟩ : ∃ m, Hid (E.C.h.t.length = m) := ⟨_, rfl⟩
    clear ho
    go_wp2_with fail
    refine (I _ _ _ (HA.alloc (.cells #[.slice A0 n0 c0, .slice A1 n1 c1, .slice A2 n2 c2, .slice A3 n3 c3, .slice A4 n4 c4] 29))).mono ?_; rintro e w2 ⟨vHB, rfl, HB, hb2⟩
    simp only [Option.isSome_some, Option.getD_some] at HB ⊢
    have HBo := HB
    obtain ⟨B0, k0, d0, B1, k1, d1, B2, k2, d2, B3, k3, d3, B4, k4, d4, rfl, -⟩ := HBo.open_
    clear HBo
    have BW2 : Below w.heap.size w w2 := (BW1.alloc BW1.size (.cells #[.slice A0 n0 c0, .slice A1 n1 c1, .slice A2 n2 c2, .slice A3 n3 c3, .slice A4 n4 c4] 29)).trans (hb2.mono (BW1.alloc BW1.size (.cells #[.slice A0 n0 c0, .slice A1 n1 c1, .slice A2 n2 c2, .slice A3 n3 c3, .slice A4 n4 c4] 29)).size)
    have zz2 : w1.heap.size + 1 ≤ w2.heap.size := by have := hb2.size; simp at this; omega
    have HA_2 := Dv.below (by exact (HA.alloc (.cells #[.slice A0 n0 c0, .slice A1 n1 c1, .slice A2 n2 c2, .slice A3 n3 c3, .slice A4 n4 c4] 29))) hb2
    have X_2 := Blk5.below (by exact (Blk5.new w1 (.slice A0 n0 c0) (.slice A1 n1 c1) (.slice A2 n2 c2) (.slice A3 n3 c3) (.slice A4 n4 c4) 29)) hb2
    obtain ⟨cX_2_0, cX_2_1, cX_2_2, cX_2_3, cX_2_4, -⟩ := X_2.cells
    have lX_2 := X_2.lt
    go_wp2_with fail
    refine (S _ _ _ (HA_2.alloc (.cells #[.slice B0 k0 d0, .slice B1 k1 d1, .slice B2 k2 d2, .slice B3 k3 d3, .slice B4 k4 d4] 29))).mono ?_; rintro e w3 ⟨vHC, rfl, HC, hb3⟩
    simp only [Option.isSome_some, Option.getD_some] at HC ⊢
    have HCo := HC
    obtain ⟨K0, m0, e0, K1, m1, e1, K2, m2, e2, K3, m3, e3, K4, m4, e4, rfl, -⟩ := HCo.open_
    clear HCo
    have BW3 : Below w.heap.size w w3 := (BW2.alloc BW2.size (.cells #[.slice B0 k0 d0, .slice B1 k1 d1, .slice B2 k2 d2, .slice B3 k3 d3, .slice B4 k4 d4] 29)).trans (hb3.mono (BW2.alloc BW2.size (.cells #[.slice B0 k0 d0, .slice B1 k1 d1, .slice B2 k2 d2, .slice B3 k3 d3, .slice B4 k4 d4] 29)).size)
    have zz3 : w2.heap.size + 1 ≤ w3.heap.size := by have := hb3.size; simp at this; omega
    have HA_3 := Dv.below (by exact (HA_2.alloc (.cells #[.slice B0 k0 d0, .slice B1 k1 d1, .slice B2 k2 d2, .slice B3 k3 d3, .slice B4 k4 d4] 29))) hb3
    have X_3 := Blk5.below (by exact (X_2.alloc (.cells #[.slice B0 k0 d0, .slice B1 k1 d1, .slice B2 k2 d2, .slice B3 k3 d3, .slice B4 k4 d4] 29))) hb3
    obtain ⟨cX_3_0, cX_3_1, cX_3_2, cX_3_3, cX_3_4, -⟩ := X_3.cells
    have lX_3 := X_3.lt
    have HB_3 := Dv.below (by exact (HB.alloc (.cells #[.slice B0 k0 d0, .slice B1 k1 d1, .slice B2 k2 d2, .slice B3 k3 d3, .slice B4 k4 d4] 29))) hb3
    have P_3 := Blk5.below (by exact (Blk5.new w2 (.slice B0 k0 d0) (.slice B1 k1 d1) (.slice B2 k2 d2) (.slice B3 k3 d3) (.slice B4 k4 d4) 29)) hb3
    obtain ⟨cP_3_0, cP_3_1, cP_3_2, cP_3_3, cP_3_4, -⟩ := P_3.cells
    have lP_3 := P_3.lt
    have E1 := implCountedSame_any _ _ _ _ _ _ _ (HB_3.alloc (.cells #[.slice K0 m0 e0, .slice K1 m1 e1, .slice K2 m2 e2, .slice K3 m3 e3, .slice K4 m4 e4] 29)) (HC.alloc (.cells #[.slice K0 m0 e0, .slice K1 m1 e1, .slice K2 m2 e2, .slice K3 m3 e3, .slice K4 m4 e4] 29))
    rw [sameD_self] at E1
    go_wp2_with fail
    refine (E1).mono ?_; rintro e w4 ⟨rfl, hb4⟩
    have BW4 : Below w.heap.size w w4 := (BW3.alloc BW3.size (.cells #[.slice K0 m0 e0, .slice K1 m1 e1, .slice K2 m2 e2, .slice K3 m3 e3, .slice K4 m4 e4] 29)).trans (hb4.mono (BW3.alloc BW3.size (.cells #[.slice K0 m0 e0, .slice K1 m1 e1, .slice K2 m2 e2, .slice K3 m3 e3, .slice K4 m4 e4] 29)).size)
    have zz4 : w3.heap.size + 1 ≤ w4.heap.size := by have := hb4.size; simp at this; omega
    have HA_4 := Dv.below (by exact (HA_3.alloc (.cells #[.slice K0 m0 e0, .slice K1 m1 e1, .slice K2 m2 e2, .slice K3 m3 e3, .slice K4 m4 e4] 29))) hb4
    have X_4 := Blk5.below (by exact (X_3.alloc (.cells #[.slice K0 m0 e0, .slice K1 m1 e1, .slice K2 m2 e2, .slice K3 m3 e3, .slice K4 m4 e4] 29))) hb4
    obtain ⟨cX_4_0, cX_4_1, cX_4_2, cX_4_3, cX_4_4, -⟩ := X_4.cells
    have lX_4 := X_4.lt
    have HB_4 := Dv.below (by exact (HB_3.alloc (.cells #[.slice K0 m0 e0, .slice K1 m1 e1, .slice K2 m2 e2, .slice K3 m3 e3, .slice K4 m4 e4] 29))) hb4
    have P_4 := Blk5.below (by exact (P_3.alloc (.cells #[.slice K0 m0 e0, .slice K1 m1 e1, .slice K2 m2 e2, .slice K3 m3 e3, .slice K4 m4 e4] 29))) hb4
    obtain ⟨cP_4_0, cP_4_1, cP_4_2, cP_4_3, cP_4_4, -⟩ := P_4.cells
    have lP_4 := P_4.lt
    have HC_4 := Dv.below (by exact (HC.alloc (.cells #[.slice K0 m0 e0, .slice K1 m1 e1, .slice K2 m2 e2, .slice K3 m3 e3, .slice K4 m4 e4] 29))) hb4
    have Q_4 := Blk5.below (by exact (Blk5.new w3 (.slice K0 m0 e0) (.slice K1 m1 e1) (.slice K2 m2 e2) (.slice K3 m3 e3) (.slice K4 m4 e4) 29)) hb4
    obtain ⟨cQ_4_0, cQ_4_1, cQ_4_2, cQ_4_3, cQ_4_4, -⟩ := Q_4.cells
    have lQ_4 := Q_4.lt
    have hmb : m ≤ 9223372036854775807 := by have h9 := (Dv.rows HB_4).2.2.1.form; obtain ⟨_, _, e, _, h8⟩ := h9; cases e; have := hm.out; unfold maxLen at h8; omega
    have S0 := (⟨P_4, HB_4.mono (Nat.zero_le _), BW4⟩ : Blk5 w4 w2.heap.size (.slice B0 k0 d0) (.slice B1 k1 d1) (.slice B2 k2 d2) (.slice B3 k3 d3) (.slice B4 k4 d4) 29 ∧ Dv w4 0 (.agg #[.slice B0 k0 d0, .slice B1 k1 d1, .slice B2 k2 d2, .slice B3 k3 d3, .slice B4 k4 d4]) E ∧ Below w.heap.size w w4)
    have z4 : w2.heap.size + 1 ≤ w4.heap.size := S0.1.lt
    have z2w : w.heap.size ≤ w2.heap.size := by omega
    go_wp2_with fail
    go_loopg [9, 10, 11] m (fun gk iv_ _ _ wr => ∃ (i : Nat) (X : Dp) (G0 : Option Addr) (g0 q0 : Nat) (G1 : Option Addr) (g1 q1 : Nat) (G2 : Option Addr) (g2 q2 : Nat) (G3 : Option Addr) (g3 q3 : Nat) (G4 : Option Addr) (g4 q4 : Nat), iv_ = .int .i64 (i : Int) ∧ i ≤ m ∧ gk = m - i ∧ Hid (dpB X = true) ∧ Hid (X.C.h.t.length = m) ∧ Hid (∀ j : Nat, j < i → X.C.h.t[j]? = some (-1)) ∧ Blk5 wr w2.heap.size (.slice G0 g0 q0) (.slice G1 g1 q1) (.slice G2 g2 q2) (.slice G3 g3 q3) (.slice G4 g4 q4) 29 ∧ Dv wr 0 (.agg #[.slice G0 g0 q0, .slice G1 g1 q1, .slice G2 g2 q2, .slice G3 g3 q3, .slice G4 g4 q4]) X ∧ Below w.heap.size w wr ∧ w2.heap.size + 1 ≤ wr.heap.size)
    case atStart => exact ⟨0, E, _, _, _, _, _, _, _, _, _, _, _, _, _, _, _, rfl, Nat.zero_le _, rfl, hvE, hm, (fun j hj => by omega), S0.1, S0.2.1, S0.2.2, z4⟩
    case round =>
      obtain ⟨i, X, G0, g0, q0, G1, g1, q1, G2, g2, q2, G3, g3, q3, G4, g4, q4, rfl, hi, rfl, hvX, hmX, hpre, P, HX, B', z'⟩ := hrel
      obtain ⟨p0, p1, p2, p3, p4, -⟩ := P.cells
      have hl2 := lenS HX.rows.2.2.1
      have e2 : g2 = m := by have := hmX.out; omega
      subst e2
      by_cases hlt : i < g2
      · have qlt : (i : Int) < (g2 : Int) := by omega
        obtain ⟨X', hX', hv', hm', hp'⟩ := drop_next hvX.out hmX.out hlt hpre.out
        have I1 := implDropRoot_any wr _ _ X HX (i : Int)
        rw [hX'] at I1
        replace hv' := Lib.hid hv'
        replace hm' := Lib.hid hm'
        replace hp' := Lib.hid hp'
        clear hX' hl2
        go_wp2_with fail
        refine I1.mono ?_; rintro e w6 ⟨v6, rfl, HN, hb6⟩
        simp only [Option.isSome_some, Option.getD_some] at HN ⊢
        have HNo := HN
        obtain ⟨N0, s0, r0, N1, s1, r1, N2, s2, r2, N3, s3, r3, N4, s4, r4, rfl, -⟩ := HNo.open_
        have P7 := (P.below hb6).alloc (.cells #[.slice N0 s0 r0, .slice N1 s1 r1, .slice N2 s2 r2, .slice N3 s3 r3, .slice N4 s4 r4] 29)
        have N7 := Blk5.new w6 (.slice N0 s0 r0) (.slice N1 s1 r1) (.slice N2 s2 r2) (.slice N3 s3 r3) (.slice N4 s4 r4) 29
        have D7 := HN.alloc (.cells #[.slice N0 s0 r0, .slice N1 s1 r1, .slice N2 s2 r2, .slice N3 s3 r3, .slice N4 s4 r4] 29)
        have z6 := hb6.size
        have B7 := (B'.trans (hb6.mono B'.size)).alloc (by have := B'.size; omega) (.cells #[.slice N0 s0 r0, .slice N1 s1 r1, .slice N2 s2 r2, .slice N3 s3 r3, .slice N4 s4 r4] 29)
        have hne : w6.heap.size ≠ w2.heap.size := by omega
        obtain ⟨y0, y1, y2, y3, y4, yf0, yf1, yf2, yf3, yf4⟩ := P7.cells
        obtain ⟨x0, x1, x2, x3, x4, -⟩ := N7.cells
        have P8 := P7.set5 (.slice N0 s0 r0) (.slice N1 s1 r1) (.slice N2 s2 r2) (.slice N3 s3 r3) (.slice N4 s4 r4)
        have D8 := (D7.low5 (c := w2.heap.size) (by omega) (.slice N0 s0 r0) (.slice N1 s1 r1) (.slice N2 s2 r2) (.slice N3 s3 r3) (.slice N4 s4 r4)).mono (Nat.zero_le _)
        have B8 := below_set5 B7 (c := w2.heap.size) z2w (.slice N0 s0 r0) (.slice N1 s1 r1) (.slice N2 s2 r2) (.slice N3 s3 r3) (.slice N4 s4 r4)
        have z8 : w2.heap.size + 1 ≤ ((((((w6.alloc (.cells #[.slice N0 s0 r0, .slice N1 s1 r1, .slice N2 s2 r2, .slice N3 s3 r3, .slice N4 s4 r4] 29)).setCell ⟨w2.heap.size, 0, none⟩ (.slice N0 s0 r0)).setCell ⟨w2.heap.size, 1, none⟩ (.slice N1 s1 r1)).setCell ⟨w2.heap.size, 2, none⟩ (.slice N2 s2 r2)).setCell ⟨w2.heap.size, 3, none⟩ (.slice N3 s3 r3)).setCell ⟨w2.heap.size, 4, none⟩ (.slice N4 s4 r4)).heap.size := P8.lt
        clear P HX HN HNo P7 N7 D7 B7 I1 B' p0 p1 p2 p3 p4
        go_wp2_with fail
        generalize ((((((w6.alloc (.cells #[.slice N0 s0 r0, .slice N1 s1 r1, .slice N2 s2 r2, .slice N3 s3 r3, .slice N4 s4 r4] 29)).setCell ⟨w2.heap.size, 0, none⟩ (.slice N0 s0 r0)).setCell ⟨w2.heap.size, 1, none⟩ (.slice N1 s1 r1)).setCell ⟨w2.heap.size, 2, none⟩ (.slice N2 s2 r2)).setCell ⟨w2.heap.size, 3, none⟩ (.slice N3 s3 r3)).setCell ⟨w2.heap.size, 4, none⟩ (.slice N4 s4 r4)) = W8 at P8 D8 B8 z8 ⊢
        go_roundg (g2 - (i + 1))
        case measure => omega
        case rel => exact ⟨i + 1, X', _, _, _, _, _, _, _, _, _, _, _, _, _, _, _, by go_num, by omega, rfl, hv', hm', hp', P8, D8, B8, z8⟩
      · have qlt : ¬ ((i : Int) < (g2 : Int)) := by omega
        have ei : g2 = i := by omega
        subst ei
        obtain ⟨h0, hcy, hsum⟩ := drop_end hvX.out hmX.out hpre.out
        have l3 := lenS HX.rows.2.2.2.1
        have l4 := lenS HX.rows.2.2.2.2
        obtain ⟨N9, hN9⟩ : ∃ N, (cycL X).length = N := ⟨_, rfl⟩
        have hw : IntKind.i64.wrap ((N9 : Int) + (g3 : Int)) = (g4 : Int) := by
          rw [← hcy, hN9, l3, l4] at hsum
          rw [hsum]; exact IntWalk.i64_in _ (by have h9 := HX.rows.2.2.2.2.form; obtain ⟨_, _, e, _, h8⟩ := h9; cases e; unfold maxLen at h8; omega)
        have CV := implCountedValid_any wr.drew _ _ X HX.drew
        rw [hvX.out] at CV
        have CL := fun V (hb : Below wr.heap.size wr V) => implLive_any V _ _ X.C.h ((HX.below hb).cvn.1.hvS)
        rw [h0] at CL
        have CY := fun V (hb : Below wr.heap.size wr V) => (implCyclesOf_any V _ _ X (HX.below hb)).mono fun _ _ H => nr_len5 hN9 H
        have SO : ∀ w' : World, Below wr.heap.size wr w' → w'.cell? ⟨w2.heap.size, 0, none⟩ = some (.slice G0 g0 q0) ∧ w'.cell? ⟨w2.heap.size, 1, none⟩ = some (.slice G1 g1 q1) ∧ w'.cell? ⟨w2.heap.size, 2, none⟩ = some (.slice G2 g2 q2) ∧ w'.cell? ⟨w2.heap.size, 3, none⟩ = some (.slice G3 g3 q3) ∧ w'.cell? ⟨w2.heap.size, 4, none⟩ = some (.slice G4 g4 q4) := fun w' hb => ⟨(P.below hb).cells.1, (P.below hb).cells.2.1, (P.below hb).cells.2.2.1, (P.below hb).cells.2.2.2.1, (P.below hb).cells.2.2.2.2.1⟩
        clear h0 hcy hsum l3 l4 hN9 hl2 hmX hvX hpre hvE hm
        go_wp2_with fail
        go_region_held3 (fun w' => w'.cell? ⟨w2.heap.size, 0, none⟩ = some (.slice G0 g0 q0) ∧ w'.cell? ⟨w2.heap.size, 1, none⟩ = some (.slice G1 g1 q1) ∧ w'.cell? ⟨w2.heap.size, 2, none⟩ = some (.slice G2 g2 q2) ∧ w'.cell? ⟨w2.heap.size, 3, none⟩ = some (.slice G3 g3 q3) ∧ w'.cell? ⟨w2.heap.size, 4, none⟩ = some (.slice G4 g4 q4))
          (((try dsimp only); (refine SO _ ?_); (repeat (with_reducible (first | exact Below.refl _ _ | exact hR8 | exact hR7 | exact hR6 | refine B5_dr ?_ | refine B5_al ?_ _)))))
          (first
            | (go_at_call 20; (with_reducible refine CV.mono ?_); rintro e w6 ⟨rfl, hb6⟩; (have hR6 : Below wr.heap.size wr w6 := B5_th (B5_dr (Below.refl _ _)) hb6))
            | (go_at_call 43; (with_reducible refine (CL _ hR6).mono ?_); rintro e w7 ⟨rfl, hb7⟩; (have hR7 : Below wr.heap.size wr w7 := B5_th hR6 hb7))
            | (go_at_call 29; (with_reducible refine (CY _ hR7).mono ?_); rintro e w8 ⟨A9, k9, rfl, hb8⟩; (have hR8 : Below wr.heap.size wr w8 := B5_th hR7 hb8)))
        all_goals
          rename_i hHeld
          clear hHeld
          go_wp2_with fail
          go_ret
          exact ⟨rfl, B'.trans (hR8.mono B'.size)⟩
end Go.Proofs.Yteogflkahoanlaa
