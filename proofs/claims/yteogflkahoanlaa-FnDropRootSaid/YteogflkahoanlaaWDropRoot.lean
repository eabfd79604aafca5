/- The law FnDropRoot, walked. -/
import Derived.Test.YteogflkahoanlaaLaws0
import Derived.Test.YteogflkahoanlaaWrgDs
import Derived.Test.YteogflkahoanlaaDropI
import Derived.Test.YteogflkahoanlaaDropS
import Derived.Test.YteogflkahoanlaaShortD
import Derived.Test.YteogflkahoanlaaLinkDs
import Derived.Test.YteogflkahoanlaaIStos
namespace Go.Proofs.Yteogflkahoanlaa
open Go.RowKit

theorem set_same {l : List Int} {k : Nat} {x : Int} (h : l[k]? = some x) : l.set k x = l := by
  obtain ⟨hk, e⟩ := List.getElem?_eq_some_iff.1 h
  rw [← e]; exact List.set_getElem_self hk
theorem drop_parts {D E : Dp} {k : Int} (h : dropO D k = some E) : dpB D = true ∧ ∃ (j : Nat) (old : Int), k = j ∧ D.C.h.t[j]? = some old ∧ E = fin_ ⟨⟨D.C.h.l, D.C.h.r, D.C.h.t.set j (-1)⟩, D.C.c, D.n, [old]⟩ := by
  rcases e : (dpB D && plB k D.C.h.t.length)
  · unfold dropO at h; rw [e] at h; simp at h
  · rw [Bool.and_eq_true] at e
    obtain ⟨evd, evp⟩ := e
    have hk : 0 ≤ k ∧ k < D.C.h.t.length := by simpa [plB] using evp
    obtain ⟨j, rfl⟩ := Int.eq_ofNat_of_zero_le hk.1
    obtain ⟨old, hold⟩ : ∃ old, D.C.h.t[j]? = some old := ⟨_, List.getElem?_eq_getElem (by omega)⟩
    rw [dropO_some evd hold] at h
    cases h
    exact ⟨evd, j, old, rfl, hold, rfl⟩
theorem drop_root {D E : Dp} {k : Int} (h : dropO D k = some E) : ∃ j : Nat, k = j ∧ E.C.h.t[j]? = some (-1) := by
  obtain ⟨_, j, old, rfl, hold, rfl⟩ := drop_parts h
  exact ⟨j, rfl, by rw [fin_t]; simp [(List.getElem?_eq_some_iff.1 hold).1]⟩
theorem drop_twice {D E : Dp} {k : Int} (h : dropO D k = some E) : dropO E k = some E := by
  have hv := dropO_valid h
  obtain ⟨j, rfl, hj⟩ := drop_root h
  have I := drop_inv hv hj
  rw [set_same hj] at I
  rw [dropO_some hv hj, set_same hj, fin_cons I]
  have e : dn ⟨E.C.h.l, E.C.h.r, E.C.h.t⟩ E.C.c E.n (-1) [] = ⟨⟨E.C.h.l, E.C.h.r, E.C.h.t⟩, E.C.c, E.n, []⟩ := by unfold dn; rw [if_pos rfl]
  rw [e, fin_nil]
theorem dropO_facts {D E : Dp} {j : Nat} {old : Int} (h : dpB D = true) (hold : D.C.h.t[j]? = some old) (he : E = fin_ ⟨⟨D.C.h.l, D.C.h.r, D.C.h.t.set j (-1)⟩, D.C.c, D.n, [old]⟩) :
    D.C.c.length ≤ E.C.c.length ∧ E.n.length = D.n.length ∧ ∀ i : Nat, (D.n[i]? = some 0 → (i : Int) ∈ D.C.c) → E.n[i]? = some 0 → (i : Int) ∈ E.C.c := by
  have I := drop_inv h hold
  obtain ⟨hh, c, n, e, I2, q⟩ := fin_ind (fun S => D.C.c.length ≤ S.c.length ∧ S.n.length = D.n.length ∧ ∀ i : Nat, (D.n[i]? = some 0 → (i : Int) ∈ D.C.c) → S.n[i]? = some 0 → (i : Int) ∈ S.c) (by
    intro h c n x r I ⟨q1, q2, q3⟩
    unfold dn
    dsimp only at q1 q2 q3
    split
    · exact ⟨q1, q2, q3⟩
    · rename_i hx
      have hr := I.rng x (List.mem_cons_self ..)
      obtain ⟨k, rfl⟩ := Int.eq_ofNat_of_zero_le (by have := hr.1; omega : 0 ≤ x)
      rw [Int.toNat_natCast]
      split
      · rename_i h1
        refine ⟨by simp; omega, by simp; exact q2, fun i ha hi => ?_⟩
        dsimp only at hi ⊢
        by_cases hik : k = i
        · subst hik; simp
        · rw [List.getElem?_set_ne hik] at hi
          exact List.mem_append_left _ (q3 i ha hi)
      · rename_i h1
        refine ⟨q1, by simp; exact q2, fun i ha hi => ?_⟩
        dsimp only at hi ⊢
        by_cases hik : k = i
        · subst hik
          have hkl : k < n.length := by have := (List.getElem?_eq_some_iff.1 hi).1; simpa using this
          rw [List.getElem?_set_self hkl] at hi
          have := Option.some.inj hi
          have e : n.getD k 0 = n[k] := by simp [List.getD, List.getElem?_eq_getElem hkl]
          omega
        · rw [List.getElem?_set_ne hik] at hi
          exact q3 i ha hi) _ _ (Nat.le_refl _) I ⟨Nat.le_refl _, rfl, fun i ha hi => ha hi⟩
  rw [he, e]
  exact q
theorem free_zero8 {D : Dp} (h : dpB D = true) {x : Int} (hx : x ∈ D.C.c) : ∃ j : Nat, x = j ∧ D.n[j]? = some 0 := by
  obtain ⟨v, nl, _, cnt, cl, cf, cn⟩ := dp_inv h
  dsimp only at v nl cnt cl cf cn
  obtain ⟨fx, _⟩ := cf x hx
  obtain ⟨i, rfl⟩ := fr_nat fx
  obtain ⟨x1, x2, x3, x4, x5, x6⟩ := fr_iff.1 fx
  refine ⟨i, rfl, ?_⟩
  rw [cnt i x1, List.count_eq_zero.2 x4, List.count_eq_zero.2 x5, List.count_eq_zero.2 x6]; simp
theorem mem_free {C : Cp} {x : Int} (h : isFreeB C x = true) : x ∈ C.c := by
  unfold isFreeB at h
  rw [Bool.and_eq_true] at h
  simpa using h.2
theorem free_mem {D : Dp} (hv : dpB D = true) {x : Int} (h : isFreeB D.C x = false) : x ∉ D.C.c := fun hm => by
  unfold isFreeB at h
  rw [(dpB_iff.1 hv).1] at h
  simp [hm] at h
theorem cv_of7 {w : World} {lo : Nat} {a b c d e : Value} {D : Dp} (h : Dv w lo (.agg #[a, b, c, d, e]) D) : Cv w lo (.agg #[a, b, c, d]) D.C := h.cvn.1

set_option maxRecDepth 100000 in
set_option maxHeartbeats 4000000 in
theorem lawDropRoot_walk (w : World) (A : Option Addr) (n c : Nat) (h : Inp w A n c) :
    Calls Try.prog 3 #[.slice A n c] w (LawTrue w) := by
  by_cases hbig : 1048576 < n
  · go_enter Try.func3, Try.ntmps3
    go_wp2_with fail
    go_ret
    exact ⟨rfl, Below.refl _ _⟩
  go_enter Try.func3, Try.ntmps3
  go_wp2_with fail
  refine (drawDropRoot_any _ _ _ _ h).mono ?_; rintro e w1 ⟨v, D, x, rfl, HA, hb1⟩
  have BW1 : Below w.heap.size w w1 := (Below.refl w.heap.size w).trans (hb1.mono (Below.refl w.heap.size w).size)
  have zz1 : w.heap.size ≤ w1.heap.size := hb1.size
  have HAo := HA
  obtain ⟨A0, n0, c0, A1, n1, c1, A2, n2, c2, A3, n3, c3, A4, n4, c4, rfl, -⟩ := HAo.open_
  clear HAo
  have I := fun W lo v hW => implDropRoot_any W lo v D hW x
  have S := fun W lo v hW => specDropRoot_any W lo v D hW x
  rcases ho : dropO D x with _ | E
  · rw [ho] at I S
    go_wp2_with fail
    refine (I _ _ _ (HA.alloc (.cells #[.slice A0 n0 c0, .slice A1 n1 c1, .slice A2 n2 c2, .slice A3 n3 c3, .slice A4 n4 c4] 29))).mono ?_; rintro e w2 ⟨vHB, rfl, HB, hb2⟩
    simp only [Option.isSome_none, Option.getD_none] at HB ⊢
    have HBo := HB
    obtain ⟨B0, k0, d0, B1, k1, d1, B2, k2, d2, B3, k3, d3, B4, k4, d4, rfl, -⟩ := HBo.open_
    clear HBo
    have BW2 : Below w.heap.size w w2 := (BW1.alloc BW1.size (.cells #[.slice A0 n0 c0, .slice A1 n1 c1, .slice A2 n2 c2, .slice A3 n3 c3, .slice A4 n4 c4] 29)).trans (hb2.mono (BW1.alloc BW1.size (.cells #[.slice A0 n0 c0, .slice A1 n1 c1, .slice A2 n2 c2, .slice A3 n3 c3, .slice A4 n4 c4] 29)).size)
    have zz2 : w1.heap.size + 1 ≤ w2.heap.size := by have := hb2.size; simp at this; omega
    have HA_2 := Dv.below (by exact (HA.alloc (.cells #[.slice A0 n0 c0, .slice A1 n1 c1, .slice A2 n2 c2, .slice A3 n3 c3, .slice A4 n4 c4] 29))) hb2
    have X_2 := Blk5.below (by exact (Blk5.new w1 (.slice A0 n0 c0) (.slice A1 n1 c1) (.slice A2 n2 c2) (.slice A3 n3 c3) (.slice A4 n4 c4) 29)) hb2
    obtain ⟨cX_2_0, cX_2_1, cX_2_2, cX_2_3, cX_2_4, -⟩ := X_2.cells
    have lX_2 := X_2.lt
    go_wp2_with fail
    refine (S _ _ _ (HA_2.alloc (.cells #[.slice B0 k0 d0, .slice B1 k1 d1, .slice B2 k2 d2, .slice B3 k3 d3, .slice B4 k4 d4] 29))).mono ?_; rintro e w3 ⟨vHC, rfl, HC, hb3⟩
    simp only [Option.isSome_none, Option.getD_none] at HC ⊢
    have HCo := HC
    obtain ⟨K0, m0, e0, K1, m1, e1, K2, m2, e2, K3, m3, e3, K4, m4, e4, rfl, -⟩ := HCo.open_
    clear HCo
    have BW3 : Below w.heap.size w w3 := (BW2.alloc BW2.size (.cells #[.slice B0 k0 d0, .slice B1 k1 d1, .slice B2 k2 d2, .slice B3 k3 d3, .slice B4 k4 d4] 29)).trans (hb3.mono (BW2.alloc BW2.size (.cells #[.slice B0 k0 d0, .slice B1 k1 d1, .slice B2 k2 d2, .slice B3 k3 d3, .slice B4 k4 d4] 29)).size)
    have zz3 : w2.heap.size + 1 ≤ w3.heap.size := by have := hb3.size; simp at this; omega
    have HA_3 := Dv.below (by exact (HA_2.alloc (.cells #[.slice B0 k0 d0, .slice B1 k1 d1, .slice B2 k2 d2, .slice B3 k3 d3, .slice B4 k4 d4] 29))) hb3
    have X_3 := Blk5.below (by exact (X_2.alloc (.cells #[.slice B0 k0 d0, .slice B1 k1 d1, .slice B2 k2 d2, .slice B3 k3 d3, .slice B4 k4 d4] 29))) hb3
    obtain ⟨cX_3_0, cX_3_1, cX_3_2, cX_3_3, cX_3_4, -⟩ := X_3.cells
    have lX_3 := X_3.lt
    have HB_3 := Dv.below (by exact (HB.alloc (.cells #[.slice B0 k0 d0, .slice B1 k1 d1, .slice B2 k2 d2, .slice B3 k3 d3, .slice B4 k4 d4] 29))) hb3
    have P_3 := Blk5.below (by exact (Blk5.new w2 (.slice B0 k0 d0) (.slice B1 k1 d1) (.slice B2 k2 d2) (.slice B3 k3 d3) (.slice B4 k4 d4) 29)) hb3
    obtain ⟨cP_3_0, cP_3_1, cP_3_2, cP_3_3, cP_3_4, -⟩ := P_3.cells
    have lP_3 := P_3.lt
    have E1 := implCountedSame_any _ _ _ _ _ _ _ (HB_3.alloc (.cells #[.slice K0 m0 e0, .slice K1 m1 e1, .slice K2 m2 e2, .slice K3 m3 e3, .slice K4 m4 e4] 29)) (HC.alloc (.cells #[.slice K0 m0 e0, .slice K1 m1 e1, .slice K2 m2 e2, .slice K3 m3 e3, .slice K4 m4 e4] 29))
    rw [sameD_self] at E1
    go_wp2_with fail
    refine (E1).mono ?_; rintro e w4 ⟨rfl, hb4⟩
    have BW4 : Below w.heap.size w w4 := (BW3.alloc BW3.size (.cells #[.slice K0 m0 e0, .slice K1 m1 e1, .slice K2 m2 e2, .slice K3 m3 e3, .slice K4 m4 e4] 29)).trans (hb4.mono (BW3.alloc BW3.size (.cells #[.slice K0 m0 e0, .slice K1 m1 e1, .slice K2 m2 e2, .slice K3 m3 e3, .slice K4 m4 e4] 29)).size)
    have zz4 : w3.heap.size + 1 ≤ w4.heap.size := by have := hb4.size; simp at this; omega
    have HA_4 := Dv.below (by exact (HA_3.alloc (.cells #[.slice K0 m0 e0, .slice K1 m1 e1, .slice K2 m2 e2, .slice K3 m3 e3, .slice K4 m4 e4] 29))) hb4
    have X_4 := Blk5.below (by exact (X_3.alloc (.cells #[.slice K0 m0 e0, .slice K1 m1 e1, .slice K2 m2 e2, .slice K3 m3 e3, .slice K4 m4 e4] 29))) hb4
    obtain ⟨cX_4_0, cX_4_1, cX_4_2, cX_4_3, cX_4_4, -⟩ := X_4.cells
    have lX_4 := X_4.lt
    have HB_4 := Dv.below (by exact (HB_3.alloc (.cells #[.slice K0 m0 e0, .slice K1 m1 e1, .slice K2 m2 e2, .slice K3 m3 e3, .slice K4 m4 e4] 29))) hb4
    have P_4 := Blk5.below (by exact (P_3.alloc (.cells #[.slice K0 m0 e0, .slice K1 m1 e1, .slice K2 m2 e2, .slice K3 m3 e3, .slice K4 m4 e4] 29))) hb4
    obtain ⟨cP_4_0, cP_4_1, cP_4_2, cP_4_3, cP_4_4, -⟩ := P_4.cells
    have lP_4 := P_4.lt
    have HC_4 := Dv.below (by exact (HC.alloc (.cells #[.slice K0 m0 e0, .slice K1 m1 e1, .slice K2 m2 e2, .slice K3 m3 e3, .slice K4 m4 e4] 29))) hb4
    have Q_4 := Blk5.below (by exact (Blk5.new w3 (.slice K0 m0 e0) (.slice K1 m1 e1) (.slice K2 m2 e2) (.slice K3 m3 e3) (.slice K4 m4 e4) 29)) hb4
    obtain ⟨cQ_4_0, cQ_4_1, cQ_4_2, cQ_4_3, cQ_4_4, -⟩ := Q_4.cells
    have lQ_4 := Q_4.lt
    have E2 := implCountedSame_any _ _ _ _ _ _ _ HB_4 HC_4
    rw [sameD_self] at E2
    go_wp2_with fail
    refine (E2).mono ?_; rintro e w5 ⟨rfl, hb5⟩
    have BW5 : Below w.heap.size w w5 := BW4.trans (hb5.mono BW4.size)
    have zz5 : w4.heap.size ≤ w5.heap.size := hb5.size
    have HA_5 := Dv.below (by exact HA_4) hb5
    have X_5 := Blk5.below (by exact X_4) hb5
    obtain ⟨cX_5_0, cX_5_1, cX_5_2, cX_5_3, cX_5_4, -⟩ := X_5.cells
    have lX_5 := X_5.lt
    have HB_5 := Dv.below (by exact HB_4) hb5
    have P_5 := Blk5.below (by exact P_4) hb5
    obtain ⟨cP_5_0, cP_5_1, cP_5_2, cP_5_3, cP_5_4, -⟩ := P_5.cells
    have lP_5 := P_5.lt
    have HC_5 := Dv.below (by exact HC_4) hb5
    have Q_5 := Blk5.below (by exact Q_4) hb5
    obtain ⟨cQ_5_0, cQ_5_1, cQ_5_2, cQ_5_3, cQ_5_4, -⟩ := Q_5.cells
    have lQ_5 := Q_5.lt
    go_wp2_with fail
    go_ret
    exact ⟨rfl, BW5⟩
  · rw [ho] at I S
    obtain ⟨hv, j, old, rfl, hold, hE⟩ := drop_parts ho
    have hvE := dropO_valid ho
    obtain ⟨j', ej, hroot⟩ := drop_root ho
    obtain rfl : j = j' := by omega
    obtain ⟨hlen, hnl, hagr⟩ := dropO_facts hv hold hE
    have VE := fun W lo v hW => implCountedValid_any W lo v E hW
    rw [hvE] at VE
    have IE := fun W lo v hW y => implIsFree_any W lo v E.C hW y
    have ID := fun W lo v hW y => implIsFree_any W lo v D.C hW y
    have fzE := fun (i : Nat) (hi : isFreeB E.C (i : Int) = true) => free_zero8 hvE (mem_free hi)
    have nfE := fun (i : Nat) (hi : isFreeB E.C (i : Int) = false) => free_mem hvE hi
    have nfD := fun (i : Nat) (hi : isFreeB D.C (i : Int) = true) => mem_free hi
    have hroot' := Lib.hid hroot
    clear ho hE hold hv hvE hroot ej
    go_wp2_with fail
    refine (I _ _ _ (HA.alloc (.cells #[.slice A0 n0 c0, .slice A1 n1 c1, .slice A2 n2 c2, .slice A3 n3 c3, .slice A4 n4 c4] 29))).mono ?_; rintro e w2 ⟨vHB, rfl, HB, hb2⟩
    simp only [Option.isSome_some, Option.getD_some] at HB ⊢
    have HBo := HB
    obtain ⟨B0, k0, d0, B1, k1, d1, B2, k2, d2, B3, k3, d3, B4, k4, d4, rfl, -⟩ := HBo.open_
    clear HBo
    have BW2 : Below w.heap.size w w2 := (BW1.alloc BW1.size (.cells #[.slice A0 n0 c0, .slice A1 n1 c1, .slice A2 n2 c2, .slice A3 n3 c3, .slice A4 n4 c4] 29)).trans (hb2.mono (BW1.alloc BW1.size (.cells #[.slice A0 n0 c0, .slice A1 n1 c1, .slice A2 n2 c2, .slice A3 n3 c3, .slice A4 n4 c4] 29)).size)
    have zz2 : w1.heap.size + 1 ≤ w2.heap.size := by have := hb2.size; simp at this; omega
    have HA_2 := Dv.below (by exact (HA.alloc (.cells #[.slice A0 n0 c0, .slice A1 n1 c1, .slice A2 n2 c2, .slice A3 n3 c3, .slice A4 n4 c4] 29))) hb2
    have X_2 := Blk5.below (by exact (Blk5.new w1 (.slice A0 n0 c0) (.slice A1 n1 c1) (.slice A2 n2 c2) (.slice A3 n3 c3) (.slice A4 n4 c4) 29)) hb2
    obtain ⟨cX_2_0, cX_2_1, cX_2_2, cX_2_3, cX_2_4, -⟩ := X_2.cells
    have lX_2 := X_2.lt
    go_wp2_with fail
    refine (S _ _ _ (HA_2.alloc (.cells #[.slice B0 k0 d0, .slice B1 k1 d1, .slice B2 k2 d2, .slice B3 k3 d3, .slice B4 k4 d4] 29))).mono ?_; rintro e w3 ⟨vHC, rfl, HC, hb3⟩
    simp only [Option.isSome_some, Option.getD_some] at HC ⊢
    have HCo := HC
    obtain ⟨K0, m0, e0, K1, m1, e1, K2, m2, e2, K3, m3, e3, K4, m4, e4, rfl, -⟩ := HCo.open_
    clear HCo
    have BW3 : Below w.heap.size w w3 := (BW2.alloc BW2.size (.cells #[.slice B0 k0 d0, .slice B1 k1 d1, .slice B2 k2 d2, .slice B3 k3 d3, .slice B4 k4 d4] 29)).trans (hb3.mono (BW2.alloc BW2.size (.cells #[.slice B0 k0 d0, .slice B1 k1 d1, .slice B2 k2 d2, .slice B3 k3 d3, .slice B4 k4 d4] 29)).size)
    have zz3 : w2.heap.size + 1 ≤ w3.heap.size := by have := hb3.size; simp at this; omega
    have HA_3 := Dv.below (by exact (HA_2.alloc (.cells #[.slice B0 k0 d0, .slice B1 k1 d1, .slice B2 k2 d2, .slice B3 k3 d3, .slice B4 k4 d4] 29))) hb3
    have X_3 := Blk5.below (by exact (X_2.alloc (.cells #[.slice B0 k0 d0, .slice B1 k1 d1, .slice B2 k2 d2, .slice B3 k3 d3, .slice B4 k4 d4] 29))) hb3
    obtain ⟨cX_3_0, cX_3_1, cX_3_2, cX_3_3, cX_3_4, -⟩ := X_3.cells
    have lX_3 := X_3.lt
    have HB_3 := Dv.below (by exact (HB.alloc (.cells #[.slice B0 k0 d0, .slice B1 k1 d1, .slice B2 k2 d2, .slice B3 k3 d3, .slice B4 k4 d4] 29))) hb3
    have P_3 := Blk5.below (by exact (Blk5.new w2 (.slice B0 k0 d0) (.slice B1 k1 d1) (.slice B2 k2 d2) (.slice B3 k3 d3) (.slice B4 k4 d4) 29)) hb3
    obtain ⟨cP_3_0, cP_3_1, cP_3_2, cP_3_3, cP_3_4, -⟩ := P_3.cells
    have lP_3 := P_3.lt
    have E1 := implCountedSame_any _ _ _ _ _ _ _ (HB_3.alloc (.cells #[.slice K0 m0 e0, .slice K1 m1 e1, .slice K2 m2 e2, .slice K3 m3 e3, .slice K4 m4 e4] 29)) (HC.alloc (.cells #[.slice K0 m0 e0, .slice K1 m1 e1, .slice K2 m2 e2, .slice K3 m3 e3, .slice K4 m4 e4] 29))
    rw [sameD_self] at E1
    go_wp2_with fail
    refine (E1).mono ?_; rintro e w4 ⟨rfl, hb4⟩
    have BW4 : Below w.heap.size w w4 := (BW3.alloc BW3.size (.cells #[.slice K0 m0 e0, .slice K1 m1 e1, .slice K2 m2 e2, .slice K3 m3 e3, .slice K4 m4 e4] 29)).trans (hb4.mono (BW3.alloc BW3.size (.cells #[.slice K0 m0 e0, .slice K1 m1 e1, .slice K2 m2 e2, .slice K3 m3 e3, .slice K4 m4 e4] 29)).size)
    have zz4 : w3.heap.size + 1 ≤ w4.heap.size := by have := hb4.size; simp at this; omega
    have HA_4 := Dv.below (by exact (HA_3.alloc (.cells #[.slice K0 m0 e0, .slice K1 m1 e1, .slice K2 m2 e2, .slice K3 m3 e3, .slice K4 m4 e4] 29))) hb4
    have X_4 := Blk5.below (by exact (X_3.alloc (.cells #[.slice K0 m0 e0, .slice K1 m1 e1, .slice K2 m2 e2, .slice K3 m3 e3, .slice K4 m4 e4] 29))) hb4
    obtain ⟨cX_4_0, cX_4_1, cX_4_2, cX_4_3, cX_4_4, -⟩ := X_4.cells
    have lX_4 := X_4.lt
    have HB_4 := Dv.below (by exact (HB_3.alloc (.cells #[.slice K0 m0 e0, .slice K1 m1 e1, .slice K2 m2 e2, .slice K3 m3 e3, .slice K4 m4 e4] 29))) hb4
    have P_4 := Blk5.below (by exact (P_3.alloc (.cells #[.slice K0 m0 e0, .slice K1 m1 e1, .slice K2 m2 e2, .slice K3 m3 e3, .slice K4 m4 e4] 29))) hb4
    obtain ⟨cP_4_0, cP_4_1, cP_4_2, cP_4_3, cP_4_4, -⟩ := P_4.cells
    have lP_4 := P_4.lt
    have HC_4 := Dv.below (by exact (HC.alloc (.cells #[.slice K0 m0 e0, .slice K1 m1 e1, .slice K2 m2 e2, .slice K3 m3 e3, .slice K4 m4 e4] 29))) hb4
    have Q_4 := Blk5.below (by exact (Blk5.new w3 (.slice K0 m0 e0) (.slice K1 m1 e1) (.slice K2 m2 e2) (.slice K3 m3 e3) (.slice K4 m4 e4) 29)) hb4
    obtain ⟨cQ_4_0, cQ_4_1, cQ_4_2, cQ_4_3, cQ_4_4, -⟩ := Q_4.cells
    have lQ_4 := Q_4.lt
    have rX := Dv.rows HA_4
    have rP := Dv.rows HB_4
    have eX3 := lenS rX.2.2.2.1
    have eX4 := lenS rX.2.2.2.2
    have eP3 := lenS rP.2.2.2.1
    have eP4 := lenS rP.2.2.2.2
    have hge : (k3 : Int) ≥ (n3 : Int) := by omega
    have e44 : n4 = k4 := by omega
    have hPm := rP.2.2.2.2.form
    have hk4 : k4 ≤ 9223372036854775807 := by obtain ⟨_, _, e, _, h9⟩ := hPm; cases e; unfold maxLen at h9; omega
    clear rX rP hlen eX3 eP3 hPm
    have S0 := (⟨X_4, P_4, HA_4.mono (Nat.zero_le _), HB_4.mono (Nat.zero_le _), BW4⟩ : Blk5 w4 w1.heap.size (.slice A0 n0 c0) (.slice A1 n1 c1) (.slice A2 n2 c2) (.slice A3 n3 c3) (.slice A4 n4 c4) 29 ∧ Blk5 w4 w2.heap.size (.slice B0 k0 d0) (.slice B1 k1 d1) (.slice B2 k2 d2) (.slice B3 k3 d3) (.slice B4 k4 d4) 29 ∧ Dv w4 0 (.agg #[.slice A0 n0 c0, .slice A1 n1 c1, .slice A2 n2 c2, .slice A3 n3 c3, .slice A4 n4 c4]) D ∧ Dv w4 0 (.agg #[.slice B0 k0 d0, .slice B1 k1 d1, .slice B2 k2 d2, .slice B3 k3 d3, .slice B4 k4 d4]) E ∧ Below w.heap.size w w4)
    go_wp2_with fail
    go_loopg [9] k4 (fun gk iv_ wr => ∃ i : Nat, iv_ = .int .i64 (i : Int) ∧ i ≤ k4 ∧ gk = k4 - i ∧ Blk5 wr w1.heap.size (.slice A0 n0 c0) (.slice A1 n1 c1) (.slice A2 n2 c2) (.slice A3 n3 c3) (.slice A4 n4 c4) 29 ∧ Blk5 wr w2.heap.size (.slice B0 k0 d0) (.slice B1 k1 d1) (.slice B2 k2 d2) (.slice B3 k3 d3) (.slice B4 k4 d4) 29 ∧ Dv wr 0 (.agg #[.slice A0 n0 c0, .slice A1 n1 c1, .slice A2 n2 c2, .slice A3 n3 c3, .slice A4 n4 c4]) D ∧ Dv wr 0 (.agg #[.slice B0 k0 d0, .slice B1 k1 d1, .slice B2 k2 d2, .slice B3 k3 d3, .slice B4 k4 d4]) E ∧ Below w.heap.size w wr)
    case atStart => exact ⟨0, rfl, Nat.zero_le _, rfl, S0⟩
    case round =>
      obtain ⟨i, rfl, hi, rfl, X, P, HA', HE', B'⟩ := hrel
      by_cases hlt : i < k4
      · have q1 : (i : Int) < (k4 : Int) := by omega
        have q1n : (i : Int) < (n4 : Int) := by omega
        obtain ⟨g, z, rfl, _, hgl, hz, hcy, -⟩ := HE'.rows.2.2.2.2.get (k := i) (by omega)
        have hz1 := hz.out
        have fz := fzE i
        have nf := nfE i
        have ag := hagr i
        have nd := nfD i
        obtain ⟨p0, p1, p2, p3, p4, -⟩ := P.cells
        rcases ef : isFreeB E.C (i : Int)
        · by_cases hz0 : z = 0
          · subst hz0
            obtain ⟨gd, zd, rfl, _, hgdl, hzd, hcd, -⟩ := HA'.rows.2.2.2.2.get (k := i) (by omega)
            have hzd1 := hzd.out
            have hnE := nf ef
            have hzd0 : zd = 0 := Classical.byContradiction fun hne => hnE (ag (fun h9 => by rw [hzd1] at h9; exact absurd (Option.some.inj h9) hne) hz1)
            subst hzd0
            have efd : isFreeB D.C (i : Int) = false := by
              rcases e9 : isFreeB D.C (i : Int) with _ | _
              · rfl
              · exact absurd (ag (fun _ => nd e9) hz1) hnE
            clear hz hz1 fz nf ag nd hzd hzd1 hnE
            have SO : ∀ w' : World, Below wr.heap.size wr w' → w'.cell? ⟨w1.heap.size, 0, none⟩ = some (.slice A0 n0 c0) ∧ w'.cell? ⟨w1.heap.size, 1, none⟩ = some (.slice A1 n1 c1) ∧ w'.cell? ⟨w1.heap.size, 2, none⟩ = some (.slice A2 n2 c2) ∧ w'.cell? ⟨w1.heap.size, 3, none⟩ = some (.slice A3 n3 c3) ∧ w'.cell? ⟨w1.heap.size, 4, none⟩ = some (.slice (some ⟨gd, 0, none⟩) n4 c4) ∧ w'.cell? ⟨w2.heap.size, 0, none⟩ = some (.slice B0 k0 d0) ∧ w'.cell? ⟨w2.heap.size, 1, none⟩ = some (.slice B1 k1 d1) ∧ w'.cell? ⟨w2.heap.size, 2, none⟩ = some (.slice B2 k2 d2) ∧ w'.cell? ⟨w2.heap.size, 3, none⟩ = some (.slice B3 k3 d3) ∧ w'.cell? ⟨w2.heap.size, 4, none⟩ = some (.slice (some ⟨g, 0, none⟩) k4 d4) ∧ w'.cell? ⟨g, i, none⟩ = some (.int .i64 0) ∧ w'.cell? ⟨gd, i, none⟩ = some (.int .i64 0) := fun w' hb => ⟨(X.below hb).cells.1, (X.below hb).cells.2.1, (X.below hb).cells.2.2.1, (X.below hb).cells.2.2.2.1, (X.below hb).cells.2.2.2.2.1, (P.below hb).cells.1, (P.below hb).cells.2.1, (P.below hb).cells.2.2.1, (P.below hb).cells.2.2.2.1, (P.below hb).cells.2.2.2.2.1, (World.cell?_of_block (w := wr) (a := ⟨g, i, none⟩) (hb.block g hgl)).trans hcy, (World.cell?_of_block (w := wr) (a := ⟨gd, i, none⟩) (hb.block gd hgdl)).trans hcd⟩
            have C1 := IE wr.drew _ _ (cv_of7 HE'.drew) (i : Int)
            have C2 := fun V (hb : Below wr.heap.size wr V) => ID V _ _ (cv_of7 (HA'.below hb)) (i : Int)
            rw [ef] at C1
            rw [efd] at C2
            go_wp2_with fail
            go_region_held3 (fun w' => w'.cell? ⟨w1.heap.size, 0, none⟩ = some (.slice A0 n0 c0) ∧ w'.cell? ⟨w1.heap.size, 1, none⟩ = some (.slice A1 n1 c1) ∧ w'.cell? ⟨w1.heap.size, 2, none⟩ = some (.slice A2 n2 c2) ∧ w'.cell? ⟨w1.heap.size, 3, none⟩ = some (.slice A3 n3 c3) ∧ w'.cell? ⟨w1.heap.size, 4, none⟩ = some (.slice (some ⟨gd, 0, none⟩) n4 c4) ∧ w'.cell? ⟨w2.heap.size, 0, none⟩ = some (.slice B0 k0 d0) ∧ w'.cell? ⟨w2.heap.size, 1, none⟩ = some (.slice B1 k1 d1) ∧ w'.cell? ⟨w2.heap.size, 2, none⟩ = some (.slice B2 k2 d2) ∧ w'.cell? ⟨w2.heap.size, 3, none⟩ = some (.slice B3 k3 d3) ∧ w'.cell? ⟨w2.heap.size, 4, none⟩ = some (.slice (some ⟨g, 0, none⟩) k4 d4) ∧ w'.cell? ⟨g, i, none⟩ = some (.int .i64 0) ∧ w'.cell? ⟨gd, i, none⟩ = some (.int .i64 0))
              (((try dsimp only); (refine SO _ ?_); (repeat (with_reducible (first | exact Below.refl _ _ | exact hR7 | exact hR6 | refine B5_dr ?_ | refine B5_al ?_ _)))))
              (first
                | (go_at_call_of 19 (Value.agg #[.slice B0 k0 d0, .slice B1 k1 d1, .slice B2 k2 d2, .slice B3 k3 d3]); (with_reducible refine C1.mono ?_); rintro e w6 ⟨rfl, hb6⟩; (have hR6 : Below wr.heap.size wr w6 := B5_th (B5_dr (Below.refl _ _)) hb6))
                | (go_at_call 19; (with_reducible refine (C2 _ hR6).mono ?_); rintro e w7 ⟨rfl, hb7⟩; (have hR7 : Below wr.heap.size wr w7 := B5_th hR6 hb7)))
            all_goals
              rename_i hHeld
              clear hHeld
              have X6 := X.below hR7
              have P6 := P.below hR7
              have A6 := HA'.below hR7
              have E6 := HE'.below hR7
              have B6 := B'.trans (hR7.mono B'.size)
              clear X P HA' HE' SO
              go_wp2_with fail
              go_roundg (k4 - (i + 1))
              case measure => omega
              case rel => exact ⟨i + 1, by go_num, by omega, rfl, X6, P6, A6, E6, B6⟩
          · have hz2 : (z == 0) = false := by simp [hz0]
            clear hz hz1 fz nf ag nd
            have SO : ∀ w' : World, Below wr.heap.size wr w' → w'.cell? ⟨w1.heap.size, 0, none⟩ = some (.slice A0 n0 c0) ∧ w'.cell? ⟨w1.heap.size, 1, none⟩ = some (.slice A1 n1 c1) ∧ w'.cell? ⟨w1.heap.size, 2, none⟩ = some (.slice A2 n2 c2) ∧ w'.cell? ⟨w1.heap.size, 3, none⟩ = some (.slice A3 n3 c3) ∧ w'.cell? ⟨w1.heap.size, 4, none⟩ = some (.slice A4 n4 c4) ∧ w'.cell? ⟨w2.heap.size, 0, none⟩ = some (.slice B0 k0 d0) ∧ w'.cell? ⟨w2.heap.size, 1, none⟩ = some (.slice B1 k1 d1) ∧ w'.cell? ⟨w2.heap.size, 2, none⟩ = some (.slice B2 k2 d2) ∧ w'.cell? ⟨w2.heap.size, 3, none⟩ = some (.slice B3 k3 d3) ∧ w'.cell? ⟨w2.heap.size, 4, none⟩ = some (.slice (some ⟨g, 0, none⟩) k4 d4) ∧ w'.cell? ⟨g, i, none⟩ = some (.int .i64 z) := fun w' hb => ⟨(X.below hb).cells.1, (X.below hb).cells.2.1, (X.below hb).cells.2.2.1, (X.below hb).cells.2.2.2.1, (X.below hb).cells.2.2.2.2.1, (P.below hb).cells.1, (P.below hb).cells.2.1, (P.below hb).cells.2.2.1, (P.below hb).cells.2.2.2.1, (P.below hb).cells.2.2.2.2.1, (World.cell?_of_block (w := wr) (a := ⟨g, i, none⟩) (hb.block g hgl)).trans hcy⟩
            have C1 := IE wr.drew _ _ (cv_of7 HE'.drew) (i : Int)
            rw [ef] at C1
            go_wp2_with fail
            refine wp_region_held_drew (S := fun w' => w'.cell? ⟨w1.heap.size, 0, none⟩ = some (.slice A0 n0 c0) ∧ w'.cell? ⟨w1.heap.size, 1, none⟩ = some (.slice A1 n1 c1) ∧ w'.cell? ⟨w1.heap.size, 2, none⟩ = some (.slice A2 n2 c2) ∧ w'.cell? ⟨w1.heap.size, 3, none⟩ = some (.slice A3 n3 c3) ∧ w'.cell? ⟨w1.heap.size, 4, none⟩ = some (.slice A4 n4 c4) ∧ w'.cell? ⟨w2.heap.size, 0, none⟩ = some (.slice B0 k0 d0) ∧ w'.cell? ⟨w2.heap.size, 1, none⟩ = some (.slice B1 k1 d1) ∧ w'.cell? ⟨w2.heap.size, 2, none⟩ = some (.slice B2 k2 d2) ∧ w'.cell? ⟨w2.heap.size, 3, none⟩ = some (.slice B3 k3 d3) ∧ w'.cell? ⟨w2.heap.size, 4, none⟩ = some (.slice (some ⟨g, 0, none⟩) k4 d4) ∧ w'.cell? ⟨g, i, none⟩ = some (.int .i64 z)) (by kernel_rfl) ?_ (fun hHeld => ?_)
            · exact SO wr.drew (B5_dr (Below.refl _ _))
            refine wpAnyH_take (i := 0) (oi := ?oib0) (v := ?vb0) ?hib0 (by kernel_rfl) (by kernel_rfl) (by kernel_rfl) ?hQb0 ?hyb0 (by assumption) ?_
            case hib0 => simp only [List.getElem?_toArray, List.getElem?_cons_zero]; rfl
            case hQb0 => exact fun _ _ _ h => h
            case hyb0 => refine Or.inl ⟨by rfl, ?_⟩; intro w9 hSw; (try dsimp only at hSw); go_simp; (try with_reducible rfl)
            try simp only [Act.put, List.setIfInBounds_toArray, List.set_cons_zero, List.set_cons_succ]
            refine wpAnyH_take (i := 1) (oi := ?oib1) (v := ?vb1) ?hib1 (by kernel_rfl) (by kernel_rfl) (by kernel_rfl) ?hQb1 ?hyb1 (by assumption) ?_
            case hib1 => simp only [List.getElem?_toArray, List.getElem?_cons_zero, List.getElem?_cons_succ]; rfl
            case hQb1 => exact fun _ _ _ h => h
            case hyb1 => refine Or.inl ⟨by rfl, ?_⟩; intro w9 hSw; (try dsimp only at hSw); go_simp; (try with_reducible rfl)
            try simp only [Act.put, List.setIfInBounds_toArray, List.set_cons_zero, List.set_cons_succ]
            refine wpAnyH_take (i := 2) (oi := ?oib2) (v := ?vb2) ?hib2 (by kernel_rfl) (by kernel_rfl) (by kernel_rfl) ?hQb2 ?hyb2 (by assumption) ?_
            case hib2 => simp only [List.getElem?_toArray, List.getElem?_cons_zero, List.getElem?_cons_succ]; rfl
            case hQb2 => exact fun _ _ _ h => h
            case hyb2 => refine Or.inl ⟨by rfl, ?_⟩; intro w9 hSw; (try dsimp only at hSw); go_simp; (try with_reducible rfl)
            try simp only [Act.put, List.setIfInBounds_toArray, List.set_cons_zero, List.set_cons_succ]
            refine wpAnyH_take (i := 3) (oi := ?oib3) (v := ?vb3) ?hib3 (by kernel_rfl) (by kernel_rfl) (by kernel_rfl) ?hQb3 ?hyb3 (by assumption) ?_
            case hib3 => simp only [List.getElem?_toArray, List.getElem?_cons_zero, List.getElem?_cons_succ]; rfl
            case hQb3 => exact fun _ _ _ h => h
            case hyb3 => refine Or.inl ⟨by rfl, ?_⟩; intro w9 hSw; (try dsimp only at hSw); go_simp; (try with_reducible rfl)
            try simp only [Act.put, List.setIfInBounds_toArray, List.set_cons_zero, List.set_cons_succ]
            refine wpAnyH_take (i := 4) (oi := ?oib4) (v := ?vb4) ?hib4 (by kernel_rfl) (by kernel_rfl) (by kernel_rfl) ?hQb4 ?hyb4 (by assumption) ?_
            case hib4 => simp only [List.getElem?_toArray, List.getElem?_cons_zero, List.getElem?_cons_succ]; rfl
            case hQb4 => exact fun _ _ _ h => h
            case hyb4 => refine Or.inl ⟨by rfl, ?_⟩; intro w9 hSw; (try dsimp only at hSw); go_simp; (try with_reducible rfl)
            try simp only [Act.put, List.setIfInBounds_toArray, List.set_cons_zero, List.set_cons_succ]
            refine wpAnyH_take (i := 5) (oi := ?oib5) (v := ?vb5) ?hib5 (by kernel_rfl) (by kernel_rfl) (by kernel_rfl) ?hQb5 ?hyb5 (by assumption) ?_
            case hib5 => simp only [List.getElem?_toArray, List.getElem?_cons_zero, List.getElem?_cons_succ]; rfl
            case hQb5 => exact fun _ _ _ h => h
            case hyb5 => refine Or.inl ⟨by rfl, ?_⟩; intro w9 hSw; (try dsimp only at hSw); go_simp; (try with_reducible rfl)
            try simp only [Act.put, List.setIfInBounds_toArray, List.set_cons_zero, List.set_cons_succ]
            refine wpAnyH_take (i := 6) (oi := ?oib6) (v := ?vb6) ?hib6 (by kernel_rfl) (by kernel_rfl) (by kernel_rfl) ?hQb6 ?hyb6 (by assumption) ?_
            case hib6 => simp only [List.getElem?_toArray, List.getElem?_cons_zero, List.getElem?_cons_succ]; rfl
            case hQb6 => exact fun _ _ _ h => h
            case hyb6 => refine Or.inl ⟨by rfl, ?_⟩; intro w9 hSw; (try dsimp only at hSw); go_simp; (try with_reducible rfl)
            try simp only [Act.put, List.setIfInBounds_toArray, List.set_cons_zero, List.set_cons_succ]
            refine wpAnyH_take (i := 7) (oi := ?oib7) (v := ?vb7) ?hib7 (by kernel_rfl) (by kernel_rfl) (by kernel_rfl) ?hQb7 ?hyb7 (by assumption) ?_
            case hib7 => simp only [List.getElem?_toArray, List.getElem?_cons_zero, List.getElem?_cons_succ]; rfl
            case hQb7 => exact fun _ _ _ h => h
            case hyb7 => refine Or.inl ⟨by rfl, ?_⟩; intro w9 hSw; (try dsimp only at hSw); go_simp; (try with_reducible rfl)
            try simp only [Act.put, List.setIfInBounds_toArray, List.set_cons_zero, List.set_cons_succ]
            refine wpAnyH_take (i := 8) (oi := ?oib8) (v := ?vb8) ?hib8 (by kernel_rfl) (by kernel_rfl) (by kernel_rfl) ?hQb8 ?hyb8 (by assumption) ?_
            case hib8 => simp only [List.getElem?_toArray, List.getElem?_cons_zero, List.getElem?_cons_succ]; rfl
            case hQb8 => exact fun _ _ _ h => h
            case hyb8 => refine Or.inl ⟨by rfl, ?_⟩; intro w9 hSw; (try dsimp only at hSw); go_simp; (try with_reducible rfl)
            try simp only [Act.put, List.setIfInBounds_toArray, List.set_cons_zero, List.set_cons_succ]
            refine wpAnyH_ready (rs := [9]) (by kernel_rfl) (by simp) ?_
            refine AllReadyH.cons (o := ?oob9) ?hob9 (fun K hK => ?_) AllReadyH.nil
            case hob9 => simp only [List.getElem?_toArray, List.getElem?_cons_zero, List.getElem?_cons_succ]; rfl
            go_simp
            refine C1.mono ?_; rintro e w6 ⟨rfl, hb6⟩
            have hR6 : Below wr.heap.size wr w6 := B5_th (B5_dr (Below.refl _ _)) hb6
            go_wp2_with fail
            refine hK.out _ _ ?hSb9 (fun hHeld9 => ?_)
            case hSb9 => exact SO w6 hR6
            clear hK K
            try simp only [Act.put, List.setIfInBounds_toArray, List.set_cons_zero, List.set_cons_succ]
            refine wpAnyH_take (i := 10) (oi := ?oib10) (v := ?vb10) ?hib10 (by kernel_rfl) (by kernel_rfl) (by kernel_rfl) ?hQb10 ?hyb10 (by assumption) ?_
            case hib10 => simp only [List.getElem?_toArray, List.getElem?_cons_zero, List.getElem?_cons_succ]; rfl
            case hQb10 => exact fun _ _ _ h => h
            case hyb10 => refine Or.inl ⟨by rfl, ?_⟩; intro w9 hSw; (try dsimp only at hSw); go_simp; (try with_reducible rfl)
            try simp only [Act.put, List.setIfInBounds_toArray, List.set_cons_zero, List.set_cons_succ]
            refine wpAnyH_take (i := 11) (oi := ?oib11) (v := ?vb11) ?hib11 (by kernel_rfl) (by kernel_rfl) (by kernel_rfl) ?hQb11 ?hyb11 (by assumption) ?_
            case hib11 => simp only [List.getElem?_toArray, List.getElem?_cons_zero, List.getElem?_cons_succ]; rfl
            case hQb11 => exact fun _ _ _ h => h
            case hyb11 => refine Or.inl ⟨by rfl, ?_⟩; intro w9 hSw; (try dsimp only at hSw); go_simp; (try with_reducible rfl)
            try simp only [Act.put, List.setIfInBounds_toArray, List.set_cons_zero, List.set_cons_succ]
            refine wpAnyH_take (i := 12) (oi := ?oib12) (v := undef) ?hib12 (by kernel_rfl) (by kernel_rfl) (by kernel_rfl) ?hQb12 ?hyb12 (by assumption) ?_
            case hib12 => simp only [List.getElem?_toArray, List.getElem?_cons_zero, List.getElem?_cons_succ]; rfl
            case hQb12 => exact fun _ _ _ h => h
            case hyb12 => exact Or.inr ⟨by rfl, rfl⟩
            try simp only [Act.put, List.setIfInBounds_toArray, List.set_cons_zero, List.set_cons_succ]
            refine wpAnyH_take (i := 13) (oi := ?oib13) (v := undef) ?hib13 (by kernel_rfl) (by kernel_rfl) (by kernel_rfl) ?hQb13 ?hyb13 (by assumption) ?_
            case hib13 => simp only [List.getElem?_toArray, List.getElem?_cons_zero, List.getElem?_cons_succ]; rfl
            case hQb13 => exact fun _ _ _ h => h
            case hyb13 => exact Or.inr ⟨by rfl, rfl⟩
            try simp only [Act.put, List.setIfInBounds_toArray, List.set_cons_zero, List.set_cons_succ]
            refine wpAnyH_take (i := 14) (oi := ?oib14) (v := undef) ?hib14 (by kernel_rfl) (by kernel_rfl) (by kernel_rfl) ?hQb14 ?hyb14 (by assumption) ?_
            case hib14 => simp only [List.getElem?_toArray, List.getElem?_cons_zero, List.getElem?_cons_succ]; rfl
            case hQb14 => exact fun _ _ _ h => h
            case hyb14 => exact Or.inr ⟨by rfl, rfl⟩
            try simp only [Act.put, List.setIfInBounds_toArray, List.set_cons_zero, List.set_cons_succ]
            refine wpAnyH_take (i := 15) (oi := ?oib15) (v := undef) ?hib15 (by kernel_rfl) (by kernel_rfl) (by kernel_rfl) ?hQb15 ?hyb15 (by assumption) ?_
            case hib15 => simp only [List.getElem?_toArray, List.getElem?_cons_zero, List.getElem?_cons_succ]; rfl
            case hQb15 => exact fun _ _ _ h => h
            case hyb15 => exact Or.inr ⟨by rfl, rfl⟩
            try simp only [Act.put, List.setIfInBounds_toArray, List.set_cons_zero, List.set_cons_succ]
            refine wpAnyH_take (i := 16) (oi := ?oib16) (v := undef) ?hib16 (by kernel_rfl) (by kernel_rfl) (by kernel_rfl) ?hQb16 ?hyb16 (by assumption) ?_
            case hib16 => simp only [List.getElem?_toArray, List.getElem?_cons_zero, List.getElem?_cons_succ]; rfl
            case hQb16 => exact fun _ _ _ h => h
            case hyb16 => exact Or.inr ⟨by rfl, rfl⟩
            try simp only [Act.put, List.setIfInBounds_toArray, List.set_cons_zero, List.set_cons_succ]
            refine wpAnyH_take (i := 17) (oi := ?oib17) (v := undef) ?hib17 (by kernel_rfl) (by kernel_rfl) (by kernel_rfl) ?hQb17 ?hyb17 (by assumption) ?_
            case hib17 => simp only [List.getElem?_toArray, List.getElem?_cons_zero, List.getElem?_cons_succ]; rfl
            case hQb17 => exact fun _ _ _ h => h
            case hyb17 => exact Or.inr ⟨by rfl, rfl⟩
            try simp only [Act.put, List.setIfInBounds_toArray, List.set_cons_zero, List.set_cons_succ]
            refine wpAnyH_take (i := 18) (oi := ?oib18) (v := undef) ?hib18 (by kernel_rfl) (by kernel_rfl) (by kernel_rfl) ?hQb18 ?hyb18 (by assumption) ?_
            case hib18 => simp only [List.getElem?_toArray, List.getElem?_cons_zero, List.getElem?_cons_succ]; rfl
            case hQb18 => exact fun _ _ _ h => h
            case hyb18 => exact Or.inr ⟨by rfl, rfl⟩
            try simp only [Act.put, List.setIfInBounds_toArray, List.set_cons_zero, List.set_cons_succ]
            refine wpAnyH_take (i := 19) (oi := ?oib19) (v := undef) ?hib19 (by kernel_rfl) (by kernel_rfl) (by kernel_rfl) ?hQb19 ?hyb19 (by assumption) ?_
            case hib19 => simp only [List.getElem?_toArray, List.getElem?_cons_zero, List.getElem?_cons_succ]; rfl
            case hQb19 => exact fun _ _ _ h => h
            case hyb19 => exact Or.inr ⟨by rfl, rfl⟩
            try simp only [Act.put, List.setIfInBounds_toArray, List.set_cons_zero, List.set_cons_succ]
            refine wpAnyH_take (i := 20) (oi := ?oib20) (v := undef) ?hib20 (by kernel_rfl) (by kernel_rfl) (by kernel_rfl) ?hQb20 ?hyb20 (by assumption) ?_
            case hib20 => simp only [List.getElem?_toArray, List.getElem?_cons_zero, List.getElem?_cons_succ]; rfl
            case hQb20 => exact fun _ _ _ h => h
            case hyb20 => exact Or.inr ⟨by rfl, rfl⟩
            try simp only [Act.put, List.setIfInBounds_toArray, List.set_cons_zero, List.set_cons_succ]
            refine wpAnyH_take (i := 21) (oi := ?oib21) (v := undef) ?hib21 (by kernel_rfl) (by kernel_rfl) (by kernel_rfl) ?hQb21 ?hyb21 (by assumption) ?_
            case hib21 => simp only [List.getElem?_toArray, List.getElem?_cons_zero, List.getElem?_cons_succ]; rfl
            case hQb21 => exact fun _ _ _ h => h
            case hyb21 => exact Or.inr ⟨by rfl, rfl⟩
            try simp only [Act.put, List.setIfInBounds_toArray, List.set_cons_zero, List.set_cons_succ]
            refine wpAnyH_take (i := 22) (oi := ?oib22) (v := undef) ?hib22 (by kernel_rfl) (by kernel_rfl) (by kernel_rfl) ?hQb22 ?hyb22 (by assumption) ?_
            case hib22 => simp only [List.getElem?_toArray, List.getElem?_cons_zero, List.getElem?_cons_succ]; rfl
            case hQb22 => exact fun _ _ _ h => h
            case hyb22 => exact Or.inr ⟨by rfl, rfl⟩
            try simp only [Act.put, List.setIfInBounds_toArray, List.set_cons_zero, List.set_cons_succ]
            refine wpAnyH_take (i := 23) (oi := ?oib23) (v := ?vb23) ?hib23 (by kernel_rfl) (by kernel_rfl) (by kernel_rfl) ?hQb23 ?hyb23 (by assumption) ?_
            case hib23 => simp only [List.getElem?_toArray, List.getElem?_cons_zero, List.getElem?_cons_succ]; rfl
            case hQb23 => exact fun _ _ _ h => h
            case hyb23 => refine Or.inl ⟨by rfl, ?_⟩; intro w9 hSw; (try dsimp only at hSw); go_simp; (try with_reducible rfl)
            try simp only [Act.put, List.setIfInBounds_toArray, List.set_cons_zero, List.set_cons_succ]
            refine wpAnyH_done (by kernel_rfl) ?_ _
            have X6 := X.below hR6
            have P6 := P.below hR6
            have A6 := HA'.below hR6
            have E6 := HE'.below hR6
            have B6 := B'.trans (hR6.mono B'.size)
            clear X P HA' HE' SO
            go_wp2_with fail
            go_roundg (k4 - (i + 1))
            case measure => omega
            case rel => exact ⟨i + 1, by go_num, by omega, rfl, X6, P6, A6, E6, B6⟩
        · obtain ⟨i', ei, hz9⟩ := fz ef
          obtain rfl : i = i' := by omega
          obtain rfl : z = 0 := by rw [hz1] at hz9; exact Option.some.inj hz9
          clear hz hz1 fz nf ag nd ei hz9
          have SO : ∀ w' : World, Below wr.heap.size wr w' → w'.cell? ⟨w1.heap.size, 0, none⟩ = some (.slice A0 n0 c0) ∧ w'.cell? ⟨w1.heap.size, 1, none⟩ = some (.slice A1 n1 c1) ∧ w'.cell? ⟨w1.heap.size, 2, none⟩ = some (.slice A2 n2 c2) ∧ w'.cell? ⟨w1.heap.size, 3, none⟩ = some (.slice A3 n3 c3) ∧ w'.cell? ⟨w1.heap.size, 4, none⟩ = some (.slice A4 n4 c4) ∧ w'.cell? ⟨w2.heap.size, 0, none⟩ = some (.slice B0 k0 d0) ∧ w'.cell? ⟨w2.heap.size, 1, none⟩ = some (.slice B1 k1 d1) ∧ w'.cell? ⟨w2.heap.size, 2, none⟩ = some (.slice B2 k2 d2) ∧ w'.cell? ⟨w2.heap.size, 3, none⟩ = some (.slice B3 k3 d3) ∧ w'.cell? ⟨w2.heap.size, 4, none⟩ = some (.slice (some ⟨g, 0, none⟩) k4 d4) ∧ w'.cell? ⟨g, i, none⟩ = some (.int .i64 0) := fun w' hb => ⟨(X.below hb).cells.1, (X.below hb).cells.2.1, (X.below hb).cells.2.2.1, (X.below hb).cells.2.2.2.1, (X.below hb).cells.2.2.2.2.1, (P.below hb).cells.1, (P.below hb).cells.2.1, (P.below hb).cells.2.2.1, (P.below hb).cells.2.2.2.1, (P.below hb).cells.2.2.2.2.1, (World.cell?_of_block (w := wr) (a := ⟨g, i, none⟩) (hb.block g hgl)).trans hcy⟩
          have C1 := IE wr.drew _ _ (cv_of7 HE'.drew) (i : Int)
          rw [ef] at C1
          go_wp2_with fail
          refine wp_region_held_drew (S := fun w' => w'.cell? ⟨w1.heap.size, 0, none⟩ = some (.slice A0 n0 c0) ∧ w'.cell? ⟨w1.heap.size, 1, none⟩ = some (.slice A1 n1 c1) ∧ w'.cell? ⟨w1.heap.size, 2, none⟩ = some (.slice A2 n2 c2) ∧ w'.cell? ⟨w1.heap.size, 3, none⟩ = some (.slice A3 n3 c3) ∧ w'.cell? ⟨w1.heap.size, 4, none⟩ = some (.slice A4 n4 c4) ∧ w'.cell? ⟨w2.heap.size, 0, none⟩ = some (.slice B0 k0 d0) ∧ w'.cell? ⟨w2.heap.size, 1, none⟩ = some (.slice B1 k1 d1) ∧ w'.cell? ⟨w2.heap.size, 2, none⟩ = some (.slice B2 k2 d2) ∧ w'.cell? ⟨w2.heap.size, 3, none⟩ = some (.slice B3 k3 d3) ∧ w'.cell? ⟨w2.heap.size, 4, none⟩ = some (.slice (some ⟨g, 0, none⟩) k4 d4) ∧ w'.cell? ⟨g, i, none⟩ = some (.int .i64 0)) (by kernel_rfl) ?_ (fun hHeld => ?_)
          · exact SO wr.drew (B5_dr (Below.refl _ _))
          refine wpAnyH_take (i := 0) (oi := ?oia0) (v := ?va0) ?hia0 (by kernel_rfl) (by kernel_rfl) (by kernel_rfl) ?hQa0 ?hya0 (by assumption) ?_
          case hia0 => simp only [List.getElem?_toArray, List.getElem?_cons_zero]; rfl
          case hQa0 => exact fun _ _ _ h => h
          case hya0 => refine Or.inl ⟨by rfl, ?_⟩; intro w9 hSw; (try dsimp only at hSw); go_simp; (try with_reducible rfl)
          try simp only [Act.put, List.setIfInBounds_toArray, List.set_cons_zero, List.set_cons_succ]
          refine wpAnyH_take (i := 1) (oi := ?oia1) (v := ?va1) ?hia1 (by kernel_rfl) (by kernel_rfl) (by kernel_rfl) ?hQa1 ?hya1 (by assumption) ?_
          case hia1 => simp only [List.getElem?_toArray, List.getElem?_cons_zero, List.getElem?_cons_succ]; rfl
          case hQa1 => exact fun _ _ _ h => h
          case hya1 => refine Or.inl ⟨by rfl, ?_⟩; intro w9 hSw; (try dsimp only at hSw); go_simp; (try with_reducible rfl)
          try simp only [Act.put, List.setIfInBounds_toArray, List.set_cons_zero, List.set_cons_succ]
          refine wpAnyH_take (i := 2) (oi := ?oia2) (v := ?va2) ?hia2 (by kernel_rfl) (by kernel_rfl) (by kernel_rfl) ?hQa2 ?hya2 (by assumption) ?_
          case hia2 => simp only [List.getElem?_toArray, List.getElem?_cons_zero, List.getElem?_cons_succ]; rfl
          case hQa2 => exact fun _ _ _ h => h
          case hya2 => refine Or.inl ⟨by rfl, ?_⟩; intro w9 hSw; (try dsimp only at hSw); go_simp; (try with_reducible rfl)
          try simp only [Act.put, List.setIfInBounds_toArray, List.set_cons_zero, List.set_cons_succ]
          refine wpAnyH_take (i := 3) (oi := ?oia3) (v := ?va3) ?hia3 (by kernel_rfl) (by kernel_rfl) (by kernel_rfl) ?hQa3 ?hya3 (by assumption) ?_
          case hia3 => simp only [List.getElem?_toArray, List.getElem?_cons_zero, List.getElem?_cons_succ]; rfl
          case hQa3 => exact fun _ _ _ h => h
          case hya3 => refine Or.inl ⟨by rfl, ?_⟩; intro w9 hSw; (try dsimp only at hSw); go_simp; (try with_reducible rfl)
          try simp only [Act.put, List.setIfInBounds_toArray, List.set_cons_zero, List.set_cons_succ]
          refine wpAnyH_take (i := 4) (oi := ?oia4) (v := ?va4) ?hia4 (by kernel_rfl) (by kernel_rfl) (by kernel_rfl) ?hQa4 ?hya4 (by assumption) ?_
          case hia4 => simp only [List.getElem?_toArray, List.getElem?_cons_zero, List.getElem?_cons_succ]; rfl
          case hQa4 => exact fun _ _ _ h => h
          case hya4 => refine Or.inl ⟨by rfl, ?_⟩; intro w9 hSw; (try dsimp only at hSw); go_simp; (try with_reducible rfl)
          try simp only [Act.put, List.setIfInBounds_toArray, List.set_cons_zero, List.set_cons_succ]
          refine wpAnyH_take (i := 5) (oi := ?oia5) (v := ?va5) ?hia5 (by kernel_rfl) (by kernel_rfl) (by kernel_rfl) ?hQa5 ?hya5 (by assumption) ?_
          case hia5 => simp only [List.getElem?_toArray, List.getElem?_cons_zero, List.getElem?_cons_succ]; rfl
          case hQa5 => exact fun _ _ _ h => h
          case hya5 => refine Or.inl ⟨by rfl, ?_⟩; intro w9 hSw; (try dsimp only at hSw); go_simp; (try with_reducible rfl)
          try simp only [Act.put, List.setIfInBounds_toArray, List.set_cons_zero, List.set_cons_succ]
          refine wpAnyH_take (i := 6) (oi := ?oia6) (v := ?va6) ?hia6 (by kernel_rfl) (by kernel_rfl) (by kernel_rfl) ?hQa6 ?hya6 (by assumption) ?_
          case hia6 => simp only [List.getElem?_toArray, List.getElem?_cons_zero, List.getElem?_cons_succ]; rfl
          case hQa6 => exact fun _ _ _ h => h
          case hya6 => refine Or.inl ⟨by rfl, ?_⟩; intro w9 hSw; (try dsimp only at hSw); go_simp; (try with_reducible rfl)
          try simp only [Act.put, List.setIfInBounds_toArray, List.set_cons_zero, List.set_cons_succ]
          refine wpAnyH_take (i := 7) (oi := ?oia7) (v := ?va7) ?hia7 (by kernel_rfl) (by kernel_rfl) (by kernel_rfl) ?hQa7 ?hya7 (by assumption) ?_
          case hia7 => simp only [List.getElem?_toArray, List.getElem?_cons_zero, List.getElem?_cons_succ]; rfl
          case hQa7 => exact fun _ _ _ h => h
          case hya7 => refine Or.inl ⟨by rfl, ?_⟩; intro w9 hSw; (try dsimp only at hSw); go_simp; (try with_reducible rfl)
          try simp only [Act.put, List.setIfInBounds_toArray, List.set_cons_zero, List.set_cons_succ]
          refine wpAnyH_take (i := 8) (oi := ?oia8) (v := ?va8) ?hia8 (by kernel_rfl) (by kernel_rfl) (by kernel_rfl) ?hQa8 ?hya8 (by assumption) ?_
          case hia8 => simp only [List.getElem?_toArray, List.getElem?_cons_zero, List.getElem?_cons_succ]; rfl
          case hQa8 => exact fun _ _ _ h => h
          case hya8 => refine Or.inl ⟨by rfl, ?_⟩; intro w9 hSw; (try dsimp only at hSw); go_simp; (try with_reducible rfl)
          try simp only [Act.put, List.setIfInBounds_toArray, List.set_cons_zero, List.set_cons_succ]
          refine wpAnyH_ready (rs := [9]) (by kernel_rfl) (by simp) ?_
          refine AllReadyH.cons (o := ?ooa9) ?hoa9 (fun K hK => ?_) AllReadyH.nil
          case hoa9 => simp only [List.getElem?_toArray, List.getElem?_cons_zero, List.getElem?_cons_succ]; rfl
          go_simp
          refine C1.mono ?_; rintro e w6 ⟨rfl, hb6⟩
          have hR6 : Below wr.heap.size wr w6 := B5_th (B5_dr (Below.refl _ _)) hb6
          go_wp2_with fail
          refine hK.out _ _ ?hSa9 (fun hHeld9 => ?_)
          case hSa9 => exact SO w6 hR6
          clear hK K
          try simp only [Act.put, List.setIfInBounds_toArray, List.set_cons_zero, List.set_cons_succ]
          refine wpAnyH_take (i := 10) (oi := ?oia10) (v := ?va10) ?hia10 (by kernel_rfl) (by kernel_rfl) (by kernel_rfl) ?hQa10 ?hya10 (by assumption) ?_
          case hia10 => simp only [List.getElem?_toArray, List.getElem?_cons_zero, List.getElem?_cons_succ]; rfl
          case hQa10 => exact fun _ _ _ h => h
          case hya10 => refine Or.inl ⟨by rfl, ?_⟩; intro w9 hSw; (try dsimp only at hSw); go_simp; (try with_reducible rfl)
          try simp only [Act.put, List.setIfInBounds_toArray, List.set_cons_zero, List.set_cons_succ]
          refine wpAnyH_take (i := 11) (oi := ?oia11) (v := ?va11) ?hia11 (by kernel_rfl) (by kernel_rfl) (by kernel_rfl) ?hQa11 ?hya11 (by assumption) ?_
          case hia11 => simp only [List.getElem?_toArray, List.getElem?_cons_zero, List.getElem?_cons_succ]; rfl
          case hQa11 => exact fun _ _ _ h => h
          case hya11 => refine Or.inl ⟨by rfl, ?_⟩; intro w9 hSw; (try dsimp only at hSw); go_simp; (try with_reducible rfl)
          try simp only [Act.put, List.setIfInBounds_toArray, List.set_cons_zero, List.set_cons_succ]
          refine wpAnyH_take (i := 12) (oi := ?oia12) (v := undef) ?hia12 (by kernel_rfl) (by kernel_rfl) (by kernel_rfl) ?hQa12 ?hya12 (by assumption) ?_
          case hia12 => simp only [List.getElem?_toArray, List.getElem?_cons_zero, List.getElem?_cons_succ]; rfl
          case hQa12 => exact fun _ _ _ h => h
          case hya12 => exact Or.inr ⟨by rfl, rfl⟩
          try simp only [Act.put, List.setIfInBounds_toArray, List.set_cons_zero, List.set_cons_succ]
          refine wpAnyH_take (i := 13) (oi := ?oia13) (v := undef) ?hia13 (by kernel_rfl) (by kernel_rfl) (by kernel_rfl) ?hQa13 ?hya13 (by assumption) ?_
          case hia13 => simp only [List.getElem?_toArray, List.getElem?_cons_zero, List.getElem?_cons_succ]; rfl
          case hQa13 => exact fun _ _ _ h => h
          case hya13 => exact Or.inr ⟨by rfl, rfl⟩
          try simp only [Act.put, List.setIfInBounds_toArray, List.set_cons_zero, List.set_cons_succ]
          refine wpAnyH_take (i := 14) (oi := ?oia14) (v := undef) ?hia14 (by kernel_rfl) (by kernel_rfl) (by kernel_rfl) ?hQa14 ?hya14 (by assumption) ?_
          case hia14 => simp only [List.getElem?_toArray, List.getElem?_cons_zero, List.getElem?_cons_succ]; rfl
          case hQa14 => exact fun _ _ _ h => h
          case hya14 => exact Or.inr ⟨by rfl, rfl⟩
          try simp only [Act.put, List.setIfInBounds_toArray, List.set_cons_zero, List.set_cons_succ]
          refine wpAnyH_take (i := 15) (oi := ?oia15) (v := undef) ?hia15 (by kernel_rfl) (by kernel_rfl) (by kernel_rfl) ?hQa15 ?hya15 (by assumption) ?_
          case hia15 => simp only [List.getElem?_toArray, List.getElem?_cons_zero, List.getElem?_cons_succ]; rfl
          case hQa15 => exact fun _ _ _ h => h
          case hya15 => exact Or.inr ⟨by rfl, rfl⟩
          try simp only [Act.put, List.setIfInBounds_toArray, List.set_cons_zero, List.set_cons_succ]
          refine wpAnyH_take (i := 16) (oi := ?oia16) (v := undef) ?hia16 (by kernel_rfl) (by kernel_rfl) (by kernel_rfl) ?hQa16 ?hya16 (by assumption) ?_
          case hia16 => simp only [List.getElem?_toArray, List.getElem?_cons_zero, List.getElem?_cons_succ]; rfl
          case hQa16 => exact fun _ _ _ h => h
          case hya16 => exact Or.inr ⟨by rfl, rfl⟩
          try simp only [Act.put, List.setIfInBounds_toArray, List.set_cons_zero, List.set_cons_succ]
          refine wpAnyH_take (i := 17) (oi := ?oia17) (v := undef) ?hia17 (by kernel_rfl) (by kernel_rfl) (by kernel_rfl) ?hQa17 ?hya17 (by assumption) ?_
          case hia17 => simp only [List.getElem?_toArray, List.getElem?_cons_zero, List.getElem?_cons_succ]; rfl
          case hQa17 => exact fun _ _ _ h => h
          case hya17 => exact Or.inr ⟨by rfl, rfl⟩
          try simp only [Act.put, List.setIfInBounds_toArray, List.set_cons_zero, List.set_cons_succ]
          refine wpAnyH_take (i := 18) (oi := ?oia18) (v := undef) ?hia18 (by kernel_rfl) (by kernel_rfl) (by kernel_rfl) ?hQa18 ?hya18 (by assumption) ?_
          case hia18 => simp only [List.getElem?_toArray, List.getElem?_cons_zero, List.getElem?_cons_succ]; rfl
          case hQa18 => exact fun _ _ _ h => h
          case hya18 => exact Or.inr ⟨by rfl, rfl⟩
          try simp only [Act.put, List.setIfInBounds_toArray, List.set_cons_zero, List.set_cons_succ]
          refine wpAnyH_take (i := 19) (oi := ?oia19) (v := undef) ?hia19 (by kernel_rfl) (by kernel_rfl) (by kernel_rfl) ?hQa19 ?hya19 (by assumption) ?_
          case hia19 => simp only [List.getElem?_toArray, List.getElem?_cons_zero, List.getElem?_cons_succ]; rfl
          case hQa19 => exact fun _ _ _ h => h
          case hya19 => exact Or.inr ⟨by rfl, rfl⟩
          try simp only [Act.put, List.setIfInBounds_toArray, List.set_cons_zero, List.set_cons_succ]
          refine wpAnyH_take (i := 20) (oi := ?oia20) (v := undef) ?hia20 (by kernel_rfl) (by kernel_rfl) (by kernel_rfl) ?hQa20 ?hya20 (by assumption) ?_
          case hia20 => simp only [List.getElem?_toArray, List.getElem?_cons_zero, List.getElem?_cons_succ]; rfl
          case hQa20 => exact fun _ _ _ h => h
          case hya20 => exact Or.inr ⟨by rfl, rfl⟩
          try simp only [Act.put, List.setIfInBounds_toArray, List.set_cons_zero, List.set_cons_succ]
          refine wpAnyH_take (i := 21) (oi := ?oia21) (v := undef) ?hia21 (by kernel_rfl) (by kernel_rfl) (by kernel_rfl) ?hQa21 ?hya21 (by assumption) ?_
          case hia21 => simp only [List.getElem?_toArray, List.getElem?_cons_zero, List.getElem?_cons_succ]; rfl
          case hQa21 => exact fun _ _ _ h => h
          case hya21 => exact Or.inr ⟨by rfl, rfl⟩
          try simp only [Act.put, List.setIfInBounds_toArray, List.set_cons_zero, List.set_cons_succ]
          refine wpAnyH_take (i := 22) (oi := ?oia22) (v := undef) ?hia22 (by kernel_rfl) (by kernel_rfl) (by kernel_rfl) ?hQa22 ?hya22 (by assumption) ?_
          case hia22 => simp only [List.getElem?_toArray, List.getElem?_cons_zero, List.getElem?_cons_succ]; rfl
          case hQa22 => exact fun _ _ _ h => h
          case hya22 => exact Or.inr ⟨by rfl, rfl⟩
          try simp only [Act.put, List.setIfInBounds_toArray, List.set_cons_zero, List.set_cons_succ]
          refine wpAnyH_take (i := 23) (oi := ?oia23) (v := ?va23) ?hia23 (by kernel_rfl) (by kernel_rfl) (by kernel_rfl) ?hQa23 ?hya23 (by assumption) ?_
          case hia23 => simp only [List.getElem?_toArray, List.getElem?_cons_zero, List.getElem?_cons_succ]; rfl
          case hQa23 => exact fun _ _ _ h => h
          case hya23 => refine Or.inl ⟨by rfl, ?_⟩; intro w9 hSw; (try dsimp only at hSw); go_simp; (try with_reducible rfl)
          try simp only [Act.put, List.setIfInBounds_toArray, List.set_cons_zero, List.set_cons_succ]
          refine wpAnyH_done (by kernel_rfl) ?_ _
          have X6 := X.below hR6
          have P6 := P.below hR6
          have A6 := HA'.below hR6
          have E6 := HE'.below hR6
          have B6 := B'.trans (hR6.mono B'.size)
          clear X P HA' HE' SO
          go_wp2_with fail
          go_roundg (k4 - (i + 1))
          case measure => omega
          case rel => exact ⟨i + 1, by go_num, by omega, rfl, X6, P6, A6, E6, B6⟩
      · have q1 : ¬ ((i : Int) < (k4 : Int)) := by omega
        obtain ⟨gt, u, rfl, _, hgtl, hu, hcu, -⟩ := HE'.rows.2.2.1.get (k := j) (List.getElem?_eq_some_iff.1 hroot'.out).1
        obtain rfl : u = -1 := by have h9 := hu.out; rw [hroot'.out] at h9; exact (Option.some.inj h9).symm
        have hj2 : (j : Int) < (k2 : Int) := by have h8 := lenS HE'.rows.2.2.1; have h9 := (List.getElem?_eq_some_iff.1 hroot'.out).1; omega
        obtain ⟨p0, p1, p2, p3, p4, -⟩ := P.cells
        go_wp2_with fail
        refine (VE _ _ _ HE').mono ?_; rintro e w6 ⟨rfl, hb6⟩
        have hcu6 := (World.cell?_of_block (w := wr) (a := ⟨gt, j, none⟩) (hb6.block gt hgtl)).trans hcu
        obtain ⟨y0, y1, y2, y3, y4, -⟩ := (P.below hb6).cells
        obtain ⟨x0, x1, x2, x3, x4, -⟩ := (X.below hb6).cells
        clear p0 p1 p2 p3 p4
        go_wp2_with fail
        go_ret
        exact ⟨rfl, B'.trans (hb6.mono B'.size)⟩
end Go.Proofs.Yteogflkahoanlaa
