/- The law FnLinkSelf, walked. -/
import Derived.Test.YteogflkahoanlaaLaws0
import Derived.Test.YteogflkahoanlaaWrgDs
import Derived.Test.YteogflkahoanlaaDropI
import Derived.Test.YteogflkahoanlaaLinkDs
import Derived.Test.YteogflkahoanlaaShortD
import Derived.Test.YteogflkahoanlaaCVal
import Derived.Test.YteogflkahoanlaaIStos
import Derived.Test.YteogflkahoanlaaLawSs
namespace Go.Proofs.Yteogflkahoanlaa
open Go.RowKit

theorem link_parts {D E : Dp} {a b : Int} (h : linkO D a b = some E) : dpB D = true ∧ ∃ (i j f : Nat) (tt old : Int), a = i ∧ b = j ∧ D.C.h.t[i]? = some (f : Int) ∧ D.C.h.t[j]? = some tt ∧ D.C.h.l[f]? = some old ∧ E = fin_ ⟨⟨D.C.h.l.set f tt, D.C.h.r, D.C.h.t⟩, D.C.c, bump D.n tt, [old]⟩ := by
  rcases e : (dpB D && plB a D.C.h.t.length && plB b D.C.h.t.length && decide (D.C.h.t.getD a.toNat 0 ≠ -1))
  · unfold linkO at h; rw [e] at h; simp at h
  · rw [Bool.and_eq_true, Bool.and_eq_true, Bool.and_eq_true] at e
    obtain ⟨⟨⟨evd, evp⟩, evq⟩, ec⟩ := e
    have hk : 0 ≤ a ∧ a < D.C.h.t.length := by simpa [plB] using evp
    have hk' : 0 ≤ b ∧ b < D.C.h.t.length := by simpa [plB] using evq
    obtain ⟨i, rfl⟩ := Int.eq_ofNat_of_zero_le hk.1
    obtain ⟨j, rfl⟩ := Int.eq_ofNat_of_zero_le hk'.1
    obtain ⟨fr, hfr⟩ : ∃ x, D.C.h.t[i]? = some x := ⟨_, List.getElem?_eq_getElem (by omega)⟩
    obtain ⟨tt, hto⟩ : ∃ x, D.C.h.t[j]? = some x := ⟨_, List.getElem?_eq_getElem (by omega)⟩
    obtain ⟨f, rfl, hf⟩ := root_at evd hfr (by rw [Int.toNat_natCast, getD_of hfr] at ec; simpa using ec)
    obtain ⟨old, hold⟩ : ∃ x, D.C.h.l[f]? = some x := ⟨_, List.getElem?_eq_getElem hf⟩
    rw [linkO_some evd hfr hto hold] at h
    cases h
    exact ⟨evd, i, j, f, tt, old, rfl, rfl, hfr, hto, hold, rfl⟩

theorem fin_self {S : Sn} (I : InvD S) {f : Nat} (hl : S.h.l[f]? = some (f : Int)) : (fin_ S).C.h.l[f]? = some (f : Int) := by
  obtain ⟨hh, c, n, e, I2, q⟩ := fin_ind (fun S => S.h.l[f]? = some (f : Int)) (by
    intro h c n x r I q2
    unfold dn
    dsimp only at q2
    split
    · exact q2
    · rename_i hx
      have hr := I.rng x (List.mem_cons_self ..)
      obtain ⟨k, rfl⟩ := Int.eq_ofNat_of_zero_le (by have := hr.1; omega : 0 ≤ x)
      rw [Int.toNat_natCast]
      split
      · rename_i h1
        dsimp only
        have hkf : k ≠ f := fun e => by
          subst e
          have hkl : k < h.l.length := (List.getElem?_eq_some_iff.1 q2).1
          have h2 := I.cnt k hkl
          dsimp only at h2
          have h3 := List.count_pos_iff.2 (List.mem_of_getElem? q2)
          have h4 : 1 ≤ ((k : Int) :: r).count (k : Int) := by rw [List.count_cons_self]; omega
          rw [getD_of h2] at h1
          omega
        rw [List.getElem?_set_ne hkf]
        exact q2
      · exact q2) _ _ (Nat.le_refl _) I hl
  rw [e]
  exact q
theorem drop_next7 {X : Dp} (hv : dpB X = true) {i m f : Nat} (hm : X.C.h.t.length = m) (hi : i < m) (hf : X.C.h.l[f]? = some (f : Int)) : ∃ X', dropO X (i : Int) = some X' ∧ dpB X' = true ∧ X'.C.h.t.length = m ∧ X'.C.h.l[f]? = some (f : Int) := by
  obtain ⟨old, hold⟩ : ∃ old, X.C.h.t[i]? = some old := ⟨_, List.getElem?_eq_getElem (by omega)⟩
  have e := dropO_some hv hold
  exact ⟨_, e, dropO_valid e, by rw [fin_t]; simp [hm], fin_self (drop_inv hv hold) hf⟩
theorem self_end {X : Dp} (hv : dpB X = true) {f : Nat} (hf : X.C.h.l[f]? = some (f : Int)) : isFreeB X.C (f : Int) = false ∧ ∃ z, X.n[f]? = some z ∧ z ≥ 1 := by
  obtain ⟨hs, hn⟩ := dpB_iff.1 hv
  have hfl := (List.getElem?_eq_some_iff.1 hf).1
  have hz := cnts_get (h := X.C.h) hfl
  rw [← hn] at hz
  have hc := List.count_pos_iff.2 (List.mem_of_getElem? hf)
  refine ⟨isFree_out fun hm => ?_, _, hz, by omega⟩
  obtain ⟨_, _, x3, x4, _⟩ := fr_iff.1 ((stoB_parts hs).2.2.1 _ hm)
  exact x4 (List.mem_of_getElem? hf)
theorem link_self {D E : Dp} {a b : Int} (h : linkO D a b = some E) : ∃ (i f : Nat) (Y : Dp), a = i ∧ D.C.h.t[i]? = some (f : Int) ∧ linkO D (i : Int) (i : Int) = some Y ∧ dpB Y = true ∧ Y.C.h.l[f]? = some (f : Int) := by
  obtain ⟨evd, i, j, f, tt, old, rfl, rfl, hfr, hto, hold, -⟩ := link_parts h
  have e := linkO_some evd hfr hfr hold
  have hfl := (List.getElem?_eq_some_iff.1 hold).1
  exact ⟨i, f, _, rfl, hfr, e, linkO_valid e, fin_self (link_inv evd (List.mem_of_getElem? hfr) (List.mem_of_getElem? hfr) hold) (by show (D.C.h.l.set f (f : Int))[f]? = some (f : Int); rw [List.getElem?_set_self hfl])⟩

set_option maxRecDepth 100000 in
set_option maxHeartbeats 4000000 in
theorem lawLinkSelf_walk (w : World) (A : Option Addr) (n c : Nat) (h : Inp w A n c) :
    Calls Try.prog 13 #[.slice A n c] w (LawTrue w) := by
  by_cases hbig : 1048576 < n
  · go_enter Try.func13, Try.ntmps13
    go_wp2_with fail
    go_ret
    exact ⟨rfl, Below.refl _ _⟩
  go_enter Try.func13, Try.ntmps13
  go_wp2_with fail
  refine (drawLinkCounted_any _ _ _ _ h).mono ?_; rintro e w1 ⟨v, D, x, y, rfl, HA, hb1⟩
  have BW1 : Below w.heap.size w w1 := (Below.refl w.heap.size w).trans (hb1.mono (Below.refl w.heap.size w).size)
  have zz1 : w.heap.size ≤ w1.heap.size := hb1.size
  have HAo := HA
  obtain ⟨A0, n0, c0, A1, n1, c1, A2, n2, c2, A3, n3, c3, A4, n4, c4, rfl, -⟩ := HAo.open_
  clear HAo
  have I := fun W lo v hW => implLinkCounted_any W lo v D hW x y
  have S := fun W lo v hW => specLinkCounted_any W lo v D hW x y
  rcases ho : linkO D x y with _ | E
  · rw [ho] at I S
    go_wp2_with fail
    refine (I _ _ _ (HA.alloc (.cells #[.slice A0 n0 c0, .slice A1 n1 c1, .slice A2 n2 c2, .slice A3 n3 c3, .slice A4 n4 c4] 29))).mono ?_; rintro e w2 ⟨vHB, rfl, HB, hb2⟩
    simp only [Option.isSome_none, Option.getD_none] at HB ⊢
    have HBo := HB
    obtain ⟨B0, k0, d0, B1, k1, d1, B2, k2, d2, B3, k3, d3, B4, k4, d4, rfl, -⟩ := HBo.open_
    clear HBo
    have BW2 : Below w.heap.size w w2 := (BW1.alloc BW1.size (.cells #[.slice A0 n0 c0, .slice A1 n1 c1, .slice A2 n2 c2, .slice A3 n3 c3, .slice A4 n4 c4] 29)).trans (hb2.mono (BW1.alloc BW1.size (.cells #[.slice A0 n0 c0, .slice A1 n1 c1, .slice A2 n2 c2, .slice A3 n3 c3, .slice A4 n4 c4] 29)).size)
    have zz2 : w1.heap.size + 1 ≤ w2.heap.size := by have := hb2.size; simp at this; omega
    have HA_2 := Dv.below (by exact (HA.alloc (.cells #[.slice A0 n0 c0, .slice A1 n1 c1, .slice A2 n2 c2, .slice A3 n3 c3, .slice A4 n4 c4] 29))) hb2
    have X_2 := Blk5.below (by exact (Blk5.new w1 (.slice A0 n0 c0) (.slice A1 n1 c1) (.slice A2 n2 c2) (.slice A3 n3 c3) (.slice A4 n4 c4) 29)) hb2
    obtain ⟨cX_2_0, cX_2_1, cX_2_2, cX_2_3, cX_2_4, -⟩ := X_2.cells
    have lX_2 := X_2.lt
    go_wp2_with fail
    refine (S _ _ _ (HA_2.alloc (.cells #[.slice B0 k0 d0, .slice B1 k1 d1, .slice B2 k2 d2, .slice B3 k3 d3, .slice B4 k4 d4] 29))).mono ?_; rintro e w3 ⟨vHC, rfl, HC, hb3⟩
    simp only [Option.isSome_none, Option.getD_none] at HC ⊢
    have HCo := HC
    obtain ⟨K0, m0, e0, K1, m1, e1, K2, m2, e2, K3, m3, e3, K4, m4, e4, rfl, -⟩ := HCo.open_
    clear HCo
    have BW3 : Below w.heap.size w w3 := (BW2.alloc BW2.size (.cells #[.slice B0 k0 d0, .slice B1 k1 d1, .slice B2 k2 d2, .slice B3 k3 d3, .slice B4 k4 d4] 29)).trans (hb3.mono (BW2.alloc BW2.size (.cells #[.slice B0 k0 d0, .slice B1 k1 d1, .slice B2 k2 d2, .slice B3 k3 d3, .slice B4 k4 d4] 29)).size)
    have zz3 : w2.heap.size + 1 ≤ w3.heap.size := by have := hb3.size; simp at this; omega
    have HA_3 := Dv.below (by exact (HA_2.alloc (.cells #[.slice B0 k0 d0, .slice B1 k1 d1, .slice B2 k2 d2, .slice B3 k3 d3, .slice B4 k4 d4] 29))) hb3
    have X_3 := Blk5.below (by exact (X_2.alloc (.cells #[.slice B0 k0 d0, .slice B1 k1 d1, .slice B2 k2 d2, .slice B3 k3 d3, .slice B4 k4 d4] 29))) hb3
    obtain ⟨cX_3_0, cX_3_1, cX_3_2, cX_3_3, cX_3_4, -⟩ := X_3.cells
    have lX_3 := X_3.lt
    have HB_3 := Dv.below (by exact (HB.alloc (.cells #[.slice B0 k0 d0, .slice B1 k1 d1, .slice B2 k2 d2, .slice B3 k3 d3, .slice B4 k4 d4] 29))) hb3
    have P_3 := Blk5.below (by exact (Blk5.new w2 (.slice B0 k0 d0) (.slice B1 k1 d1) (.slice B2 k2 d2) (.slice B3 k3 d3) (.slice B4 k4 d4) 29)) hb3
    obtain ⟨cP_3_0, cP_3_1, cP_3_2, cP_3_3, cP_3_4, -⟩ := P_3.cells
    have lP_3 := P_3.lt
    have E1 := implCountedSame_any _ _ _ _ _ _ _ (HB_3.alloc (.cells #[.slice K0 m0 e0, .slice K1 m1 e1, .slice K2 m2 e2, .slice K3 m3 e3, .slice K4 m4 e4] 29)) (HC.alloc (.cells #[.slice K0 m0 e0, .slice K1 m1 e1, .slice K2 m2 e2, .slice K3 m3 e3, .slice K4 m4 e4] 29))
    rw [sameD_self] at E1
    go_wp2_with fail
    refine (E1).mono ?_; rintro e w4 ⟨rfl, hb4⟩
    have BW4 : Below w.heap.size w w4 := (BW3.alloc BW3.size (.cells #[.slice K0 m0 e0, .slice K1 m1 e1, .slice K2 m2 e2, .slice K3 m3 e3, .slice K4 m4 e4] 29)).trans (hb4.mono (BW3.alloc BW3.size (.cells #[.slice K0 m0 e0, .slice K1 m1 e1, .slice K2 m2 e2, .slice K3 m3 e3, .slice K4 m4 e4] 29)).size)
    have zz4 : w3.heap.size + 1 ≤ w4.heap.size := by have := hb4.size; simp at this; omega
    have HA_4 := Dv.below (by exact (HA_3.alloc (.cells #[.slice K0 m0 e0, .slice K1 m1 e1, .slice K2 m2 e2, .slice K3 m3 e3, .slice K4 m4 e4] 29))) hb4
    have X_4 := Blk5.below (by exact (X_3.alloc (.cells #[.slice K0 m0 e0, .slice K1 m1 e1, .slice K2 m2 e2, .slice K3 m3 e3, .slice K4 m4 e4] 29))) hb4
    obtain ⟨cX_4_0, cX_4_1, cX_4_2, cX_4_3, cX_4_4, -⟩ := X_4.cells
    have lX_4 := X_4.lt
    have HB_4 := Dv.below (by exact (HB_3.alloc (.cells #[.slice K0 m0 e0, .slice K1 m1 e1, .slice K2 m2 e2, .slice K3 m3 e3, .slice K4 m4 e4] 29))) hb4
    have P_4 := Blk5.below (by exact (P_3.alloc (.cells #[.slice K0 m0 e0, .slice K1 m1 e1, .slice K2 m2 e2, .slice K3 m3 e3, .slice K4 m4 e4] 29))) hb4
    obtain ⟨cP_4_0, cP_4_1, cP_4_2, cP_4_3, cP_4_4, -⟩ := P_4.cells
    have lP_4 := P_4.lt
    have HC_4 := Dv.below (by exact (HC.alloc (.cells #[.slice K0 m0 e0, .slice K1 m1 e1, .slice K2 m2 e2, .slice K3 m3 e3, .slice K4 m4 e4] 29))) hb4
    have Q_4 := Blk5.below (by exact (Blk5.new w3 (.slice K0 m0 e0) (.slice K1 m1 e1) (.slice K2 m2 e2) (.slice K3 m3 e3) (.slice K4 m4 e4) 29)) hb4
    obtain ⟨cQ_4_0, cQ_4_1, cQ_4_2, cQ_4_3, cQ_4_4, -⟩ := Q_4.cells
    have lQ_4 := Q_4.lt
    have E2 := implCountedSame_any _ _ _ _ _ _ _ HB_4 HC_4
    rw [sameD_self] at E2
    go_wp2_with fail
    refine (E2).mono ?_; rintro e w5 ⟨rfl, hb5⟩
    have BW5 : Below w.heap.size w w5 := BW4.trans (hb5.mono BW4.size)
    have zz5 : w4.heap.size ≤ w5.heap.size := hb5.size
    have HA_5 := Dv.below (by exact HA_4) hb5
    have X_5 := Blk5.below (by exact X_4) hb5
    obtain ⟨cX_5_0, cX_5_1, cX_5_2, cX_5_3, cX_5_4, -⟩ := X_5.cells
    have lX_5 := X_5.lt
    have HB_5 := Dv.below (by exact HB_4) hb5
    have P_5 := Blk5.below (by exact P_4) hb5
    obtain ⟨cP_5_0, cP_5_1, cP_5_2, cP_5_3, cP_5_4, -⟩ := P_5.cells
    have lP_5 := P_5.lt
    have HC_5 := Dv.below (by exact HC_4) hb5
    have Q_5 := Blk5.below (by exact Q_4) hb5
    obtain ⟨cQ_5_0, cQ_5_1, cQ_5_2, cQ_5_3, cQ_5_4, -⟩ := Q_5.cells
    have lQ_5 := Q_5.lt
    go_wp2_with fail
    go_ret
    exact ⟨rfl, BW5⟩
  · rw [ho] at I S
    obtain ⟨i0, f, Y, rfl, hfr, hY, hvY, hfY⟩ := link_self ho
    have J := fun W lo v hW => implLinkCounted_any W lo v D hW (i0 : Int) (i0 : Int)
    rw [hY] at J
    replace hvY := Lib.hid hvY
    replace hfY := Lib.hid hfY
    replace hfr := Lib.hid hfr
    obtain ⟨m, hm⟩ : ∃ m, Hid (Y.C.h.t.length = m) := ⟨_, rfl⟩
    clear ho hY
    go_wp2_with fail
    refine (I _ _ _ (HA.alloc (.cells #[.slice A0 n0 c0, .slice A1 n1 c1, .slice A2 n2 c2, .slice A3 n3 c3, .slice A4 n4 c4] 29))).mono ?_; rintro e w2 ⟨vHB, rfl, HB, hb2⟩
    simp only [Option.isSome_some, Option.getD_some] at HB ⊢
    have HBo := HB
    obtain ⟨B0, k0, d0, B1, k1, d1, B2, k2, d2, B3, k3, d3, B4, k4, d4, rfl, -⟩ := HBo.open_
    clear HBo
    have BW2 : Below w.heap.size w w2 := (BW1.alloc BW1.size (.cells #[.slice A0 n0 c0, .slice A1 n1 c1, .slice A2 n2 c2, .slice A3 n3 c3, .slice A4 n4 c4] 29)).trans (hb2.mono (BW1.alloc BW1.size (.cells #[.slice A0 n0 c0, .slice A1 n1 c1, .slice A2 n2 c2, .slice A3 n3 c3, .slice A4 n4 c4] 29)).size)
    have zz2 : w1.heap.size + 1 ≤ w2.heap.size := by have := hb2.size; simp at this; omega
    have HA_2 := Dv.below (by exact (HA.alloc (.cells #[.slice A0 n0 c0, .slice A1 n1 c1, .slice A2 n2 c2, .slice A3 n3 c3, .slice A4 n4 c4] 29))) hb2
    have X_2 := Blk5.below (by exact (Blk5.new w1 (.slice A0 n0 c0) (.slice A1 n1 c1) (.slice A2 n2 c2) (.slice A3 n3 c3) (.slice A4 n4 c4) 29)) hb2
    obtain ⟨cX_2_0, cX_2_1, cX_2_2, cX_2_3, cX_2_4, -⟩ := X_2.cells
    have lX_2 := X_2.lt
    go_wp2_with fail
    refine (S _ _ _ (HA_2.alloc (.cells #[.slice B0 k0 d0, .slice B1 k1 d1, .slice B2 k2 d2, .slice B3 k3 d3, .slice B4 k4 d4] 29))).mono ?_; rintro e w3 ⟨vHC, rfl, HC, hb3⟩
    simp only [Option.isSome_some, Option.getD_some] at HC ⊢
    have HCo := HC
    obtain ⟨K0, m0, e0, K1, m1, e1, K2, m2, e2, K3, m3, e3, K4, m4, e4, rfl, -⟩ := HCo.open_
    clear HCo
    have BW3 : Below w.heap.size w w3 := (BW2.alloc BW2.size (.cells #[.slice B0 k0 d0, .slice B1 k1 d1, .slice B2 k2 d2, .slice B3 k3 d3, .slice B4 k4 d4] 29)).trans (hb3.mono (BW2.alloc BW2.size (.cells #[.slice B0 k0 d0, .slice B1 k1 d1, .slice B2 k2 d2, .slice B3 k3 d3, .slice B4 k4 d4] 29)).size)
    have zz3 : w2.heap.size + 1 ≤ w3.heap.size := by have := hb3.size; simp at this; omega
    have HA_3 := Dv.below (by exact (HA_2.alloc (.cells #[.slice B0 k0 d0, .slice B1 k1 d1, .slice B2 k2 d2, .slice B3 k3 d3, .slice B4 k4 d4] 29))) hb3
    have X_3 := Blk5.below (by exact (X_2.alloc (.cells #[.slice B0 k0 d0, .slice B1 k1 d1, .slice B2 k2 d2, .slice B3 k3 d3, .slice B4 k4 d4] 29))) hb3
    obtain ⟨cX_3_0, cX_3_1, cX_3_2, cX_3_3, cX_3_4, -⟩ := X_3.cells
    have lX_3 := X_3.lt
    have HB_3 := Dv.below (by exact (HB.alloc (.cells #[.slice B0 k0 d0, .slice B1 k1 d1, .slice B2 k2 d2, .slice B3 k3 d3, .slice B4 k4 d4] 29))) hb3
    have P_3 := Blk5.below (by exact (Blk5.new w2 (.slice B0 k0 d0) (.slice B1 k1 d1) (.slice B2 k2 d2) (.slice B3 k3 d3) (.slice B4 k4 d4) 29)) hb3
    obtain ⟨cP_3_0, cP_3_1, cP_3_2, cP_3_3, cP_3_4, -⟩ := P_3.cells
    have lP_3 := P_3.lt
    have E1 := implCountedSame_any _ _ _ _ _ _ _ (HB_3.alloc (.cells #[.slice K0 m0 e0, .slice K1 m1 e1, .slice K2 m2 e2, .slice K3 m3 e3, .slice K4 m4 e4] 29)) (HC.alloc (.cells #[.slice K0 m0 e0, .slice K1 m1 e1, .slice K2 m2 e2, .slice K3 m3 e3, .slice K4 m4 e4] 29))
    rw [sameD_self] at E1
    go_wp2_with fail
    refine (E1).mono ?_; rintro e w4 ⟨rfl, hb4⟩
    have BW4 : Below w.heap.size w w4 := (BW3.alloc BW3.size (.cells #[.slice K0 m0 e0, .slice K1 m1 e1, .slice K2 m2 e2, .slice K3 m3 e3, .slice K4 m4 e4] 29)).trans (hb4.mono (BW3.alloc BW3.size (.cells #[.slice K0 m0 e0, .slice K1 m1 e1, .slice K2 m2 e2, .slice K3 m3 e3, .slice K4 m4 e4] 29)).size)
    have zz4 : w3.heap.size + 1 ≤ w4.heap.size := by have := hb4.size; simp at this; omega
    have HA_4 := Dv.below (by exact (HA_3.alloc (.cells #[.slice K0 m0 e0, .slice K1 m1 e1, .slice K2 m2 e2, .slice K3 m3 e3, .slice K4 m4 e4] 29))) hb4
    have X_4 := Blk5.below (by exact (X_3.alloc (.cells #[.slice K0 m0 e0, .slice K1 m1 e1, .slice K2 m2 e2, .slice K3 m3 e3, .slice K4 m4 e4] 29))) hb4
    obtain ⟨cX_4_0, cX_4_1, cX_4_2, cX_4_3, cX_4_4, -⟩ := X_4.cells
    have lX_4 := X_4.lt
    have HB_4 := Dv.below (by exact (HB_3.alloc (.cells #[.slice K0 m0 e0, .slice K1 m1 e1, .slice K2 m2 e2, .slice K3 m3 e3, .slice K4 m4 e4] 29))) hb4
    have P_4 := Blk5.below (by exact (P_3.alloc (.cells #[.slice K0 m0 e0, .slice K1 m1 e1, .slice K2 m2 e2, .slice K3 m3 e3, .slice K4 m4 e4] 29))) hb4
    obtain ⟨cP_4_0, cP_4_1, cP_4_2, cP_4_3, cP_4_4, -⟩ := P_4.cells
    have lP_4 := P_4.lt
    have HC_4 := Dv.below (by exact (HC.alloc (.cells #[.slice K0 m0 e0, .slice K1 m1 e1, .slice K2 m2 e2, .slice K3 m3 e3, .slice K4 m4 e4] 29))) hb4
    have Q_4 := Blk5.below (by exact (Blk5.new w3 (.slice K0 m0 e0) (.slice K1 m1 e1) (.slice K2 m2 e2) (.slice K3 m3 e3) (.slice K4 m4 e4) 29)) hb4
    obtain ⟨cQ_4_0, cQ_4_1, cQ_4_2, cQ_4_3, cQ_4_4, -⟩ := Q_4.cells
    have lQ_4 := Q_4.lt
    obtain ⟨gd, u, hA2, _, hgd, hu, hcd, -⟩ := (Dv.rows HA_4).2.2.1.get (k := i0) (List.getElem?_eq_some_iff.1 hfr.out).1
    obtain rfl : u = (f : Int) := by have h9 := hu.out; rw [hfr.out] at h9; exact (Option.some.inj h9).symm
    have hi2 : (i0 : Int) < (n2 : Int) := by have h8 := lenS (Dv.rows HA_4).2.2.1; have h9 := (List.getElem?_eq_some_iff.1 hfr.out).1; omega
    subst hA2
    clear hu
    go_wp2_with fail
    refine (J _ _ _ HA_4).mono ?_; rintro e w5 ⟨vHY, rfl, HY, hb5⟩
    simp only [Option.isSome_some, Option.getD_some] at HY ⊢
    have HYo := HY
    obtain ⟨F0, f0, y0, F1, f1, y1, F2, f2, y2, F3, f3, y3, F4, f4, y4, rfl, -⟩ := HYo.open_
    clear HYo
    have BW5 : Below w.heap.size w w5 := BW4.trans (hb5.mono BW4.size)
    have zz5 : w4.heap.size ≤ w5.heap.size := hb5.size
    have HA_5 := Dv.below (by exact HA_4) hb5
    have X_5 := Blk5.below (by exact X_4) hb5
    obtain ⟨cX_5_0, cX_5_1, cX_5_2, cX_5_3, cX_5_4, -⟩ := X_5.cells
    have lX_5 := X_5.lt
    have HB_5 := Dv.below (by exact HB_4) hb5
    have P_5 := Blk5.below (by exact P_4) hb5
    obtain ⟨cP_5_0, cP_5_1, cP_5_2, cP_5_3, cP_5_4, -⟩ := P_5.cells
    have lP_5 := P_5.lt
    have HC_5 := Dv.below (by exact HC_4) hb5
    have Q_5 := Blk5.below (by exact Q_4) hb5
    obtain ⟨cQ_5_0, cQ_5_1, cQ_5_2, cQ_5_3, cQ_5_4, -⟩ := Q_5.cells
    have lQ_5 := Q_5.lt
    have hmb : m ≤ 9223372036854775807 := by have h9 := (Dv.rows (HY.alloc (.cells #[.slice F0 f0 y0, .slice F1 f1 y1, .slice F2 f2 y2, .slice F3 f3 y3, .slice F4 f4 y4] 29))).2.2.1.form; obtain ⟨_, _, e, _, h8⟩ := h9; cases e; have := hm.out; unfold maxLen at h8; omega
    have S0 := (⟨(Blk5.new w5 (.slice F0 f0 y0) (.slice F1 f1 y1) (.slice F2 f2 y2) (.slice F3 f3 y3) (.slice F4 f4 y4) 29), (HY.alloc (.cells #[.slice F0 f0 y0, .slice F1 f1 y1, .slice F2 f2 y2, .slice F3 f3 y3, .slice F4 f4 y4] 29)).mono (Nat.zero_le _), (BW5.alloc BW5.size (.cells #[.slice F0 f0 y0, .slice F1 f1 y1, .slice F2 f2 y2, .slice F3 f3 y3, .slice F4 f4 y4] 29))⟩ : Blk5 (w5.alloc (.cells #[.slice F0 f0 y0, .slice F1 f1 y1, .slice F2 f2 y2, .slice F3 f3 y3, .slice F4 f4 y4] 29)) w5.heap.size (.slice F0 f0 y0) (.slice F1 f1 y1) (.slice F2 f2 y2) (.slice F3 f3 y3) (.slice F4 f4 y4) 29 ∧ Dv (w5.alloc (.cells #[.slice F0 f0 y0, .slice F1 f1 y1, .slice F2 f2 y2, .slice F3 f3 y3, .slice F4 f4 y4] 29)) 0 (.agg #[.slice F0 f0 y0, .slice F1 f1 y1, .slice F2 f2 y2, .slice F3 f3 y3, .slice F4 f4 y4]) Y ∧ Below w.heap.size w (w5.alloc (.cells #[.slice F0 f0 y0, .slice F1 f1 y1, .slice F2 f2 y2, .slice F3 f3 y3, .slice F4 f4 y4] 29)))
    have z4 : w5.heap.size + 1 ≤ (w5.alloc (.cells #[.slice F0 f0 y0, .slice F1 f1 y1, .slice F2 f2 y2, .slice F3 f3 y3, .slice F4 f4 y4] 29)).heap.size := S0.1.lt
    have z2w : w.heap.size ≤ w5.heap.size := by omega
    go_wp2_with fail
    go_loopg [13, 14, 15] m (fun gk iv_ _ _ wr => ∃ (i : Nat) (X : Dp) (G0 : Option Addr) (g0 q0 : Nat) (G1 : Option Addr) (g1 q1 : Nat) (G2 : Option Addr) (g2 q2 : Nat) (G3 : Option Addr) (g3 q3 : Nat) (G4 : Option Addr) (g4 q4 : Nat), iv_ = .int .i64 (i : Int) ∧ i ≤ m ∧ gk = m - i ∧ Hid (dpB X = true) ∧ Hid (X.C.h.t.length = m) ∧ Hid (X.C.h.l[f]? = some (f : Int)) ∧ Blk5 wr w5.heap.size (.slice G0 g0 q0) (.slice G1 g1 q1) (.slice G2 g2 q2) (.slice G3 g3 q3) (.slice G4 g4 q4) 29 ∧ Dv wr 0 (.agg #[.slice G0 g0 q0, .slice G1 g1 q1, .slice G2 g2 q2, .slice G3 g3 q3, .slice G4 g4 q4]) X ∧ Below w.heap.size w wr ∧ w5.heap.size + 1 ≤ wr.heap.size)
    case atStart => exact ⟨0, Y, _, _, _, _, _, _, _, _, _, _, _, _, _, _, _, rfl, Nat.zero_le _, rfl, hvY, hm, hfY, S0.1, S0.2.1, S0.2.2, z4⟩
    case round =>
      obtain ⟨i, X, G0, g0, q0, G1, g1, q1, G2, g2, q2, G3, g3, q3, G4, g4, q4, rfl, hi, rfl, hvX, hmX, hfX, P, HX, B', z'⟩ := hrel
      obtain ⟨p0, p1, p2, p3, p4, -⟩ := P.cells
      have hl2 := lenS HX.rows.2.2.1
      have e2 : g2 = m := by have := hmX.out; omega
      subst e2
      by_cases hlt : i < g2
      · have qlt : (i : Int) < (g2 : Int) := by omega
        obtain ⟨X', hX', hv', hm', hp'⟩ := drop_next7 hvX.out hmX.out hlt hfX.out
        have I1 := implDropRoot_any wr _ _ X HX (i : Int)
        rw [hX'] at I1
        replace hv' := Lib.hid hv'
        replace hm' := Lib.hid hm'
        replace hp' := Lib.hid hp'
        clear hX' hl2
        go_wp2_with fail
        refine I1.mono ?_; rintro e w6 ⟨v6, rfl, HN, hb6⟩
        simp only [Option.isSome_some, Option.getD_some] at HN ⊢
        have HNo := HN
        obtain ⟨N0, s0, r0, N1, s1, r1, N2, s2, r2, N3, s3, r3, N4, s4, r4, rfl, -⟩ := HNo.open_
        have P7 := (P.below hb6).alloc (.cells #[.slice N0 s0 r0, .slice N1 s1 r1, .slice N2 s2 r2, .slice N3 s3 r3, .slice N4 s4 r4] 29)
        have N7 := Blk5.new w6 (.slice N0 s0 r0) (.slice N1 s1 r1) (.slice N2 s2 r2) (.slice N3 s3 r3) (.slice N4 s4 r4) 29
        have D7 := HN.alloc (.cells #[.slice N0 s0 r0, .slice N1 s1 r1, .slice N2 s2 r2, .slice N3 s3 r3, .slice N4 s4 r4] 29)
        have z6 := hb6.size
        have B7 := (B'.trans (hb6.mono B'.size)).alloc (by have := B'.size; omega) (.cells #[.slice N0 s0 r0, .slice N1 s1 r1, .slice N2 s2 r2, .slice N3 s3 r3, .slice N4 s4 r4] 29)
        have hne : w6.heap.size ≠ w5.heap.size := by omega
        obtain ⟨y0, y1, y2, y3, y4, yf0, yf1, yf2, yf3, yf4⟩ := P7.cells
        obtain ⟨x0, x1, x2, x3, x4, -⟩ := N7.cells
        have P8 := P7.set5 (.slice N0 s0 r0) (.slice N1 s1 r1) (.slice N2 s2 r2) (.slice N3 s3 r3) (.slice N4 s4 r4)
        have D8 := (D7.low5 (c := w5.heap.size) (by omega) (.slice N0 s0 r0) (.slice N1 s1 r1) (.slice N2 s2 r2) (.slice N3 s3 r3) (.slice N4 s4 r4)).mono (Nat.zero_le _)
        have B8 := below_set5 B7 (c := w5.heap.size) z2w (.slice N0 s0 r0) (.slice N1 s1 r1) (.slice N2 s2 r2) (.slice N3 s3 r3) (.slice N4 s4 r4)
        have z8 : w5.heap.size + 1 ≤ ((((((w6.alloc (.cells #[.slice N0 s0 r0, .slice N1 s1 r1, .slice N2 s2 r2, .slice N3 s3 r3, .slice N4 s4 r4] 29)).setCell ⟨w5.heap.size, 0, none⟩ (.slice N0 s0 r0)).setCell ⟨w5.heap.size, 1, none⟩ (.slice N1 s1 r1)).setCell ⟨w5.heap.size, 2, none⟩ (.slice N2 s2 r2)).setCell ⟨w5.heap.size, 3, none⟩ (.slice N3 s3 r3)).setCell ⟨w5.heap.size, 4, none⟩ (.slice N4 s4 r4)).heap.size := P8.lt
        clear P HX HN HNo P7 N7 D7 B7 I1 B' p0 p1 p2 p3 p4
        go_wp2_with fail
        generalize ((((((w6.alloc (.cells #[.slice N0 s0 r0, .slice N1 s1 r1, .slice N2 s2 r2, .slice N3 s3 r3, .slice N4 s4 r4] 29)).setCell ⟨w5.heap.size, 0, none⟩ (.slice N0 s0 r0)).setCell ⟨w5.heap.size, 1, none⟩ (.slice N1 s1 r1)).setCell ⟨w5.heap.size, 2, none⟩ (.slice N2 s2 r2)).setCell ⟨w5.heap.size, 3, none⟩ (.slice N3 s3 r3)).setCell ⟨w5.heap.size, 4, none⟩ (.slice N4 s4 r4)) = W8 at P8 D8 B8 z8 ⊢
        go_roundg (g2 - (i + 1))
        case measure => omega
        case rel => exact ⟨i + 1, X', _, _, _, _, _, _, _, _, _, _, _, _, _, _, _, by go_num, by omega, rfl, hv', hm', hp', P8, D8, B8, z8⟩
      · have qlt : ¬ ((i : Int) < (g2 : Int)) := by omega
        obtain ⟨hfree, zz, hzz, hz1⟩ := self_end hvX.out hfX.out
        obtain ⟨gn, zn, rfl, _, hgn, hzn, hcn, -⟩ := HX.rows.2.2.2.2.get (k := f) (List.getElem?_eq_some_iff.1 hzz).1
        obtain rfl : zn = zz := by have h9 := hzn.out; rw [hzz] at h9; exact (Option.some.inj h9).symm
        have hf4 : (f : Int) < (g4 : Int) := by have h8 := lenS HX.rows.2.2.2.2; have h9 := (List.getElem?_eq_some_iff.1 hzz).1; omega
        have IF := implIsFree_any wr _ _ X.C HX.cvn.1 (f : Int)
        rw [hfree] at IF
        clear hfree hzz hzn hl2 hmX hvX hfX hvY hfY hm
        go_wp2_with fail
        refine IF.mono ?_; rintro e w6 ⟨rfl, hb6⟩
        have hcn6 := (World.cell?_of_block (w := wr) (a := ⟨gn, f, none⟩) (hb6.block gn hgn)).trans hcn
        obtain ⟨y0, y1, y2, y3, y4, -⟩ := (P.below hb6).cells
        clear p0 p1 p2 p3 p4
        go_wp2_with fail
        go_ret
        exact ⟨rfl, B'.trans (hb6.mono B'.size)⟩
end Go.Proofs.Yteogflkahoanlaa
