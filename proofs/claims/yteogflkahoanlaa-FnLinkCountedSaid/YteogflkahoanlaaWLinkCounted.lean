/- The law FnLinkCounted, walked. -/
import Derived.Test.YteogflkahoanlaaLaws0
import Derived.Test.YteogflkahoanlaaWrgDs
import Derived.Test.YteogflkahoanlaaLinkDs
import Derived.Test.YteogflkahoanlaaShortD
import Derived.Test.YteogflkahoanlaaCVal
namespace Go.Proofs.Yteogflkahoanlaa
open Go.RowKit

theorem fin_l {S : Sn} (I : InvD S) {f : Nat} {y : Int} (hf : (f : Int) ∈ S.h.t) (hl : S.h.l[f]? = some y) : (fin_ S).C.h.l[f]? = some y := by
  obtain ⟨hh, c, n, e, I2, q⟩ := fin_ind (fun S => (f : Int) ∈ S.h.t ∧ S.h.l[f]? = some y) (by
    intro h c n x r I ⟨q1, q2⟩
    unfold dn
    dsimp only at q1 q2
    split
    · exact ⟨q1, q2⟩
    · rename_i hx
      have hr := I.rng x (List.mem_cons_self ..)
      obtain ⟨k, rfl⟩ := Int.eq_ofNat_of_zero_le (by have := hr.1; omega : 0 ≤ x)
      rw [Int.toNat_natCast]
      split
      · rename_i h1
        refine ⟨q1, ?_⟩
        dsimp only
        have hkf : k ≠ f := fun e => by
          subst e
          have hkl : k < h.l.length := (List.getElem?_eq_some_iff.1 q2).1
          have h2 := I.cnt k hkl
          dsimp only at h2
          have h3 := List.count_pos_iff.2 q1
          have h4 : 1 ≤ ((k : Int) :: r).count (k : Int) := by rw [List.count_cons_self]; omega
          rw [getD_of h2] at h1
          omega
        rw [List.getElem?_set_ne hkf]
        exact q2
      · exact ⟨q1, q2⟩) _ _ (Nat.le_refl _) I ⟨hf, hl⟩
  rw [e]
  exact q.2
theorem set_sameL {l : List Int} {k : Nat} {x : Int} (h : l[k]? = some x) : l.set k x = l := by
  obtain ⟨hk, e⟩ := List.getElem?_eq_some_iff.1 h
  rw [← e]; exact List.set_getElem_self hk
theorem link_parts {D E : Dp} {a b : Int} (h : linkO D a b = some E) : dpB D = true ∧ ∃ (i j f : Nat) (tt old : Int), a = i ∧ b = j ∧ D.C.h.t[i]? = some (f : Int) ∧ D.C.h.t[j]? = some tt ∧ D.C.h.l[f]? = some old ∧ E = fin_ ⟨⟨D.C.h.l.set f tt, D.C.h.r, D.C.h.t⟩, D.C.c, bump D.n tt, [old]⟩ := by
  rcases e : (dpB D && plB a D.C.h.t.length && plB b D.C.h.t.length && decide (D.C.h.t.getD a.toNat 0 ≠ -1))
  · unfold linkO at h; rw [e] at h; simp at h
  · rw [Bool.and_eq_true, Bool.and_eq_true, Bool.and_eq_true] at e
    obtain ⟨⟨⟨evd, evp⟩, evq⟩, ec⟩ := e
    have hk : 0 ≤ a ∧ a < D.C.h.t.length := by simpa [plB] using evp
    have hk' : 0 ≤ b ∧ b < D.C.h.t.length := by simpa [plB] using evq
    obtain ⟨i, rfl⟩ := Int.eq_ofNat_of_zero_le hk.1
    obtain ⟨j, rfl⟩ := Int.eq_ofNat_of_zero_le hk'.1
    obtain ⟨fr, hfr⟩ : ∃ x, D.C.h.t[i]? = some x := ⟨_, List.getElem?_eq_getElem (by omega)⟩
    obtain ⟨tt, hto⟩ : ∃ x, D.C.h.t[j]? = some x := ⟨_, List.getElem?_eq_getElem (by omega)⟩
    obtain ⟨f, rfl, hf⟩ := root_at evd hfr (by rw [Int.toNat_natCast, getD_of hfr] at ec; simpa using ec)
    obtain ⟨old, hold⟩ : ∃ x, D.C.h.l[f]? = some x := ⟨_, List.getElem?_eq_getElem hf⟩
    rw [linkO_some evd hfr hto hold] at h
    cases h
    exact ⟨evd, i, j, f, tt, old, rfl, rfl, hfr, hto, hold, rfl⟩
theorem link_again {D E : Dp} {a b : Int} (h : linkO D a b = some E) (hv : dpB E = true) : linkO E a b = some E ∧ ∃ (i j f : Nat) (tt : Int), a = i ∧ b = j ∧ D.C.h.t[j]? = some tt ∧ E.C.h.t[i]? = some (f : Int) ∧ E.C.h.l[f]? = some tt := by
  obtain ⟨evd, i, j, f, tt, old, rfl, rfl, hfr, hto, hold, rfl⟩ := link_parts h
  have I := link_inv evd (List.mem_of_getElem? hfr) (List.mem_of_getElem? hto) hold
  have hfl := (List.getElem?_eq_some_iff.1 hold).1
  have eT := fin_t ⟨⟨D.C.h.l.set f tt, D.C.h.r, D.C.h.t⟩, D.C.c, bump D.n tt, [old]⟩
  have eL := fin_l I (List.mem_of_getElem? hfr) (by show (D.C.h.l.set f tt)[f]? = some tt; rw [List.getElem?_set_self hfl])
  dsimp only at eT
  generalize fin_ ⟨⟨D.C.h.l.set f tt, D.C.h.r, D.C.h.t⟩, D.C.c, bump D.n tt, [old]⟩ = E at *
  have t1 : E.C.h.t[i]? = some (f : Int) := by rw [eT]; exact hfr
  have t2 : E.C.h.t[j]? = some tt := by rw [eT]; exact hto
  refine ⟨?_, i, j, f, tt, rfl, rfl, hto, t1, eL⟩
  have I2 := link_inv hv (List.mem_of_getElem? t1) (List.mem_of_getElem? t2) eL
  rw [linkO_some hv t1 t2 eL]
  rw [set_sameL eL] at I2 ⊢
  rw [fin_cons I2]
  by_cases h9 : tt = -1
  · subst h9
    unfold dn
    rw [if_pos rfl, bump_none, fin_nil]
  · obtain ⟨t, rfl, htl⟩ := root_at hv t2 h9
    have hn := (dpB_iff.1 hv).2
    have hz := cnts_get (h := E.C.h) htl
    rw [← hn] at hz
    have hc := List.count_pos_iff.2 (List.mem_of_getElem? eL)
    generalize hzz : ((E.C.h.l.count (t : Int) + E.C.h.r.count (t : Int) + E.C.h.t.count (t : Int) : Nat) : Int) = z at hz
    have hkl := (List.getElem?_eq_some_iff.1 hz).1
    rw [bump_at hz]
    have hg : (E.n.set t (z + 1)).getD t 0 = z + 1 := by simp [List.getD, List.getElem?_set_self hkl]
    unfold dn
    rw [if_neg h9, Int.toNat_natCast, hg, if_neg (by omega), List.set_set, show z + 1 - 1 = z by omega, set_sameL hz, fin_nil]

set_option maxRecDepth 100000 in
set_option maxHeartbeats 4000000 in
theorem lawLinkCounted_walk (w : World) (A : Option Addr) (n c : Nat) (h : Inp w A n c) :
    Calls Try.prog 5 #[.slice A n c] w (LawTrue w) := by
  by_cases hbig : 1048576 < n
  · go_enter Try.func5, Try.ntmps5
    go_wp2_with fail
    go_ret
    exact ⟨rfl, Below.refl _ _⟩
  go_enter Try.func5, Try.ntmps5
  go_wp2_with fail
  refine (drawLinkCounted_any _ _ _ _ h).mono ?_; rintro e w1 ⟨v, D, x, y, rfl, HA, hb1⟩
  have BW1 : Below w.heap.size w w1 := (Below.refl w.heap.size w).trans (hb1.mono (Below.refl w.heap.size w).size)
  have zz1 : w.heap.size ≤ w1.heap.size := hb1.size
  have HAo := HA
  obtain ⟨A0, n0, c0, A1, n1, c1, A2, n2, c2, A3, n3, c3, A4, n4, c4, rfl, -⟩ := HAo.open_
  clear HAo
  have I := fun W lo v hW => implLinkCounted_any W lo v D hW x y
  have S := fun W lo v hW => specLinkCounted_any W lo v D hW x y
  rcases ho : linkO D x y with _ | E
  · rw [ho] at I S
    go_wp2_with fail
    refine (I _ _ _ (HA.alloc (.cells #[.slice A0 n0 c0, .slice A1 n1 c1, .slice A2 n2 c2, .slice A3 n3 c3, .slice A4 n4 c4] 29))).mono ?_; rintro e w2 ⟨vHB, rfl, HB, hb2⟩
    simp only [Option.isSome_none, Option.getD_none] at HB ⊢
    have HBo := HB
    obtain ⟨B0, k0, d0, B1, k1, d1, B2, k2, d2, B3, k3, d3, B4, k4, d4, rfl, -⟩ := HBo.open_
    clear HBo
    have BW2 : Below w.heap.size w w2 := (BW1.alloc BW1.size (.cells #[.slice A0 n0 c0, .slice A1 n1 c1, .slice A2 n2 c2, .slice A3 n3 c3, .slice A4 n4 c4] 29)).trans (hb2.mono (BW1.alloc BW1.size (.cells #[.slice A0 n0 c0, .slice A1 n1 c1, .slice A2 n2 c2, .slice A3 n3 c3, .slice A4 n4 c4] 29)).size)
    have zz2 : w1.heap.size + 1 ≤ w2.heap.size := by have := hb2.size; simp at this; omega
    have HA_2 := Dv.below (by exact (HA.alloc (.cells #[.slice A0 n0 c0, .slice A1 n1 c1, .slice A2 n2 c2, .slice A3 n3 c3, .slice A4 n4 c4] 29))) hb2
    have X_2 := Blk5.below (by exact (Blk5.new w1 (.slice A0 n0 c0) (.slice A1 n1 c1) (.slice A2 n2 c2) (.slice A3 n3 c3) (.slice A4 n4 c4) 29)) hb2
    obtain ⟨cX_2_0, cX_2_1, cX_2_2, cX_2_3, cX_2_4, -⟩ := X_2.cells
    have lX_2 := X_2.lt
    go_wp2_with fail
    refine (S _ _ _ (HA_2.alloc (.cells #[.slice B0 k0 d0, .slice B1 k1 d1, .slice B2 k2 d2, .slice B3 k3 d3, .slice B4 k4 d4] 29))).mono ?_; rintro e w3 ⟨vHC, rfl, HC, hb3⟩
    simp only [Option.isSome_none, Option.getD_none] at HC ⊢
    have HCo := HC
    obtain ⟨K0, m0, e0, K1, m1, e1, K2, m2, e2, K3, m3, e3, K4, m4, e4, rfl, -⟩ := HCo.open_
    clear HCo
    have BW3 : Below w.heap.size w w3 := (BW2.alloc BW2.size (.cells #[.slice B0 k0 d0, .slice B1 k1 d1, .slice B2 k2 d2, .slice B3 k3 d3, .slice B4 k4 d4] 29)).trans (hb3.mono (BW2.alloc BW2.size (.cells #[.slice B0 k0 d0, .slice B1 k1 d1, .slice B2 k2 d2, .slice B3 k3 d3, .slice B4 k4 d4] 29)).size)
    have zz3 : w2.heap.size + 1 ≤ w3.heap.size := by have := hb3.size; simp at this; omega
    have HA_3 := Dv.below (by exact (HA_2.alloc (.cells #[.slice B0 k0 d0, .slice B1 k1 d1, .slice B2 k2 d2, .slice B3 k3 d3, .slice B4 k4 d4] 29))) hb3
    have X_3 := Blk5.below (by exact (X_2.alloc (.cells #[.slice B0 k0 d0, .slice B1 k1 d1, .slice B2 k2 d2, .slice B3 k3 d3, .slice B4 k4 d4] 29))) hb3
    obtain ⟨cX_3_0, cX_3_1, cX_3_2, cX_3_3, cX_3_4, -⟩ := X_3.cells
    have lX_3 := X_3.lt
    have HB_3 := Dv.below (by exact (HB.alloc (.cells #[.slice B0 k0 d0, .slice B1 k1 d1, .slice B2 k2 d2, .slice B3 k3 d3, .slice B4 k4 d4] 29))) hb3
    have P_3 := Blk5.below (by exact (Blk5.new w2 (.slice B0 k0 d0) (.slice B1 k1 d1) (.slice B2 k2 d2) (.slice B3 k3 d3) (.slice B4 k4 d4) 29)) hb3
    obtain ⟨cP_3_0, cP_3_1, cP_3_2, cP_3_3, cP_3_4, -⟩ := P_3.cells
    have lP_3 := P_3.lt
    have E1 := implCountedSame_any _ _ _ _ _ _ _ (HB_3.alloc (.cells #[.slice K0 m0 e0, .slice K1 m1 e1, .slice K2 m2 e2, .slice K3 m3 e3, .slice K4 m4 e4] 29)) (HC.alloc (.cells #[.slice K0 m0 e0, .slice K1 m1 e1, .slice K2 m2 e2, .slice K3 m3 e3, .slice K4 m4 e4] 29))
    rw [sameD_self] at E1
    go_wp2_with fail
    refine (E1).mono ?_; rintro e w4 ⟨rfl, hb4⟩
    have BW4 : Below w.heap.size w w4 := (BW3.alloc BW3.size (.cells #[.slice K0 m0 e0, .slice K1 m1 e1, .slice K2 m2 e2, .slice K3 m3 e3, .slice K4 m4 e4] 29)).trans (hb4.mono (BW3.alloc BW3.size (.cells #[.slice K0 m0 e0, .slice K1 m1 e1, .slice K2 m2 e2, .slice K3 m3 e3, .slice K4 m4 e4] 29)).size)
    have zz4 : w3.heap.size + 1 ≤ w4.heap.size := by have := hb4.size; simp at this; omega
    have HA_4 := Dv.below (by exact (HA_3.alloc (.cells #[.slice K0 m0 e0, .slice K1 m1 e1, .slice K2 m2 e2, .slice K3 m3 e3, .slice K4 m4 e4] 29))) hb4
    have X_4 := Blk5.below (by exact (X_3.alloc (.cells #[.slice K0 m0 e0, .slice K1 m1 e1, .slice K2 m2 e2, .slice K3 m3 e3, .slice K4 m4 e4] 29))) hb4
    obtain ⟨cX_4_0, cX_4_1, cX_4_2, cX_4_3, cX_4_4, -⟩ := X_4.cells
    have lX_4 := X_4.lt
    have HB_4 := Dv.below (by exact (HB_3.alloc (.cells #[.slice K0 m0 e0, .slice K1 m1 e1, .slice K2 m2 e2, .slice K3 m3 e3, .slice K4 m4 e4] 29))) hb4
    have P_4 := Blk5.below (by exact (P_3.alloc (.cells #[.slice K0 m0 e0, .slice K1 m1 e1, .slice K2 m2 e2, .slice K3 m3 e3, .slice K4 m4 e4] 29))) hb4
    obtain ⟨cP_4_0, cP_4_1, cP_4_2, cP_4_3, cP_4_4, -⟩ := P_4.cells
    have lP_4 := P_4.lt
    have HC_4 := Dv.below (by exact (HC.alloc (.cells #[.slice K0 m0 e0, .slice K1 m1 e1, .slice K2 m2 e2, .slice K3 m3 e3, .slice K4 m4 e4] 29))) hb4
    have Q_4 := Blk5.below (by exact (Blk5.new w3 (.slice K0 m0 e0) (.slice K1 m1 e1) (.slice K2 m2 e2) (.slice K3 m3 e3) (.slice K4 m4 e4) 29)) hb4
    obtain ⟨cQ_4_0, cQ_4_1, cQ_4_2, cQ_4_3, cQ_4_4, -⟩ := Q_4.cells
    have lQ_4 := Q_4.lt
    have E2 := implCountedSame_any _ _ _ _ _ _ _ HB_4 HC_4
    rw [sameD_self] at E2
    go_wp2_with fail
    refine (E2).mono ?_; rintro e w5 ⟨rfl, hb5⟩
    have BW5 : Below w.heap.size w w5 := BW4.trans (hb5.mono BW4.size)
    have zz5 : w4.heap.size ≤ w5.heap.size := hb5.size
    have HA_5 := Dv.below (by exact HA_4) hb5
    have X_5 := Blk5.below (by exact X_4) hb5
    obtain ⟨cX_5_0, cX_5_1, cX_5_2, cX_5_3, cX_5_4, -⟩ := X_5.cells
    have lX_5 := X_5.lt
    have HB_5 := Dv.below (by exact HB_4) hb5
    have P_5 := Blk5.below (by exact P_4) hb5
    obtain ⟨cP_5_0, cP_5_1, cP_5_2, cP_5_3, cP_5_4, -⟩ := P_5.cells
    have lP_5 := P_5.lt
    have HC_5 := Dv.below (by exact HC_4) hb5
    have Q_5 := Blk5.below (by exact Q_4) hb5
    obtain ⟨cQ_5_0, cQ_5_1, cQ_5_2, cQ_5_3, cQ_5_4, -⟩ := Q_5.cells
    have lQ_5 := Q_5.lt
    go_wp2_with fail
    go_ret
    exact ⟨rfl, BW5⟩
  · rw [ho] at I S
    have hvE := linkO_valid ho
    obtain ⟨hag, i, j, f, tt, rfl, rfl, hDj, hEi, hEl⟩ := link_again ho hvE
    have J := fun W lo v hW => implLinkCounted_any W lo v E hW (i : Int) (j : Int)
    rw [hag] at J
    have VE := fun W lo v hW => implCountedValid_any W lo v E hW
    rw [hvE] at VE
    have SE := fun W lo lo' v v' h h' => implCountedSame_any W lo lo' v v' E E h h'
    rw [sameD_self] at SE
    have htt : (tt == tt) = true := by simp
    have hDj' := Lib.hid hDj
    have hEi' := Lib.hid hEi
    have hEl' := Lib.hid hEl
    clear hag ho hvE hDj hEi hEl
    go_wp2_with fail
    refine (I _ _ _ (HA.alloc (.cells #[.slice A0 n0 c0, .slice A1 n1 c1, .slice A2 n2 c2, .slice A3 n3 c3, .slice A4 n4 c4] 29))).mono ?_; rintro e w2 ⟨vHB, rfl, HB, hb2⟩
    simp only [Option.isSome_some, Option.getD_some] at HB ⊢
    have HBo := HB
    obtain ⟨B0, k0, d0, B1, k1, d1, B2, k2, d2, B3, k3, d3, B4, k4, d4, rfl, -⟩ := HBo.open_
    clear HBo
    have BW2 : Below w.heap.size w w2 := (BW1.alloc BW1.size (.cells #[.slice A0 n0 c0, .slice A1 n1 c1, .slice A2 n2 c2, .slice A3 n3 c3, .slice A4 n4 c4] 29)).trans (hb2.mono (BW1.alloc BW1.size (.cells #[.slice A0 n0 c0, .slice A1 n1 c1, .slice A2 n2 c2, .slice A3 n3 c3, .slice A4 n4 c4] 29)).size)
    have zz2 : w1.heap.size + 1 ≤ w2.heap.size := by have := hb2.size; simp at this; omega
    have HA_2 := Dv.below (by exact (HA.alloc (.cells #[.slice A0 n0 c0, .slice A1 n1 c1, .slice A2 n2 c2, .slice A3 n3 c3, .slice A4 n4 c4] 29))) hb2
    have X_2 := Blk5.below (by exact (Blk5.new w1 (.slice A0 n0 c0) (.slice A1 n1 c1) (.slice A2 n2 c2) (.slice A3 n3 c3) (.slice A4 n4 c4) 29)) hb2
    obtain ⟨cX_2_0, cX_2_1, cX_2_2, cX_2_3, cX_2_4, -⟩ := X_2.cells
    have lX_2 := X_2.lt
    go_wp2_with fail
    refine (S _ _ _ (HA_2.alloc (.cells #[.slice B0 k0 d0, .slice B1 k1 d1, .slice B2 k2 d2, .slice B3 k3 d3, .slice B4 k4 d4] 29))).mono ?_; rintro e w3 ⟨vHC, rfl, HC, hb3⟩
    simp only [Option.isSome_some, Option.getD_some] at HC ⊢
    have HCo := HC
    obtain ⟨K0, m0, e0, K1, m1, e1, K2, m2, e2, K3, m3, e3, K4, m4, e4, rfl, -⟩ := HCo.open_
    clear HCo
    have BW3 : Below w.heap.size w w3 := (BW2.alloc BW2.size (.cells #[.slice B0 k0 d0, .slice B1 k1 d1, .slice B2 k2 d2, .slice B3 k3 d3, .slice B4 k4 d4] 29)).trans (hb3.mono (BW2.alloc BW2.size (.cells #[.slice B0 k0 d0, .slice B1 k1 d1, .slice B2 k2 d2, .slice B3 k3 d3, .slice B4 k4 d4] 29)).size)
    have zz3 : w2.heap.size + 1 ≤ w3.heap.size := by have := hb3.size; simp at this; omega
    have HA_3 := Dv.below (by exact (HA_2.alloc (.cells #[.slice B0 k0 d0, .slice B1 k1 d1, .slice B2 k2 d2, .slice B3 k3 d3, .slice B4 k4 d4] 29))) hb3
    have X_3 := Blk5.below (by exact (X_2.alloc (.cells #[.slice B0 k0 d0, .slice B1 k1 d1, .slice B2 k2 d2, .slice B3 k3 d3, .slice B4 k4 d4] 29))) hb3
    obtain ⟨cX_3_0, cX_3_1, cX_3_2, cX_3_3, cX_3_4, -⟩ := X_3.cells
    have lX_3 := X_3.lt
    have HB_3 := Dv.below (by exact (HB.alloc (.cells #[.slice B0 k0 d0, .slice B1 k1 d1, .slice B2 k2 d2, .slice B3 k3 d3, .slice B4 k4 d4] 29))) hb3
    have P_3 := Blk5.below (by exact (Blk5.new w2 (.slice B0 k0 d0) (.slice B1 k1 d1) (.slice B2 k2 d2) (.slice B3 k3 d3) (.slice B4 k4 d4) 29)) hb3
    obtain ⟨cP_3_0, cP_3_1, cP_3_2, cP_3_3, cP_3_4, -⟩ := P_3.cells
    have lP_3 := P_3.lt
    have E1 := implCountedSame_any _ _ _ _ _ _ _ (HB_3.alloc (.cells #[.slice K0 m0 e0, .slice K1 m1 e1, .slice K2 m2 e2, .slice K3 m3 e3, .slice K4 m4 e4] 29)) (HC.alloc (.cells #[.slice K0 m0 e0, .slice K1 m1 e1, .slice K2 m2 e2, .slice K3 m3 e3, .slice K4 m4 e4] 29))
    rw [sameD_self] at E1
    go_wp2_with fail
    refine (E1).mono ?_; rintro e w4 ⟨rfl, hb4⟩
    have BW4 : Below w.heap.size w w4 := (BW3.alloc BW3.size (.cells #[.slice K0 m0 e0, .slice K1 m1 e1, .slice K2 m2 e2, .slice K3 m3 e3, .slice K4 m4 e4] 29)).trans (hb4.mono (BW3.alloc BW3.size (.cells #[.slice K0 m0 e0, .slice K1 m1 e1, .slice K2 m2 e2, .slice K3 m3 e3, .slice K4 m4 e4] 29)).size)
    have zz4 : w3.heap.size + 1 ≤ w4.heap.size := by have := hb4.size; simp at this; omega
    have HA_4 := Dv.below (by exact (HA_3.alloc (.cells #[.slice K0 m0 e0, .slice K1 m1 e1, .slice K2 m2 e2, .slice K3 m3 e3, .slice K4 m4 e4] 29))) hb4
    have X_4 := Blk5.below (by exact (X_3.alloc (.cells #[.slice K0 m0 e0, .slice K1 m1 e1, .slice K2 m2 e2, .slice K3 m3 e3, .slice K4 m4 e4] 29))) hb4
    obtain ⟨cX_4_0, cX_4_1, cX_4_2, cX_4_3, cX_4_4, -⟩ := X_4.cells
    have lX_4 := X_4.lt
    have HB_4 := Dv.below (by exact (HB_3.alloc (.cells #[.slice K0 m0 e0, .slice K1 m1 e1, .slice K2 m2 e2, .slice K3 m3 e3, .slice K4 m4 e4] 29))) hb4
    have P_4 := Blk5.below (by exact (P_3.alloc (.cells #[.slice K0 m0 e0, .slice K1 m1 e1, .slice K2 m2 e2, .slice K3 m3 e3, .slice K4 m4 e4] 29))) hb4
    obtain ⟨cP_4_0, cP_4_1, cP_4_2, cP_4_3, cP_4_4, -⟩ := P_4.cells
    have lP_4 := P_4.lt
    have HC_4 := Dv.below (by exact (HC.alloc (.cells #[.slice K0 m0 e0, .slice K1 m1 e1, .slice K2 m2 e2, .slice K3 m3 e3, .slice K4 m4 e4] 29))) hb4
    have Q_4 := Blk5.below (by exact (Blk5.new w3 (.slice K0 m0 e0) (.slice K1 m1 e1) (.slice K2 m2 e2) (.slice K3 m3 e3) (.slice K4 m4 e4) 29)) hb4
    obtain ⟨cQ_4_0, cQ_4_1, cQ_4_2, cQ_4_3, cQ_4_4, -⟩ := Q_4.cells
    have lQ_4 := Q_4.lt
    go_wp2_with fail
    refine (J _ _ _ HB_4).mono ?_; rintro e w5 ⟨vHY, rfl, HY, hb5⟩
    simp only [Option.isSome_some, Option.getD_some] at HY ⊢
    have HYo := HY
    obtain ⟨F0, f0, y0, F1, f1, y1, F2, f2, y2, F3, f3, y3, F4, f4, y4, rfl, -⟩ := HYo.open_
    clear HYo
    have BW5 : Below w.heap.size w w5 := BW4.trans (hb5.mono BW4.size)
    have zz5 : w4.heap.size ≤ w5.heap.size := hb5.size
    have HA_5 := Dv.below (by exact HA_4) hb5
    have X_5 := Blk5.below (by exact X_4) hb5
    obtain ⟨cX_5_0, cX_5_1, cX_5_2, cX_5_3, cX_5_4, -⟩ := X_5.cells
    have lX_5 := X_5.lt
    have HB_5 := Dv.below (by exact HB_4) hb5
    have P_5 := Blk5.below (by exact P_4) hb5
    obtain ⟨cP_5_0, cP_5_1, cP_5_2, cP_5_3, cP_5_4, -⟩ := P_5.cells
    have lP_5 := P_5.lt
    have HC_5 := Dv.below (by exact HC_4) hb5
    have Q_5 := Blk5.below (by exact Q_4) hb5
    obtain ⟨cQ_5_0, cQ_5_1, cQ_5_2, cQ_5_3, cQ_5_4, -⟩ := Q_5.cells
    have lQ_5 := Q_5.lt
    go_wp2_with fail
    obtain ⟨gd, u, hA2, _, hgd, hu, hcd, -⟩ := (Dv.rows (HA_5.alloc (.cells #[.slice F0 f0 y0, .slice F1 f1 y1, .slice F2 f2 y2, .slice F3 f3 y3, .slice F4 f4 y4] 29))).2.2.1.get (k := j) (List.getElem?_eq_some_iff.1 hDj'.out).1
    obtain rfl : u = tt := by have h9 := hu.out; rw [hDj'.out] at h9; exact (Option.some.inj h9).symm
    obtain ⟨ge, u2, hB2, _, hge, hu2, hce, -⟩ := (Dv.rows (HB_5.alloc (.cells #[.slice F0 f0 y0, .slice F1 f1 y1, .slice F2 f2 y2, .slice F3 f3 y3, .slice F4 f4 y4] 29))).2.2.1.get (k := i) (List.getElem?_eq_some_iff.1 hEi'.out).1
    obtain rfl : u2 = (f : Int) := by have h9 := hu2.out; rw [hEi'.out] at h9; exact (Option.some.inj h9).symm
    obtain ⟨gl, u3, hB0, _, hgl, hu3, hcl, -⟩ := (Dv.rows (HB_5.alloc (.cells #[.slice F0 f0 y0, .slice F1 f1 y1, .slice F2 f2 y2, .slice F3 f3 y3, .slice F4 f4 y4] 29))).1.get (k := f) (List.getElem?_eq_some_iff.1 hEl'.out).1
    obtain rfl : u = u3 := by have h9 := hu3.out; rw [hEl'.out] at h9; exact Option.some.inj h9
    have hj2 : (j : Int) < (n2 : Int) := by have h8 := lenS (Dv.rows (HA_5.alloc (.cells #[.slice F0 f0 y0, .slice F1 f1 y1, .slice F2 f2 y2, .slice F3 f3 y3, .slice F4 f4 y4] 29))).2.2.1; have h9 := (List.getElem?_eq_some_iff.1 hDj'.out).1; omega
    have hi2 : (i : Int) < (k2 : Int) := by have h8 := lenS (Dv.rows (HB_5.alloc (.cells #[.slice F0 f0 y0, .slice F1 f1 y1, .slice F2 f2 y2, .slice F3 f3 y3, .slice F4 f4 y4] 29))).2.2.1; have h9 := (List.getElem?_eq_some_iff.1 hEi'.out).1; omega
    have hf2 : (f : Int) < (k0 : Int) := by have h8 := lenS (Dv.rows (HB_5.alloc (.cells #[.slice F0 f0 y0, .slice F1 f1 y1, .slice F2 f2 y2, .slice F3 f3 y3, .slice F4 f4 y4] 29))).1; have h9 := (List.getElem?_eq_some_iff.1 hEl'.out).1; omega
    have X9 := (X_5.alloc (.cells #[.slice F0 f0 y0, .slice F1 f1 y1, .slice F2 f2 y2, .slice F3 f3 y3, .slice F4 f4 y4] 29))
    have P9 := (P_5.alloc (.cells #[.slice F0 f0 y0, .slice F1 f1 y1, .slice F2 f2 y2, .slice F3 f3 y3, .slice F4 f4 y4] 29))
    have Y9 := (Blk5.new w5 (.slice F0 f0 y0) (.slice F1 f1 y1) (.slice F2 f2 y2) (.slice F3 f3 y3) (.slice F4 f4 y4) 29)
    have HB9 := (HB_5.alloc (.cells #[.slice F0 f0 y0, .slice F1 f1 y1, .slice F2 f2 y2, .slice F3 f3 y3, .slice F4 f4 y4] 29))
    have HY9 := (HY.alloc (.cells #[.slice F0 f0 y0, .slice F1 f1 y1, .slice F2 f2 y2, .slice F3 f3 y3, .slice F4 f4 y4] 29))
    have BW9 := (BW5.alloc BW5.size (.cells #[.slice F0 f0 y0, .slice F1 f1 y1, .slice F2 f2 y2, .slice F3 f3 y3, .slice F4 f4 y4] 29))
    subst hA2 hB2 hB0
    clear hu hu2 hu3 hDj' hEi' hEl'
    generalize (w5.alloc (.cells #[.slice F0 f0 y0, .slice F1 f1 y1, .slice F2 f2 y2, .slice F3 f3 y3, .slice F4 f4 y4] 29)) = W9 at X9 P9 Y9 HB9 HY9 BW9 hcd hce hcl hgd hge hgl ⊢
    have SO : ∀ w' : World, Below W9.heap.size W9 w' → w'.cell? ⟨w1.heap.size, 0, none⟩ = some (.slice A0 n0 c0) ∧ w'.cell? ⟨w1.heap.size, 1, none⟩ = some (.slice A1 n1 c1) ∧ w'.cell? ⟨w1.heap.size, 2, none⟩ = some (.slice (some ⟨gd, 0, none⟩) n2 c2) ∧ w'.cell? ⟨w1.heap.size, 3, none⟩ = some (.slice A3 n3 c3) ∧ w'.cell? ⟨w1.heap.size, 4, none⟩ = some (.slice A4 n4 c4) ∧ w'.cell? ⟨w2.heap.size, 0, none⟩ = some (.slice (some ⟨gl, 0, none⟩) k0 d0) ∧ w'.cell? ⟨w2.heap.size, 1, none⟩ = some (.slice B1 k1 d1) ∧ w'.cell? ⟨w2.heap.size, 2, none⟩ = some (.slice (some ⟨ge, 0, none⟩) k2 d2) ∧ w'.cell? ⟨w2.heap.size, 3, none⟩ = some (.slice B3 k3 d3) ∧ w'.cell? ⟨w2.heap.size, 4, none⟩ = some (.slice B4 k4 d4) ∧ w'.cell? ⟨w5.heap.size, 0, none⟩ = some (.slice F0 f0 y0) ∧ w'.cell? ⟨w5.heap.size, 1, none⟩ = some (.slice F1 f1 y1) ∧ w'.cell? ⟨w5.heap.size, 2, none⟩ = some (.slice F2 f2 y2) ∧ w'.cell? ⟨w5.heap.size, 3, none⟩ = some (.slice F3 f3 y3) ∧ w'.cell? ⟨w5.heap.size, 4, none⟩ = some (.slice F4 f4 y4) ∧ w'.cell? ⟨gd, j, none⟩ = some (.int .i64 u) ∧ w'.cell? ⟨ge, i, none⟩ = some (.int .i64 (f : Int)) ∧ w'.cell? ⟨gl, f, none⟩ = some (.int .i64 u) := fun w' hb => ⟨(X9.below hb).cells.1, (X9.below hb).cells.2.1, (X9.below hb).cells.2.2.1, (X9.below hb).cells.2.2.2.1, (X9.below hb).cells.2.2.2.2.1, (P9.below hb).cells.1, (P9.below hb).cells.2.1, (P9.below hb).cells.2.2.1, (P9.below hb).cells.2.2.2.1, (P9.below hb).cells.2.2.2.2.1, (Y9.below hb).cells.1, (Y9.below hb).cells.2.1, (Y9.below hb).cells.2.2.1, (Y9.below hb).cells.2.2.2.1, (Y9.below hb).cells.2.2.2.2.1, (World.cell?_of_block (w := W9) (a := ⟨gd, j, none⟩) (hb.block gd hgd)).trans hcd, (World.cell?_of_block (w := W9) (a := ⟨ge, i, none⟩) (hb.block ge hge)).trans hce, (World.cell?_of_block (w := W9) (a := ⟨gl, f, none⟩) (hb.block gl hgl)).trans hcl⟩
    have C1 := VE W9.drew _ _ HB9.drew
    have C2 := fun V (hb : Below W9.heap.size W9 V) => SE V _ _ _ _ (HY9.below hb) (HB9.below hb)
    go_region_held3 (fun w' => w'.cell? ⟨w1.heap.size, 0, none⟩ = some (.slice A0 n0 c0) ∧ w'.cell? ⟨w1.heap.size, 1, none⟩ = some (.slice A1 n1 c1) ∧ w'.cell? ⟨w1.heap.size, 2, none⟩ = some (.slice (some ⟨gd, 0, none⟩) n2 c2) ∧ w'.cell? ⟨w1.heap.size, 3, none⟩ = some (.slice A3 n3 c3) ∧ w'.cell? ⟨w1.heap.size, 4, none⟩ = some (.slice A4 n4 c4) ∧ w'.cell? ⟨w2.heap.size, 0, none⟩ = some (.slice (some ⟨gl, 0, none⟩) k0 d0) ∧ w'.cell? ⟨w2.heap.size, 1, none⟩ = some (.slice B1 k1 d1) ∧ w'.cell? ⟨w2.heap.size, 2, none⟩ = some (.slice (some ⟨ge, 0, none⟩) k2 d2) ∧ w'.cell? ⟨w2.heap.size, 3, none⟩ = some (.slice B3 k3 d3) ∧ w'.cell? ⟨w2.heap.size, 4, none⟩ = some (.slice B4 k4 d4) ∧ w'.cell? ⟨w5.heap.size, 0, none⟩ = some (.slice F0 f0 y0) ∧ w'.cell? ⟨w5.heap.size, 1, none⟩ = some (.slice F1 f1 y1) ∧ w'.cell? ⟨w5.heap.size, 2, none⟩ = some (.slice F2 f2 y2) ∧ w'.cell? ⟨w5.heap.size, 3, none⟩ = some (.slice F3 f3 y3) ∧ w'.cell? ⟨w5.heap.size, 4, none⟩ = some (.slice F4 f4 y4) ∧ w'.cell? ⟨gd, j, none⟩ = some (.int .i64 u) ∧ w'.cell? ⟨ge, i, none⟩ = some (.int .i64 (f : Int)) ∧ w'.cell? ⟨gl, f, none⟩ = some (.int .i64 u))
      (((try dsimp only); (refine SO _ ?_); (repeat (with_reducible (first | exact Below.refl _ _ | exact hR7 | exact hR6 | refine B5_dr ?_ | refine B5_al ?_ _)))))
      (first
        | (go_at_call 20; (with_reducible refine C1.mono ?_); rintro e w6 ⟨rfl, hb6⟩; (have hR6 : Below W9.heap.size W9 w6 := B5_th (B5_dr (Below.refl _ _)) hb6))
        | (go_at_call 18; (with_reducible refine (C2 _ hR6).mono ?_); rintro e w7 ⟨rfl, hb7⟩; (have hR7 : Below W9.heap.size W9 w7 := B5_th hR6 hb7)))
    all_goals
      rename_i hHeld
      clear hHeld
      go_wp2_with fail
      go_ret
      exact ⟨rfl, BW9.trans (hR7.mono BW9.size)⟩
end Go.Proofs.Yteogflkahoanlaa
