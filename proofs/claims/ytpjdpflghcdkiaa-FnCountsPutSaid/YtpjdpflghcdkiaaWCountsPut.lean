/- The law FnCountsPut, walked. -/
import Derived.Test.YtpjdpflghcdkiaaLaws0
import Derived.Test.YtpjdpflghcdkiaaDPutRight
import Derived.Test.YtpjdpflghcdkiaaCntI
import Derived.Test.YtpjdpflghcdkiaaCntSum
import Derived.Test.YtpjdpflghcdkiaaHpB
import Derived.Test.YtpjdpflghcdkiaaHpA
import Derived.Test.YtpjdpflghcdkiaaLawSs
namespace Go.Proofs.Ytpjdpflghcdkiaa
open Go.RowKit

def hitB (x : Int) (i : Nat) : Int := if x < (i : Int) then 1 else 0
theorem hit_bd (x : Int) (i : Nat) : 0 ≤ hitB x i ∧ hitB x i ≤ 1 := by unfold hitB; split <;> omega
theorem hit_mono (x : Int) (i : Nat) : hitB x i ≤ hitB x (i + 1) := by unfold hitB; split <;> split <;> omega
theorem hit_at (i : Nat) : hitB (i : Int) (i + 1) = hitB (i : Int) i + 1 := by unfold hitB; split <;> split <;> omega
/-- Between the counts of a heap and those where one Right pointer was put. -/
theorem put_diff {h : Hp} {k : Nat} {y z : Int} (hz : h.r[k]? = some z) {i : Nat} {a b : Int} (ha : (cnts h)[i]? = some a) (hb : (cnts ⟨h.l, h.r.set k y, h.t⟩)[i]? = some b) :
    (b - a = -1 ∨ b - a = 0 ∨ b - a = 1) ∧ (b - a ≠ 0 → hitB y i + hitB z i + 1 ≤ hitB y (i + 1) + hitB z (i + 1)) := by
  have hi : i < h.l.length := by have := (List.getElem?_eq_some_iff.1 ha).1; rw [cnts_len] at this; exact this
  rw [cnts_get hi] at ha
  rw [cnts_get (h := ⟨h.l, h.r.set k y, h.t⟩) hi] at hb
  have s := count_set h.r (z := y) (j := (i : Int)) hz
  have ea := Option.some.inj ha
  have eb := Option.some.inj hb
  dsimp only at eb
  have m1 := hit_mono y i
  have m2 := hit_mono z i
  by_cases p1 : z = (i : Int)
  · by_cases p2 : y = (i : Int)
    · rw [if_pos p1, if_pos p2] at s
      exact ⟨by omega, fun hn => by omega⟩
    · rw [if_pos p1, if_neg p2] at s
      have e := hit_at i
      rw [← p1] at e
      exact ⟨by omega, fun _ => by omega⟩
  · by_cases p2 : y = (i : Int)
    · rw [if_neg p1, if_pos p2] at s
      have e := hit_at i
      rw [← p2] at e
      exact ⟨by omega, fun _ => by omega⟩
    · rw [if_neg p1, if_neg p2] at s
      exact ⟨by omega, fun hn => by omega⟩
theorem nr_len {w : World} {xs : List Int} {n : Nat} (hn : xs.length = n) {e : Ending} {w' : World} (h : NewRow w xs e w') : ∃ A c, e = .returned (.slice A n c) ∧ Row w' w.heap.size (.slice A n c) xs ∧ Below w.heap.size w w' := by
  obtain ⟨A, c, h1, h2, h3⟩ := h
  subst hn
  exact ⟨A, c, h1, h2, h3⟩
theorem row_maxN {w : World} {lo n c : Nat} {A : Option Addr} {xs : List Int} (h : Row w lo (.slice A n c) xs) : xs.length = n ∧ n ≤ 9223372036854775807 := by
  obtain ⟨A', c', e, h1, h2⟩ := h.form
  cases e
  unfold maxLen at h2
  exact ⟨rfl, by omega⟩

set_option maxRecDepth 100000 in
set_option maxHeartbeats 4000000 in
theorem lawCountsPut_walk (w : World) (A : Option Addr) (n c : Nat) (h : Inp w A n c) :
    Calls Try.prog 12 #[.slice A n c] w (LawTrue w) := by
  by_cases hbig : 1048576 < n
  · go_enter Try.func12, Try.ntmps12
    go_wp2_with fail
    go_ret
    exact ⟨rfl, Below.refl _ _⟩
  go_enter Try.func12, Try.ntmps12
  go_wp2_with fail
  refine (drawPutRight_any _ _ _ _ h).mono ?_; rintro e w1 ⟨v, hp, x, y, rfl, HA, hb1⟩
  have BW1 : Below w.heap.size w w1 := (Below.refl w.heap.size w).trans (hb1.mono (Below.refl w.heap.size w).size)
  have zz1 : w.heap.size ≤ w1.heap.size := hb1.size
  have HAo := HA
  obtain ⟨A0, n0, c0, A1, n1, c1, A2, n2, c2, rfl, -, ⟨l0, l1, l2⟩, -⟩ := HAo.open_
  clear HAo
  have I := fun W lo v hW => implPutRight_any W lo v hp hW x y
  have S := fun W lo v hW => specPutRight_any W lo v hp hW x y
  rcases ho : putR hp x y with _ | h2
  · rw [ho] at I S
    go_wp2_with fail
    refine (I _ _ _ (HA.alloc (.cells #[.slice A0 n0 c0, .slice A1 n1 c1, .slice A2 n2 c2] 27))).mono ?_; rintro e w2 ⟨vHB, rfl, HB, hb2⟩
    simp only [Option.isSome_none, Option.getD_none] at HB ⊢
    have HBo := HB
    obtain ⟨B0, k0, d0, B1, k1, d1, B2, k2, d2, rfl, -⟩ := HBo.open_
    clear HBo
    have BW2 : Below w.heap.size w w2 := (BW1.alloc BW1.size (.cells #[.slice A0 n0 c0, .slice A1 n1 c1, .slice A2 n2 c2] 27)).trans (hb2.mono (BW1.alloc BW1.size (.cells #[.slice A0 n0 c0, .slice A1 n1 c1, .slice A2 n2 c2] 27)).size)
    have zz2 : w1.heap.size + 1 ≤ w2.heap.size := by have := hb2.size; simp at this; omega
    have HA_2 := Hv.below (by exact (HA.alloc (.cells #[.slice A0 n0 c0, .slice A1 n1 c1, .slice A2 n2 c2] 27))) hb2
    have X_2 := Blk3.below (by exact (Blk3.new w1 (.slice A0 n0 c0) (.slice A1 n1 c1) (.slice A2 n2 c2) 27)) hb2
    obtain ⟨cX_2_0, cX_2_1, cX_2_2, -⟩ := X_2.cells
    have lX_2 := X_2.lt
    go_wp2_with fail
    refine (S _ _ _ (HA_2.alloc (.cells #[.slice B0 k0 d0, .slice B1 k1 d1, .slice B2 k2 d2] 27))).mono ?_; rintro e w3 ⟨vHC, rfl, HC, hb3⟩
    simp only [Option.isSome_none, Option.getD_none] at HC ⊢
    have HCo := HC
    obtain ⟨K0, m0, e0, K1, m1, e1, K2, m2, e2, rfl, -⟩ := HCo.open_
    clear HCo
    have BW3 : Below w.heap.size w w3 := (BW2.alloc BW2.size (.cells #[.slice B0 k0 d0, .slice B1 k1 d1, .slice B2 k2 d2] 27)).trans (hb3.mono (BW2.alloc BW2.size (.cells #[.slice B0 k0 d0, .slice B1 k1 d1, .slice B2 k2 d2] 27)).size)
    have zz3 : w2.heap.size + 1 ≤ w3.heap.size := by have := hb3.size; simp at this; omega
    have HA_3 := Hv.below (by exact (HA_2.alloc (.cells #[.slice B0 k0 d0, .slice B1 k1 d1, .slice B2 k2 d2] 27))) hb3
    have X_3 := Blk3.below (by exact (X_2.alloc (.cells #[.slice B0 k0 d0, .slice B1 k1 d1, .slice B2 k2 d2] 27))) hb3
    obtain ⟨cX_3_0, cX_3_1, cX_3_2, -⟩ := X_3.cells
    have lX_3 := X_3.lt
    have HB_3 := Hv.below (by exact (HB.alloc (.cells #[.slice B0 k0 d0, .slice B1 k1 d1, .slice B2 k2 d2] 27))) hb3
    have P_3 := Blk3.below (by exact (Blk3.new w2 (.slice B0 k0 d0) (.slice B1 k1 d1) (.slice B2 k2 d2) 27)) hb3
    obtain ⟨cP_3_0, cP_3_1, cP_3_2, -⟩ := P_3.cells
    have lP_3 := P_3.lt
    have E1 := implHeapSame_any _ _ _ _ _ _ _ (HB_3.alloc (.cells #[.slice K0 m0 e0, .slice K1 m1 e1, .slice K2 m2 e2] 27)) (HC.alloc (.cells #[.slice K0 m0 e0, .slice K1 m1 e1, .slice K2 m2 e2] 27))
    rw [sameB_selfS] at E1
    go_wp2_with fail
    refine (E1).mono ?_; rintro e w4 ⟨rfl, hb4⟩
    have BW4 : Below w.heap.size w w4 := (BW3.alloc BW3.size (.cells #[.slice K0 m0 e0, .slice K1 m1 e1, .slice K2 m2 e2] 27)).trans (hb4.mono (BW3.alloc BW3.size (.cells #[.slice K0 m0 e0, .slice K1 m1 e1, .slice K2 m2 e2] 27)).size)
    have zz4 : w3.heap.size + 1 ≤ w4.heap.size := by have := hb4.size; simp at this; omega
    have HA_4 := Hv.below (by exact (HA_3.alloc (.cells #[.slice K0 m0 e0, .slice K1 m1 e1, .slice K2 m2 e2] 27))) hb4
    have X_4 := Blk3.below (by exact (X_3.alloc (.cells #[.slice K0 m0 e0, .slice K1 m1 e1, .slice K2 m2 e2] 27))) hb4
    obtain ⟨cX_4_0, cX_4_1, cX_4_2, -⟩ := X_4.cells
    have lX_4 := X_4.lt
    have HB_4 := Hv.below (by exact (HB_3.alloc (.cells #[.slice K0 m0 e0, .slice K1 m1 e1, .slice K2 m2 e2] 27))) hb4
    have P_4 := Blk3.below (by exact (P_3.alloc (.cells #[.slice K0 m0 e0, .slice K1 m1 e1, .slice K2 m2 e2] 27))) hb4
    obtain ⟨cP_4_0, cP_4_1, cP_4_2, -⟩ := P_4.cells
    have lP_4 := P_4.lt
    have HC_4 := Hv.below (by exact (HC.alloc (.cells #[.slice K0 m0 e0, .slice K1 m1 e1, .slice K2 m2 e2] 27))) hb4
    have Q_4 := Blk3.below (by exact (Blk3.new w3 (.slice K0 m0 e0) (.slice K1 m1 e1) (.slice K2 m2 e2) 27)) hb4
    obtain ⟨cQ_4_0, cQ_4_1, cQ_4_2, -⟩ := Q_4.cells
    have lQ_4 := Q_4.lt
    have E2 := implHeapSame_any _ _ _ _ _ _ _ HB_4 HC_4
    rw [sameB_selfS] at E2
    go_wp2_with fail
    refine (E2).mono ?_; rintro e w5 ⟨rfl, hb5⟩
    have BW5 : Below w.heap.size w w5 := BW4.trans (hb5.mono BW4.size)
    have zz5 : w4.heap.size ≤ w5.heap.size := hb5.size
    have HA_5 := Hv.below (by exact HA_4) hb5
    have X_5 := Blk3.below (by exact X_4) hb5
    obtain ⟨cX_5_0, cX_5_1, cX_5_2, -⟩ := X_5.cells
    have lX_5 := X_5.lt
    have HB_5 := Hv.below (by exact HB_4) hb5
    have P_5 := Blk3.below (by exact P_4) hb5
    obtain ⟨cP_5_0, cP_5_1, cP_5_2, -⟩ := P_5.cells
    have lP_5 := P_5.lt
    have HC_5 := Hv.below (by exact HC_4) hb5
    have Q_5 := Blk3.below (by exact Q_4) hb5
    obtain ⟨cQ_5_0, cQ_5_1, cQ_5_2, -⟩ := Q_5.cells
    have lQ_5 := Q_5.lt
    go_wp2_with fail
    go_ret
    exact ⟨rfl, BW5⟩
  · rw [ho] at I S
    obtain ⟨hv, kk, rfl, hkl, -, rfl⟩ := putR_some ho
    have hv2 := putR_valid ho
    obtain ⟨z, hz⟩ : ∃ z, hp.r[kk]? = some z := ⟨_, List.getElem?_eq_getElem hkl⟩
    have hdf := fun (i : Nat) (a b : Int) (ha : (cnts hp)[i]? = some a) (hb : (cnts ⟨hp.l, hp.r.set kk y, hp.t⟩)[i]? = some b) => put_diff hz ha hb
    have hxa : cntO hp = cnts hp := by unfold cntO; rw [if_pos hv]
    have hxb : cntO ⟨hp.l, hp.r.set kk y, hp.t⟩ = cnts ⟨hp.l, hp.r.set kk y, hp.t⟩ := by unfold cntO; rw [if_pos hv2]
    have hla : (cnts hp).length = n0 := (cnts_len hp).trans l0.out
    have hlb : (cnts ⟨hp.l, hp.r.set kk y, hp.t⟩).length = n0 := (cnts_len _).trans l0.out
    have n8 := (hvB_len hv).2.2.1
    rw [l0.out] at n8
    have CA := fun W lo v hW => (implCountsOf_any W lo v hp hW).mono fun _ _ H => nr_len (n := n0) (by rw [hxa]; exact hla) H
    have CB := fun W lo v hW => (implCountsOf_any W lo v ⟨hp.l, hp.r.set kk y, hp.t⟩ hW).mono fun _ _ H => nr_len (n := n0) (by rw [hxb]; exact hlb) H
    rw [hxa] at CA
    rw [hxb] at CB
    clear hxa hxb hv hv2 ho hkl hz
    go_wp2_with fail
    refine (I _ _ _ (HA.alloc (.cells #[.slice A0 n0 c0, .slice A1 n1 c1, .slice A2 n2 c2] 27))).mono ?_; rintro e w2 ⟨vHB, rfl, HB, hb2⟩
    simp only [Option.isSome_some, Option.getD_some] at HB ⊢
    have HBo := HB
    obtain ⟨B0, k0, d0, B1, k1, d1, B2, k2, d2, rfl, -⟩ := HBo.open_
    clear HBo
    have BW2 : Below w.heap.size w w2 := (BW1.alloc BW1.size (.cells #[.slice A0 n0 c0, .slice A1 n1 c1, .slice A2 n2 c2] 27)).trans (hb2.mono (BW1.alloc BW1.size (.cells #[.slice A0 n0 c0, .slice A1 n1 c1, .slice A2 n2 c2] 27)).size)
    have zz2 : w1.heap.size + 1 ≤ w2.heap.size := by have := hb2.size; simp at this; omega
    have HA_2 := Hv.below (by exact (HA.alloc (.cells #[.slice A0 n0 c0, .slice A1 n1 c1, .slice A2 n2 c2] 27))) hb2
    have X_2 := Blk3.below (by exact (Blk3.new w1 (.slice A0 n0 c0) (.slice A1 n1 c1) (.slice A2 n2 c2) 27)) hb2
    obtain ⟨cX_2_0, cX_2_1, cX_2_2, -⟩ := X_2.cells
    have lX_2 := X_2.lt
    go_wp2_with fail
    refine (S _ _ _ (HA_2.alloc (.cells #[.slice B0 k0 d0, .slice B1 k1 d1, .slice B2 k2 d2] 27))).mono ?_; rintro e w3 ⟨vHC, rfl, HC, hb3⟩
    simp only [Option.isSome_some, Option.getD_some] at HC ⊢
    have HCo := HC
    obtain ⟨K0, m0, e0, K1, m1, e1, K2, m2, e2, rfl, -⟩ := HCo.open_
    clear HCo
    have BW3 : Below w.heap.size w w3 := (BW2.alloc BW2.size (.cells #[.slice B0 k0 d0, .slice B1 k1 d1, .slice B2 k2 d2] 27)).trans (hb3.mono (BW2.alloc BW2.size (.cells #[.slice B0 k0 d0, .slice B1 k1 d1, .slice B2 k2 d2] 27)).size)
    have zz3 : w2.heap.size + 1 ≤ w3.heap.size := by have := hb3.size; simp at this; omega
    have HA_3 := Hv.below (by exact (HA_2.alloc (.cells #[.slice B0 k0 d0, .slice B1 k1 d1, .slice B2 k2 d2] 27))) hb3
    have X_3 := Blk3.below (by exact (X_2.alloc (.cells #[.slice B0 k0 d0, .slice B1 k1 d1, .slice B2 k2 d2] 27))) hb3
    obtain ⟨cX_3_0, cX_3_1, cX_3_2, -⟩ := X_3.cells
    have lX_3 := X_3.lt
    have HB_3 := Hv.below (by exact (HB.alloc (.cells #[.slice B0 k0 d0, .slice B1 k1 d1, .slice B2 k2 d2] 27))) hb3
    have P_3 := Blk3.below (by exact (Blk3.new w2 (.slice B0 k0 d0) (.slice B1 k1 d1) (.slice B2 k2 d2) 27)) hb3
    obtain ⟨cP_3_0, cP_3_1, cP_3_2, -⟩ := P_3.cells
    have lP_3 := P_3.lt
    have E1 := implHeapSame_any _ _ _ _ _ _ _ (HB_3.alloc (.cells #[.slice K0 m0 e0, .slice K1 m1 e1, .slice K2 m2 e2] 27)) (HC.alloc (.cells #[.slice K0 m0 e0, .slice K1 m1 e1, .slice K2 m2 e2] 27))
    rw [sameB_selfS] at E1
    go_wp2_with fail
    refine (E1).mono ?_; rintro e w4 ⟨rfl, hb4⟩
    have BW4 : Below w.heap.size w w4 := (BW3.alloc BW3.size (.cells #[.slice K0 m0 e0, .slice K1 m1 e1, .slice K2 m2 e2] 27)).trans (hb4.mono (BW3.alloc BW3.size (.cells #[.slice K0 m0 e0, .slice K1 m1 e1, .slice K2 m2 e2] 27)).size)
    have zz4 : w3.heap.size + 1 ≤ w4.heap.size := by have := hb4.size; simp at this; omega
    have HA_4 := Hv.below (by exact (HA_3.alloc (.cells #[.slice K0 m0 e0, .slice K1 m1 e1, .slice K2 m2 e2] 27))) hb4
    have X_4 := Blk3.below (by exact (X_3.alloc (.cells #[.slice K0 m0 e0, .slice K1 m1 e1, .slice K2 m2 e2] 27))) hb4
    obtain ⟨cX_4_0, cX_4_1, cX_4_2, -⟩ := X_4.cells
    have lX_4 := X_4.lt
    have HB_4 := Hv.below (by exact (HB_3.alloc (.cells #[.slice K0 m0 e0, .slice K1 m1 e1, .slice K2 m2 e2] 27))) hb4
    have P_4 := Blk3.below (by exact (P_3.alloc (.cells #[.slice K0 m0 e0, .slice K1 m1 e1, .slice K2 m2 e2] 27))) hb4
    obtain ⟨cP_4_0, cP_4_1, cP_4_2, -⟩ := P_4.cells
    have lP_4 := P_4.lt
    have HC_4 := Hv.below (by exact (HC.alloc (.cells #[.slice K0 m0 e0, .slice K1 m1 e1, .slice K2 m2 e2] 27))) hb4
    have Q_4 := Blk3.below (by exact (Blk3.new w3 (.slice K0 m0 e0) (.slice K1 m1 e1) (.slice K2 m2 e2) 27)) hb4
    obtain ⟨cQ_4_0, cQ_4_1, cQ_4_2, -⟩ := Q_4.cells
    have lQ_4 := Q_4.lt
    go_wp2_with fail
    refine (CA _ _ _ HA_4).mono ?_; rintro e w5 ⟨R, r, rfl, HR, hb5⟩
    have BW5 : Below w.heap.size w w5 := BW4.trans (hb5.mono BW4.size)
    have zz5 : w4.heap.size ≤ w5.heap.size := hb5.size
    have HA_5 := Hv.below (by exact HA_4) hb5
    have X_5 := Blk3.below (by exact X_4) hb5
    obtain ⟨cX_5_0, cX_5_1, cX_5_2, -⟩ := X_5.cells
    have lX_5 := X_5.lt
    have HB_5 := Hv.below (by exact HB_4) hb5
    have P_5 := Blk3.below (by exact P_4) hb5
    obtain ⟨cP_5_0, cP_5_1, cP_5_2, -⟩ := P_5.cells
    have lP_5 := P_5.lt
    have HC_5 := Hv.below (by exact HC_4) hb5
    have Q_5 := Blk3.below (by exact Q_4) hb5
    obtain ⟨cQ_5_0, cQ_5_1, cQ_5_2, -⟩ := Q_5.cells
    have lQ_5 := Q_5.lt
    go_wp2_with fail
    refine (CB _ _ _ HB_5).mono ?_; rintro e w6 ⟨Rq, rq, rfl, HQ, hb6⟩
    have BW6 : Below w.heap.size w w6 := BW5.trans (hb6.mono BW5.size)
    have zz6 : w5.heap.size ≤ w6.heap.size := hb6.size
    have HA_6 := Hv.below (by exact HA_5) hb6
    have X_6 := Blk3.below (by exact X_5) hb6
    obtain ⟨cX_6_0, cX_6_1, cX_6_2, -⟩ := X_6.cells
    have lX_6 := X_6.lt
    have HB_6 := Hv.below (by exact HB_5) hb6
    have P_6 := Blk3.below (by exact P_5) hb6
    obtain ⟨cP_6_0, cP_6_1, cP_6_2, -⟩ := P_6.cells
    have lP_6 := P_6.lt
    have HC_6 := Hv.below (by exact HC_5) hb6
    have Q_6 := Blk3.below (by exact Q_5) hb6
    obtain ⟨cQ_6_0, cQ_6_1, cQ_6_2, -⟩ := Q_6.cells
    have lQ_6 := Q_6.lt
    have HR_6 := Row.below (by exact HR) hb6
    generalize cnts ⟨hp.l, hp.r.set kk y, hp.t⟩ = ys at hlb hdf HQ
    generalize cnts hp = xs at hla hdf HR_6
    have S0 := (⟨HR_6.mono (Nat.zero_le _), HQ.mono (Nat.zero_le _), BW6⟩ : Row w6 0 (.slice R n0 r) xs ∧ Row w6 0 (.slice Rq n0 rq) ys ∧ Below w.heap.size w w6)
    have hla' := Lib.hid hla
    have hlb' := Lib.hid hlb
    clear hla hlb
    go_wp2_with fail
    go_loopg [12, 13, 14] n0 (fun gk nv iv_ _ wr => ∃ (i : Nat) (q : Int), iv_ = .int .i64 (i : Int) ∧ nv = .int .i64 q ∧ 0 ≤ q ∧ q ≤ hitB y i + hitB z i ∧ i ≤ n0 ∧ gk = n0 - i ∧ Row wr 0 (.slice R n0 r) xs ∧ Row wr 0 (.slice Rq n0 rq) ys ∧ Below w.heap.size w wr)
    case atStart => exact ⟨0, 0, rfl, rfl, by omega, by have := hit_bd y 0; have := hit_bd z 0; omega, Nat.zero_le _, rfl, S0⟩
    case round =>
      obtain ⟨i, q, rfl, rfl, hq0, hq, hi, rfl, HR', HQ', B'⟩ := hrel
      have hy2 := hit_bd y i
      have hz2 := hit_bd z i
      by_cases hlt : i < n0
      · have q1 : (i : Int) < (n0 : Int) := by omega
        obtain ⟨g, a, rfl, _, hgl, ha, hca, -⟩ := HR'.get (k := i) (by have := hla'.out; omega)
        obtain ⟨gq, b, rfl, _, hgq, hb, hcb, -⟩ := HQ'.get (k := i) (by have := hlb'.out; omega)
        obtain ⟨hd, hn⟩ := hdf i a b ha.out hb.out
        have m1 := hit_mono y i
        have m2 := hit_mono z i
        rcases hd with hd | hd | hd
        · have hw : IntKind.i64.wrap (b - a) = -1 := by rw [hd]; rfl
          have hq2 := Lib.hid (hn (by omega))
          have hwq : IntKind.i64.wrap (q + 1) = q + 1 := IntWalk.i64_in _ (by omega)
          clear hn hd ha hb
          go_wp2_with fail
          go_region
          go_wp2_with fail
          go_roundg (n0 - (i + 1))
          case measure => omega
          case rel => exact ⟨i + 1, q + 1, by go_num, rfl, by omega, by have := hq2.out; omega, by omega, rfl, HR', HQ', B'.drew⟩
        · have hw : IntKind.i64.wrap (b - a) = 0 := by rw [hd]; rfl
          clear hn hd ha hb
          go_wp2_with fail
          go_region
          go_wp2_with fail
          go_roundg (n0 - (i + 1))
          case measure => omega
          case rel => exact ⟨i + 1, q, by go_num, rfl, by omega, by omega, by omega, rfl, HR', HQ', B'.drew⟩
        · have hw : IntKind.i64.wrap (b - a) = 1 := by rw [hd]; rfl
          have hq2 := Lib.hid (hn (by omega))
          have hwq : IntKind.i64.wrap (q + 1) = q + 1 := IntWalk.i64_in _ (by omega)
          clear hn hd ha hb
          go_wp2_with fail
          go_region
          go_wp2_with fail
          go_roundg (n0 - (i + 1))
          case measure => omega
          case rel => exact ⟨i + 1, q + 1, by go_num, rfl, by omega, by have := hq2.out; omega, by omega, rfl, HR', HQ', B'.drew⟩
      · have q1 : ¬ ((i : Int) < (n0 : Int)) := by omega
        have q2 : q ≤ 2 := by omega
        go_wp2_with fail
        go_ret
        exact ⟨rfl, B'⟩
end Go.Proofs.Ytpjdpflghcdkiaa
