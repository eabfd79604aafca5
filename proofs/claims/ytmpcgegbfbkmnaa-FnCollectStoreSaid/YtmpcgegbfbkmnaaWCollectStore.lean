/- The law FnCollectStore, walked. -/
import Derived.Test.YtmpcgegbfbkmnaaLawR
import Derived.Test.YtmpcgegbfbkmnaaWLaw
import Derived.Test.YtmpcgegbfbkmnaaICollect
import Derived.Test.YtmpcgegbfbkmnaaIStoL
import Derived.Test.YtmpcgegbfbkmnaaLives
namespace Go.Proofs.Ytmpcgegbfbkmnaa
open Go.RowKit

/-- Live cells point as before, and are not free; the others are. -/
theorem collect_cells {C : Cp} (hC : stoB C = true) {i : Nat} {b : Bool} (hi : (liveL C.h)[i]? = some b) :
    (b = true → (clearC C (leakL C)).h.l[i]? = C.h.l[i]? ∧ (clearC C (leakL C)).h.r[i]? = C.h.r[i]? ∧ isFreeB (clearC C (leakL C)) (i : Int) = false) ∧ (b = false → isFreeB (clearC C (leakL C)) (i : Int) = true) := by
  obtain ⟨hv, _⟩ := stoB_parts hC
  obtain ⟨⟨hrl, _⟩, _⟩ := hvB_parts hv
  obtain ⟨hC2, _⟩ := collect_leak hC
  constructor
  · rintro rfl
    have hdead : ∀ k : Nat, (liveL C.h)[k]? = some true → (k : Int) ∉ leakL C := fun k hk hm => by
      have h9 := mem_garb.1 (mem_leak hm).2.1
      rw [hk] at h9; cases h9
    obtain ⟨g1, g2, _⟩ := hv_range hv
    have hil := live_lt hv hi
    have key : ∀ (l : List Int), l.length = C.h.l.length → (∀ x ∈ l, -1 ≤ x ∧ x < C.h.l.length) → (∀ k : Nat, l[i]? = some (k : Int) → (liveL C.h)[k]? = some true) → (clrN l (leakL C) C.h.l.length)[i]? = l[i]? := fun l hl hr hn => by
      have h1 : l[i]? = some l[i] := List.getElem?_eq_getElem (by omega)
      rw [clr_at' hl h1, h1]
      congr 1
      unfold clrF
      by_cases h9 : l[i] ∈ leakL C ∨ (i : Int) ∈ leakL C
      · rcases h9 with h9 | h9
        · have hb := (garb_lt hv (mem_leak h9).2.1).1
          obtain ⟨k, hk⟩ := Int.eq_ofNat_of_zero_le hb
          rw [hk] at h9 h1
          exact absurd h9 (hdead k (hn k h1))
        · exact absurd h9 (hdead i hi)
      · rw [if_neg h9]
    refine ⟨key C.h.l rfl g1 (fun k hk => live_next hv hi (.inl hk)), key C.h.r hrl g2 (fun k hk => live_next hv hi (.inr hk)), isFree_out ?_⟩
    intro hm
    rcases List.mem_append.1 hm with h9 | h9
    · have h8 := mem_garb.1 (free_garb hC h9)
      rw [hi] at h8; cases h8
    · exact hdead i hi h9
  · rintro rfl
    refine isFree_in hC2 ?_
    have hg : (i : Int) ∈ garb C.h := mem_garb.2 hi
    show (i : Int) ∈ C.c ++ leakL C
    by_cases h9 : (i : Int) ∈ C.c
    · exact List.mem_append.2 (.inl h9)
    · exact List.mem_append.2 (.inr (leak_mem hC hg h9))

set_option maxRecDepth 100000 in
set_option maxHeartbeats 4000000 in
theorem lawCollectStore_walk (w : World) (A : Option Addr) (n c : Nat) (h : Inp w A n c) :
    Calls Try.prog 3 #[.slice A n c] w (LawTrue w) := by
  by_cases hbig : 1048576 < n
  · go_enter Try.func3, Try.ntmps3
    go_wp2_with fail
    go_ret
    exact ⟨rfl, Below.refl _ _⟩
  go_enter Try.func3, Try.ntmps3
  go_wp2_with fail
  refine (drawCollectStore_any _ _ _ _ h).mono ?_; rintro e w1 ⟨v, C, rfl, HA, hb1⟩
  have BW1 : Below w.heap.size w w1 := (Below.refl w.heap.size w).trans (hb1.mono (Below.refl w.heap.size w).size)
  have zz1 : w.heap.size ≤ w1.heap.size := hb1.size
  have HAo := HA
  obtain ⟨A0, n0, c0, A1, n1, c1, A2, n2, c2, A3, n3, c3, rfl, hh, ⟨r0, r1, r2, r3⟩, ⟨l0, l1, l2, l3⟩, ⟨mm0, mm1, mm2, mm3⟩, _⟩ := HAo.open_
  have I := fun W lo v hW => implCollect_any W lo v C hW
  have S := fun W lo v hW => specCollect_any W lo v C hW
  rcases ho : collectO C with _ | C2
  · rw [ho] at I S
    go_wp2_with fail
    refine (I _ _ _ (HA.alloc (.cells #[.slice A0 n0 c0, .slice A1 n1 c1, .slice A2 n2 c2, .slice A3 n3 c3] 27))).mono ?_; rintro e w2 ⟨v, rfl, HB, hb2⟩
    simp only [Option.isSome_none, Option.getD_none] at HB ⊢
    have HBb := HB
    obtain ⟨B0, k0, d0, B1, k1, d1, B2, k2, d2, B3, k3, d3, rfl, _, ⟨_, _, _, br3⟩, ⟨_, _, _, bl3⟩, _⟩ := HBb.open_
    have BW2 : Below w.heap.size w w2 := (BW1.alloc BW1.size (.cells #[.slice A0 n0 c0, .slice A1 n1 c1, .slice A2 n2 c2, .slice A3 n3 c3] 27)).trans (hb2.mono (BW1.alloc BW1.size (.cells #[.slice A0 n0 c0, .slice A1 n1 c1, .slice A2 n2 c2, .slice A3 n3 c3] 27)).size)
    have zz2 : w1.heap.size + 1 ≤ w2.heap.size := by have := hb2.size; simp at this; omega
    have HA_2 := Cv.below (by exact (HA.alloc (.cells #[.slice A0 n0 c0, .slice A1 n1 c1, .slice A2 n2 c2, .slice A3 n3 c3] 27))) hb2
    have X_2 := Blk4.below (by exact (Blk4.new w1 (.slice A0 n0 c0) (.slice A1 n1 c1) (.slice A2 n2 c2) (.slice A3 n3 c3) 27)) hb2
    obtain ⟨cX_2_0, cX_2_1, cX_2_2, cX_2_3, _⟩ := X_2.cells
    have lX_2 := X_2.lt
    go_wp2_with fail
    refine (S _ _ _ (HA_2.alloc (.cells #[.slice B0 k0 d0, .slice B1 k1 d1, .slice B2 k2 d2, .slice B3 k3 d3] 27))).mono ?_; rintro e w3 ⟨v, rfl, HC, hb3⟩
    simp only [Option.isSome_none, Option.getD_none] at HC ⊢
    have HCb := HC
    obtain ⟨K0, m0, e0, K1, m1, e1, K2, m2, e2, K3, m3, e3, rfl, _⟩ := HCb.open_
    have BW3 : Below w.heap.size w w3 := (BW2.alloc BW2.size (.cells #[.slice B0 k0 d0, .slice B1 k1 d1, .slice B2 k2 d2, .slice B3 k3 d3] 27)).trans (hb3.mono (BW2.alloc BW2.size (.cells #[.slice B0 k0 d0, .slice B1 k1 d1, .slice B2 k2 d2, .slice B3 k3 d3] 27)).size)
    have zz3 : w2.heap.size + 1 ≤ w3.heap.size := by have := hb3.size; simp at this; omega
    have HA_3 := Cv.below (by exact (HA_2.alloc (.cells #[.slice B0 k0 d0, .slice B1 k1 d1, .slice B2 k2 d2, .slice B3 k3 d3] 27))) hb3
    have X_3 := Blk4.below (by exact (X_2.alloc (.cells #[.slice B0 k0 d0, .slice B1 k1 d1, .slice B2 k2 d2, .slice B3 k3 d3] 27))) hb3
    obtain ⟨cX_3_0, cX_3_1, cX_3_2, cX_3_3, _⟩ := X_3.cells
    have lX_3 := X_3.lt
    have HB_3 := Cv.below (by exact (HB.alloc (.cells #[.slice B0 k0 d0, .slice B1 k1 d1, .slice B2 k2 d2, .slice B3 k3 d3] 27))) hb3
    have P_3 := Blk4.below (by exact (Blk4.new w2 (.slice B0 k0 d0) (.slice B1 k1 d1) (.slice B2 k2 d2) (.slice B3 k3 d3) 27)) hb3
    obtain ⟨cP_3_0, cP_3_1, cP_3_2, cP_3_3, _⟩ := P_3.cells
    have lP_3 := P_3.lt
    have E1 := implStoreSame_any _ _ _ _ _ _ _ (HB_3.alloc (.cells #[.slice K0 m0 e0, .slice K1 m1 e1, .slice K2 m2 e2, .slice K3 m3 e3] 27)) (HC.alloc (.cells #[.slice K0 m0 e0, .slice K1 m1 e1, .slice K2 m2 e2, .slice K3 m3 e3] 27))
    rw [sameC_self] at E1
    go_wp2_with fail
    refine (E1).mono ?_; rintro e w4 ⟨rfl, hb4⟩
    have BW4 : Below w.heap.size w w4 := (BW3.alloc BW3.size (.cells #[.slice K0 m0 e0, .slice K1 m1 e1, .slice K2 m2 e2, .slice K3 m3 e3] 27)).trans (hb4.mono (BW3.alloc BW3.size (.cells #[.slice K0 m0 e0, .slice K1 m1 e1, .slice K2 m2 e2, .slice K3 m3 e3] 27)).size)
    have zz4 : w3.heap.size + 1 ≤ w4.heap.size := by have := hb4.size; simp at this; omega
    have HA_4 := Cv.below (by exact (HA_3.alloc (.cells #[.slice K0 m0 e0, .slice K1 m1 e1, .slice K2 m2 e2, .slice K3 m3 e3] 27))) hb4
    have X_4 := Blk4.below (by exact (X_3.alloc (.cells #[.slice K0 m0 e0, .slice K1 m1 e1, .slice K2 m2 e2, .slice K3 m3 e3] 27))) hb4
    obtain ⟨cX_4_0, cX_4_1, cX_4_2, cX_4_3, _⟩ := X_4.cells
    have lX_4 := X_4.lt
    have HB_4 := Cv.below (by exact (HB_3.alloc (.cells #[.slice K0 m0 e0, .slice K1 m1 e1, .slice K2 m2 e2, .slice K3 m3 e3] 27))) hb4
    have P_4 := Blk4.below (by exact (P_3.alloc (.cells #[.slice K0 m0 e0, .slice K1 m1 e1, .slice K2 m2 e2, .slice K3 m3 e3] 27))) hb4
    obtain ⟨cP_4_0, cP_4_1, cP_4_2, cP_4_3, _⟩ := P_4.cells
    have lP_4 := P_4.lt
    have HC_4 := Cv.below (by exact (HC.alloc (.cells #[.slice K0 m0 e0, .slice K1 m1 e1, .slice K2 m2 e2, .slice K3 m3 e3] 27))) hb4
    have Q_4 := Blk4.below (by exact (Blk4.new w3 (.slice K0 m0 e0) (.slice K1 m1 e1) (.slice K2 m2 e2) (.slice K3 m3 e3) 27)) hb4
    obtain ⟨cQ_4_0, cQ_4_1, cQ_4_2, cQ_4_3, _⟩ := Q_4.cells
    have lQ_4 := Q_4.lt
    have E2 := implStoreSame_any _ _ _ _ _ _ _ HB_4 HC_4
    rw [sameC_self] at E2
    go_wp2_with fail
    refine (E2).mono ?_; rintro e w5 ⟨rfl, hb5⟩
    have BW5 : Below w.heap.size w w5 := BW4.trans (hb5.mono BW4.size)
    have zz5 : w4.heap.size ≤ w5.heap.size := hb5.size
    have HA_5 := Cv.below (by exact HA_4) hb5
    have X_5 := Blk4.below (by exact X_4) hb5
    obtain ⟨cX_5_0, cX_5_1, cX_5_2, cX_5_3, _⟩ := X_5.cells
    have lX_5 := X_5.lt
    have HB_5 := Cv.below (by exact HB_4) hb5
    have P_5 := Blk4.below (by exact P_4) hb5
    obtain ⟨cP_5_0, cP_5_1, cP_5_2, cP_5_3, _⟩ := P_5.cells
    have lP_5 := P_5.lt
    have HC_5 := Cv.below (by exact HC_4) hb5
    have Q_5 := Blk4.below (by exact Q_4) hb5
    obtain ⟨cQ_5_0, cQ_5_1, cQ_5_2, cQ_5_3, _⟩ := Q_5.cells
    have lQ_5 := Q_5.lt
    go_wp2_with fail
    go_ret
    exact ⟨rfl, BW5⟩
  · rw [ho] at I S
    obtain ⟨hk, rfl⟩ := collectO_some ho
    obtain ⟨_, _, _, hs2, hl2, _, ht2, hll, hrr⟩ := collectO_again ho
    have hcc := Lib.hid (fun (i : Nat) (b : Bool) (hi : (liveL C.h)[i]? = some b) => collect_cells hk hi)
    obtain ⟨hv, _⟩ := stoB_parts hk
    have hyl : (liveL C.h).length = n0 := by rw [liveL_len hv]; exact l0.out
    have h8 := hvB_len hv
    obtain rfl : n1 = n0 := by have := l0.out; have := l1.out; omega
    have RR := fun W lo v hW => implReach_any W lo v C.h hW
    have FF := fun W lo v hW (i : Nat) => implIsFree_any W lo v (clearC C (leakL C)) hW (i : Int)
    have V := fun W lo v hW => implStoreValid_any W lo v (clearC C (leakL C)) hW
    have G := fun W lo v hW => implLeaked_any W lo v (clearC C (leakL C)) hW
    rw [hs2] at V
    rw [hl2] at G
    have hl0 := l0.out
    have hl1 := l1.out
    have hl2 := l2.out
    rw [hl0] at hll
    rw [hl1] at hrr
    generalize clearC C (leakL C) = C2 at I S FF V G ht2 hll hrr hcc
    generalize liveL C.h = ys at RR hyl hcc
    have HYL := Lib.hid hyl
    have HLL := Lib.hid hll
    have HRR := Lib.hid hrr
    have HT2 := Lib.hid ht2
    have HL0 := Lib.hid hl0
    have HL1 := Lib.hid hl1
    have HL2 := Lib.hid hl2
    have hn8 : n1 ≤ 8 := by omega
    clear ho hs2 ht2 hll hrr hyl hv hk h8 hl0 hl1 hl2
    go_wp2_with fail
    refine (I _ _ _ (HA.alloc (.cells #[.slice A0 n1 c0, .slice A1 n1 c1, .slice A2 n2 c2, .slice A3 n3 c3] 27))).mono ?_; rintro e w2 ⟨v, rfl, HB, hb2⟩
    simp only [Option.isSome_some, Option.getD_some] at HB ⊢
    have HBb := HB
    obtain ⟨B0, k0, d0, B1, k1, d1, B2, k2, d2, B3, k3, d3, rfl, _, ⟨_, _, _, br3⟩, ⟨_, _, _, bl3⟩, _⟩ := HBb.open_
    have BW2 : Below w.heap.size w w2 := (BW1.alloc BW1.size (.cells #[.slice A0 n1 c0, .slice A1 n1 c1, .slice A2 n2 c2, .slice A3 n3 c3] 27)).trans (hb2.mono (BW1.alloc BW1.size (.cells #[.slice A0 n1 c0, .slice A1 n1 c1, .slice A2 n2 c2, .slice A3 n3 c3] 27)).size)
    have zz2 : w1.heap.size + 1 ≤ w2.heap.size := by have := hb2.size; simp at this; omega
    have HA_2 := Cv.below (by exact (HA.alloc (.cells #[.slice A0 n1 c0, .slice A1 n1 c1, .slice A2 n2 c2, .slice A3 n3 c3] 27))) hb2
    have X_2 := Blk4.below (by exact (Blk4.new w1 (.slice A0 n1 c0) (.slice A1 n1 c1) (.slice A2 n2 c2) (.slice A3 n3 c3) 27)) hb2
    obtain ⟨cX_2_0, cX_2_1, cX_2_2, cX_2_3, _⟩ := X_2.cells
    have lX_2 := X_2.lt
    go_wp2_with fail
    refine (S _ _ _ (HA_2.alloc (.cells #[.slice B0 k0 d0, .slice B1 k1 d1, .slice B2 k2 d2, .slice B3 k3 d3] 27))).mono ?_; rintro e w3 ⟨v, rfl, HC, hb3⟩
    simp only [Option.isSome_some, Option.getD_some] at HC ⊢
    have HCb := HC
    obtain ⟨K0, m0, e0, K1, m1, e1, K2, m2, e2, K3, m3, e3, rfl, _⟩ := HCb.open_
    have BW3 : Below w.heap.size w w3 := (BW2.alloc BW2.size (.cells #[.slice B0 k0 d0, .slice B1 k1 d1, .slice B2 k2 d2, .slice B3 k3 d3] 27)).trans (hb3.mono (BW2.alloc BW2.size (.cells #[.slice B0 k0 d0, .slice B1 k1 d1, .slice B2 k2 d2, .slice B3 k3 d3] 27)).size)
    have zz3 : w2.heap.size + 1 ≤ w3.heap.size := by have := hb3.size; simp at this; omega
    have HA_3 := Cv.below (by exact (HA_2.alloc (.cells #[.slice B0 k0 d0, .slice B1 k1 d1, .slice B2 k2 d2, .slice B3 k3 d3] 27))) hb3
    have X_3 := Blk4.below (by exact (X_2.alloc (.cells #[.slice B0 k0 d0, .slice B1 k1 d1, .slice B2 k2 d2, .slice B3 k3 d3] 27))) hb3
    obtain ⟨cX_3_0, cX_3_1, cX_3_2, cX_3_3, _⟩ := X_3.cells
    have lX_3 := X_3.lt
    have HB_3 := Cv.below (by exact (HB.alloc (.cells #[.slice B0 k0 d0, .slice B1 k1 d1, .slice B2 k2 d2, .slice B3 k3 d3] 27))) hb3
    have P_3 := Blk4.below (by exact (Blk4.new w2 (.slice B0 k0 d0) (.slice B1 k1 d1) (.slice B2 k2 d2) (.slice B3 k3 d3) 27)) hb3
    obtain ⟨cP_3_0, cP_3_1, cP_3_2, cP_3_3, _⟩ := P_3.cells
    have lP_3 := P_3.lt
    have E1 := implStoreSame_any _ _ _ _ _ _ _ (HB_3.alloc (.cells #[.slice K0 m0 e0, .slice K1 m1 e1, .slice K2 m2 e2, .slice K3 m3 e3] 27)) (HC.alloc (.cells #[.slice K0 m0 e0, .slice K1 m1 e1, .slice K2 m2 e2, .slice K3 m3 e3] 27))
    rw [sameC_self] at E1
    go_wp2_with fail
    refine (E1).mono ?_; rintro e w4 ⟨rfl, hb4⟩
    have BW4 : Below w.heap.size w w4 := (BW3.alloc BW3.size (.cells #[.slice K0 m0 e0, .slice K1 m1 e1, .slice K2 m2 e2, .slice K3 m3 e3] 27)).trans (hb4.mono (BW3.alloc BW3.size (.cells #[.slice K0 m0 e0, .slice K1 m1 e1, .slice K2 m2 e2, .slice K3 m3 e3] 27)).size)
    have zz4 : w3.heap.size + 1 ≤ w4.heap.size := by have := hb4.size; simp at this; omega
    have HA_4 := Cv.below (by exact (HA_3.alloc (.cells #[.slice K0 m0 e0, .slice K1 m1 e1, .slice K2 m2 e2, .slice K3 m3 e3] 27))) hb4
    have X_4 := Blk4.below (by exact (X_3.alloc (.cells #[.slice K0 m0 e0, .slice K1 m1 e1, .slice K2 m2 e2, .slice K3 m3 e3] 27))) hb4
    obtain ⟨cX_4_0, cX_4_1, cX_4_2, cX_4_3, _⟩ := X_4.cells
    have lX_4 := X_4.lt
    have HB_4 := Cv.below (by exact (HB_3.alloc (.cells #[.slice K0 m0 e0, .slice K1 m1 e1, .slice K2 m2 e2, .slice K3 m3 e3] 27))) hb4
    have P_4 := Blk4.below (by exact (P_3.alloc (.cells #[.slice K0 m0 e0, .slice K1 m1 e1, .slice K2 m2 e2, .slice K3 m3 e3] 27))) hb4
    obtain ⟨cP_4_0, cP_4_1, cP_4_2, cP_4_3, _⟩ := P_4.cells
    have lP_4 := P_4.lt
    have HC_4 := Cv.below (by exact (HC.alloc (.cells #[.slice K0 m0 e0, .slice K1 m1 e1, .slice K2 m2 e2, .slice K3 m3 e3] 27))) hb4
    have Q_4 := Blk4.below (by exact (Blk4.new w3 (.slice K0 m0 e0) (.slice K1 m1 e1) (.slice K2 m2 e2) (.slice K3 m3 e3) 27)) hb4
    obtain ⟨cQ_4_0, cQ_4_1, cQ_4_2, cQ_4_3, _⟩ := Q_4.cells
    have lQ_4 := Q_4.lt
    go_wp2_with fail
    refine (RR _ _ _ (HA_4).hvS).mono ?_; rintro e w5 ⟨A5, q5, rfl, R5, hb5⟩
    have BW5 : Below w.heap.size w w5 := BW4.trans (hb5.mono BW4.size)
    have zz5 : w4.heap.size ≤ w5.heap.size := hb5.size
    have HA_5 := Cv.below (by exact HA_4) hb5
    have X_5 := Blk4.below (by exact X_4) hb5
    obtain ⟨cX_5_0, cX_5_1, cX_5_2, cX_5_3, _⟩ := X_5.cells
    have lX_5 := X_5.lt
    have HB_5 := Cv.below (by exact HB_4) hb5
    have P_5 := Blk4.below (by exact P_4) hb5
    obtain ⟨cP_5_0, cP_5_1, cP_5_2, cP_5_3, _⟩ := P_5.cells
    have lP_5 := P_5.lt
    have HC_5 := Cv.below (by exact HC_4) hb5
    have Q_5 := Blk4.below (by exact Q_4) hb5
    obtain ⟨cQ_5_0, cQ_5_1, cQ_5_2, cQ_5_3, _⟩ := Q_5.cells
    have lQ_5 := Q_5.lt
    rw [HYL.out] at R5 ⊢
    obtain ⟨lk0, lk1, lk2, lk3⟩ := lens4 HB_5
    rw [HLL.out] at lk0
    rw [HRR.out] at lk1
    rw [HT2.out, HL2.out] at lk2
    subst lk0 lk1 lk2
    go_wp2_with fail
    go_loopw [9] (fun i wr => ∃ k : Nat, k ≤ n1 ∧ i = .int .i64 k ∧ Blk4 wr w1.heap.size (.slice A0 n1 c0) (.slice A1 n1 c1) (.slice A2 n2 c2) (.slice A3 n3 c3) 27 ∧ Blk4 wr w2.heap.size (.slice B0 n1 d0) (.slice B1 n1 d1) (.slice B2 n2 d2) (.slice B3 k3 d3) 27 ∧ RowB wr 0 (.slice A5 n1 q5) ys ∧ Cv wr 0 (.agg #[.slice A0 n1 c0, .slice A1 n1 c1, .slice A2 n2 c2, .slice A3 n3 c3]) C ∧ Cv wr 0 (.agg #[.slice B0 n1 d0, .slice B1 n1 d1, .slice B2 n2 d2, .slice B3 k3 d3]) C2 ∧ Below w.heap.size w wr) (fun i _ => n1 - (intOf i).toNat)
    case atStart => exact ⟨0, Nat.zero_le _, rfl, X_5, P_5, R5.mono (Nat.zero_le _), HA_5.mono (Nat.zero_le _), HB_5.mono (Nat.zero_le _), BW5⟩
    case round =>
      obtain ⟨k, hk, rfl, XR, PR, RR5, HAR, HBR, BR⟩ := hrel
      obtain ⟨cXR_0, cXR_1, cXR_2, cXR_3, _⟩ := XR.cells
      obtain ⟨cPR_0, cPR_1, cPR_2, cPR_3, _⟩ := PR.cells
      have lXR := XR.lt
      have lPR := PR.lt
      by_cases hlt : k < n1
      · have hki : (k : Int) < (n1 : Int) := by omega
        obtain ⟨g, b, eg, _, hgl, hb, hcell, _⟩ := RR5.get (k := k) (by have := HYL.out; omega)
        cases eg
        obtain ⟨h1, h2⟩ := hcc.out k b hb.out
        clear hb
        cases b
        · have h9 := h2 rfl
          have F9 := fun W v hW => FF W 0 v hW k
          rw [h9] at F9
          clear h1 h2 h9
          go_wp2_with fail
          refine wp_region_held_drew (S := fun w' => w'.cell? ⟨w1.heap.size, 0, none⟩ = some (.slice A0 n1 c0) ∧ w'.cell? ⟨w1.heap.size, 1, none⟩ = some (.slice A1 n1 c1) ∧ w'.cell? ⟨w1.heap.size, 2, none⟩ = some (.slice A2 n2 c2) ∧ w'.cell? ⟨w1.heap.size, 3, none⟩ = some (.slice A3 n3 c3) ∧ w'.cell? ⟨w2.heap.size, 0, none⟩ = some (.slice B0 n1 d0) ∧ w'.cell? ⟨w2.heap.size, 1, none⟩ = some (.slice B1 n1 d1) ∧ w'.cell? ⟨w2.heap.size, 2, none⟩ = some (.slice B2 n2 d2) ∧ w'.cell? ⟨w2.heap.size, 3, none⟩ = some (.slice B3 k3 d3) ∧ w'.cell? ⟨g, k, none⟩ = some (.bool false)) (by kernel_rfl) ?_ (fun hHeld => ?_)
          · exact ⟨cellD cXR_0, cellD cXR_1, cellD cXR_2, cellD cXR_3, cellD cPR_0, cellD cPR_1, cellD cPR_2, cellD cPR_3, cellD hcell⟩
          refine wpAnyH_take (i := 0) (oi := ?oib0) (v := ?vb0) ?hib0 (by kernel_rfl) (by kernel_rfl) (by kernel_rfl) ?hQb0 ?hyb0 (by assumption) ?_
          case hib0 => simp only [List.getElem?_toArray, List.getElem?_cons_zero]; rfl
          case hQb0 => exact fun _ _ _ h => h
          case hyb0 => refine Or.inl ⟨by rfl, ?_⟩; intro w9 hSw; (try dsimp only at hSw); go_simp; (try with_reducible rfl)
          try simp only [Act.put, List.setIfInBounds_toArray, List.set_cons_zero, List.set_cons_succ]
          refine wpAnyH_take (i := 1) (oi := ?oib1) (v := ?vb1) ?hib1 (by kernel_rfl) (by kernel_rfl) (by kernel_rfl) ?hQb1 ?hyb1 (by assumption) ?_
          case hib1 => simp only [List.getElem?_toArray, List.getElem?_cons_zero, List.getElem?_cons_succ]; rfl
          case hQb1 => exact fun _ _ _ h => h
          case hyb1 => refine Or.inl ⟨by rfl, ?_⟩; intro w9 hSw; (try dsimp only at hSw); go_simp; (try with_reducible rfl)
          try simp only [Act.put, List.setIfInBounds_toArray, List.set_cons_zero, List.set_cons_succ]
          refine wpAnyH_take (i := 2) (oi := ?oib2) (v := ?vb2) ?hib2 (by kernel_rfl) (by kernel_rfl) (by kernel_rfl) ?hQb2 ?hyb2 (by assumption) ?_
          case hib2 => simp only [List.getElem?_toArray, List.getElem?_cons_zero, List.getElem?_cons_succ]; rfl
          case hQb2 => exact fun _ _ _ h => h
          case hyb2 => refine Or.inl ⟨by rfl, ?_⟩; intro w9 hSw; (try dsimp only at hSw); go_simp; (try with_reducible rfl)
          try simp only [Act.put, List.setIfInBounds_toArray, List.set_cons_zero, List.set_cons_succ]
          refine wpAnyH_take (i := 3) (oi := ?oib3) (v := ?vb3) ?hib3 (by kernel_rfl) (by kernel_rfl) (by kernel_rfl) ?hQb3 ?hyb3 (by assumption) ?_
          case hib3 => simp only [List.getElem?_toArray, List.getElem?_cons_zero, List.getElem?_cons_succ]; rfl
          case hQb3 => exact fun _ _ _ h => h
          case hyb3 => refine Or.inl ⟨by rfl, ?_⟩; intro w9 hSw; (try dsimp only at hSw); go_simp; (try with_reducible rfl)
          try simp only [Act.put, List.setIfInBounds_toArray, List.set_cons_zero, List.set_cons_succ]
          refine wpAnyH_take (i := 4) (oi := ?oib4) (v := ?vb4) ?hib4 (by kernel_rfl) (by kernel_rfl) (by kernel_rfl) ?hQb4 ?hyb4 (by assumption) ?_
          case hib4 => simp only [List.getElem?_toArray, List.getElem?_cons_zero, List.getElem?_cons_succ]; rfl
          case hQb4 => exact fun _ _ _ h => h
          case hyb4 => refine Or.inl ⟨by rfl, ?_⟩; intro w9 hSw; (try dsimp only at hSw); go_simp; (try with_reducible rfl)
          try simp only [Act.put, List.setIfInBounds_toArray, List.set_cons_zero, List.set_cons_succ]
          refine wpAnyH_take (i := 5) (oi := ?oib5) (v := undef) ?hib5 (by kernel_rfl) (by kernel_rfl) (by kernel_rfl) ?hQb5 ?hyb5 (by assumption) ?_
          case hib5 => simp only [List.getElem?_toArray, List.getElem?_cons_zero, List.getElem?_cons_succ]; rfl
          case hQb5 => exact fun _ _ _ h => h
          case hyb5 => exact Or.inr ⟨by rfl, rfl⟩
          try simp only [Act.put, List.setIfInBounds_toArray, List.set_cons_zero, List.set_cons_succ]
          refine wpAnyH_take (i := 6) (oi := ?oib6) (v := undef) ?hib6 (by kernel_rfl) (by kernel_rfl) (by kernel_rfl) ?hQb6 ?hyb6 (by assumption) ?_
          case hib6 => simp only [List.getElem?_toArray, List.getElem?_cons_zero, List.getElem?_cons_succ]; rfl
          case hQb6 => exact fun _ _ _ h => h
          case hyb6 => exact Or.inr ⟨by rfl, rfl⟩
          try simp only [Act.put, List.setIfInBounds_toArray, List.set_cons_zero, List.set_cons_succ]
          refine wpAnyH_take (i := 7) (oi := ?oib7) (v := undef) ?hib7 (by kernel_rfl) (by kernel_rfl) (by kernel_rfl) ?hQb7 ?hyb7 (by assumption) ?_
          case hib7 => simp only [List.getElem?_toArray, List.getElem?_cons_zero, List.getElem?_cons_succ]; rfl
          case hQb7 => exact fun _ _ _ h => h
          case hyb7 => exact Or.inr ⟨by rfl, rfl⟩
          try simp only [Act.put, List.setIfInBounds_toArray, List.set_cons_zero, List.set_cons_succ]
          refine wpAnyH_take (i := 8) (oi := ?oib8) (v := undef) ?hib8 (by kernel_rfl) (by kernel_rfl) (by kernel_rfl) ?hQb8 ?hyb8 (by assumption) ?_
          case hib8 => simp only [List.getElem?_toArray, List.getElem?_cons_zero, List.getElem?_cons_succ]; rfl
          case hQb8 => exact fun _ _ _ h => h
          case hyb8 => exact Or.inr ⟨by rfl, rfl⟩
          try simp only [Act.put, List.setIfInBounds_toArray, List.set_cons_zero, List.set_cons_succ]
          refine wpAnyH_take (i := 9) (oi := ?oib9) (v := undef) ?hib9 (by kernel_rfl) (by kernel_rfl) (by kernel_rfl) ?hQb9 ?hyb9 (by assumption) ?_
          case hib9 => simp only [List.getElem?_toArray, List.getElem?_cons_zero, List.getElem?_cons_succ]; rfl
          case hQb9 => exact fun _ _ _ h => h
          case hyb9 => exact Or.inr ⟨by rfl, rfl⟩
          try simp only [Act.put, List.setIfInBounds_toArray, List.set_cons_zero, List.set_cons_succ]
          refine wpAnyH_take (i := 10) (oi := ?oib10) (v := undef) ?hib10 (by kernel_rfl) (by kernel_rfl) (by kernel_rfl) ?hQb10 ?hyb10 (by assumption) ?_
          case hib10 => simp only [List.getElem?_toArray, List.getElem?_cons_zero, List.getElem?_cons_succ]; rfl
          case hQb10 => exact fun _ _ _ h => h
          case hyb10 => exact Or.inr ⟨by rfl, rfl⟩
          try simp only [Act.put, List.setIfInBounds_toArray, List.set_cons_zero, List.set_cons_succ]
          refine wpAnyH_take (i := 11) (oi := ?oib11) (v := undef) ?hib11 (by kernel_rfl) (by kernel_rfl) (by kernel_rfl) ?hQb11 ?hyb11 (by assumption) ?_
          case hib11 => simp only [List.getElem?_toArray, List.getElem?_cons_zero, List.getElem?_cons_succ]; rfl
          case hQb11 => exact fun _ _ _ h => h
          case hyb11 => exact Or.inr ⟨by rfl, rfl⟩
          try simp only [Act.put, List.setIfInBounds_toArray, List.set_cons_zero, List.set_cons_succ]
          refine wpAnyH_take (i := 12) (oi := ?oib12) (v := undef) ?hib12 (by kernel_rfl) (by kernel_rfl) (by kernel_rfl) ?hQb12 ?hyb12 (by assumption) ?_
          case hib12 => simp only [List.getElem?_toArray, List.getElem?_cons_zero, List.getElem?_cons_succ]; rfl
          case hQb12 => exact fun _ _ _ h => h
          case hyb12 => exact Or.inr ⟨by rfl, rfl⟩
          try simp only [Act.put, List.setIfInBounds_toArray, List.set_cons_zero, List.set_cons_succ]
          refine wpAnyH_take (i := 13) (oi := ?oib13) (v := undef) ?hib13 (by kernel_rfl) (by kernel_rfl) (by kernel_rfl) ?hQb13 ?hyb13 (by assumption) ?_
          case hib13 => simp only [List.getElem?_toArray, List.getElem?_cons_zero, List.getElem?_cons_succ]; rfl
          case hQb13 => exact fun _ _ _ h => h
          case hyb13 => exact Or.inr ⟨by rfl, rfl⟩
          try simp only [Act.put, List.setIfInBounds_toArray, List.set_cons_zero, List.set_cons_succ]
          refine wpAnyH_take (i := 14) (oi := ?oib14) (v := undef) ?hib14 (by kernel_rfl) (by kernel_rfl) (by kernel_rfl) ?hQb14 ?hyb14 (by assumption) ?_
          case hib14 => simp only [List.getElem?_toArray, List.getElem?_cons_zero, List.getElem?_cons_succ]; rfl
          case hQb14 => exact fun _ _ _ h => h
          case hyb14 => exact Or.inr ⟨by rfl, rfl⟩
          try simp only [Act.put, List.setIfInBounds_toArray, List.set_cons_zero, List.set_cons_succ]
          refine wpAnyH_take (i := 15) (oi := ?oib15) (v := undef) ?hib15 (by kernel_rfl) (by kernel_rfl) (by kernel_rfl) ?hQb15 ?hyb15 (by assumption) ?_
          case hib15 => simp only [List.getElem?_toArray, List.getElem?_cons_zero, List.getElem?_cons_succ]; rfl
          case hQb15 => exact fun _ _ _ h => h
          case hyb15 => exact Or.inr ⟨by rfl, rfl⟩
          try simp only [Act.put, List.setIfInBounds_toArray, List.set_cons_zero, List.set_cons_succ]
          refine wpAnyH_take (i := 16) (oi := ?oib16) (v := undef) ?hib16 (by kernel_rfl) (by kernel_rfl) (by kernel_rfl) ?hQb16 ?hyb16 (by assumption) ?_
          case hib16 => simp only [List.getElem?_toArray, List.getElem?_cons_zero, List.getElem?_cons_succ]; rfl
          case hQb16 => exact fun _ _ _ h => h
          case hyb16 => exact Or.inr ⟨by rfl, rfl⟩
          try simp only [Act.put, List.setIfInBounds_toArray, List.set_cons_zero, List.set_cons_succ]
          refine wpAnyH_take (i := 17) (oi := ?oib17) (v := undef) ?hib17 (by kernel_rfl) (by kernel_rfl) (by kernel_rfl) ?hQb17 ?hyb17 (by assumption) ?_
          case hib17 => simp only [List.getElem?_toArray, List.getElem?_cons_zero, List.getElem?_cons_succ]; rfl
          case hQb17 => exact fun _ _ _ h => h
          case hyb17 => exact Or.inr ⟨by rfl, rfl⟩
          try simp only [Act.put, List.setIfInBounds_toArray, List.set_cons_zero, List.set_cons_succ]
          refine wpAnyH_take (i := 18) (oi := ?oib18) (v := undef) ?hib18 (by kernel_rfl) (by kernel_rfl) (by kernel_rfl) ?hQb18 ?hyb18 (by assumption) ?_
          case hib18 => simp only [List.getElem?_toArray, List.getElem?_cons_zero, List.getElem?_cons_succ]; rfl
          case hQb18 => exact fun _ _ _ h => h
          case hyb18 => exact Or.inr ⟨by rfl, rfl⟩
          try simp only [Act.put, List.setIfInBounds_toArray, List.set_cons_zero, List.set_cons_succ]
          refine wpAnyH_take (i := 19) (oi := ?oib19) (v := undef) ?hib19 (by kernel_rfl) (by kernel_rfl) (by kernel_rfl) ?hQb19 ?hyb19 (by assumption) ?_
          case hib19 => simp only [List.getElem?_toArray, List.getElem?_cons_zero, List.getElem?_cons_succ]; rfl
          case hQb19 => exact fun _ _ _ h => h
          case hyb19 => exact Or.inr ⟨by rfl, rfl⟩
          try simp only [Act.put, List.setIfInBounds_toArray, List.set_cons_zero, List.set_cons_succ]
          refine wpAnyH_take (i := 20) (oi := ?oib20) (v := undef) ?hib20 (by kernel_rfl) (by kernel_rfl) (by kernel_rfl) ?hQb20 ?hyb20 (by assumption) ?_
          case hib20 => simp only [List.getElem?_toArray, List.getElem?_cons_zero, List.getElem?_cons_succ]; rfl
          case hQb20 => exact fun _ _ _ h => h
          case hyb20 => exact Or.inr ⟨by rfl, rfl⟩
          try simp only [Act.put, List.setIfInBounds_toArray, List.set_cons_zero, List.set_cons_succ]
          refine wpAnyH_take (i := 21) (oi := ?oib21) (v := undef) ?hib21 (by kernel_rfl) (by kernel_rfl) (by kernel_rfl) ?hQb21 ?hyb21 (by assumption) ?_
          case hib21 => simp only [List.getElem?_toArray, List.getElem?_cons_zero, List.getElem?_cons_succ]; rfl
          case hQb21 => exact fun _ _ _ h => h
          case hyb21 => exact Or.inr ⟨by rfl, rfl⟩
          try simp only [Act.put, List.setIfInBounds_toArray, List.set_cons_zero, List.set_cons_succ]
          refine wpAnyH_take (i := 22) (oi := ?oib22) (v := undef) ?hib22 (by kernel_rfl) (by kernel_rfl) (by kernel_rfl) ?hQb22 ?hyb22 (by assumption) ?_
          case hib22 => simp only [List.getElem?_toArray, List.getElem?_cons_zero, List.getElem?_cons_succ]; rfl
          case hQb22 => exact fun _ _ _ h => h
          case hyb22 => exact Or.inr ⟨by rfl, rfl⟩
          try simp only [Act.put, List.setIfInBounds_toArray, List.set_cons_zero, List.set_cons_succ]
          refine wpAnyH_take (i := 23) (oi := ?oib23) (v := undef) ?hib23 (by kernel_rfl) (by kernel_rfl) (by kernel_rfl) ?hQb23 ?hyb23 (by assumption) ?_
          case hib23 => simp only [List.getElem?_toArray, List.getElem?_cons_zero, List.getElem?_cons_succ]; rfl
          case hQb23 => exact fun _ _ _ h => h
          case hyb23 => exact Or.inr ⟨by rfl, rfl⟩
          try simp only [Act.put, List.setIfInBounds_toArray, List.set_cons_zero, List.set_cons_succ]
          refine wpAnyH_take (i := 24) (oi := ?oib24) (v := undef) ?hib24 (by kernel_rfl) (by kernel_rfl) (by kernel_rfl) ?hQb24 ?hyb24 (by assumption) ?_
          case hib24 => simp only [List.getElem?_toArray, List.getElem?_cons_zero, List.getElem?_cons_succ]; rfl
          case hQb24 => exact fun _ _ _ h => h
          case hyb24 => exact Or.inr ⟨by rfl, rfl⟩
          try simp only [Act.put, List.setIfInBounds_toArray, List.set_cons_zero, List.set_cons_succ]
          refine wpAnyH_take (i := 25) (oi := ?oib25) (v := undef) ?hib25 (by kernel_rfl) (by kernel_rfl) (by kernel_rfl) ?hQb25 ?hyb25 (by assumption) ?_
          case hib25 => simp only [List.getElem?_toArray, List.getElem?_cons_zero, List.getElem?_cons_succ]; rfl
          case hQb25 => exact fun _ _ _ h => h
          case hyb25 => exact Or.inr ⟨by rfl, rfl⟩
          try simp only [Act.put, List.setIfInBounds_toArray, List.set_cons_zero, List.set_cons_succ]
          refine wpAnyH_take (i := 26) (oi := ?oib26) (v := undef) ?hib26 (by kernel_rfl) (by kernel_rfl) (by kernel_rfl) ?hQb26 ?hyb26 (by assumption) ?_
          case hib26 => simp only [List.getElem?_toArray, List.getElem?_cons_zero, List.getElem?_cons_succ]; rfl
          case hQb26 => exact fun _ _ _ h => h
          case hyb26 => exact Or.inr ⟨by rfl, rfl⟩
          try simp only [Act.put, List.setIfInBounds_toArray, List.set_cons_zero, List.set_cons_succ]
          refine wpAnyH_take (i := 27) (oi := ?oib27) (v := undef) ?hib27 (by kernel_rfl) (by kernel_rfl) (by kernel_rfl) ?hQb27 ?hyb27 (by assumption) ?_
          case hib27 => simp only [List.getElem?_toArray, List.getElem?_cons_zero, List.getElem?_cons_succ]; rfl
          case hQb27 => exact fun _ _ _ h => h
          case hyb27 => exact Or.inr ⟨by rfl, rfl⟩
          try simp only [Act.put, List.setIfInBounds_toArray, List.set_cons_zero, List.set_cons_succ]
          refine wpAnyH_take (i := 28) (oi := ?oib28) (v := undef) ?hib28 (by kernel_rfl) (by kernel_rfl) (by kernel_rfl) ?hQb28 ?hyb28 (by assumption) ?_
          case hib28 => simp only [List.getElem?_toArray, List.getElem?_cons_zero, List.getElem?_cons_succ]; rfl
          case hQb28 => exact fun _ _ _ h => h
          case hyb28 => exact Or.inr ⟨by rfl, rfl⟩
          try simp only [Act.put, List.setIfInBounds_toArray, List.set_cons_zero, List.set_cons_succ]
          refine wpAnyH_take (i := 29) (oi := ?oib29) (v := undef) ?hib29 (by kernel_rfl) (by kernel_rfl) (by kernel_rfl) ?hQb29 ?hyb29 (by assumption) ?_
          case hib29 => simp only [List.getElem?_toArray, List.getElem?_cons_zero, List.getElem?_cons_succ]; rfl
          case hQb29 => exact fun _ _ _ h => h
          case hyb29 => exact Or.inr ⟨by rfl, rfl⟩
          try simp only [Act.put, List.setIfInBounds_toArray, List.set_cons_zero, List.set_cons_succ]
          refine wpAnyH_take (i := 30) (oi := ?oib30) (v := undef) ?hib30 (by kernel_rfl) (by kernel_rfl) (by kernel_rfl) ?hQb30 ?hyb30 (by assumption) ?_
          case hib30 => simp only [List.getElem?_toArray, List.getElem?_cons_zero, List.getElem?_cons_succ]; rfl
          case hQb30 => exact fun _ _ _ h => h
          case hyb30 => exact Or.inr ⟨by rfl, rfl⟩
          try simp only [Act.put, List.setIfInBounds_toArray, List.set_cons_zero, List.set_cons_succ]
          refine wpAnyH_take (i := 31) (oi := ?oib31) (v := undef) ?hib31 (by kernel_rfl) (by kernel_rfl) (by kernel_rfl) ?hQb31 ?hyb31 (by assumption) ?_
          case hib31 => simp only [List.getElem?_toArray, List.getElem?_cons_zero, List.getElem?_cons_succ]; rfl
          case hQb31 => exact fun _ _ _ h => h
          case hyb31 => exact Or.inr ⟨by rfl, rfl⟩
          try simp only [Act.put, List.setIfInBounds_toArray, List.set_cons_zero, List.set_cons_succ]
          refine wpAnyH_take (i := 32) (oi := ?oib32) (v := undef) ?hib32 (by kernel_rfl) (by kernel_rfl) (by kernel_rfl) ?hQb32 ?hyb32 (by assumption) ?_
          case hib32 => simp only [List.getElem?_toArray, List.getElem?_cons_zero, List.getElem?_cons_succ]; rfl
          case hQb32 => exact fun _ _ _ h => h
          case hyb32 => exact Or.inr ⟨by rfl, rfl⟩
          try simp only [Act.put, List.setIfInBounds_toArray, List.set_cons_zero, List.set_cons_succ]
          refine wpAnyH_take (i := 33) (oi := ?oib33) (v := undef) ?hib33 (by kernel_rfl) (by kernel_rfl) (by kernel_rfl) ?hQb33 ?hyb33 (by assumption) ?_
          case hib33 => simp only [List.getElem?_toArray, List.getElem?_cons_zero, List.getElem?_cons_succ]; rfl
          case hQb33 => exact fun _ _ _ h => h
          case hyb33 => exact Or.inr ⟨by rfl, rfl⟩
          try simp only [Act.put, List.setIfInBounds_toArray, List.set_cons_zero, List.set_cons_succ]
          refine wpAnyH_take (i := 34) (oi := ?oib34) (v := undef) ?hib34 (by kernel_rfl) (by kernel_rfl) (by kernel_rfl) ?hQb34 ?hyb34 (by assumption) ?_
          case hib34 => simp only [List.getElem?_toArray, List.getElem?_cons_zero, List.getElem?_cons_succ]; rfl
          case hQb34 => exact fun _ _ _ h => h
          case hyb34 => exact Or.inr ⟨by rfl, rfl⟩
          try simp only [Act.put, List.setIfInBounds_toArray, List.set_cons_zero, List.set_cons_succ]
          refine wpAnyH_take (i := 35) (oi := ?oib35) (v := undef) ?hib35 (by kernel_rfl) (by kernel_rfl) (by kernel_rfl) ?hQb35 ?hyb35 (by assumption) ?_
          case hib35 => simp only [List.getElem?_toArray, List.getElem?_cons_zero, List.getElem?_cons_succ]; rfl
          case hQb35 => exact fun _ _ _ h => h
          case hyb35 => exact Or.inr ⟨by rfl, rfl⟩
          try simp only [Act.put, List.setIfInBounds_toArray, List.set_cons_zero, List.set_cons_succ]
          refine wpAnyH_take (i := 36) (oi := ?oib36) (v := undef) ?hib36 (by kernel_rfl) (by kernel_rfl) (by kernel_rfl) ?hQb36 ?hyb36 (by assumption) ?_
          case hib36 => simp only [List.getElem?_toArray, List.getElem?_cons_zero, List.getElem?_cons_succ]; rfl
          case hQb36 => exact fun _ _ _ h => h
          case hyb36 => exact Or.inr ⟨by rfl, rfl⟩
          try simp only [Act.put, List.setIfInBounds_toArray, List.set_cons_zero, List.set_cons_succ]
          refine wpAnyH_take (i := 37) (oi := ?oib37) (v := undef) ?hib37 (by kernel_rfl) (by kernel_rfl) (by kernel_rfl) ?hQb37 ?hyb37 (by assumption) ?_
          case hib37 => simp only [List.getElem?_toArray, List.getElem?_cons_zero, List.getElem?_cons_succ]; rfl
          case hQb37 => exact fun _ _ _ h => h
          case hyb37 => exact Or.inr ⟨by rfl, rfl⟩
          try simp only [Act.put, List.setIfInBounds_toArray, List.set_cons_zero, List.set_cons_succ]
          refine wpAnyH_take (i := 38) (oi := ?oib38) (v := ?vb38) ?hib38 (by kernel_rfl) (by kernel_rfl) (by kernel_rfl) ?hQb38 ?hyb38 (by assumption) ?_
          case hib38 => simp only [List.getElem?_toArray, List.getElem?_cons_zero, List.getElem?_cons_succ]; rfl
          case hQb38 => exact fun _ _ _ h => h
          case hyb38 => refine Or.inl ⟨by rfl, ?_⟩; intro w9 hSw; (try dsimp only at hSw); go_simp; (try with_reducible rfl)
          try simp only [Act.put, List.setIfInBounds_toArray, List.set_cons_zero, List.set_cons_succ]
          refine wpAnyH_take (i := 39) (oi := ?oib39) (v := ?vb39) ?hib39 (by kernel_rfl) (by kernel_rfl) (by kernel_rfl) ?hQb39 ?hyb39 (by assumption) ?_
          case hib39 => simp only [List.getElem?_toArray, List.getElem?_cons_zero, List.getElem?_cons_succ]; rfl
          case hQb39 => exact fun _ _ _ h => h
          case hyb39 => refine Or.inl ⟨by rfl, ?_⟩; intro w9 hSw; (try dsimp only at hSw); go_simp; (try with_reducible rfl)
          try simp only [Act.put, List.setIfInBounds_toArray, List.set_cons_zero, List.set_cons_succ]
          refine wpAnyH_take (i := 40) (oi := ?oib40) (v := ?vb40) ?hib40 (by kernel_rfl) (by kernel_rfl) (by kernel_rfl) ?hQb40 ?hyb40 (by assumption) ?_
          case hib40 => simp only [List.getElem?_toArray, List.getElem?_cons_zero, List.getElem?_cons_succ]; rfl
          case hQb40 => exact fun _ _ _ h => h
          case hyb40 => refine Or.inl ⟨by rfl, ?_⟩; intro w9 hSw; (try dsimp only at hSw); go_simp; (try with_reducible rfl)
          try simp only [Act.put, List.setIfInBounds_toArray, List.set_cons_zero, List.set_cons_succ]
          refine wpAnyH_take (i := 41) (oi := ?oib41) (v := ?vb41) ?hib41 (by kernel_rfl) (by kernel_rfl) (by kernel_rfl) ?hQb41 ?hyb41 (by assumption) ?_
          case hib41 => simp only [List.getElem?_toArray, List.getElem?_cons_zero, List.getElem?_cons_succ]; rfl
          case hQb41 => exact fun _ _ _ h => h
          case hyb41 => refine Or.inl ⟨by rfl, ?_⟩; intro w9 hSw; (try dsimp only at hSw); go_simp; (try with_reducible rfl)
          try simp only [Act.put, List.setIfInBounds_toArray, List.set_cons_zero, List.set_cons_succ]
          refine wpAnyH_take (i := 42) (oi := ?oib42) (v := ?vb42) ?hib42 (by kernel_rfl) (by kernel_rfl) (by kernel_rfl) ?hQb42 ?hyb42 (by assumption) ?_
          case hib42 => simp only [List.getElem?_toArray, List.getElem?_cons_zero, List.getElem?_cons_succ]; rfl
          case hQb42 => exact fun _ _ _ h => h
          case hyb42 => refine Or.inl ⟨by rfl, ?_⟩; intro w9 hSw; (try dsimp only at hSw); go_simp; (try with_reducible rfl)
          try simp only [Act.put, List.setIfInBounds_toArray, List.set_cons_zero, List.set_cons_succ]
          refine wpAnyH_take (i := 43) (oi := ?oib43) (v := ?vb43) ?hib43 (by kernel_rfl) (by kernel_rfl) (by kernel_rfl) ?hQb43 ?hyb43 (by assumption) ?_
          case hib43 => simp only [List.getElem?_toArray, List.getElem?_cons_zero, List.getElem?_cons_succ]; rfl
          case hQb43 => exact fun _ _ _ h => h
          case hyb43 => refine Or.inl ⟨by rfl, ?_⟩; intro w9 hSw; (try dsimp only at hSw); go_simp; (try with_reducible rfl)
          try simp only [Act.put, List.setIfInBounds_toArray, List.set_cons_zero, List.set_cons_succ]
          refine wpAnyH_take (i := 44) (oi := ?oib44) (v := ?vb44) ?hib44 (by kernel_rfl) (by kernel_rfl) (by kernel_rfl) ?hQb44 ?hyb44 (by assumption) ?_
          case hib44 => simp only [List.getElem?_toArray, List.getElem?_cons_zero, List.getElem?_cons_succ]; rfl
          case hQb44 => exact fun _ _ _ h => h
          case hyb44 => refine Or.inl ⟨by rfl, ?_⟩; intro w9 hSw; (try dsimp only at hSw); go_simp; (try with_reducible rfl)
          try simp only [Act.put, List.setIfInBounds_toArray, List.set_cons_zero, List.set_cons_succ]
          refine wpAnyH_take (i := 45) (oi := ?oib45) (v := ?vb45) ?hib45 (by kernel_rfl) (by kernel_rfl) (by kernel_rfl) ?hQb45 ?hyb45 (by assumption) ?_
          case hib45 => simp only [List.getElem?_toArray, List.getElem?_cons_zero, List.getElem?_cons_succ]; rfl
          case hQb45 => exact fun _ _ _ h => h
          case hyb45 => refine Or.inl ⟨by rfl, ?_⟩; intro w9 hSw; (try dsimp only at hSw); go_simp; (try with_reducible rfl)
          try simp only [Act.put, List.setIfInBounds_toArray, List.set_cons_zero, List.set_cons_succ]
          refine wpAnyH_take (i := 46) (oi := ?oib46) (v := ?vb46) ?hib46 (by kernel_rfl) (by kernel_rfl) (by kernel_rfl) ?hQb46 ?hyb46 (by assumption) ?_
          case hib46 => simp only [List.getElem?_toArray, List.getElem?_cons_zero, List.getElem?_cons_succ]; rfl
          case hQb46 => exact fun _ _ _ h => h
          case hyb46 => refine Or.inl ⟨by rfl, ?_⟩; intro w9 hSw; (try dsimp only at hSw); go_simp; (try with_reducible rfl)
          try simp only [Act.put, List.setIfInBounds_toArray, List.set_cons_zero, List.set_cons_succ]
          refine wpAnyH_take (i := 47) (oi := ?oib47) (v := ?vb47) ?hib47 (by kernel_rfl) (by kernel_rfl) (by kernel_rfl) ?hQb47 ?hyb47 (by assumption) ?_
          case hib47 => simp only [List.getElem?_toArray, List.getElem?_cons_zero, List.getElem?_cons_succ]; rfl
          case hQb47 => exact fun _ _ _ h => h
          case hyb47 => refine Or.inl ⟨by rfl, ?_⟩; intro w9 hSw; (try dsimp only at hSw); go_simp; (try with_reducible rfl)
          try simp only [Act.put, List.setIfInBounds_toArray, List.set_cons_zero, List.set_cons_succ]
          refine wpAnyH_ready (rs := [48]) (by kernel_rfl) (by simp) ?_
          refine AllReadyH.cons (o := ?oob48) ?hob48 (fun K hK => ?_) AllReadyH.nil
          case hob48 => simp only [List.getElem?_toArray, List.getElem?_cons_zero, List.getElem?_cons_succ]; rfl
          go_simp
          refine (F9 _ _ (HBR.drew)).mono ?_; rintro e w6 ⟨rfl, hb6⟩
          have BW61 : Below w.heap.size w w6 := (Below.drew BR).trans (hb6.mono (Below.drew BR).size)
          have zz61 : wr.heap.size ≤ w6.heap.size := hb6.size
          have XR_61 := Blk4.below (by exact (XR.drew)) hb6
          obtain ⟨cXR_61_0, cXR_61_1, cXR_61_2, cXR_61_3, _⟩ := XR_61.cells
          have lXR_61 := XR_61.lt
          have PR_61 := Blk4.below (by exact (PR.drew)) hb6
          obtain ⟨cPR_61_0, cPR_61_1, cPR_61_2, cPR_61_3, _⟩ := PR_61.cells
          have lPR_61 := PR_61.lt
          have HAR_61 := Cv.below (by exact (HAR.drew)) hb6
          have HBR_61 := Cv.below (by exact (HBR.drew)) hb6
          have RR5_61 := RowB.below (by exact (RR5.drew)) hb6
          have hcell_w6 : w6.cell? ⟨g, k, none⟩ = some (.bool false) := (hb6.cell (p := ⟨g, k, none⟩) (by simp <;> omega)).trans (by exact hcell)
          go_wp2_with fail
          refine hK.out _ _ ?hSb48 (fun hHeld48 => ?_)
          case hSb48 => exact ⟨cXR_61_0, cXR_61_1, cXR_61_2, cXR_61_3, cPR_61_0, cPR_61_1, cPR_61_2, cPR_61_3, hcell_w6⟩
          clear hK K
          try simp only [Act.put, List.setIfInBounds_toArray, List.set_cons_zero, List.set_cons_succ]
          refine wpAnyH_take (i := 49) (oi := ?oib49) (v := ?vb49) ?hib49 (by kernel_rfl) (by kernel_rfl) (by kernel_rfl) ?hQb49 ?hyb49 (by assumption) ?_
          case hib49 => simp only [List.getElem?_toArray, List.getElem?_cons_zero, List.getElem?_cons_succ]; rfl
          case hQb49 => exact fun _ _ _ h => h
          case hyb49 => refine Or.inl ⟨by rfl, ?_⟩; intro w9 hSw; (try dsimp only at hSw); go_simp; (try with_reducible rfl)
          try simp only [Act.put, List.setIfInBounds_toArray, List.set_cons_zero, List.set_cons_succ]
          refine wpAnyH_take (i := 50) (oi := ?oib50) (v := ?vb50) ?hib50 (by kernel_rfl) (by kernel_rfl) (by kernel_rfl) ?hQb50 ?hyb50 (by assumption) ?_
          case hib50 => simp only [List.getElem?_toArray, List.getElem?_cons_zero, List.getElem?_cons_succ]; rfl
          case hQb50 => exact fun _ _ _ h => h
          case hyb50 => refine Or.inl ⟨by rfl, ?_⟩; intro w9 hSw; (try dsimp only at hSw); go_simp; (try with_reducible rfl)
          try simp only [Act.put, List.setIfInBounds_toArray, List.set_cons_zero, List.set_cons_succ]
          refine wpAnyH_take (i := 51) (oi := ?oib51) (v := ?vb51) ?hib51 (by kernel_rfl) (by kernel_rfl) (by kernel_rfl) ?hQb51 ?hyb51 (by assumption) ?_
          case hib51 => simp only [List.getElem?_toArray, List.getElem?_cons_zero, List.getElem?_cons_succ]; rfl
          case hQb51 => exact fun _ _ _ h => h
          case hyb51 => refine Or.inl ⟨by rfl, ?_⟩; intro w9 hSw; (try dsimp only at hSw); go_simp; (try with_reducible rfl)
          try simp only [Act.put, List.setIfInBounds_toArray, List.set_cons_zero, List.set_cons_succ]
          refine wpAnyH_done (by kernel_rfl) ?_ _
          go_wp2_with fail
          go_roundw
          case rel => exact ⟨k + 1, by omega, by go_num, XR_61, PR_61, RR5_61, HAR_61, HBR_61, BW61⟩
          case measure => simp [intOf]; omega
        · obtain ⟨e1, e2, e3⟩ := h1 rfl
          have F9 := fun W v hW => FF W 0 v hW k
          rw [e3] at F9
          clear h1 h2 e3
          obtain ⟨qa0, qa1, _, _⟩ := HAR.rowsS
          obtain ⟨qb0, qb1, _, _⟩ := HBR.rowsS
          obtain ⟨g0, a0, u0, _, hg0, ha0, ca0, _⟩ := qa0.get (k := k) (by have := HL0.out; omega)
          obtain ⟨g1, a1, u1, _, hg1, ha1, ca1, _⟩ := qa1.get (k := k) (by have := HL1.out; omega)
          obtain ⟨g2, b0, u2, _, hg2, hb0, cb0, _⟩ := qb0.get (k := k) (by have := HLL.out; omega)
          obtain ⟨g3, b1, u3, _, hg3, hb1, cb1, _⟩ := qb1.get (k := k) (by have := HRR.out; omega)
          cases u0; cases u1; cases u2; cases u3
          obtain rfl : b0 = a0 := by have h8 := hb0.out; rw [e1, ha0.out] at h8; simpa using h8.symm
          obtain rfl : b1 = a1 := by have h8 := hb1.out; rw [e2, ha1.out] at h8; simpa using h8.symm
          have ne0 : (b0 != b0) = false := by simp
          have ne1 : (b1 != b1) = false := by simp
          clear ha0 ha1 hb0 hb1 e1 e2 qa0 qa1 qb0 qb1
          go_wp2_with fail
          refine wp_region_held_drew (S := fun w' => w'.cell? ⟨w1.heap.size, 0, none⟩ = some (.slice (some ⟨g0, 0, none⟩) n1 c0) ∧ w'.cell? ⟨w1.heap.size, 1, none⟩ = some (.slice (some ⟨g1, 0, none⟩) n1 c1) ∧ w'.cell? ⟨w1.heap.size, 2, none⟩ = some (.slice A2 n2 c2) ∧ w'.cell? ⟨w1.heap.size, 3, none⟩ = some (.slice A3 n3 c3) ∧ w'.cell? ⟨w2.heap.size, 0, none⟩ = some (.slice (some ⟨g2, 0, none⟩) n1 d0) ∧ w'.cell? ⟨w2.heap.size, 1, none⟩ = some (.slice (some ⟨g3, 0, none⟩) n1 d1) ∧ w'.cell? ⟨w2.heap.size, 2, none⟩ = some (.slice B2 n2 d2) ∧ w'.cell? ⟨w2.heap.size, 3, none⟩ = some (.slice B3 k3 d3) ∧ w'.cell? ⟨g, k, none⟩ = some (.bool true) ∧ w'.cell? ⟨g0, k, none⟩ = some (.int .i64 b0) ∧ w'.cell? ⟨g1, k, none⟩ = some (.int .i64 b1) ∧ w'.cell? ⟨g2, k, none⟩ = some (.int .i64 b0) ∧ w'.cell? ⟨g3, k, none⟩ = some (.int .i64 b1)) (by kernel_rfl) ?_ (fun hHeld => ?_)
          · exact ⟨cellD cXR_0, cellD cXR_1, cellD cXR_2, cellD cXR_3, cellD cPR_0, cellD cPR_1, cellD cPR_2, cellD cPR_3, cellD hcell, cellD ca0, cellD ca1, cellD cb0, cellD cb1⟩
          refine wpAnyH_take (i := 0) (oi := ?oic0) (v := ?vc0) ?hic0 (by kernel_rfl) (by kernel_rfl) (by kernel_rfl) ?hQc0 ?hyc0 (by assumption) ?_
          case hic0 => simp only [List.getElem?_toArray, List.getElem?_cons_zero]; rfl
          case hQc0 => exact fun _ _ _ h => h
          case hyc0 => refine Or.inl ⟨by rfl, ?_⟩; intro w9 hSw; (try dsimp only at hSw); go_simp; (try with_reducible rfl)
          try simp only [Act.put, List.setIfInBounds_toArray, List.set_cons_zero, List.set_cons_succ]
          refine wpAnyH_take (i := 1) (oi := ?oic1) (v := ?vc1) ?hic1 (by kernel_rfl) (by kernel_rfl) (by kernel_rfl) ?hQc1 ?hyc1 (by assumption) ?_
          case hic1 => simp only [List.getElem?_toArray, List.getElem?_cons_zero, List.getElem?_cons_succ]; rfl
          case hQc1 => exact fun _ _ _ h => h
          case hyc1 => refine Or.inl ⟨by rfl, ?_⟩; intro w9 hSw; (try dsimp only at hSw); go_simp; (try with_reducible rfl)
          try simp only [Act.put, List.setIfInBounds_toArray, List.set_cons_zero, List.set_cons_succ]
          refine wpAnyH_take (i := 2) (oi := ?oic2) (v := ?vc2) ?hic2 (by kernel_rfl) (by kernel_rfl) (by kernel_rfl) ?hQc2 ?hyc2 (by assumption) ?_
          case hic2 => simp only [List.getElem?_toArray, List.getElem?_cons_zero, List.getElem?_cons_succ]; rfl
          case hQc2 => exact fun _ _ _ h => h
          case hyc2 => refine Or.inl ⟨by rfl, ?_⟩; intro w9 hSw; (try dsimp only at hSw); go_simp; (try with_reducible rfl)
          try simp only [Act.put, List.setIfInBounds_toArray, List.set_cons_zero, List.set_cons_succ]
          refine wpAnyH_take (i := 3) (oi := ?oic3) (v := ?vc3) ?hic3 (by kernel_rfl) (by kernel_rfl) (by kernel_rfl) ?hQc3 ?hyc3 (by assumption) ?_
          case hic3 => simp only [List.getElem?_toArray, List.getElem?_cons_zero, List.getElem?_cons_succ]; rfl
          case hQc3 => exact fun _ _ _ h => h
          case hyc3 => refine Or.inl ⟨by rfl, ?_⟩; intro w9 hSw; (try dsimp only at hSw); go_simp; (try with_reducible rfl)
          try simp only [Act.put, List.setIfInBounds_toArray, List.set_cons_zero, List.set_cons_succ]
          refine wpAnyH_take (i := 4) (oi := ?oic4) (v := ?vc4) ?hic4 (by kernel_rfl) (by kernel_rfl) (by kernel_rfl) ?hQc4 ?hyc4 (by assumption) ?_
          case hic4 => simp only [List.getElem?_toArray, List.getElem?_cons_zero, List.getElem?_cons_succ]; rfl
          case hQc4 => exact fun _ _ _ h => h
          case hyc4 => refine Or.inl ⟨by rfl, ?_⟩; intro w9 hSw; (try dsimp only at hSw); go_simp; (try with_reducible rfl)
          try simp only [Act.put, List.setIfInBounds_toArray, List.set_cons_zero, List.set_cons_succ]
          refine wpAnyH_take (i := 5) (oi := ?oic5) (v := ?vc5) ?hic5 (by kernel_rfl) (by kernel_rfl) (by kernel_rfl) ?hQc5 ?hyc5 (by assumption) ?_
          case hic5 => simp only [List.getElem?_toArray, List.getElem?_cons_zero, List.getElem?_cons_succ]; rfl
          case hQc5 => exact fun _ _ _ h => h
          case hyc5 => refine Or.inl ⟨by rfl, ?_⟩; intro w9 hSw; (try dsimp only at hSw); go_simp; (try with_reducible rfl)
          try simp only [Act.put, List.setIfInBounds_toArray, List.set_cons_zero, List.set_cons_succ]
          refine wpAnyH_take (i := 6) (oi := ?oic6) (v := ?vc6) ?hic6 (by kernel_rfl) (by kernel_rfl) (by kernel_rfl) ?hQc6 ?hyc6 (by assumption) ?_
          case hic6 => simp only [List.getElem?_toArray, List.getElem?_cons_zero, List.getElem?_cons_succ]; rfl
          case hQc6 => exact fun _ _ _ h => h
          case hyc6 => refine Or.inl ⟨by rfl, ?_⟩; intro w9 hSw; (try dsimp only at hSw); go_simp; (try with_reducible rfl)
          try simp only [Act.put, List.setIfInBounds_toArray, List.set_cons_zero, List.set_cons_succ]
          refine wpAnyH_take (i := 7) (oi := ?oic7) (v := ?vc7) ?hic7 (by kernel_rfl) (by kernel_rfl) (by kernel_rfl) ?hQc7 ?hyc7 (by assumption) ?_
          case hic7 => simp only [List.getElem?_toArray, List.getElem?_cons_zero, List.getElem?_cons_succ]; rfl
          case hQc7 => exact fun _ _ _ h => h
          case hyc7 => refine Or.inl ⟨by rfl, ?_⟩; intro w9 hSw; (try dsimp only at hSw); go_simp; (try with_reducible rfl)
          try simp only [Act.put, List.setIfInBounds_toArray, List.set_cons_zero, List.set_cons_succ]
          refine wpAnyH_take (i := 8) (oi := ?oic8) (v := ?vc8) ?hic8 (by kernel_rfl) (by kernel_rfl) (by kernel_rfl) ?hQc8 ?hyc8 (by assumption) ?_
          case hic8 => simp only [List.getElem?_toArray, List.getElem?_cons_zero, List.getElem?_cons_succ]; rfl
          case hQc8 => exact fun _ _ _ h => h
          case hyc8 => refine Or.inl ⟨by rfl, ?_⟩; intro w9 hSw; (try dsimp only at hSw); go_simp; (try with_reducible rfl)
          try simp only [Act.put, List.setIfInBounds_toArray, List.set_cons_zero, List.set_cons_succ]
          refine wpAnyH_take (i := 9) (oi := ?oic9) (v := ?vc9) ?hic9 (by kernel_rfl) (by kernel_rfl) (by kernel_rfl) ?hQc9 ?hyc9 (by assumption) ?_
          case hic9 => simp only [List.getElem?_toArray, List.getElem?_cons_zero, List.getElem?_cons_succ]; rfl
          case hQc9 => exact fun _ _ _ h => h
          case hyc9 => refine Or.inl ⟨by rfl, ?_⟩; intro w9 hSw; (try dsimp only at hSw); go_simp; (try with_reducible rfl)
          try simp only [Act.put, List.setIfInBounds_toArray, List.set_cons_zero, List.set_cons_succ]
          refine wpAnyH_take (i := 10) (oi := ?oic10) (v := ?vc10) ?hic10 (by kernel_rfl) (by kernel_rfl) (by kernel_rfl) ?hQc10 ?hyc10 (by assumption) ?_
          case hic10 => simp only [List.getElem?_toArray, List.getElem?_cons_zero, List.getElem?_cons_succ]; rfl
          case hQc10 => exact fun _ _ _ h => h
          case hyc10 => refine Or.inl ⟨by rfl, ?_⟩; intro w9 hSw; (try dsimp only at hSw); go_simp; (try with_reducible rfl)
          try simp only [Act.put, List.setIfInBounds_toArray, List.set_cons_zero, List.set_cons_succ]
          refine wpAnyH_take (i := 11) (oi := ?oic11) (v := ?vc11) ?hic11 (by kernel_rfl) (by kernel_rfl) (by kernel_rfl) ?hQc11 ?hyc11 (by assumption) ?_
          case hic11 => simp only [List.getElem?_toArray, List.getElem?_cons_zero, List.getElem?_cons_succ]; rfl
          case hQc11 => exact fun _ _ _ h => h
          case hyc11 => refine Or.inl ⟨by rfl, ?_⟩; intro w9 hSw; (try dsimp only at hSw); go_simp; (try with_reducible rfl)
          try simp only [Act.put, List.setIfInBounds_toArray, List.set_cons_zero, List.set_cons_succ]
          refine wpAnyH_take (i := 12) (oi := ?oic12) (v := ?vc12) ?hic12 (by kernel_rfl) (by kernel_rfl) (by kernel_rfl) ?hQc12 ?hyc12 (by assumption) ?_
          case hic12 => simp only [List.getElem?_toArray, List.getElem?_cons_zero, List.getElem?_cons_succ]; rfl
          case hQc12 => exact fun _ _ _ h => h
          case hyc12 => refine Or.inl ⟨by rfl, ?_⟩; intro w9 hSw; (try dsimp only at hSw); go_simp; (try with_reducible rfl)
          try simp only [Act.put, List.setIfInBounds_toArray, List.set_cons_zero, List.set_cons_succ]
          refine wpAnyH_take (i := 13) (oi := ?oic13) (v := ?vc13) ?hic13 (by kernel_rfl) (by kernel_rfl) (by kernel_rfl) ?hQc13 ?hyc13 (by assumption) ?_
          case hic13 => simp only [List.getElem?_toArray, List.getElem?_cons_zero, List.getElem?_cons_succ]; rfl
          case hQc13 => exact fun _ _ _ h => h
          case hyc13 => refine Or.inl ⟨by rfl, ?_⟩; intro w9 hSw; (try dsimp only at hSw); go_simp; (try with_reducible rfl)
          try simp only [Act.put, List.setIfInBounds_toArray, List.set_cons_zero, List.set_cons_succ]
          refine wpAnyH_take (i := 14) (oi := ?oic14) (v := ?vc14) ?hic14 (by kernel_rfl) (by kernel_rfl) (by kernel_rfl) ?hQc14 ?hyc14 (by assumption) ?_
          case hic14 => simp only [List.getElem?_toArray, List.getElem?_cons_zero, List.getElem?_cons_succ]; rfl
          case hQc14 => exact fun _ _ _ h => h
          case hyc14 => refine Or.inl ⟨by rfl, ?_⟩; intro w9 hSw; (try dsimp only at hSw); go_simp; (try with_reducible rfl)
          try simp only [Act.put, List.setIfInBounds_toArray, List.set_cons_zero, List.set_cons_succ]
          refine wpAnyH_take (i := 15) (oi := ?oic15) (v := ?vc15) ?hic15 (by kernel_rfl) (by kernel_rfl) (by kernel_rfl) ?hQc15 ?hyc15 (by assumption) ?_
          case hic15 => simp only [List.getElem?_toArray, List.getElem?_cons_zero, List.getElem?_cons_succ]; rfl
          case hQc15 => exact fun _ _ _ h => h
          case hyc15 => refine Or.inl ⟨by rfl, ?_⟩; intro w9 hSw; (try dsimp only at hSw); go_simp; (try with_reducible rfl)
          try simp only [Act.put, List.setIfInBounds_toArray, List.set_cons_zero, List.set_cons_succ]
          refine wpAnyH_take (i := 16) (oi := ?oic16) (v := ?vc16) ?hic16 (by kernel_rfl) (by kernel_rfl) (by kernel_rfl) ?hQc16 ?hyc16 (by assumption) ?_
          case hic16 => simp only [List.getElem?_toArray, List.getElem?_cons_zero, List.getElem?_cons_succ]; rfl
          case hQc16 => exact fun _ _ _ h => h
          case hyc16 => refine Or.inl ⟨by rfl, ?_⟩; intro w9 hSw; (try dsimp only at hSw); go_simp; (try with_reducible rfl)
          try simp only [Act.put, List.setIfInBounds_toArray, List.set_cons_zero, List.set_cons_succ]
          refine wpAnyH_take (i := 17) (oi := ?oic17) (v := ?vc17) ?hic17 (by kernel_rfl) (by kernel_rfl) (by kernel_rfl) ?hQc17 ?hyc17 (by assumption) ?_
          case hic17 => simp only [List.getElem?_toArray, List.getElem?_cons_zero, List.getElem?_cons_succ]; rfl
          case hQc17 => exact fun _ _ _ h => h
          case hyc17 => refine Or.inl ⟨by rfl, ?_⟩; intro w9 hSw; (try dsimp only at hSw); go_simp; (try with_reducible rfl)
          try simp only [Act.put, List.setIfInBounds_toArray, List.set_cons_zero, List.set_cons_succ]
          refine wpAnyH_take (i := 18) (oi := ?oic18) (v := ?vc18) ?hic18 (by kernel_rfl) (by kernel_rfl) (by kernel_rfl) ?hQc18 ?hyc18 (by assumption) ?_
          case hic18 => simp only [List.getElem?_toArray, List.getElem?_cons_zero, List.getElem?_cons_succ]; rfl
          case hQc18 => exact fun _ _ _ h => h
          case hyc18 => refine Or.inl ⟨by rfl, ?_⟩; intro w9 hSw; (try dsimp only at hSw); go_simp; (try with_reducible rfl)
          try simp only [Act.put, List.setIfInBounds_toArray, List.set_cons_zero, List.set_cons_succ]
          refine wpAnyH_take (i := 19) (oi := ?oic19) (v := ?vc19) ?hic19 (by kernel_rfl) (by kernel_rfl) (by kernel_rfl) ?hQc19 ?hyc19 (by assumption) ?_
          case hic19 => simp only [List.getElem?_toArray, List.getElem?_cons_zero, List.getElem?_cons_succ]; rfl
          case hQc19 => exact fun _ _ _ h => h
          case hyc19 => refine Or.inl ⟨by rfl, ?_⟩; intro w9 hSw; (try dsimp only at hSw); go_simp; (try with_reducible rfl)
          try simp only [Act.put, List.setIfInBounds_toArray, List.set_cons_zero, List.set_cons_succ]
          refine wpAnyH_take (i := 20) (oi := ?oic20) (v := ?vc20) ?hic20 (by kernel_rfl) (by kernel_rfl) (by kernel_rfl) ?hQc20 ?hyc20 (by assumption) ?_
          case hic20 => simp only [List.getElem?_toArray, List.getElem?_cons_zero, List.getElem?_cons_succ]; rfl
          case hQc20 => exact fun _ _ _ h => h
          case hyc20 => refine Or.inl ⟨by rfl, ?_⟩; intro w9 hSw; (try dsimp only at hSw); go_simp; (try with_reducible rfl)
          try simp only [Act.put, List.setIfInBounds_toArray, List.set_cons_zero, List.set_cons_succ]
          refine wpAnyH_take (i := 21) (oi := ?oic21) (v := ?vc21) ?hic21 (by kernel_rfl) (by kernel_rfl) (by kernel_rfl) ?hQc21 ?hyc21 (by assumption) ?_
          case hic21 => simp only [List.getElem?_toArray, List.getElem?_cons_zero, List.getElem?_cons_succ]; rfl
          case hQc21 => exact fun _ _ _ h => h
          case hyc21 => refine Or.inl ⟨by rfl, ?_⟩; intro w9 hSw; (try dsimp only at hSw); go_simp; (try with_reducible rfl)
          try simp only [Act.put, List.setIfInBounds_toArray, List.set_cons_zero, List.set_cons_succ]
          refine wpAnyH_take (i := 22) (oi := ?oic22) (v := ?vc22) ?hic22 (by kernel_rfl) (by kernel_rfl) (by kernel_rfl) ?hQc22 ?hyc22 (by assumption) ?_
          case hic22 => simp only [List.getElem?_toArray, List.getElem?_cons_zero, List.getElem?_cons_succ]; rfl
          case hQc22 => exact fun _ _ _ h => h
          case hyc22 => refine Or.inl ⟨by rfl, ?_⟩; intro w9 hSw; (try dsimp only at hSw); go_simp; (try with_reducible rfl)
          try simp only [Act.put, List.setIfInBounds_toArray, List.set_cons_zero, List.set_cons_succ]
          refine wpAnyH_take (i := 23) (oi := ?oic23) (v := ?vc23) ?hic23 (by kernel_rfl) (by kernel_rfl) (by kernel_rfl) ?hQc23 ?hyc23 (by assumption) ?_
          case hic23 => simp only [List.getElem?_toArray, List.getElem?_cons_zero, List.getElem?_cons_succ]; rfl
          case hQc23 => exact fun _ _ _ h => h
          case hyc23 => refine Or.inl ⟨by rfl, ?_⟩; intro w9 hSw; (try dsimp only at hSw); go_simp; (try with_reducible rfl)
          try simp only [Act.put, List.setIfInBounds_toArray, List.set_cons_zero, List.set_cons_succ]
          refine wpAnyH_take (i := 24) (oi := ?oic24) (v := ?vc24) ?hic24 (by kernel_rfl) (by kernel_rfl) (by kernel_rfl) ?hQc24 ?hyc24 (by assumption) ?_
          case hic24 => simp only [List.getElem?_toArray, List.getElem?_cons_zero, List.getElem?_cons_succ]; rfl
          case hQc24 => exact fun _ _ _ h => h
          case hyc24 => refine Or.inl ⟨by rfl, ?_⟩; intro w9 hSw; (try dsimp only at hSw); go_simp; (try with_reducible rfl)
          try simp only [Act.put, List.setIfInBounds_toArray, List.set_cons_zero, List.set_cons_succ]
          refine wpAnyH_take (i := 25) (oi := ?oic25) (v := ?vc25) ?hic25 (by kernel_rfl) (by kernel_rfl) (by kernel_rfl) ?hQc25 ?hyc25 (by assumption) ?_
          case hic25 => simp only [List.getElem?_toArray, List.getElem?_cons_zero, List.getElem?_cons_succ]; rfl
          case hQc25 => exact fun _ _ _ h => h
          case hyc25 => refine Or.inl ⟨by rfl, ?_⟩; intro w9 hSw; (try dsimp only at hSw); go_simp; (try with_reducible rfl)
          try simp only [Act.put, List.setIfInBounds_toArray, List.set_cons_zero, List.set_cons_succ]
          refine wpAnyH_take (i := 26) (oi := ?oic26) (v := ?vc26) ?hic26 (by kernel_rfl) (by kernel_rfl) (by kernel_rfl) ?hQc26 ?hyc26 (by assumption) ?_
          case hic26 => simp only [List.getElem?_toArray, List.getElem?_cons_zero, List.getElem?_cons_succ]; rfl
          case hQc26 => exact fun _ _ _ h => h
          case hyc26 => refine Or.inl ⟨by rfl, ?_⟩; intro w9 hSw; (try dsimp only at hSw); go_simp; (try with_reducible rfl)
          try simp only [Act.put, List.setIfInBounds_toArray, List.set_cons_zero, List.set_cons_succ]
          refine wpAnyH_take (i := 27) (oi := ?oic27) (v := ?vc27) ?hic27 (by kernel_rfl) (by kernel_rfl) (by kernel_rfl) ?hQc27 ?hyc27 (by assumption) ?_
          case hic27 => simp only [List.getElem?_toArray, List.getElem?_cons_zero, List.getElem?_cons_succ]; rfl
          case hQc27 => exact fun _ _ _ h => h
          case hyc27 => refine Or.inl ⟨by rfl, ?_⟩; intro w9 hSw; (try dsimp only at hSw); go_simp; (try with_reducible rfl)
          try simp only [Act.put, List.setIfInBounds_toArray, List.set_cons_zero, List.set_cons_succ]
          refine wpAnyH_take (i := 28) (oi := ?oic28) (v := ?vc28) ?hic28 (by kernel_rfl) (by kernel_rfl) (by kernel_rfl) ?hQc28 ?hyc28 (by assumption) ?_
          case hic28 => simp only [List.getElem?_toArray, List.getElem?_cons_zero, List.getElem?_cons_succ]; rfl
          case hQc28 => exact fun _ _ _ h => h
          case hyc28 => refine Or.inl ⟨by rfl, ?_⟩; intro w9 hSw; (try dsimp only at hSw); go_simp; (try with_reducible rfl)
          try simp only [Act.put, List.setIfInBounds_toArray, List.set_cons_zero, List.set_cons_succ]
          refine wpAnyH_take (i := 29) (oi := ?oic29) (v := ?vc29) ?hic29 (by kernel_rfl) (by kernel_rfl) (by kernel_rfl) ?hQc29 ?hyc29 (by assumption) ?_
          case hic29 => simp only [List.getElem?_toArray, List.getElem?_cons_zero, List.getElem?_cons_succ]; rfl
          case hQc29 => exact fun _ _ _ h => h
          case hyc29 => refine Or.inl ⟨by rfl, ?_⟩; intro w9 hSw; (try dsimp only at hSw); go_simp; (try with_reducible rfl)
          try simp only [Act.put, List.setIfInBounds_toArray, List.set_cons_zero, List.set_cons_succ]
          refine wpAnyH_take (i := 30) (oi := ?oic30) (v := ?vc30) ?hic30 (by kernel_rfl) (by kernel_rfl) (by kernel_rfl) ?hQc30 ?hyc30 (by assumption) ?_
          case hic30 => simp only [List.getElem?_toArray, List.getElem?_cons_zero, List.getElem?_cons_succ]; rfl
          case hQc30 => exact fun _ _ _ h => h
          case hyc30 => refine Or.inl ⟨by rfl, ?_⟩; intro w9 hSw; (try dsimp only at hSw); go_simp; (try with_reducible rfl)
          try simp only [Act.put, List.setIfInBounds_toArray, List.set_cons_zero, List.set_cons_succ]
          refine wpAnyH_take (i := 31) (oi := ?oic31) (v := ?vc31) ?hic31 (by kernel_rfl) (by kernel_rfl) (by kernel_rfl) ?hQc31 ?hyc31 (by assumption) ?_
          case hic31 => simp only [List.getElem?_toArray, List.getElem?_cons_zero, List.getElem?_cons_succ]; rfl
          case hQc31 => exact fun _ _ _ h => h
          case hyc31 => refine Or.inl ⟨by rfl, ?_⟩; intro w9 hSw; (try dsimp only at hSw); go_simp; (try with_reducible rfl)
          try simp only [Act.put, List.setIfInBounds_toArray, List.set_cons_zero, List.set_cons_succ]
          refine wpAnyH_take (i := 32) (oi := ?oic32) (v := ?vc32) ?hic32 (by kernel_rfl) (by kernel_rfl) (by kernel_rfl) ?hQc32 ?hyc32 (by assumption) ?_
          case hic32 => simp only [List.getElem?_toArray, List.getElem?_cons_zero, List.getElem?_cons_succ]; rfl
          case hQc32 => exact fun _ _ _ h => h
          case hyc32 => refine Or.inl ⟨by rfl, ?_⟩; intro w9 hSw; (try dsimp only at hSw); go_simp; (try with_reducible rfl)
          try simp only [Act.put, List.setIfInBounds_toArray, List.set_cons_zero, List.set_cons_succ]
          refine wpAnyH_take (i := 33) (oi := ?oic33) (v := ?vc33) ?hic33 (by kernel_rfl) (by kernel_rfl) (by kernel_rfl) ?hQc33 ?hyc33 (by assumption) ?_
          case hic33 => simp only [List.getElem?_toArray, List.getElem?_cons_zero, List.getElem?_cons_succ]; rfl
          case hQc33 => exact fun _ _ _ h => h
          case hyc33 => refine Or.inl ⟨by rfl, ?_⟩; intro w9 hSw; (try dsimp only at hSw); go_simp; (try with_reducible rfl)
          try simp only [Act.put, List.setIfInBounds_toArray, List.set_cons_zero, List.set_cons_succ]
          refine wpAnyH_take (i := 34) (oi := ?oic34) (v := ?vc34) ?hic34 (by kernel_rfl) (by kernel_rfl) (by kernel_rfl) ?hQc34 ?hyc34 (by assumption) ?_
          case hic34 => simp only [List.getElem?_toArray, List.getElem?_cons_zero, List.getElem?_cons_succ]; rfl
          case hQc34 => exact fun _ _ _ h => h
          case hyc34 => refine Or.inl ⟨by rfl, ?_⟩; intro w9 hSw; (try dsimp only at hSw); go_simp; (try with_reducible rfl)
          try simp only [Act.put, List.setIfInBounds_toArray, List.set_cons_zero, List.set_cons_succ]
          refine wpAnyH_take (i := 35) (oi := ?oic35) (v := ?vc35) ?hic35 (by kernel_rfl) (by kernel_rfl) (by kernel_rfl) ?hQc35 ?hyc35 (by assumption) ?_
          case hic35 => simp only [List.getElem?_toArray, List.getElem?_cons_zero, List.getElem?_cons_succ]; rfl
          case hQc35 => exact fun _ _ _ h => h
          case hyc35 => refine Or.inl ⟨by rfl, ?_⟩; intro w9 hSw; (try dsimp only at hSw); go_simp; (try with_reducible rfl)
          try simp only [Act.put, List.setIfInBounds_toArray, List.set_cons_zero, List.set_cons_succ]
          refine wpAnyH_ready (rs := [36]) (by kernel_rfl) (by simp) ?_
          refine AllReadyH.cons (o := ?ooc36) ?hoc36 (fun K hK => ?_) AllReadyH.nil
          case hoc36 => simp only [List.getElem?_toArray, List.getElem?_cons_zero, List.getElem?_cons_succ]; rfl
          go_simp
          refine (F9 _ _ (HBR.drew)).mono ?_; rintro e w6 ⟨rfl, hb6⟩
          have BW61 : Below w.heap.size w w6 := (Below.drew BR).trans (hb6.mono (Below.drew BR).size)
          have zz61 : wr.heap.size ≤ w6.heap.size := hb6.size
          have XR_61 := Blk4.below (by exact (XR.drew)) hb6
          obtain ⟨cXR_61_0, cXR_61_1, cXR_61_2, cXR_61_3, _⟩ := XR_61.cells
          have lXR_61 := XR_61.lt
          have PR_61 := Blk4.below (by exact (PR.drew)) hb6
          obtain ⟨cPR_61_0, cPR_61_1, cPR_61_2, cPR_61_3, _⟩ := PR_61.cells
          have lPR_61 := PR_61.lt
          have HAR_61 := Cv.below (by exact (HAR.drew)) hb6
          have HBR_61 := Cv.below (by exact (HBR.drew)) hb6
          have RR5_61 := RowB.below (by exact (RR5.drew)) hb6
          have hcell_w6 : w6.cell? ⟨g, k, none⟩ = some (.bool true) := (hb6.cell (p := ⟨g, k, none⟩) (by simp <;> omega)).trans (by exact hcell)
          have ca0_w6 : w6.cell? ⟨g0, k, none⟩ = some (.int .i64 b0) := (hb6.cell (p := ⟨g0, k, none⟩) (by simp <;> omega)).trans (by exact ca0)
          have ca1_w6 : w6.cell? ⟨g1, k, none⟩ = some (.int .i64 b1) := (hb6.cell (p := ⟨g1, k, none⟩) (by simp <;> omega)).trans (by exact ca1)
          have cb0_w6 : w6.cell? ⟨g2, k, none⟩ = some (.int .i64 b0) := (hb6.cell (p := ⟨g2, k, none⟩) (by simp <;> omega)).trans (by exact cb0)
          have cb1_w6 : w6.cell? ⟨g3, k, none⟩ = some (.int .i64 b1) := (hb6.cell (p := ⟨g3, k, none⟩) (by simp <;> omega)).trans (by exact cb1)
          go_wp2_with fail
          refine hK.out _ _ ?hSc36 (fun hHeld36 => ?_)
          case hSc36 => exact ⟨cXR_61_0, cXR_61_1, cXR_61_2, cXR_61_3, cPR_61_0, cPR_61_1, cPR_61_2, cPR_61_3, hcell_w6, ca0_w6, ca1_w6, cb0_w6, cb1_w6⟩
          clear hK K
          try simp only [Act.put, List.setIfInBounds_toArray, List.set_cons_zero, List.set_cons_succ]
          refine wpAnyH_take (i := 37) (oi := ?oic37) (v := ?vc37) ?hic37 (by kernel_rfl) (by kernel_rfl) (by kernel_rfl) ?hQc37 ?hyc37 (by assumption) ?_
          case hic37 => simp only [List.getElem?_toArray, List.getElem?_cons_zero, List.getElem?_cons_succ]; rfl
          case hQc37 => exact fun _ _ _ h => h
          case hyc37 => refine Or.inl ⟨by rfl, ?_⟩; intro w9 hSw; (try dsimp only at hSw); go_simp; (try with_reducible rfl)
          try simp only [Act.put, List.setIfInBounds_toArray, List.set_cons_zero, List.set_cons_succ]
          refine wpAnyH_take (i := 38) (oi := ?oic38) (v := ?vc38) ?hic38 (by kernel_rfl) (by kernel_rfl) (by kernel_rfl) ?hQc38 ?hyc38 (by assumption) ?_
          case hic38 => simp only [List.getElem?_toArray, List.getElem?_cons_zero, List.getElem?_cons_succ]; rfl
          case hQc38 => exact fun _ _ _ h => h
          case hyc38 => refine Or.inl ⟨by rfl, ?_⟩; intro w9 hSw; (try dsimp only at hSw); go_simp; (try with_reducible rfl)
          try simp only [Act.put, List.setIfInBounds_toArray, List.set_cons_zero, List.set_cons_succ]
          refine wpAnyH_take (i := 39) (oi := ?oic39) (v := ?vc39) ?hic39 (by kernel_rfl) (by kernel_rfl) (by kernel_rfl) ?hQc39 ?hyc39 (by assumption) ?_
          case hic39 => simp only [List.getElem?_toArray, List.getElem?_cons_zero, List.getElem?_cons_succ]; rfl
          case hQc39 => exact fun _ _ _ h => h
          case hyc39 => refine Or.inl ⟨by rfl, ?_⟩; intro w9 hSw; (try dsimp only at hSw); go_simp; (try with_reducible rfl)
          try simp only [Act.put, List.setIfInBounds_toArray, List.set_cons_zero, List.set_cons_succ]
          refine wpAnyH_take (i := 40) (oi := ?oic40) (v := ?vc40) ?hic40 (by kernel_rfl) (by kernel_rfl) (by kernel_rfl) ?hQc40 ?hyc40 (by assumption) ?_
          case hic40 => simp only [List.getElem?_toArray, List.getElem?_cons_zero, List.getElem?_cons_succ]; rfl
          case hQc40 => exact fun _ _ _ h => h
          case hyc40 => refine Or.inl ⟨by rfl, ?_⟩; intro w9 hSw; (try dsimp only at hSw); go_simp; (try with_reducible rfl)
          try simp only [Act.put, List.setIfInBounds_toArray, List.set_cons_zero, List.set_cons_succ]
          refine wpAnyH_take (i := 41) (oi := ?oic41) (v := ?vc41) ?hic41 (by kernel_rfl) (by kernel_rfl) (by kernel_rfl) ?hQc41 ?hyc41 (by assumption) ?_
          case hic41 => simp only [List.getElem?_toArray, List.getElem?_cons_zero, List.getElem?_cons_succ]; rfl
          case hQc41 => exact fun _ _ _ h => h
          case hyc41 => refine Or.inl ⟨by rfl, ?_⟩; intro w9 hSw; (try dsimp only at hSw); go_simp; (try with_reducible rfl)
          try simp only [Act.put, List.setIfInBounds_toArray, List.set_cons_zero, List.set_cons_succ]
          refine wpAnyH_take (i := 42) (oi := ?oic42) (v := ?vc42) ?hic42 (by kernel_rfl) (by kernel_rfl) (by kernel_rfl) ?hQc42 ?hyc42 (by assumption) ?_
          case hic42 => simp only [List.getElem?_toArray, List.getElem?_cons_zero, List.getElem?_cons_succ]; rfl
          case hQc42 => exact fun _ _ _ h => h
          case hyc42 => refine Or.inl ⟨by rfl, ?_⟩; intro w9 hSw; (try dsimp only at hSw); go_simp; (try with_reducible rfl)
          try simp only [Act.put, List.setIfInBounds_toArray, List.set_cons_zero, List.set_cons_succ]
          refine wpAnyH_take (i := 43) (oi := ?oic43) (v := ?vc43) ?hic43 (by kernel_rfl) (by kernel_rfl) (by kernel_rfl) ?hQc43 ?hyc43 (by assumption) ?_
          case hic43 => simp only [List.getElem?_toArray, List.getElem?_cons_zero, List.getElem?_cons_succ]; rfl
          case hQc43 => exact fun _ _ _ h => h
          case hyc43 => refine Or.inl ⟨by rfl, ?_⟩; intro w9 hSw; (try dsimp only at hSw); go_simp; (try with_reducible rfl)
          try simp only [Act.put, List.setIfInBounds_toArray, List.set_cons_zero, List.set_cons_succ]
          refine wpAnyH_take (i := 44) (oi := ?oic44) (v := ?vc44) ?hic44 (by kernel_rfl) (by kernel_rfl) (by kernel_rfl) ?hQc44 ?hyc44 (by assumption) ?_
          case hic44 => simp only [List.getElem?_toArray, List.getElem?_cons_zero, List.getElem?_cons_succ]; rfl
          case hQc44 => exact fun _ _ _ h => h
          case hyc44 => refine Or.inl ⟨by rfl, ?_⟩; intro w9 hSw; (try dsimp only at hSw); go_simp; (try with_reducible rfl)
          try simp only [Act.put, List.setIfInBounds_toArray, List.set_cons_zero, List.set_cons_succ]
          refine wpAnyH_take (i := 45) (oi := ?oic45) (v := ?vc45) ?hic45 (by kernel_rfl) (by kernel_rfl) (by kernel_rfl) ?hQc45 ?hyc45 (by assumption) ?_
          case hic45 => simp only [List.getElem?_toArray, List.getElem?_cons_zero, List.getElem?_cons_succ]; rfl
          case hQc45 => exact fun _ _ _ h => h
          case hyc45 => refine Or.inl ⟨by rfl, ?_⟩; intro w9 hSw; (try dsimp only at hSw); go_simp; (try with_reducible rfl)
          try simp only [Act.put, List.setIfInBounds_toArray, List.set_cons_zero, List.set_cons_succ]
          refine wpAnyH_take (i := 46) (oi := ?oic46) (v := undef) ?hic46 (by kernel_rfl) (by kernel_rfl) (by kernel_rfl) ?hQc46 ?hyc46 (by assumption) ?_
          case hic46 => simp only [List.getElem?_toArray, List.getElem?_cons_zero, List.getElem?_cons_succ]; rfl
          case hQc46 => exact fun _ _ _ h => h
          case hyc46 => exact Or.inr ⟨by rfl, rfl⟩
          try simp only [Act.put, List.setIfInBounds_toArray, List.set_cons_zero, List.set_cons_succ]
          refine wpAnyH_take (i := 47) (oi := ?oic47) (v := undef) ?hic47 (by kernel_rfl) (by kernel_rfl) (by kernel_rfl) ?hQc47 ?hyc47 (by assumption) ?_
          case hic47 => simp only [List.getElem?_toArray, List.getElem?_cons_zero, List.getElem?_cons_succ]; rfl
          case hQc47 => exact fun _ _ _ h => h
          case hyc47 => exact Or.inr ⟨by rfl, rfl⟩
          try simp only [Act.put, List.setIfInBounds_toArray, List.set_cons_zero, List.set_cons_succ]
          refine wpAnyH_take (i := 48) (oi := ?oic48) (v := undef) ?hic48 (by kernel_rfl) (by kernel_rfl) (by kernel_rfl) ?hQc48 ?hyc48 (by assumption) ?_
          case hic48 => simp only [List.getElem?_toArray, List.getElem?_cons_zero, List.getElem?_cons_succ]; rfl
          case hQc48 => exact fun _ _ _ h => h
          case hyc48 => exact Or.inr ⟨by rfl, rfl⟩
          try simp only [Act.put, List.setIfInBounds_toArray, List.set_cons_zero, List.set_cons_succ]
          refine wpAnyH_take (i := 49) (oi := ?oic49) (v := undef) ?hic49 (by kernel_rfl) (by kernel_rfl) (by kernel_rfl) ?hQc49 ?hyc49 (by assumption) ?_
          case hic49 => simp only [List.getElem?_toArray, List.getElem?_cons_zero, List.getElem?_cons_succ]; rfl
          case hQc49 => exact fun _ _ _ h => h
          case hyc49 => exact Or.inr ⟨by rfl, rfl⟩
          try simp only [Act.put, List.setIfInBounds_toArray, List.set_cons_zero, List.set_cons_succ]
          refine wpAnyH_take (i := 50) (oi := ?oic50) (v := ?vc50) ?hic50 (by kernel_rfl) (by kernel_rfl) (by kernel_rfl) ?hQc50 ?hyc50 (by assumption) ?_
          case hic50 => simp only [List.getElem?_toArray, List.getElem?_cons_zero, List.getElem?_cons_succ]; rfl
          case hQc50 => exact fun _ _ _ h => h
          case hyc50 => refine Or.inl ⟨by rfl, ?_⟩; intro w9 hSw; (try dsimp only at hSw); go_simp; (try with_reducible rfl)
          try simp only [Act.put, List.setIfInBounds_toArray, List.set_cons_zero, List.set_cons_succ]
          refine wpAnyH_take (i := 51) (oi := ?oic51) (v := ?vc51) ?hic51 (by kernel_rfl) (by kernel_rfl) (by kernel_rfl) ?hQc51 ?hyc51 (by assumption) ?_
          case hic51 => simp only [List.getElem?_toArray, List.getElem?_cons_zero, List.getElem?_cons_succ]; rfl
          case hQc51 => exact fun _ _ _ h => h
          case hyc51 => refine Or.inl ⟨by rfl, ?_⟩; intro w9 hSw; (try dsimp only at hSw); go_simp; (try with_reducible rfl)
          try simp only [Act.put, List.setIfInBounds_toArray, List.set_cons_zero, List.set_cons_succ]
          refine wpAnyH_done (by kernel_rfl) ?_ _
          go_wp2_with fail
          go_roundw
          case rel => exact ⟨k + 1, by omega, by go_num, XR_61, PR_61, RR5_61, HAR_61, HBR_61, BW61⟩
          case measure => simp [intOf]; omega
      · obtain rfl : n1 = k := by omega
        have qa2 := HAR.rowsS.2.2.1
        have qb2 := HBR.rowsS.2.2.1
        have lqa := lenS qa2
        have hteq := HT2.out
        rw [hteq] at qb2
        go_wp2_with fail
        refine (V _ _ _ HBR).mono ?_; rintro e w6 ⟨rfl, hb6⟩
        have BW61 : Below w.heap.size w w6 := BR.trans (hb6.mono BR.size)
        have zz61 : wr.heap.size ≤ w6.heap.size := hb6.size
        have XR_61 := Blk4.below (by exact XR) hb6
        obtain ⟨cXR_61_0, cXR_61_1, cXR_61_2, cXR_61_3, _⟩ := XR_61.cells
        have lXR_61 := XR_61.lt
        have PR_61 := Blk4.below (by exact PR) hb6
        obtain ⟨cPR_61_0, cPR_61_1, cPR_61_2, cPR_61_3, _⟩ := PR_61.cells
        have lPR_61 := PR_61.lt
        have HAR_61 := Cv.below (by exact HAR) hb6
        have HBR_61 := Cv.below (by exact HBR) hb6
        have QA_61 := Row.below (by exact qa2) hb6
        have QB_61 := Row.below (by exact qb2) hb6
        go_wp2_with fail
        refine (G _ _ _ HBR_61).mono ?_; rintro e w7 ⟨A7, c7, rfl, _, hb7⟩
        have BW62 : Below w.heap.size w w7 := BW61.trans (hb7.mono BW61.size)
        have zz62 : w6.heap.size ≤ w7.heap.size := hb7.size
        have XR_62 := Blk4.below (by exact XR_61) hb7
        obtain ⟨cXR_62_0, cXR_62_1, cXR_62_2, cXR_62_3, _⟩ := XR_62.cells
        have lXR_62 := XR_62.lt
        have PR_62 := Blk4.below (by exact PR_61) hb7
        obtain ⟨cPR_62_0, cPR_62_1, cPR_62_2, cPR_62_3, _⟩ := PR_62.cells
        have lPR_62 := PR_62.lt
        have HAR_62 := Cv.below (by exact HAR_61) hb7
        have HBR_62 := Cv.below (by exact HBR_61) hb7
        have QA_62 := Row.below (by exact QA_61) hb7
        have QB_62 := Row.below (by exact QB_61) hb7
        go_wp2_with fail
        refine (ccIntsAt_eq _ _ _ _ _ _ C.h.t lqa (lqa ▸ row_maxL QA_62) (AtR.of QB_62) (AtR.of QA_62)).mono ?_; rintro e w8 ⟨rfl, hb8⟩
        have BW63 : Below w.heap.size w w8 := BW62.trans (hb8.mono BW62.size)
        have zz63 : w7.heap.size ≤ w8.heap.size := hb8.size
        have XR_63 := Blk4.below (by exact XR_62) hb8
        obtain ⟨cXR_63_0, cXR_63_1, cXR_63_2, cXR_63_3, _⟩ := XR_63.cells
        have lXR_63 := XR_63.lt
        have PR_63 := Blk4.below (by exact PR_62) hb8
        obtain ⟨cPR_63_0, cPR_63_1, cPR_63_2, cPR_63_3, _⟩ := PR_63.cells
        have lPR_63 := PR_63.lt
        have HAR_63 := Cv.below (by exact HAR_62) hb8
        have HBR_63 := Cv.below (by exact HBR_62) hb8
        have QA_63 := Row.below (by exact QA_62) hb8
        have QB_63 := Row.below (by exact QB_62) hb8
        go_wp2_with fail
        go_ret
        exact ⟨by simp, BW63⟩
end Go.Proofs.Ytmpcgegbfbkmnaa
