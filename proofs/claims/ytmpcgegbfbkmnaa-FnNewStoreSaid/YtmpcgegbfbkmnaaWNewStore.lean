/- The law FnNewStore, walked. -/
import Derived.Test.YtmpcgegbfbkmnaaLawR
import Derived.Test.YtmpcgegbfbkmnaaWLaw
import Derived.Test.YtmpcgegbfbkmnaaDNew
import Derived.Test.YtmpcgegbfbkmnaaINewS
import Derived.Test.YtmpcgegbfbkmnaaIAlloc
import Derived.Test.YtmpcgegbfbkmnaaIStoL
namespace Go.Proofs.Ytmpcgegbfbkmnaa
open Go.RowKit

/-- A new store, some of whose cells were taken for its first root. -/
def stN (c r i : Nat) : Cp := ⟨⟨List.replicate c (-1), List.replicate c (-1), (List.replicate r (-1)).set 0 ((i : Int) - 1)⟩, (nums c).drop i⟩
theorem stN_dec : ∀ a : Fin 9, ∀ b : Fin 4, ∀ i : Fin 9, (1 ≤ a.1 ∧ 1 ≤ b.1 ∧ i.1 < a.1) → (allocB (stN a.1 b.1 i.1) 0 = true ∧ allocX (stN a.1 b.1 i.1) 0 = (i.1 : Int) ∧ (allocC (stN a.1 b.1 i.1) 0).h.l = (stN a.1 b.1 (i.1 + 1)).h.l ∧ (allocC (stN a.1 b.1 i.1) 0).h.r = (stN a.1 b.1 (i.1 + 1)).h.r ∧ (allocC (stN a.1 b.1 i.1) 0).h.t = (stN a.1 b.1 (i.1 + 1)).h.t ∧ (allocC (stN a.1 b.1 i.1) 0).c = (stN a.1 b.1 (i.1 + 1)).c) := by decide +kernel
theorem stN_end : ∀ a : Fin 9, ∀ b : Fin 4, (1 ≤ a.1 ∧ 1 ≤ b.1) → (allocB (stN a.1 b.1 a.1) 0 = false ∧ (leakL (stN a.1 b.1 a.1)).length + 1 = a.1) := by decide +kernel
theorem cp_ext {C D : Cp} (h1 : C.h.l = D.h.l) (h2 : C.h.r = D.h.r) (h3 : C.h.t = D.h.t) (h4 : C.c = D.c) : C = D := by
  obtain ⟨⟨l, r, t⟩, c⟩ := C
  obtain ⟨⟨l', r', t'⟩, c'⟩ := D
  simp only at h1 h2 h3 h4
  subst h1 h2 h3 h4; rfl
theorem stN_step {c r i : Nat} (c8 : c ≤ 8) (r1 : 1 ≤ r) (r3 : r ≤ 3) (hi : i < c) : allocB (stN c r i) 0 = true ∧ allocX (stN c r i) 0 = (i : Int) ∧ allocC (stN c r i) 0 = stN c r (i + 1) := by
  obtain ⟨h1, h2, h3, h4, h5, h6⟩ := stN_dec ⟨c, by omega⟩ ⟨r, by omega⟩ ⟨i, by omega⟩ ⟨by show 1 ≤ c; omega, r1, hi⟩
  exact ⟨h1, h2, cp_ext h3 h4 h5 h6⟩
theorem newSO_some {a b : Int} {C : Cp} (h : newSO a b = some C) : ∃ c r : Nat, a = c ∧ b = r ∧ 1 ≤ c ∧ c ≤ 8 ∧ 1 ≤ r ∧ r ≤ 3 ∧ C = stN c r 0 := by
  unfold newSO at h
  split at h
  · rename_i hs
    simp only [szB, decide_eq_true_eq] at hs
    refine ⟨a.toNat, b.toNat, by omega, by omega, by omega, by omega, by omega, by omega, ?_⟩
    cases h
    unfold stN
    have e : (List.replicate b.toNat (-1 : Int)).set 0 (((0 : Nat) : Int) - 1) = List.replicate b.toNat (-1) := by
      apply List.ext_getElem?; intro i
      rw [List.getElem?_set]
      split
      · subst_vars
        split
        · rw [List.getElem?_replicate, if_pos (by rw [List.length_replicate] at *; omega)]; rfl
        · rw [List.getElem?_eq_none (by omega)]
      · rfl
    rw [e]; rfl
  · cases h
set_option maxHeartbeats 1000000 in
theorem drawNewStore_any (w : World) (A : Option Addr) (n c : Nat) (h : Inp w A n c) :
    Calls Try.prog 34 #[.slice A n c] w (Drawn2 w) := by
  go_enter Try.func34, Try.ntmps34
  go_wp2_with fail
  refine (drawNewHeap_any _ _ _ _ h).mono ?_; rintro e w1 ⟨a, b, rfl, hb1⟩
  go_wp2_with fail
  go_ret2
  exact ⟨a, b, rfl, hb1⟩

set_option maxRecDepth 100000 in
set_option maxHeartbeats 4000000 in
theorem lawNewStore_walk (w : World) (A : Option Addr) (n c : Nat) (h : Inp w A n c) :
    Calls Try.prog 7 #[.slice A n c] w (LawTrue w) := by
  by_cases hbig : 1048576 < n
  · go_enter Try.func7, Try.ntmps7
    go_wp2_with fail
    go_ret
    exact ⟨rfl, Below.refl _ _⟩
  go_enter Try.func7, Try.ntmps7
  go_wp2_with fail
  refine (drawNewStore_any _ _ _ _ h).mono ?_; rintro e w1 ⟨a, b, rfl, hb1⟩
  have BW1 : Below w.heap.size w w1 := (Below.refl w.heap.size w).trans (hb1.mono (Below.refl w.heap.size w).size)
  have zz1 : w.heap.size ≤ w1.heap.size := hb1.size
  have I := fun W => implNewStore_any W a b
  have S := fun W => specNewStore_any W a b
  rcases ho : newSO a b with _ | C
  · rw [ho] at I S
    go_wp2_with fail
    refine (I _).mono ?_; rintro e w2 ⟨v, rfl, HB, hb2⟩
    simp only [Option.isSome_none, Option.getD_none] at HB ⊢
    have HBb := HB
    obtain ⟨B0, k0, d0, B1, k1, d1, B2, k2, d2, B3, k3, d3, rfl, _⟩ := HBb.open_
    have BW2 : Below w.heap.size w w2 := BW1.trans (hb2.mono BW1.size)
    have zz2 : w1.heap.size ≤ w2.heap.size := hb2.size
    go_wp2_with fail
    refine (S _).mono ?_; rintro e w3 ⟨v, rfl, HC, hb3⟩
    simp only [Option.isSome_none, Option.getD_none] at HC ⊢
    have HCb := HC
    obtain ⟨K0, m0, e0, K1, m1, e1, K2, m2, e2, K3, m3, e3, rfl, _⟩ := HCb.open_
    have BW3 : Below w.heap.size w w3 := (BW2.alloc BW2.size (.cells #[.slice B0 k0 d0, .slice B1 k1 d1, .slice B2 k2 d2, .slice B3 k3 d3] 27)).trans (hb3.mono (BW2.alloc BW2.size (.cells #[.slice B0 k0 d0, .slice B1 k1 d1, .slice B2 k2 d2, .slice B3 k3 d3] 27)).size)
    have zz3 : w2.heap.size + 1 ≤ w3.heap.size := by have := hb3.size; simp at this; omega
    have HB_3 := Cv.below (by exact (HB.alloc (.cells #[.slice B0 k0 d0, .slice B1 k1 d1, .slice B2 k2 d2, .slice B3 k3 d3] 27))) hb3
    have P_3 := Blk4.below (by exact (Blk4.new w2 (.slice B0 k0 d0) (.slice B1 k1 d1) (.slice B2 k2 d2) (.slice B3 k3 d3) 27)) hb3
    obtain ⟨cP_3_0, cP_3_1, cP_3_2, cP_3_3, _⟩ := P_3.cells
    have lP_3 := P_3.lt
    have E1 := implStoreSame_any _ _ _ _ _ _ _ (HB_3.alloc (.cells #[.slice K0 m0 e0, .slice K1 m1 e1, .slice K2 m2 e2, .slice K3 m3 e3] 27)) (HC.alloc (.cells #[.slice K0 m0 e0, .slice K1 m1 e1, .slice K2 m2 e2, .slice K3 m3 e3] 27))
    rw [sameC_self] at E1
    go_wp2_with fail
    refine (E1).mono ?_; rintro e w4 ⟨rfl, hb4⟩
    have BW4 : Below w.heap.size w w4 := (BW3.alloc BW3.size (.cells #[.slice K0 m0 e0, .slice K1 m1 e1, .slice K2 m2 e2, .slice K3 m3 e3] 27)).trans (hb4.mono (BW3.alloc BW3.size (.cells #[.slice K0 m0 e0, .slice K1 m1 e1, .slice K2 m2 e2, .slice K3 m3 e3] 27)).size)
    have zz4 : w3.heap.size + 1 ≤ w4.heap.size := by have := hb4.size; simp at this; omega
    have HB_4 := Cv.below (by exact (HB_3.alloc (.cells #[.slice K0 m0 e0, .slice K1 m1 e1, .slice K2 m2 e2, .slice K3 m3 e3] 27))) hb4
    have P_4 := Blk4.below (by exact (P_3.alloc (.cells #[.slice K0 m0 e0, .slice K1 m1 e1, .slice K2 m2 e2, .slice K3 m3 e3] 27))) hb4
    obtain ⟨cP_4_0, cP_4_1, cP_4_2, cP_4_3, _⟩ := P_4.cells
    have lP_4 := P_4.lt
    have HC_4 := Cv.below (by exact (HC.alloc (.cells #[.slice K0 m0 e0, .slice K1 m1 e1, .slice K2 m2 e2, .slice K3 m3 e3] 27))) hb4
    have Q_4 := Blk4.below (by exact (Blk4.new w3 (.slice K0 m0 e0) (.slice K1 m1 e1) (.slice K2 m2 e2) (.slice K3 m3 e3) 27)) hb4
    obtain ⟨cQ_4_0, cQ_4_1, cQ_4_2, cQ_4_3, _⟩ := Q_4.cells
    have lQ_4 := Q_4.lt
    have E2 := implStoreSame_any _ _ _ _ _ _ _ HB_4 HC_4
    rw [sameC_self] at E2
    go_wp2_with fail
    refine (E2).mono ?_; rintro e w5 ⟨rfl, hb5⟩
    have BW5 : Below w.heap.size w w5 := BW4.trans (hb5.mono BW4.size)
    have zz5 : w4.heap.size ≤ w5.heap.size := hb5.size
    have HB_5 := Cv.below (by exact HB_4) hb5
    have P_5 := Blk4.below (by exact P_4) hb5
    obtain ⟨cP_5_0, cP_5_1, cP_5_2, cP_5_3, _⟩ := P_5.cells
    have lP_5 := P_5.lt
    have HC_5 := Cv.below (by exact HC_4) hb5
    have Q_5 := Blk4.below (by exact Q_4) hb5
    obtain ⟨cQ_5_0, cQ_5_1, cQ_5_2, cQ_5_3, _⟩ := Q_5.cells
    have lQ_5 := Q_5.lt
    go_wp2_with fail
    go_ret
    exact ⟨rfl, BW5⟩
  · rw [ho] at I S
    obtain ⟨nc, nr, rfl, rfl, c1, c8, r1, r3, rfl⟩ := newSO_some ho
    have hst := Lib.hid (fun (i : Nat) (hi : i < nc) => stN_step c8 r1 r3 hi)
    obtain ⟨he1, he2⟩ := stN_end ⟨nc, by omega⟩ ⟨nr, by omega⟩ ⟨c1, r1⟩
    simp only at he1 he2
    have HE1 := Lib.hid he1
    have HE2 := Lib.hid he2
    clear he1 he2 ho
    go_wp2_with fail
    refine (I _).mono ?_; rintro e w2 ⟨v, rfl, HB, hb2⟩
    simp only [Option.isSome_some, Option.getD_some] at HB ⊢
    have HBb := HB
    obtain ⟨B0, k0, d0, B1, k1, d1, B2, k2, d2, B3, k3, d3, rfl, _⟩ := HBb.open_
    have BW2 : Below w.heap.size w w2 := BW1.trans (hb2.mono BW1.size)
    have zz2 : w1.heap.size ≤ w2.heap.size := hb2.size
    go_wp2_with fail
    refine (S _).mono ?_; rintro e w3 ⟨v, rfl, HC, hb3⟩
    simp only [Option.isSome_some, Option.getD_some] at HC ⊢
    have HCb := HC
    obtain ⟨K0, m0, e0, K1, m1, e1, K2, m2, e2, K3, m3, e3, rfl, _⟩ := HCb.open_
    have BW3 : Below w.heap.size w w3 := (BW2.alloc BW2.size (.cells #[.slice B0 k0 d0, .slice B1 k1 d1, .slice B2 k2 d2, .slice B3 k3 d3] 27)).trans (hb3.mono (BW2.alloc BW2.size (.cells #[.slice B0 k0 d0, .slice B1 k1 d1, .slice B2 k2 d2, .slice B3 k3 d3] 27)).size)
    have zz3 : w2.heap.size + 1 ≤ w3.heap.size := by have := hb3.size; simp at this; omega
    have HB_3 := Cv.below (by exact (HB.alloc (.cells #[.slice B0 k0 d0, .slice B1 k1 d1, .slice B2 k2 d2, .slice B3 k3 d3] 27))) hb3
    have P_3 := Blk4.below (by exact (Blk4.new w2 (.slice B0 k0 d0) (.slice B1 k1 d1) (.slice B2 k2 d2) (.slice B3 k3 d3) 27)) hb3
    obtain ⟨cP_3_0, cP_3_1, cP_3_2, cP_3_3, _⟩ := P_3.cells
    have lP_3 := P_3.lt
    have E1 := implStoreSame_any _ _ _ _ _ _ _ (HB_3.alloc (.cells #[.slice K0 m0 e0, .slice K1 m1 e1, .slice K2 m2 e2, .slice K3 m3 e3] 27)) (HC.alloc (.cells #[.slice K0 m0 e0, .slice K1 m1 e1, .slice K2 m2 e2, .slice K3 m3 e3] 27))
    rw [sameC_self] at E1
    go_wp2_with fail
    refine (E1).mono ?_; rintro e w4 ⟨rfl, hb4⟩
    have BW4 : Below w.heap.size w w4 := (BW3.alloc BW3.size (.cells #[.slice K0 m0 e0, .slice K1 m1 e1, .slice K2 m2 e2, .slice K3 m3 e3] 27)).trans (hb4.mono (BW3.alloc BW3.size (.cells #[.slice K0 m0 e0, .slice K1 m1 e1, .slice K2 m2 e2, .slice K3 m3 e3] 27)).size)
    have zz4 : w3.heap.size + 1 ≤ w4.heap.size := by have := hb4.size; simp at this; omega
    have HB_4 := Cv.below (by exact (HB_3.alloc (.cells #[.slice K0 m0 e0, .slice K1 m1 e1, .slice K2 m2 e2, .slice K3 m3 e3] 27))) hb4
    have P_4 := Blk4.below (by exact (P_3.alloc (.cells #[.slice K0 m0 e0, .slice K1 m1 e1, .slice K2 m2 e2, .slice K3 m3 e3] 27))) hb4
    obtain ⟨cP_4_0, cP_4_1, cP_4_2, cP_4_3, _⟩ := P_4.cells
    have lP_4 := P_4.lt
    have HC_4 := Cv.below (by exact (HC.alloc (.cells #[.slice K0 m0 e0, .slice K1 m1 e1, .slice K2 m2 e2, .slice K3 m3 e3] 27))) hb4
    have Q_4 := Blk4.below (by exact (Blk4.new w3 (.slice K0 m0 e0) (.slice K1 m1 e1) (.slice K2 m2 e2) (.slice K3 m3 e3) 27)) hb4
    obtain ⟨cQ_4_0, cQ_4_1, cQ_4_2, cQ_4_3, _⟩ := Q_4.cells
    have lQ_4 := Q_4.lt
    have hP : w.heap.size ≤ w2.heap.size := (BW2).size
    go_wp2_with fail
    go_loopw [9] (fun i wr => ∃ (k : Nat) (D0 : Option Addr) (q0 f0 : Nat) (D1 : Option Addr) (q1 f1 : Nat) (D2 : Option Addr) (q2 f2 : Nat) (D3 : Option Addr) (q3 f3 : Nat), k ≤ nc ∧ i = .int .i64 k ∧ Blk4 wr w2.heap.size (.slice D0 q0 f0) (.slice D1 q1 f1) (.slice D2 q2 f2) (.slice D3 q3 f3) 27 ∧ Cv wr 0 (.agg #[.slice D0 q0 f0, .slice D1 q1 f1, .slice D2 q2 f2, .slice D3 q3 f3]) (stN nc nr k) ∧ Below w.heap.size w wr) (fun i _ => nc - (intOf i).toNat)
    case atStart => exact ⟨0, B0, k0, d0, B1, k1, d1, B2, k2, d2, B3, k3, d3, Nat.zero_le _, rfl, P_4, HB_4.mono (Nat.zero_le _), BW4⟩
    case round =>
      obtain ⟨k, D0, q0, f0, D1, q1, f1, D2, q2, f2, D3, q3, f3, hk, rfl, PR, HR, BR⟩ := hrel
      obtain ⟨p0, p1, p2, p3, _⟩ := PR.cells
      have IA := implAllocCell_any _ _ _ _ HR 0
      by_cases hlt : k < nc
      · have hki : (k : Int) < (nc : Int) := by omega
        obtain ⟨t1, t2, t3⟩ := hst.out k hlt
        rw [t1, t2, t3] at IA
        clear t1 t2 t3
        go_wp2_with fail
        refine IA.mono ?_; rintro e w5 ⟨v, rfl, HN, hb5⟩
        have HNb := HN
        obtain ⟨U0, s0, g0, U1, s1, g1, U2, s2, g2, U3, s3, g3, rfl, _⟩ := HNb.open_
        have P5 := PR.below hb5
        have lP5 := PR.lt
        have B5 := BR.trans (hb5.mono BR.size)
        obtain ⟨p0, p1, p2, p3, _⟩ := P5.cells
        have lP6 := P5.lt
        have PB := (blk4_setAllS P5 (.slice U0 s0 g0) (.slice U1 s1 g1) (.slice U2 s2 g2) (.slice U3 s3 g3)).alloc (.cells #[.slice U0 s0 g0, .slice U1 s1 g1, .slice U2 s2 g2, .slice U3 s3 g3] 27)
        have HB' := (((((HN.set_low (p := ⟨w2.heap.size, 0, none⟩) lP5 (.slice U0 s0 g0)).set_low (p := ⟨w2.heap.size, 1, none⟩) lP5 (.slice U1 s1 g1)).set_low (p := ⟨w2.heap.size, 2, none⟩) lP5 (.slice U2 s2 g2)).set_low (p := ⟨w2.heap.size, 3, none⟩) lP5 (.slice U3 s3 g3)).mono (Nat.zero_le _)).alloc (.cells #[.slice U0 s0 g0, .slice U1 s1 g1, .slice U2 s2 g2, .slice U3 s3 g3] 27)
        have BB := ((((B5.setCell (p := ⟨w2.heap.size, 0, none⟩) hP (.slice U0 s0 g0)).setCell (p := ⟨w2.heap.size, 1, none⟩) hP (.slice U1 s1 g1)).setCell (p := ⟨w2.heap.size, 2, none⟩) hP (.slice U2 s2 g2)).setCell (p := ⟨w2.heap.size, 3, none⟩) hP (.slice U3 s3 g3)).alloc (by have := B5.size; simp; omega) (.cells #[.slice U0 s0 g0, .slice U1 s1 g1, .slice U2 s2 g2, .slice U3 s3 g3] 27)
        go_wp2_with fail
        go_roundw
        case rel => exact ⟨k + 1, U0, s0, g0, U1, s1, g1, U2, s2, g2, U3, s3, g3, by omega, by go_num, PB, HB', BB⟩
        case measure => simp [intOf]; omega
      · obtain rfl : nc = k := by omega
        rw [HE1.out, allocC_not HE1.out, allocX_not HE1.out] at IA
        have LK := fun W lo v hW => implLeaked_any W lo v (stN nc nr nc) hW
        generalize hgl : leakL (stN nc nr nc) = gs at LK HE2
        generalize hng : gs.length = ng at HE2
        have HNG := Lib.hid hng
        have hw1 : IntKind.i64.wrap ((nc : Int) - 1) = (nc : Int) - 1 := IntWalk.i64_in _ (by omega)
        have hq : ((ng : Int) == (nc : Int) - 1) = true := by simp; have := HE2.out; omega
        clear hng hgl
        go_wp2_with fail
        refine IA.mono ?_; rintro e w5 ⟨v, rfl, HN, hb5⟩
        obtain ⟨U0, s0, g0, U1, s1, g1, U2, s2, g2, U3, s3, g3, rfl, _⟩ := HN.open_
        have P5 := PR.below hb5
        have B5 := BR.trans (hb5.mono BR.size)
        have H5 := HR.below hb5
        obtain ⟨p0, p1, p2, p3, _⟩ := P5.cells
        have lP5 := P5.lt
        have H6 := H5.alloc (.cells #[.slice U0 s0 g0, .slice U1 s1 g1, .slice U2 s2 g2, .slice U3 s3 g3] 27)
        have B6 := B5.alloc B5.size (.cells #[.slice U0 s0 g0, .slice U1 s1 g1, .slice U2 s2 g2, .slice U3 s3 g3] 27)
        go_wp2_with fail
        refine (LK _ _ _ H6).mono ?_; rintro e w6 ⟨AG, cG, rfl, _, hb6⟩
        rw [HNG.out]
        have B7 := B6.trans (hb6.mono B6.size)
        go_wp2_with fail
        go_ret
        exact ⟨by simp, B7⟩
end Go.Proofs.Ytmpcgegbfbkmnaa
