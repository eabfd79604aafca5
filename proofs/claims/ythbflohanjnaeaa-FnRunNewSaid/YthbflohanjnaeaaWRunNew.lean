/- The law FnRunNew, walked. -/
import Derived.Test.YthbflohanjnaeaaDRuns
import Derived.Test.YthbflohanjnaeaaIRunA
import Derived.Test.YthbflohanjnaeaaSRunA
import Derived.Test.YthbflohanjnaeaaIStos
import Derived.Test.YthbflohanjnaeaaLaws0
import Derived.Test.YthbflohanjnaeaaRuns56
import Derived.Test.YthbflohanjnaeaaLawSs
import Derived.Test.YthbflohanjnaeaaCount
import Derived.Test.YthbflohanjnaeaaSrcL
import Derived.Test.YthbflohanjnaeaaPut
namespace Go.Proofs.Ythbflohanjnaeaa
open Go.RowKit

theorem cntN_consN (x : Int) (l : List Int) : cntN (x :: l) = (if x = -1 then 0 else 1) + cntN l := by
  simp only [cntN, List.filter_cons]
  by_cases hx : x = -1 <;> simp [hx] <;> omega
theorem cntN_off {x : Int} (hx : x ≠ -1) : ∀ (l : List Int) (k : Nat), l[k]? = some x → cntN (l.set k (-1)) = cntN l - 1
  | [], k, h => by simp at h
  | y :: l, 0, h => by
    simp only [List.getElem?_cons_zero, Option.some.injEq] at h
    subst h
    rw [List.set_cons_zero, cntN_consN, cntN_consN, if_pos rfl, if_neg hx]; omega
  | y :: l, k + 1, h => by
    rw [List.getElem?_cons_succ] at h
    rw [List.set_cons_succ, cntN_consN, cntN_consN, cntN_off hx l k h]; omega
/-- A new cell. -/
theorem run_new {C : Cp} {a q : Int} (h : runB C ⟨1, a, q⟩ = true) (he : runE C ⟨1, a, q⟩ = 0) : ∃ ja kc : Nat, a = (ja : Int) ∧ ja < C.h.t.length ∧ kc < C.h.l.length ∧ kc < C.h.r.length ∧ isFreeB C (kc : Int) = true ∧ (runC C ⟨1, a, q⟩).h.t[ja]? = some (kc : Int) ∧
    (runC C ⟨1, a, q⟩).h.l[kc]? = some (-1) ∧ (runC C ⟨1, a, q⟩).h.r[kc]? = some (-1) ∧ (runC C ⟨1, a, q⟩).h.l.length = C.h.l.length ∧ (runC C ⟨1, a, q⟩).h.r.length = C.h.r.length ∧ (runC C ⟨1, a, q⟩).h.t.length = C.h.t.length ∧ srcs (runC C ⟨1, a, q⟩).h (kc : Int) = [] ∧
    ∃ h2, putT (runC C ⟨1, a, q⟩).h (ja : Int) (-1) = some h2 ∧ cntH h2 = cntH (runC C ⟨1, a, q⟩).h - 1 ∧ 1 ≤ cntH (runC C ⟨1, a, q⟩).h ∧ cntH (runC C ⟨1, a, q⟩).h ≤ 1000 := by
  have ha : allocB C a = true := by
    unfold runE at he
    rw [if_pos h] at he
    split at he
    · split at he
      · rename_i h9; exact h9
      · omega
    · rename_i h9; exact absurd rfl h9
  have hvD := (stoB_parts (run_valid h)).1
  obtain ⟨hC, ⟨a0, a1⟩, _⟩ := allocB_iff.1 ha
  obtain ⟨ja, rfl⟩ := Int.eq_ofNat_of_zero_le a0
  obtain ⟨x, tl, ec, _, eA, _, hj, _⟩ := alloc_parts ha
  obtain ⟨hv, _, hfr, _⟩ := stoB_parts hC
  obtain ⟨⟨hrl, _⟩, _⟩ := hvB_parts hv
  have hx : x ∈ C.c := by rw [ec]; exact List.mem_cons_self ..
  obtain ⟨kc, rfl, hk, f1, f2, n1, n2, n3⟩ := free_parts (hfr x hx)
  have e : runC C ⟨1, (ja : Int), q⟩ = ⟨⟨C.h.l, C.h.r, C.h.t.set ja (kc : Int)⟩, tl⟩ := by unfold runC; rw [if_pos h, ← eA]; simp [ha]
  have ht : (C.h.t.set ja (kc : Int))[ja]? = some (kc : Int) := by rw [List.getElem?_set, if_pos rfl, if_pos hj]
  rw [e] at hvD ⊢
  have h8 := hvB_len hvD
  refine ⟨ja, kc, rfl, hj, hk, by omega, by unfold isFreeB; rw [hC]; simpa using hx, ht, f1, f2, rfl, rfl, by simp, ?_, ?_⟩
  · unfold srcs
    split
    · unfold srcN
      rw [List.map_eq_nil_iff, List.filter_eq_nil_iff]
      intro i hi hp
      rw [List.mem_range] at hi
      unfold pntB at hp
      have hi : i < C.h.l.length := hi
      have hl : (C.h.l).getD i 0 = C.h.l[i] := by simp [List.getD, List.getElem?_eq_getElem hi]
      have hr : (C.h.r).getD i 0 = C.h.r[i]'(by omega) := by simp [List.getD, List.getElem?_eq_getElem (show i < C.h.r.length by omega)]
      simp only [hl, hr] at hp
      rw [Bool.or_eq_true, beq_iff_eq, beq_iff_eq] at hp
      rcases hp with hp | hp
      · exact n1 (hp ▸ List.getElem_mem hi)
      · exact n2 (hp ▸ List.getElem_mem _)
    · rfl
  · have hp : putT ⟨C.h.l, C.h.r, C.h.t.set ja (kc : Int)⟩ (ja : Int) (-1) = some ⟨C.h.l, C.h.r, (C.h.t.set ja (kc : Int)).set ja (-1)⟩ := by
      unfold putT
      rw [hvD]
      have : plB (ja : Int) (C.h.t.set ja (kc : Int)).length = true := by simp [plB]; omega
      simp only [this, Bool.true_and, Int.toNat_natCast]
      rw [if_pos (by simp [ptB]; omega)]
    have hv2 := putT_valid hp
    refine ⟨_, hp, ?_, ?_, ?_⟩
    · unfold cntH
      rw [if_pos hvD, if_pos hv2]
      have := cntN_off (x := (kc : Int)) (by omega) _ ja ht
      simp only at this ⊢
      omega
    · unfold cntH
      rw [if_pos hvD]
      have := cntN_off (x := (kc : Int)) (by omega) _ ja ht
      have b0 := cntN_bd C.h.l
      have b1 := cntN_bd C.h.r
      have b2 := cntN_bd ((C.h.t.set ja (kc : Int)).set ja (-1))
      simp only at this ⊢
      omega
    · unfold cntH
      rw [if_pos hvD]
      have b0 := cntN_bd C.h.l
      have b1 := cntN_bd C.h.r
      have b2 := cntN_bd (C.h.t.set ja (kc : Int))
      simp only at h8 ⊢
      omega

set_option maxRecDepth 100000 in
set_option maxHeartbeats 4000000 in
theorem lawRunNew_walk (w : World) (A : Option Addr) (n c : Nat) (h : Inp w A n c) :
    Calls Try.prog 6 #[.slice A n c] w (LawTrue w) := by
  by_cases hbig : 1048576 < n
  · go_enter Try.func6, Try.ntmps6
    go_wp2_with fail
    go_ret
    exact ⟨rfl, Below.refl _ _⟩
  go_enter Try.func6, Try.ntmps6
  go_wp2_with fail
  refine (drawRunOp_any _ _ _ _ h).mono ?_; rintro e w1 ⟨v, C, ⟨k, a, q⟩, rfl, HA, hb1⟩
  have BW1 : Below w.heap.size w w1 := (Below.refl w.heap.size w).trans (hb1.mono (Below.refl w.heap.size w).size)
  have zz1 : w.heap.size ≤ w1.heap.size := hb1.size
  have HAo := HA
  obtain ⟨A0, n0, c0, A1, n1, c1, A2, n2, c2, A3, n3, c3, rfl, hh, ⟨r0, r1, r2, r3⟩, ⟨l0, l1, l2, l3⟩, ⟨mm0, mm1, mm2, mm3⟩, _⟩ := HAo.open_
  have I := fun W lo v hW => implRunOp_any W lo v C hW ⟨k, a, q⟩
  have S := fun W lo v hW => specRunOp_any W lo v C hW ⟨k, a, q⟩
  rcases ho : runB C ⟨k, a, q⟩
  · rw [ho] at I S
    generalize runC C ⟨k, a, q⟩ = D at I S
    generalize runE C ⟨k, a, q⟩ = x at I S
    have hne0 : (x != x) = false := by simp
    have heq0 : (x == x) = true := by simp
    clear ho
    go_wp2_with fail
    refine (I _ _ _ ((HA.alloc (.cells #[.slice A0 n0 c0, .slice A1 n1 c1, .slice A2 n2 c2, .slice A3 n3 c3] 27)).alloc (.cells #[.int .i64 k, .int .i64 a, .int .i64 q] 29))).mono ?_; rintro e w2 ⟨v, rfl, HB, hb2⟩
    have HBb := HB
    obtain ⟨B0, k0, d0, B1, k1, d1, B2, k2, d2, B3, k3, d3, rfl, _, ⟨_, _, _, br3⟩, ⟨_, _, _, bl3⟩, _⟩ := HBb.open_
    have BW2 : Below w.heap.size w w2 := ((BW1.alloc BW1.size (.cells #[.slice A0 n0 c0, .slice A1 n1 c1, .slice A2 n2 c2, .slice A3 n3 c3] 27)).alloc (BW1.alloc BW1.size (.cells #[.slice A0 n0 c0, .slice A1 n1 c1, .slice A2 n2 c2, .slice A3 n3 c3] 27)).size (.cells #[.int .i64 k, .int .i64 a, .int .i64 q] 29)).trans (hb2.mono ((BW1.alloc BW1.size (.cells #[.slice A0 n0 c0, .slice A1 n1 c1, .slice A2 n2 c2, .slice A3 n3 c3] 27)).alloc (BW1.alloc BW1.size (.cells #[.slice A0 n0 c0, .slice A1 n1 c1, .slice A2 n2 c2, .slice A3 n3 c3] 27)).size (.cells #[.int .i64 k, .int .i64 a, .int .i64 q] 29)).size)
    have zz2 : w1.heap.size + 2 ≤ w2.heap.size := by have := hb2.size; simp at this; omega
    have HA_2 := Cv.below (by exact ((HA.alloc (.cells #[.slice A0 n0 c0, .slice A1 n1 c1, .slice A2 n2 c2, .slice A3 n3 c3] 27)).alloc (.cells #[.int .i64 k, .int .i64 a, .int .i64 q] 29))) hb2
    have X_2 := Blk4.below (by exact ((Blk4.new w1 (.slice A0 n0 c0) (.slice A1 n1 c1) (.slice A2 n2 c2) (.slice A3 n3 c3) 27).alloc (.cells #[.int .i64 k, .int .i64 a, .int .i64 q] 29))) hb2
    obtain ⟨cX_2_0, cX_2_1, cX_2_2, cX_2_3, _⟩ := X_2.cells
    have lX_2 := X_2.lt
    have Y_2 := Blk3.below (by exact (Blk3.new_at (w := w1.alloc (.cells #[.slice A0 n0 c0, .slice A1 n1 c1, .slice A2 n2 c2, .slice A3 n3 c3] 27)) (b := w1.heap.size + 1) (by simp) (.int .i64 k) (.int .i64 a) (.int .i64 q) 29)) hb2
    obtain ⟨cY_2_0, cY_2_1, cY_2_2, _⟩ := Y_2.cells
    have lY_2 := Y_2.lt
    go_wp2_with fail
    refine (S _ _ _ (HA_2.alloc (.cells #[.slice B0 k0 d0, .slice B1 k1 d1, .slice B2 k2 d2, .slice B3 k3 d3] 27))).mono ?_; rintro e w3 ⟨v, rfl, HC, hb3⟩
    have HCb := HC
    obtain ⟨K0, m0, e0, K1, m1, e1, K2, m2, e2, K3, m3, e3, rfl, _⟩ := HCb.open_
    have BW3 : Below w.heap.size w w3 := (BW2.alloc BW2.size (.cells #[.slice B0 k0 d0, .slice B1 k1 d1, .slice B2 k2 d2, .slice B3 k3 d3] 27)).trans (hb3.mono (BW2.alloc BW2.size (.cells #[.slice B0 k0 d0, .slice B1 k1 d1, .slice B2 k2 d2, .slice B3 k3 d3] 27)).size)
    have zz3 : w2.heap.size + 1 ≤ w3.heap.size := by have := hb3.size; simp at this; omega
    have HA_3 := Cv.below (by exact (HA_2.alloc (.cells #[.slice B0 k0 d0, .slice B1 k1 d1, .slice B2 k2 d2, .slice B3 k3 d3] 27))) hb3
    have X_3 := Blk4.below (by exact (X_2.alloc (.cells #[.slice B0 k0 d0, .slice B1 k1 d1, .slice B2 k2 d2, .slice B3 k3 d3] 27))) hb3
    obtain ⟨cX_3_0, cX_3_1, cX_3_2, cX_3_3, _⟩ := X_3.cells
    have lX_3 := X_3.lt
    have Y_3 := Blk3.below (by exact (Y_2.alloc (.cells #[.slice B0 k0 d0, .slice B1 k1 d1, .slice B2 k2 d2, .slice B3 k3 d3] 27))) hb3
    obtain ⟨cY_3_0, cY_3_1, cY_3_2, _⟩ := Y_3.cells
    have lY_3 := Y_3.lt
    have HB_3 := Cv.below (by exact (HB.alloc (.cells #[.slice B0 k0 d0, .slice B1 k1 d1, .slice B2 k2 d2, .slice B3 k3 d3] 27))) hb3
    have P_3 := Blk4.below (by exact (Blk4.new w2 (.slice B0 k0 d0) (.slice B1 k1 d1) (.slice B2 k2 d2) (.slice B3 k3 d3) 27)) hb3
    obtain ⟨cP_3_0, cP_3_1, cP_3_2, cP_3_3, _⟩ := P_3.cells
    have lP_3 := P_3.lt
    have E1 := implStoreSame_any _ _ _ _ _ _ _ (HB_3.alloc (.cells #[.slice K0 m0 e0, .slice K1 m1 e1, .slice K2 m2 e2, .slice K3 m3 e3] 27)) (HC.alloc (.cells #[.slice K0 m0 e0, .slice K1 m1 e1, .slice K2 m2 e2, .slice K3 m3 e3] 27))
    rw [sameC_self] at E1
    go_wp2_with fail
    refine (E1).mono ?_; rintro e w4 ⟨rfl, hb4⟩
    have BW4 : Below w.heap.size w w4 := (BW3.alloc BW3.size (.cells #[.slice K0 m0 e0, .slice K1 m1 e1, .slice K2 m2 e2, .slice K3 m3 e3] 27)).trans (hb4.mono (BW3.alloc BW3.size (.cells #[.slice K0 m0 e0, .slice K1 m1 e1, .slice K2 m2 e2, .slice K3 m3 e3] 27)).size)
    have zz4 : w3.heap.size + 1 ≤ w4.heap.size := by have := hb4.size; simp at this; omega
    have HA_4 := Cv.below (by exact (HA_3.alloc (.cells #[.slice K0 m0 e0, .slice K1 m1 e1, .slice K2 m2 e2, .slice K3 m3 e3] 27))) hb4
    have X_4 := Blk4.below (by exact (X_3.alloc (.cells #[.slice K0 m0 e0, .slice K1 m1 e1, .slice K2 m2 e2, .slice K3 m3 e3] 27))) hb4
    obtain ⟨cX_4_0, cX_4_1, cX_4_2, cX_4_3, _⟩ := X_4.cells
    have lX_4 := X_4.lt
    have Y_4 := Blk3.below (by exact (Y_3.alloc (.cells #[.slice K0 m0 e0, .slice K1 m1 e1, .slice K2 m2 e2, .slice K3 m3 e3] 27))) hb4
    obtain ⟨cY_4_0, cY_4_1, cY_4_2, _⟩ := Y_4.cells
    have lY_4 := Y_4.lt
    have HB_4 := Cv.below (by exact (HB_3.alloc (.cells #[.slice K0 m0 e0, .slice K1 m1 e1, .slice K2 m2 e2, .slice K3 m3 e3] 27))) hb4
    have P_4 := Blk4.below (by exact (P_3.alloc (.cells #[.slice K0 m0 e0, .slice K1 m1 e1, .slice K2 m2 e2, .slice K3 m3 e3] 27))) hb4
    obtain ⟨cP_4_0, cP_4_1, cP_4_2, cP_4_3, _⟩ := P_4.cells
    have lP_4 := P_4.lt
    have HC_4 := Cv.below (by exact (HC.alloc (.cells #[.slice K0 m0 e0, .slice K1 m1 e1, .slice K2 m2 e2, .slice K3 m3 e3] 27))) hb4
    have Q_4 := Blk4.below (by exact (Blk4.new w3 (.slice K0 m0 e0) (.slice K1 m1 e1) (.slice K2 m2 e2) (.slice K3 m3 e3) 27)) hb4
    obtain ⟨cQ_4_0, cQ_4_1, cQ_4_2, cQ_4_3, _⟩ := Q_4.cells
    have lQ_4 := Q_4.lt
    have E2 := implStoreSame_any _ _ _ _ _ _ _ HB_4 HC_4
    rw [sameC_self] at E2
    go_wp2_with fail
    refine (E2).mono ?_; rintro e w5 ⟨rfl, hb5⟩
    have BW5 : Below w.heap.size w w5 := BW4.trans (hb5.mono BW4.size)
    have zz5 : w4.heap.size ≤ w5.heap.size := hb5.size
    have HA_5 := Cv.below (by exact HA_4) hb5
    have X_5 := Blk4.below (by exact X_4) hb5
    obtain ⟨cX_5_0, cX_5_1, cX_5_2, cX_5_3, _⟩ := X_5.cells
    have lX_5 := X_5.lt
    have Y_5 := Blk3.below (by exact Y_4) hb5
    obtain ⟨cY_5_0, cY_5_1, cY_5_2, _⟩ := Y_5.cells
    have lY_5 := Y_5.lt
    have HB_5 := Cv.below (by exact HB_4) hb5
    have P_5 := Blk4.below (by exact P_4) hb5
    obtain ⟨cP_5_0, cP_5_1, cP_5_2, cP_5_3, _⟩ := P_5.cells
    have lP_5 := P_5.lt
    have HC_5 := Cv.below (by exact HC_4) hb5
    have Q_5 := Blk4.below (by exact Q_4) hb5
    obtain ⟨cQ_5_0, cQ_5_1, cQ_5_2, cQ_5_3, _⟩ := Q_5.cells
    have lQ_5 := Q_5.lt
    go_wp2_with fail
    go_ret
    exact ⟨rfl, BW5⟩
  · rw [ho] at I S
    by_cases hke : k = 1 ∧ runE C ⟨k, a, q⟩ = 0
    · obtain ⟨rfl, he⟩ := hke
      obtain ⟨ja, kc, rfl, hja, hkl, hkr, hfree, hat, hl9, hr9, hcl, hcr, hct, hsr, h2, hput, hcnt, hc1, hc2⟩ := run_new ho he
      rw [he] at I S
      have e0 := l0.out
      have e1 := l1.out
      have le2 := l2.out
      have CN := fun W lo v hW => implCount_any W lo v (runC C ⟨1, (ja : Int), q⟩).h hW
      have PT := fun W lo v hW => implPutRoot_any W lo v (runC C ⟨1, (ja : Int), q⟩).h hW (ja : Int) (-1)
      have SR := fun W lo v hW => implSources_any W lo v (runC C ⟨1, (ja : Int), q⟩).h hW (kc : Int)
      have C2 := fun W lo v hW => implCount_any W lo v h2 hW
      have FR := fun W lo v hW => implIsFree_any W lo v C hW (kc : Int)
      rw [hput] at PT
      rw [hsr] at SR
      rw [hfree] at FR
      rw [hcnt] at C2
      generalize cntH (runC C ⟨1, (ja : Int), q⟩).h = N at CN C2 hc1 hc2
      generalize runC C ⟨1, (ja : Int), q⟩ = D at I S CN PT SR hat hl9 hr9 hcl hcr hct
      have HAT := Lib.hid hat
      have HL := Lib.hid hl9
      have HR := Lib.hid hr9
      have hw : IntKind.i64.wrap (N - 1) = N - 1 := IntWalk.i64_in _ (by omega)
      have hzz : (N - 1 == N - 1) = true := by simp
      clear ho he hat hl9 hr9 hput hsr hfree hcnt
      go_wp2_with fail
      refine (I _ _ _ ((HA.alloc (.cells #[.slice A0 n0 c0, .slice A1 n1 c1, .slice A2 n2 c2, .slice A3 n3 c3] 27)).alloc (.cells #[.int .i64 1, .int .i64 (ja : Int), .int .i64 q] 29))).mono ?_; rintro e w2 ⟨v, rfl, HB, hb2⟩
      have HBb := HB
      obtain ⟨B0, k0, d0, B1, k1, d1, B2, k2, d2, B3, k3, d3, rfl, _, ⟨_, _, _, br3⟩, ⟨_, _, _, bl3⟩, _⟩ := HBb.open_
      have BW2 : Below w.heap.size w w2 := ((BW1.alloc BW1.size (.cells #[.slice A0 n0 c0, .slice A1 n1 c1, .slice A2 n2 c2, .slice A3 n3 c3] 27)).alloc (BW1.alloc BW1.size (.cells #[.slice A0 n0 c0, .slice A1 n1 c1, .slice A2 n2 c2, .slice A3 n3 c3] 27)).size (.cells #[.int .i64 1, .int .i64 (ja : Int), .int .i64 q] 29)).trans (hb2.mono ((BW1.alloc BW1.size (.cells #[.slice A0 n0 c0, .slice A1 n1 c1, .slice A2 n2 c2, .slice A3 n3 c3] 27)).alloc (BW1.alloc BW1.size (.cells #[.slice A0 n0 c0, .slice A1 n1 c1, .slice A2 n2 c2, .slice A3 n3 c3] 27)).size (.cells #[.int .i64 1, .int .i64 (ja : Int), .int .i64 q] 29)).size)
      have zz2 : w1.heap.size + 2 ≤ w2.heap.size := by have := hb2.size; simp at this; omega
      have HA_2 := Cv.below (by exact ((HA.alloc (.cells #[.slice A0 n0 c0, .slice A1 n1 c1, .slice A2 n2 c2, .slice A3 n3 c3] 27)).alloc (.cells #[.int .i64 1, .int .i64 (ja : Int), .int .i64 q] 29))) hb2
      have X_2 := Blk4.below (by exact ((Blk4.new w1 (.slice A0 n0 c0) (.slice A1 n1 c1) (.slice A2 n2 c2) (.slice A3 n3 c3) 27).alloc (.cells #[.int .i64 1, .int .i64 (ja : Int), .int .i64 q] 29))) hb2
      obtain ⟨cX_2_0, cX_2_1, cX_2_2, cX_2_3, _⟩ := X_2.cells
      have lX_2 := X_2.lt
      have Y_2 := Blk3.below (by exact (Blk3.new_at (w := w1.alloc (.cells #[.slice A0 n0 c0, .slice A1 n1 c1, .slice A2 n2 c2, .slice A3 n3 c3] 27)) (b := w1.heap.size + 1) (by simp) (.int .i64 1) (.int .i64 (ja : Int)) (.int .i64 q) 29)) hb2
      obtain ⟨cY_2_0, cY_2_1, cY_2_2, _⟩ := Y_2.cells
      have lY_2 := Y_2.lt
      go_wp2_with fail
      refine (S _ _ _ (HA_2.alloc (.cells #[.slice B0 k0 d0, .slice B1 k1 d1, .slice B2 k2 d2, .slice B3 k3 d3] 27))).mono ?_; rintro e w3 ⟨v, rfl, HC, hb3⟩
      have HCb := HC
      obtain ⟨K0, m0, e0, K1, m1, e1, K2, m2, e2, K3, m3, e3, rfl, _⟩ := HCb.open_
      have BW3 : Below w.heap.size w w3 := (BW2.alloc BW2.size (.cells #[.slice B0 k0 d0, .slice B1 k1 d1, .slice B2 k2 d2, .slice B3 k3 d3] 27)).trans (hb3.mono (BW2.alloc BW2.size (.cells #[.slice B0 k0 d0, .slice B1 k1 d1, .slice B2 k2 d2, .slice B3 k3 d3] 27)).size)
      have zz3 : w2.heap.size + 1 ≤ w3.heap.size := by have := hb3.size; simp at this; omega
      have HA_3 := Cv.below (by exact (HA_2.alloc (.cells #[.slice B0 k0 d0, .slice B1 k1 d1, .slice B2 k2 d2, .slice B3 k3 d3] 27))) hb3
      have X_3 := Blk4.below (by exact (X_2.alloc (.cells #[.slice B0 k0 d0, .slice B1 k1 d1, .slice B2 k2 d2, .slice B3 k3 d3] 27))) hb3
      obtain ⟨cX_3_0, cX_3_1, cX_3_2, cX_3_3, _⟩ := X_3.cells
      have lX_3 := X_3.lt
      have Y_3 := Blk3.below (by exact (Y_2.alloc (.cells #[.slice B0 k0 d0, .slice B1 k1 d1, .slice B2 k2 d2, .slice B3 k3 d3] 27))) hb3
      obtain ⟨cY_3_0, cY_3_1, cY_3_2, _⟩ := Y_3.cells
      have lY_3 := Y_3.lt
      have HB_3 := Cv.below (by exact (HB.alloc (.cells #[.slice B0 k0 d0, .slice B1 k1 d1, .slice B2 k2 d2, .slice B3 k3 d3] 27))) hb3
      have P_3 := Blk4.below (by exact (Blk4.new w2 (.slice B0 k0 d0) (.slice B1 k1 d1) (.slice B2 k2 d2) (.slice B3 k3 d3) 27)) hb3
      obtain ⟨cP_3_0, cP_3_1, cP_3_2, cP_3_3, _⟩ := P_3.cells
      have lP_3 := P_3.lt
      have E1 := implStoreSame_any _ _ _ _ _ _ _ (HB_3.alloc (.cells #[.slice K0 m0 e0, .slice K1 m1 e1, .slice K2 m2 e2, .slice K3 m3 e3] 27)) (HC.alloc (.cells #[.slice K0 m0 e0, .slice K1 m1 e1, .slice K2 m2 e2, .slice K3 m3 e3] 27))
      rw [sameC_self] at E1
      go_wp2_with fail
      refine (E1).mono ?_; rintro e w4 ⟨rfl, hb4⟩
      have BW4 : Below w.heap.size w w4 := (BW3.alloc BW3.size (.cells #[.slice K0 m0 e0, .slice K1 m1 e1, .slice K2 m2 e2, .slice K3 m3 e3] 27)).trans (hb4.mono (BW3.alloc BW3.size (.cells #[.slice K0 m0 e0, .slice K1 m1 e1, .slice K2 m2 e2, .slice K3 m3 e3] 27)).size)
      have zz4 : w3.heap.size + 1 ≤ w4.heap.size := by have := hb4.size; simp at this; omega
      have HA_4 := Cv.below (by exact (HA_3.alloc (.cells #[.slice K0 m0 e0, .slice K1 m1 e1, .slice K2 m2 e2, .slice K3 m3 e3] 27))) hb4
      have X_4 := Blk4.below (by exact (X_3.alloc (.cells #[.slice K0 m0 e0, .slice K1 m1 e1, .slice K2 m2 e2, .slice K3 m3 e3] 27))) hb4
      obtain ⟨cX_4_0, cX_4_1, cX_4_2, cX_4_3, _⟩ := X_4.cells
      have lX_4 := X_4.lt
      have Y_4 := Blk3.below (by exact (Y_3.alloc (.cells #[.slice K0 m0 e0, .slice K1 m1 e1, .slice K2 m2 e2, .slice K3 m3 e3] 27))) hb4
      obtain ⟨cY_4_0, cY_4_1, cY_4_2, _⟩ := Y_4.cells
      have lY_4 := Y_4.lt
      have HB_4 := Cv.below (by exact (HB_3.alloc (.cells #[.slice K0 m0 e0, .slice K1 m1 e1, .slice K2 m2 e2, .slice K3 m3 e3] 27))) hb4
      have P_4 := Blk4.below (by exact (P_3.alloc (.cells #[.slice K0 m0 e0, .slice K1 m1 e1, .slice K2 m2 e2, .slice K3 m3 e3] 27))) hb4
      obtain ⟨cP_4_0, cP_4_1, cP_4_2, cP_4_3, _⟩ := P_4.cells
      have lP_4 := P_4.lt
      have HC_4 := Cv.below (by exact (HC.alloc (.cells #[.slice K0 m0 e0, .slice K1 m1 e1, .slice K2 m2 e2, .slice K3 m3 e3] 27))) hb4
      have Q_4 := Blk4.below (by exact (Blk4.new w3 (.slice K0 m0 e0) (.slice K1 m1 e1) (.slice K2 m2 e2) (.slice K3 m3 e3) 27)) hb4
      obtain ⟨cQ_4_0, cQ_4_1, cQ_4_2, cQ_4_3, _⟩ := Q_4.cells
      have lQ_4 := Q_4.lt
      have qt := (HB_4).rowsS.2.2.1
      obtain ⟨gt, zt, et, _, hgt, htz, ct, _⟩ := qt.get (k := ja) (by first | omega | (have := lenS qt; omega))
      subst et
      have lt := lenS qt
      obtain rfl : zt = (kc : Int) := by have h9 := htz.out; rw [HAT.out] at h9; simpa using h9.symm
      have hji : (ja : Int) < (k2 : Int) := by omega
      clear htz qt
      go_wp2_with fail
      refine (CN _ _ _ (Cv.hv5 HB_4)).mono ?_; rintro e w5 ⟨rfl, hb5⟩
      have BW5 : Below w.heap.size w w5 := BW4.trans (hb5.mono BW4.size)
      have zz5 : w4.heap.size ≤ w5.heap.size := hb5.size
      have HA_5 := Cv.below (by exact HA_4) hb5
      have X_5 := Blk4.below (by exact X_4) hb5
      obtain ⟨cX_5_0, cX_5_1, cX_5_2, cX_5_3, _⟩ := X_5.cells
      have lX_5 := X_5.lt
      have Y_5 := Blk3.below (by exact Y_4) hb5
      obtain ⟨cY_5_0, cY_5_1, cY_5_2, _⟩ := Y_5.cells
      have lY_5 := Y_5.lt
      have HB_5 := Cv.below (by exact HB_4) hb5
      have P_5 := Blk4.below (by exact P_4) hb5
      obtain ⟨cP_5_0, cP_5_1, cP_5_2, cP_5_3, _⟩ := P_5.cells
      have lP_5 := P_5.lt
      have HC_5 := Cv.below (by exact HC_4) hb5
      have Q_5 := Blk4.below (by exact Q_4) hb5
      obtain ⟨cQ_5_0, cQ_5_1, cQ_5_2, cQ_5_3, _⟩ := Q_5.cells
      have lQ_5 := Q_5.lt
      go_wp2_with fail
      refine (PT _ _ _ (Cv.hv5 HB_5)).mono ?_; rintro e w6 ⟨v, rfl, HY, hb6⟩
      have BW6 : Below w.heap.size w w6 := BW5.trans (hb6.mono BW5.size)
      have zz6 : w5.heap.size ≤ w6.heap.size := hb6.size
      have HA_6 := Cv.below (by exact HA_5) hb6
      have X_6 := Blk4.below (by exact X_5) hb6
      obtain ⟨cX_6_0, cX_6_1, cX_6_2, cX_6_3, _⟩ := X_6.cells
      have lX_6 := X_6.lt
      have Y_6 := Blk3.below (by exact Y_5) hb6
      obtain ⟨cY_6_0, cY_6_1, cY_6_2, _⟩ := Y_6.cells
      have lY_6 := Y_6.lt
      have HB_6 := Cv.below (by exact HB_5) hb6
      have P_6 := Blk4.below (by exact P_5) hb6
      obtain ⟨cP_6_0, cP_6_1, cP_6_2, cP_6_3, _⟩ := P_6.cells
      have lP_6 := P_6.lt
      have HC_6 := Cv.below (by exact HC_5) hb6
      have Q_6 := Blk4.below (by exact Q_5) hb6
      obtain ⟨cQ_6_0, cQ_6_1, cQ_6_2, cQ_6_3, _⟩ := Q_6.cells
      have lQ_6 := Q_6.lt
      simp only [Option.isSome_some, Option.getD_some] at HY ⊢
      have HYo := HY
      obtain ⟨U0, s0, f0, U1, s1, f1, U2, s2, f2, rfl, _⟩ := HYo.open_
      go_wp2_with fail
      refine (FR _ _ _ (HA_6.alloc (.cells #[.slice U0 s0 f0, .slice U1 s1 f1, .slice U2 s2 f2] 25))).mono ?_; rintro e w7 ⟨rfl, hb7⟩
      have BW7 : Below w.heap.size w w7 := (BW6.alloc BW6.size (.cells #[.slice U0 s0 f0, .slice U1 s1 f1, .slice U2 s2 f2] 25)).trans (hb7.mono (BW6.alloc BW6.size (.cells #[.slice U0 s0 f0, .slice U1 s1 f1, .slice U2 s2 f2] 25)).size)
      have zz7 : w6.heap.size + 1 ≤ w7.heap.size := by have := hb7.size; simp at this; omega
      have HA_7 := Cv.below (by exact (HA_6.alloc (.cells #[.slice U0 s0 f0, .slice U1 s1 f1, .slice U2 s2 f2] 25))) hb7
      have X_7 := Blk4.below (by exact (X_6.alloc (.cells #[.slice U0 s0 f0, .slice U1 s1 f1, .slice U2 s2 f2] 25))) hb7
      obtain ⟨cX_7_0, cX_7_1, cX_7_2, cX_7_3, _⟩ := X_7.cells
      have lX_7 := X_7.lt
      have Y_7 := Blk3.below (by exact (Y_6.alloc (.cells #[.slice U0 s0 f0, .slice U1 s1 f1, .slice U2 s2 f2] 25))) hb7
      obtain ⟨cY_7_0, cY_7_1, cY_7_2, _⟩ := Y_7.cells
      have lY_7 := Y_7.lt
      have HB_7 := Cv.below (by exact (HB_6.alloc (.cells #[.slice U0 s0 f0, .slice U1 s1 f1, .slice U2 s2 f2] 25))) hb7
      have P_7 := Blk4.below (by exact (P_6.alloc (.cells #[.slice U0 s0 f0, .slice U1 s1 f1, .slice U2 s2 f2] 25))) hb7
      obtain ⟨cP_7_0, cP_7_1, cP_7_2, cP_7_3, _⟩ := P_7.cells
      have lP_7 := P_7.lt
      have HC_7 := Cv.below (by exact (HC_6.alloc (.cells #[.slice U0 s0 f0, .slice U1 s1 f1, .slice U2 s2 f2] 25))) hb7
      have Q_7 := Blk4.below (by exact (Q_6.alloc (.cells #[.slice U0 s0 f0, .slice U1 s1 f1, .slice U2 s2 f2] 25))) hb7
      obtain ⟨cQ_7_0, cQ_7_1, cQ_7_2, cQ_7_3, _⟩ := Q_7.cells
      have lQ_7 := Q_7.lt
      have HY_7 := Hv.below (by exact (HY.alloc (.cells #[.slice U0 s0 f0, .slice U1 s1 f1, .slice U2 s2 f2] 25))) hb7
      have G_7 := Blk3.below (by exact (Blk3.new w6 (.slice U0 s0 f0) (.slice U1 s1 f1) (.slice U2 s2 f2) 25)) hb7
      obtain ⟨cG_7_0, cG_7_1, cG_7_2, _⟩ := G_7.cells
      have lG_7 := G_7.lt
      have ql := (HB_7).rowsS.1
      obtain ⟨gl, zl, el, _, hgl, hlz, cl, _⟩ := ql.get (k := kc) (by first | omega | (have := lenS ql; omega))
      subst el
      have qr := (HB_7).rowsS.2.1
      obtain ⟨gR, zr, er, _, hgR, hrz, cr, _⟩ := qr.get (k := kc) (by first | omega | (have := lenS qr; omega))
      subst er
      obtain rfl : zl = -1 := by have h9 := hlz.out; rw [HL.out] at h9; simpa using h9.symm
      obtain rfl : zr = -1 := by have h9 := hrz.out; rw [HR.out] at h9; simpa using h9.symm
      have ll := lenS ql
      have lr := lenS qr
      have hki : (kc : Int) < (k0 : Int) := by omega
      have hkj : (kc : Int) < (k1 : Int) := by omega
      clear hlz hrz ql qr
      go_wp2_with fail
      refine (SR _ _ _ (Cv.hv5 HB_7)).mono ?_; rintro e w8 ⟨A8, k8, rfl, R8, hb8⟩
      have BW8 : Below w.heap.size w w8 := BW7.trans (hb8.mono BW7.size)
      have zz8 : w7.heap.size ≤ w8.heap.size := hb8.size
      have HA_8 := Cv.below (by exact HA_7) hb8
      have X_8 := Blk4.below (by exact X_7) hb8
      obtain ⟨cX_8_0, cX_8_1, cX_8_2, cX_8_3, _⟩ := X_8.cells
      have lX_8 := X_8.lt
      have Y_8 := Blk3.below (by exact Y_7) hb8
      obtain ⟨cY_8_0, cY_8_1, cY_8_2, _⟩ := Y_8.cells
      have lY_8 := Y_8.lt
      have HB_8 := Cv.below (by exact HB_7) hb8
      have P_8 := Blk4.below (by exact P_7) hb8
      obtain ⟨cP_8_0, cP_8_1, cP_8_2, cP_8_3, _⟩ := P_8.cells
      have lP_8 := P_8.lt
      have HC_8 := Cv.below (by exact HC_7) hb8
      have Q_8 := Blk4.below (by exact Q_7) hb8
      obtain ⟨cQ_8_0, cQ_8_1, cQ_8_2, cQ_8_3, _⟩ := Q_8.cells
      have lQ_8 := Q_8.lt
      have HY_8 := Hv.below (by exact HY_7) hb8
      have G_8 := Blk3.below (by exact G_7) hb8
      obtain ⟨cG_8_0, cG_8_1, cG_8_2, _⟩ := G_8.cells
      have lG_8 := G_8.lt
      simp only [List.length_nil] at R8 ⊢
      go_wp2_with fail
      refine (C2 _ _ _ HY_8).mono ?_; rintro e w9 ⟨rfl, hb9⟩
      have BW9 : Below w.heap.size w w9 := BW8.trans (hb9.mono BW8.size)
      have zz9 : w8.heap.size ≤ w9.heap.size := hb9.size
      have HA_9 := Cv.below (by exact HA_8) hb9
      have X_9 := Blk4.below (by exact X_8) hb9
      obtain ⟨cX_9_0, cX_9_1, cX_9_2, cX_9_3, _⟩ := X_9.cells
      have lX_9 := X_9.lt
      have Y_9 := Blk3.below (by exact Y_8) hb9
      obtain ⟨cY_9_0, cY_9_1, cY_9_2, _⟩ := Y_9.cells
      have lY_9 := Y_9.lt
      have HB_9 := Cv.below (by exact HB_8) hb9
      have P_9 := Blk4.below (by exact P_8) hb9
      obtain ⟨cP_9_0, cP_9_1, cP_9_2, cP_9_3, _⟩ := P_9.cells
      have lP_9 := P_9.lt
      have HC_9 := Cv.below (by exact HC_8) hb9
      have Q_9 := Blk4.below (by exact Q_8) hb9
      obtain ⟨cQ_9_0, cQ_9_1, cQ_9_2, cQ_9_3, _⟩ := Q_9.cells
      have lQ_9 := Q_9.lt
      have HY_9 := Hv.below (by exact HY_8) hb9
      have G_9 := Blk3.below (by exact G_8) hb9
      obtain ⟨cG_9_0, cG_9_1, cG_9_2, _⟩ := G_9.cells
      have lG_9 := G_9.lt
      go_wp2_with fail
      go_ret
      exact ⟨by simp, BW9⟩
    · have hkb : (k != 1) = true ∨ (runE C ⟨k, a, q⟩ != 0) = true := by
        by_cases h1 : k = 1
        · exact .inr (by simpa using fun h => hke ⟨h1, h⟩)
        · exact .inl (by simpa using h1)
      generalize runC C ⟨k, a, q⟩ = D at I S
      clear hke ho
      generalize runE C ⟨k, a, q⟩ = x at I S hkb
      have hne0 : (x != x) = false := by simp
      have heq0 : (x == x) = true := by simp
      by_cases hk1 : (k != 1) = true
      · clear hkb
        go_wp2_with fail
        refine (I _ _ _ ((HA.alloc (.cells #[.slice A0 n0 c0, .slice A1 n1 c1, .slice A2 n2 c2, .slice A3 n3 c3] 27)).alloc (.cells #[.int .i64 k, .int .i64 a, .int .i64 q] 29))).mono ?_; rintro e w2 ⟨v, rfl, HB, hb2⟩
        have HBb := HB
        obtain ⟨B0, k0, d0, B1, k1, d1, B2, k2, d2, B3, k3, d3, rfl, _, ⟨_, _, _, br3⟩, ⟨_, _, _, bl3⟩, _⟩ := HBb.open_
        have BW2 : Below w.heap.size w w2 := ((BW1.alloc BW1.size (.cells #[.slice A0 n0 c0, .slice A1 n1 c1, .slice A2 n2 c2, .slice A3 n3 c3] 27)).alloc (BW1.alloc BW1.size (.cells #[.slice A0 n0 c0, .slice A1 n1 c1, .slice A2 n2 c2, .slice A3 n3 c3] 27)).size (.cells #[.int .i64 k, .int .i64 a, .int .i64 q] 29)).trans (hb2.mono ((BW1.alloc BW1.size (.cells #[.slice A0 n0 c0, .slice A1 n1 c1, .slice A2 n2 c2, .slice A3 n3 c3] 27)).alloc (BW1.alloc BW1.size (.cells #[.slice A0 n0 c0, .slice A1 n1 c1, .slice A2 n2 c2, .slice A3 n3 c3] 27)).size (.cells #[.int .i64 k, .int .i64 a, .int .i64 q] 29)).size)
        have zz2 : w1.heap.size + 2 ≤ w2.heap.size := by have := hb2.size; simp at this; omega
        have HA_2 := Cv.below (by exact ((HA.alloc (.cells #[.slice A0 n0 c0, .slice A1 n1 c1, .slice A2 n2 c2, .slice A3 n3 c3] 27)).alloc (.cells #[.int .i64 k, .int .i64 a, .int .i64 q] 29))) hb2
        have X_2 := Blk4.below (by exact ((Blk4.new w1 (.slice A0 n0 c0) (.slice A1 n1 c1) (.slice A2 n2 c2) (.slice A3 n3 c3) 27).alloc (.cells #[.int .i64 k, .int .i64 a, .int .i64 q] 29))) hb2
        obtain ⟨cX_2_0, cX_2_1, cX_2_2, cX_2_3, _⟩ := X_2.cells
        have lX_2 := X_2.lt
        have Y_2 := Blk3.below (by exact (Blk3.new_at (w := w1.alloc (.cells #[.slice A0 n0 c0, .slice A1 n1 c1, .slice A2 n2 c2, .slice A3 n3 c3] 27)) (b := w1.heap.size + 1) (by simp) (.int .i64 k) (.int .i64 a) (.int .i64 q) 29)) hb2
        obtain ⟨cY_2_0, cY_2_1, cY_2_2, _⟩ := Y_2.cells
        have lY_2 := Y_2.lt
        go_wp2_with fail
        refine (S _ _ _ (HA_2.alloc (.cells #[.slice B0 k0 d0, .slice B1 k1 d1, .slice B2 k2 d2, .slice B3 k3 d3] 27))).mono ?_; rintro e w3 ⟨v, rfl, HC, hb3⟩
        have HCb := HC
        obtain ⟨K0, m0, e0, K1, m1, e1, K2, m2, e2, K3, m3, e3, rfl, _⟩ := HCb.open_
        have BW3 : Below w.heap.size w w3 := (BW2.alloc BW2.size (.cells #[.slice B0 k0 d0, .slice B1 k1 d1, .slice B2 k2 d2, .slice B3 k3 d3] 27)).trans (hb3.mono (BW2.alloc BW2.size (.cells #[.slice B0 k0 d0, .slice B1 k1 d1, .slice B2 k2 d2, .slice B3 k3 d3] 27)).size)
        have zz3 : w2.heap.size + 1 ≤ w3.heap.size := by have := hb3.size; simp at this; omega
        have HA_3 := Cv.below (by exact (HA_2.alloc (.cells #[.slice B0 k0 d0, .slice B1 k1 d1, .slice B2 k2 d2, .slice B3 k3 d3] 27))) hb3
        have X_3 := Blk4.below (by exact (X_2.alloc (.cells #[.slice B0 k0 d0, .slice B1 k1 d1, .slice B2 k2 d2, .slice B3 k3 d3] 27))) hb3
        obtain ⟨cX_3_0, cX_3_1, cX_3_2, cX_3_3, _⟩ := X_3.cells
        have lX_3 := X_3.lt
        have Y_3 := Blk3.below (by exact (Y_2.alloc (.cells #[.slice B0 k0 d0, .slice B1 k1 d1, .slice B2 k2 d2, .slice B3 k3 d3] 27))) hb3
        obtain ⟨cY_3_0, cY_3_1, cY_3_2, _⟩ := Y_3.cells
        have lY_3 := Y_3.lt
        have HB_3 := Cv.below (by exact (HB.alloc (.cells #[.slice B0 k0 d0, .slice B1 k1 d1, .slice B2 k2 d2, .slice B3 k3 d3] 27))) hb3
        have P_3 := Blk4.below (by exact (Blk4.new w2 (.slice B0 k0 d0) (.slice B1 k1 d1) (.slice B2 k2 d2) (.slice B3 k3 d3) 27)) hb3
        obtain ⟨cP_3_0, cP_3_1, cP_3_2, cP_3_3, _⟩ := P_3.cells
        have lP_3 := P_3.lt
        have E1 := implStoreSame_any _ _ _ _ _ _ _ (HB_3.alloc (.cells #[.slice K0 m0 e0, .slice K1 m1 e1, .slice K2 m2 e2, .slice K3 m3 e3] 27)) (HC.alloc (.cells #[.slice K0 m0 e0, .slice K1 m1 e1, .slice K2 m2 e2, .slice K3 m3 e3] 27))
        rw [sameC_self] at E1
        go_wp2_with fail
        refine (E1).mono ?_; rintro e w4 ⟨rfl, hb4⟩
        have BW4 : Below w.heap.size w w4 := (BW3.alloc BW3.size (.cells #[.slice K0 m0 e0, .slice K1 m1 e1, .slice K2 m2 e2, .slice K3 m3 e3] 27)).trans (hb4.mono (BW3.alloc BW3.size (.cells #[.slice K0 m0 e0, .slice K1 m1 e1, .slice K2 m2 e2, .slice K3 m3 e3] 27)).size)
        have zz4 : w3.heap.size + 1 ≤ w4.heap.size := by have := hb4.size; simp at this; omega
        have HA_4 := Cv.below (by exact (HA_3.alloc (.cells #[.slice K0 m0 e0, .slice K1 m1 e1, .slice K2 m2 e2, .slice K3 m3 e3] 27))) hb4
        have X_4 := Blk4.below (by exact (X_3.alloc (.cells #[.slice K0 m0 e0, .slice K1 m1 e1, .slice K2 m2 e2, .slice K3 m3 e3] 27))) hb4
        obtain ⟨cX_4_0, cX_4_1, cX_4_2, cX_4_3, _⟩ := X_4.cells
        have lX_4 := X_4.lt
        have Y_4 := Blk3.below (by exact (Y_3.alloc (.cells #[.slice K0 m0 e0, .slice K1 m1 e1, .slice K2 m2 e2, .slice K3 m3 e3] 27))) hb4
        obtain ⟨cY_4_0, cY_4_1, cY_4_2, _⟩ := Y_4.cells
        have lY_4 := Y_4.lt
        have HB_4 := Cv.below (by exact (HB_3.alloc (.cells #[.slice K0 m0 e0, .slice K1 m1 e1, .slice K2 m2 e2, .slice K3 m3 e3] 27))) hb4
        have P_4 := Blk4.below (by exact (P_3.alloc (.cells #[.slice K0 m0 e0, .slice K1 m1 e1, .slice K2 m2 e2, .slice K3 m3 e3] 27))) hb4
        obtain ⟨cP_4_0, cP_4_1, cP_4_2, cP_4_3, _⟩ := P_4.cells
        have lP_4 := P_4.lt
        have HC_4 := Cv.below (by exact (HC.alloc (.cells #[.slice K0 m0 e0, .slice K1 m1 e1, .slice K2 m2 e2, .slice K3 m3 e3] 27))) hb4
        have Q_4 := Blk4.below (by exact (Blk4.new w3 (.slice K0 m0 e0) (.slice K1 m1 e1) (.slice K2 m2 e2) (.slice K3 m3 e3) 27)) hb4
        obtain ⟨cQ_4_0, cQ_4_1, cQ_4_2, cQ_4_3, _⟩ := Q_4.cells
        have lQ_4 := Q_4.lt
        have E2 := implStoreSame_any _ _ _ _ _ _ _ HB_4 HC_4
        rw [sameC_self] at E2
        go_wp2_with fail
        refine (E2).mono ?_; rintro e w5 ⟨rfl, hb5⟩
        have BW5 : Below w.heap.size w w5 := BW4.trans (hb5.mono BW4.size)
        have zz5 : w4.heap.size ≤ w5.heap.size := hb5.size
        have HA_5 := Cv.below (by exact HA_4) hb5
        have X_5 := Blk4.below (by exact X_4) hb5
        obtain ⟨cX_5_0, cX_5_1, cX_5_2, cX_5_3, _⟩ := X_5.cells
        have lX_5 := X_5.lt
        have Y_5 := Blk3.below (by exact Y_4) hb5
        obtain ⟨cY_5_0, cY_5_1, cY_5_2, _⟩ := Y_5.cells
        have lY_5 := Y_5.lt
        have HB_5 := Cv.below (by exact HB_4) hb5
        have P_5 := Blk4.below (by exact P_4) hb5
        obtain ⟨cP_5_0, cP_5_1, cP_5_2, cP_5_3, _⟩ := P_5.cells
        have lP_5 := P_5.lt
        have HC_5 := Cv.below (by exact HC_4) hb5
        have Q_5 := Blk4.below (by exact Q_4) hb5
        obtain ⟨cQ_5_0, cQ_5_1, cQ_5_2, cQ_5_3, _⟩ := Q_5.cells
        have lQ_5 := Q_5.lt
        go_wp2_with fail
        go_ret
        exact ⟨rfl, BW5⟩
      · have hx0 := hkb.resolve_left hk1
        obtain rfl : k = 1 := by simpa using hk1
        clear hkb hk1
        go_wp2_with fail
        refine (I _ _ _ ((HA.alloc (.cells #[.slice A0 n0 c0, .slice A1 n1 c1, .slice A2 n2 c2, .slice A3 n3 c3] 27)).alloc (.cells #[.int .i64 1, .int .i64 a, .int .i64 q] 29))).mono ?_; rintro e w2 ⟨v, rfl, HB, hb2⟩
        have HBb := HB
        obtain ⟨B0, k0, d0, B1, k1, d1, B2, k2, d2, B3, k3, d3, rfl, _, ⟨_, _, _, br3⟩, ⟨_, _, _, bl3⟩, _⟩ := HBb.open_
        have BW2 : Below w.heap.size w w2 := ((BW1.alloc BW1.size (.cells #[.slice A0 n0 c0, .slice A1 n1 c1, .slice A2 n2 c2, .slice A3 n3 c3] 27)).alloc (BW1.alloc BW1.size (.cells #[.slice A0 n0 c0, .slice A1 n1 c1, .slice A2 n2 c2, .slice A3 n3 c3] 27)).size (.cells #[.int .i64 1, .int .i64 a, .int .i64 q] 29)).trans (hb2.mono ((BW1.alloc BW1.size (.cells #[.slice A0 n0 c0, .slice A1 n1 c1, .slice A2 n2 c2, .slice A3 n3 c3] 27)).alloc (BW1.alloc BW1.size (.cells #[.slice A0 n0 c0, .slice A1 n1 c1, .slice A2 n2 c2, .slice A3 n3 c3] 27)).size (.cells #[.int .i64 1, .int .i64 a, .int .i64 q] 29)).size)
        have zz2 : w1.heap.size + 2 ≤ w2.heap.size := by have := hb2.size; simp at this; omega
        have HA_2 := Cv.below (by exact ((HA.alloc (.cells #[.slice A0 n0 c0, .slice A1 n1 c1, .slice A2 n2 c2, .slice A3 n3 c3] 27)).alloc (.cells #[.int .i64 1, .int .i64 a, .int .i64 q] 29))) hb2
        have X_2 := Blk4.below (by exact ((Blk4.new w1 (.slice A0 n0 c0) (.slice A1 n1 c1) (.slice A2 n2 c2) (.slice A3 n3 c3) 27).alloc (.cells #[.int .i64 1, .int .i64 a, .int .i64 q] 29))) hb2
        obtain ⟨cX_2_0, cX_2_1, cX_2_2, cX_2_3, _⟩ := X_2.cells
        have lX_2 := X_2.lt
        have Y_2 := Blk3.below (by exact (Blk3.new_at (w := w1.alloc (.cells #[.slice A0 n0 c0, .slice A1 n1 c1, .slice A2 n2 c2, .slice A3 n3 c3] 27)) (b := w1.heap.size + 1) (by simp) (.int .i64 1) (.int .i64 a) (.int .i64 q) 29)) hb2
        obtain ⟨cY_2_0, cY_2_1, cY_2_2, _⟩ := Y_2.cells
        have lY_2 := Y_2.lt
        go_wp2_with fail
        refine (S _ _ _ (HA_2.alloc (.cells #[.slice B0 k0 d0, .slice B1 k1 d1, .slice B2 k2 d2, .slice B3 k3 d3] 27))).mono ?_; rintro e w3 ⟨v, rfl, HC, hb3⟩
        have HCb := HC
        obtain ⟨K0, m0, e0, K1, m1, e1, K2, m2, e2, K3, m3, e3, rfl, _⟩ := HCb.open_
        have BW3 : Below w.heap.size w w3 := (BW2.alloc BW2.size (.cells #[.slice B0 k0 d0, .slice B1 k1 d1, .slice B2 k2 d2, .slice B3 k3 d3] 27)).trans (hb3.mono (BW2.alloc BW2.size (.cells #[.slice B0 k0 d0, .slice B1 k1 d1, .slice B2 k2 d2, .slice B3 k3 d3] 27)).size)
        have zz3 : w2.heap.size + 1 ≤ w3.heap.size := by have := hb3.size; simp at this; omega
        have HA_3 := Cv.below (by exact (HA_2.alloc (.cells #[.slice B0 k0 d0, .slice B1 k1 d1, .slice B2 k2 d2, .slice B3 k3 d3] 27))) hb3
        have X_3 := Blk4.below (by exact (X_2.alloc (.cells #[.slice B0 k0 d0, .slice B1 k1 d1, .slice B2 k2 d2, .slice B3 k3 d3] 27))) hb3
        obtain ⟨cX_3_0, cX_3_1, cX_3_2, cX_3_3, _⟩ := X_3.cells
        have lX_3 := X_3.lt
        have Y_3 := Blk3.below (by exact (Y_2.alloc (.cells #[.slice B0 k0 d0, .slice B1 k1 d1, .slice B2 k2 d2, .slice B3 k3 d3] 27))) hb3
        obtain ⟨cY_3_0, cY_3_1, cY_3_2, _⟩ := Y_3.cells
        have lY_3 := Y_3.lt
        have HB_3 := Cv.below (by exact (HB.alloc (.cells #[.slice B0 k0 d0, .slice B1 k1 d1, .slice B2 k2 d2, .slice B3 k3 d3] 27))) hb3
        have P_3 := Blk4.below (by exact (Blk4.new w2 (.slice B0 k0 d0) (.slice B1 k1 d1) (.slice B2 k2 d2) (.slice B3 k3 d3) 27)) hb3
        obtain ⟨cP_3_0, cP_3_1, cP_3_2, cP_3_3, _⟩ := P_3.cells
        have lP_3 := P_3.lt
        have E1 := implStoreSame_any _ _ _ _ _ _ _ (HB_3.alloc (.cells #[.slice K0 m0 e0, .slice K1 m1 e1, .slice K2 m2 e2, .slice K3 m3 e3] 27)) (HC.alloc (.cells #[.slice K0 m0 e0, .slice K1 m1 e1, .slice K2 m2 e2, .slice K3 m3 e3] 27))
        rw [sameC_self] at E1
        go_wp2_with fail
        refine (E1).mono ?_; rintro e w4 ⟨rfl, hb4⟩
        have BW4 : Below w.heap.size w w4 := (BW3.alloc BW3.size (.cells #[.slice K0 m0 e0, .slice K1 m1 e1, .slice K2 m2 e2, .slice K3 m3 e3] 27)).trans (hb4.mono (BW3.alloc BW3.size (.cells #[.slice K0 m0 e0, .slice K1 m1 e1, .slice K2 m2 e2, .slice K3 m3 e3] 27)).size)
        have zz4 : w3.heap.size + 1 ≤ w4.heap.size := by have := hb4.size; simp at this; omega
        have HA_4 := Cv.below (by exact (HA_3.alloc (.cells #[.slice K0 m0 e0, .slice K1 m1 e1, .slice K2 m2 e2, .slice K3 m3 e3] 27))) hb4
        have X_4 := Blk4.below (by exact (X_3.alloc (.cells #[.slice K0 m0 e0, .slice K1 m1 e1, .slice K2 m2 e2, .slice K3 m3 e3] 27))) hb4
        obtain ⟨cX_4_0, cX_4_1, cX_4_2, cX_4_3, _⟩ := X_4.cells
        have lX_4 := X_4.lt
        have Y_4 := Blk3.below (by exact (Y_3.alloc (.cells #[.slice K0 m0 e0, .slice K1 m1 e1, .slice K2 m2 e2, .slice K3 m3 e3] 27))) hb4
        obtain ⟨cY_4_0, cY_4_1, cY_4_2, _⟩ := Y_4.cells
        have lY_4 := Y_4.lt
        have HB_4 := Cv.below (by exact (HB_3.alloc (.cells #[.slice K0 m0 e0, .slice K1 m1 e1, .slice K2 m2 e2, .slice K3 m3 e3] 27))) hb4
        have P_4 := Blk4.below (by exact (P_3.alloc (.cells #[.slice K0 m0 e0, .slice K1 m1 e1, .slice K2 m2 e2, .slice K3 m3 e3] 27))) hb4
        obtain ⟨cP_4_0, cP_4_1, cP_4_2, cP_4_3, _⟩ := P_4.cells
        have lP_4 := P_4.lt
        have HC_4 := Cv.below (by exact (HC.alloc (.cells #[.slice K0 m0 e0, .slice K1 m1 e1, .slice K2 m2 e2, .slice K3 m3 e3] 27))) hb4
        have Q_4 := Blk4.below (by exact (Blk4.new w3 (.slice K0 m0 e0) (.slice K1 m1 e1) (.slice K2 m2 e2) (.slice K3 m3 e3) 27)) hb4
        obtain ⟨cQ_4_0, cQ_4_1, cQ_4_2, cQ_4_3, _⟩ := Q_4.cells
        have lQ_4 := Q_4.lt
        have E2 := implStoreSame_any _ _ _ _ _ _ _ HB_4 HC_4
        rw [sameC_self] at E2
        go_wp2_with fail
        refine (E2).mono ?_; rintro e w5 ⟨rfl, hb5⟩
        have BW5 : Below w.heap.size w w5 := BW4.trans (hb5.mono BW4.size)
        have zz5 : w4.heap.size ≤ w5.heap.size := hb5.size
        have HA_5 := Cv.below (by exact HA_4) hb5
        have X_5 := Blk4.below (by exact X_4) hb5
        obtain ⟨cX_5_0, cX_5_1, cX_5_2, cX_5_3, _⟩ := X_5.cells
        have lX_5 := X_5.lt
        have Y_5 := Blk3.below (by exact Y_4) hb5
        obtain ⟨cY_5_0, cY_5_1, cY_5_2, _⟩ := Y_5.cells
        have lY_5 := Y_5.lt
        have HB_5 := Cv.below (by exact HB_4) hb5
        have P_5 := Blk4.below (by exact P_4) hb5
        obtain ⟨cP_5_0, cP_5_1, cP_5_2, cP_5_3, _⟩ := P_5.cells
        have lP_5 := P_5.lt
        have HC_5 := Cv.below (by exact HC_4) hb5
        have Q_5 := Blk4.below (by exact Q_4) hb5
        obtain ⟨cQ_5_0, cQ_5_1, cQ_5_2, cQ_5_3, _⟩ := Q_5.cells
        have lQ_5 := Q_5.lt
        go_wp2_with fail
        go_ret
        exact ⟨rfl, BW5⟩
end Go.Proofs.Ythbflohanjnaeaa
