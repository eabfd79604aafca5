/- The law FnRunLive, walked. -/
import Derived.Test.YthbflohanjnaeaaDRuns
import Derived.Test.YthbflohanjnaeaaIRunA
import Derived.Test.YthbflohanjnaeaaSRunA
import Derived.Test.YthbflohanjnaeaaIStos
import Derived.Test.YthbflohanjnaeaaWLaw
import Derived.Test.YthbflohanjnaeaaLawT
import Derived.Test.YthbflohanjnaeaaRuns56
import Derived.Test.YthbflohanjnaeaaPureKS
import Derived.Test.YthbflohanjnaeaaLives
import Derived.Test.YthbflohanjnaeaaIStoL
namespace Go.Proofs.Ythbflohanjnaeaa
open Go.RowKit

/-- What is live behind an operation was live, or free. -/
theorem run_dead {C : Cp} {o : Opv} (h : runB C o = true) {i : Nat} (hd : (liveL (runC C o).h)[i]? = some true) : (liveL C.h)[i]? = some true ∨ isFreeB C (i : Int) = true := by
  obtain ⟨hC, ho⟩ := runB_iff.1 h
  have hvD := (stoB_parts (run_valid h)).1
  obtain ⟨hv, _, hfr, _⟩ := stoB_parts hC
  obtain ⟨⟨hrl, _⟩, _⟩ := hvB_parts hv
  obtain ⟨⟨k1, k7⟩, ⟨a0, a1, _⟩, ⟨b0, _⟩, hb7, hbn⟩ := opB_iff.1 ho
  have hbt : o.b < C.h.t.length := by
    by_cases e : o.k = 1 ∨ o.k = 7
    · rw [hb7 e]; omega
    · exact hbn e
  have root : ∀ x : Int, x ∈ C.h.t → ∀ k : Nat, (k : Int) = x → (liveL C.h)[k]? = some true := fun x hx k e => live_root hv (e ▸ hx)
  have old : ∀ i k : Nat, ((liveL C.h)[i]? = some true ∨ (i : Int) ∈ C.c) → (C.h.l[i]? = some (k : Int) ∨ C.h.r[i]? = some (k : Int)) → (liveL C.h)[k]? = some true ∨ (k : Int) ∈ C.c := by
    intro i k hi hx
    rcases hi with hi | hi
    · exact .inl (live_next hv hi hx)
    · obtain ⟨j, ej, _, f1, f2, _⟩ := free_parts (hfr _ hi)
      obtain rfl : i = j := by omega
      rcases hx with hx | hx
      · rw [f1] at hx; simp only [Option.some.injEq] at hx; omega
      · rw [f2] at hx; simp only [Option.some.injEq] at hx; omega
  have key := live_least hvD (fun j => (liveL C.h)[j]? = some true ∨ (j : Int) ∈ C.c) ?_ ?_ hd
  · rcases key with e | e
    · exact .inl e
    · right; unfold isFreeB; rw [hC]; simpa using e
  · intro k hk
    unfold runC at hk
    rw [if_pos h] at hk
    split at hk
    · split at hk
      · rename_i ha
        unfold allocC at hk
        rw [if_pos ha] at hk
        rcases List.mem_or_eq_of_mem_set hk with e | e
        · exact .inl (live_root hv e)
        · right
          obtain ⟨_, _, hne⟩ := allocB_iff.1 ha
          obtain ⟨x, tl, ec⟩ := List.exists_cons_of_ne_nil hne
          rw [e, ec]; simp
      · exact .inl (live_root hv hk)
    · unfold doC at hk
      split at hk
      · rcases List.mem_or_eq_of_mem_set hk with e | e
        · exact .inl (live_root hv e)
        · exact .inl (root _ (rootA_mem b0 hbt) k e)
      split at hk
      · rcases List.mem_or_eq_of_mem_set hk with e | e
        · exact .inl (live_root hv e)
        · omega
      split at hk
      · split at hk
        · exact .inl (live_root hv hk)
        · rename_i hne
          rcases List.mem_or_eq_of_mem_set hk with e | e
          · exact .inl (live_root hv e)
          · obtain ⟨kk, ek, hkk⟩ := (rootA_range hv b0 hbt).resolve_left hne
            rw [ek, Int.toNat_natCast, List.getD_eq_getElem?_getD, List.getElem?_eq_getElem hkk] at e
            exact .inl (live_next hv (root _ (rootA_mem b0 hbt) kk ek.symm) (.inl (by rw [List.getElem?_eq_getElem hkk, e]; rfl)))
      split at hk
      · split at hk
        · exact .inl (live_root hv hk)
        · rename_i hne
          rcases List.mem_or_eq_of_mem_set hk with e | e
          · exact .inl (live_root hv e)
          · obtain ⟨kk, ek, hkk⟩ := (rootA_range hv b0 hbt).resolve_left hne
            have hkr : kk < C.h.r.length := by omega
            rw [ek, Int.toNat_natCast, List.getD_eq_getElem?_getD, List.getElem?_eq_getElem hkr] at e
            exact .inl (live_next hv (root _ (rootA_mem b0 hbt) kk ek.symm) (.inr (by rw [List.getElem?_eq_getElem hkr, e]; rfl)))
      split at hk
      · split at hk <;> exact .inl (live_root hv hk)
      · split at hk <;> exact .inl (live_root hv hk)
  · intro i k hi _ hx
    unfold runC at hx
    rw [if_pos h] at hx
    split at hx
    · split at hx
      · rename_i ha
        unfold allocC at hx
        rw [if_pos ha] at hx
        exact old i k hi hx
      · exact old i k hi hx
    · unfold doC at hx
      split at hx
      · exact old i k hi hx
      split at hx
      · exact old i k hi hx
      split at hx
      · split at hx <;> exact old i k hi hx
      split at hx
      · split at hx <;> exact old i k hi hx
      split at hx
      · split at hx
        · exact old i k hi hx
        · rcases hx with hx | hx
          · simp only [List.getElem?_set] at hx
            split at hx
            · split at hx
              · simp only [Option.some.injEq] at hx
                exact .inl (root _ (rootA_mem b0 hbt) k hx.symm)
              · cases hx
            · exact old i k hi (.inl hx)
          · exact old i k hi (.inr hx)
      · split at hx
        · exact old i k hi hx
        · rcases hx with hx | hx
          · exact old i k hi (.inl hx)
          · simp only [List.getElem?_set] at hx
            split at hx
            · split at hx
              · simp only [Option.some.injEq] at hx
                exact .inl (root _ (rootA_mem b0 hbt) k hx.symm)
              · cases hx
            · exact old i k hi (.inr hx)
theorem op_cells {C : Cp} {o : Opv} (h : runB C o = true) : (runC C o).h.l.length = C.h.l.length := by
  unfold runC
  rw [if_pos h]
  split
  · split
    · rename_i ha
      unfold allocC
      rw [if_pos ha]
    · rfl
  · unfold doC
    repeat' split
    all_goals simp

set_option maxRecDepth 100000 in
set_option maxHeartbeats 4000000 in
theorem lawRunLive_walk (w : World) (A : Option Addr) (n c : Nat) (h : Inp w A n c) :
    Calls Try.prog 4 #[.slice A n c] w (LawTrue w) := by
  by_cases hbig : 1048576 < n
  · go_enter Try.func4, Try.ntmps4
    go_wp2_with fail
    go_ret
    exact ⟨rfl, Below.refl _ _⟩
  go_enter Try.func4, Try.ntmps4
  go_wp2_with fail
  refine (drawRunOp_any _ _ _ _ h).mono ?_; rintro e w1 ⟨v, C, ⟨k, a, q⟩, rfl, HA, hb1⟩
  have BW1 : Below w.heap.size w w1 := (Below.refl w.heap.size w).trans (hb1.mono (Below.refl w.heap.size w).size)
  have zz1 : w.heap.size ≤ w1.heap.size := hb1.size
  have HAo := HA
  obtain ⟨A0, n0, c0, A1, n1, c1, A2, n2, c2, A3, n3, c3, rfl, hh, ⟨r0, r1, r2, r3⟩, ⟨l0, l1, l2, l3⟩, ⟨mm0, mm1, mm2, mm3⟩, _⟩ := HAo.open_
  have I := fun W lo v hW => implRunOp_any W lo v C hW ⟨k, a, q⟩
  have S := fun W lo v hW => specRunOp_any W lo v C hW ⟨k, a, q⟩
  rcases ho : runB C ⟨k, a, q⟩
  · rw [ho] at I S
    generalize runC C ⟨k, a, q⟩ = D at I S
    generalize runE C ⟨k, a, q⟩ = x at I S
    have hne0 : (x != x) = false := by simp
    have heq0 : (x == x) = true := by simp
    clear ho
    go_wp2_with fail
    refine (I _ _ _ ((HA.alloc (.cells #[.slice A0 n0 c0, .slice A1 n1 c1, .slice A2 n2 c2, .slice A3 n3 c3] 27)).alloc (.cells #[.int .i64 k, .int .i64 a, .int .i64 q] 29))).mono ?_; rintro e w2 ⟨v, rfl, HB, hb2⟩
    have HBb := HB
    obtain ⟨B0, k0, d0, B1, k1, d1, B2, k2, d2, B3, k3, d3, rfl, _, ⟨_, _, _, br3⟩, ⟨_, _, _, bl3⟩, _⟩ := HBb.open_
    have BW2 : Below w.heap.size w w2 := ((BW1.alloc BW1.size (.cells #[.slice A0 n0 c0, .slice A1 n1 c1, .slice A2 n2 c2, .slice A3 n3 c3] 27)).alloc (BW1.alloc BW1.size (.cells #[.slice A0 n0 c0, .slice A1 n1 c1, .slice A2 n2 c2, .slice A3 n3 c3] 27)).size (.cells #[.int .i64 k, .int .i64 a, .int .i64 q] 29)).trans (hb2.mono ((BW1.alloc BW1.size (.cells #[.slice A0 n0 c0, .slice A1 n1 c1, .slice A2 n2 c2, .slice A3 n3 c3] 27)).alloc (BW1.alloc BW1.size (.cells #[.slice A0 n0 c0, .slice A1 n1 c1, .slice A2 n2 c2, .slice A3 n3 c3] 27)).size (.cells #[.int .i64 k, .int .i64 a, .int .i64 q] 29)).size)
    have zz2 : w1.heap.size + 2 ≤ w2.heap.size := by have := hb2.size; simp at this; omega
    have HA_2 := Cv.below (by exact ((HA.alloc (.cells #[.slice A0 n0 c0, .slice A1 n1 c1, .slice A2 n2 c2, .slice A3 n3 c3] 27)).alloc (.cells #[.int .i64 k, .int .i64 a, .int .i64 q] 29))) hb2
    have X_2 := Blk4.below (by exact ((Blk4.new w1 (.slice A0 n0 c0) (.slice A1 n1 c1) (.slice A2 n2 c2) (.slice A3 n3 c3) 27).alloc (.cells #[.int .i64 k, .int .i64 a, .int .i64 q] 29))) hb2
    obtain ⟨cX_2_0, cX_2_1, cX_2_2, cX_2_3, _⟩ := X_2.cells
    have lX_2 := X_2.lt
    have Y_2 := Blk3.below (by exact (Blk3.new_at (w := w1.alloc (.cells #[.slice A0 n0 c0, .slice A1 n1 c1, .slice A2 n2 c2, .slice A3 n3 c3] 27)) (b := w1.heap.size + 1) (by simp) (.int .i64 k) (.int .i64 a) (.int .i64 q) 29)) hb2
    obtain ⟨cY_2_0, cY_2_1, cY_2_2, _⟩ := Y_2.cells
    have lY_2 := Y_2.lt
    go_wp2_with fail
    refine (S _ _ _ (HA_2.alloc (.cells #[.slice B0 k0 d0, .slice B1 k1 d1, .slice B2 k2 d2, .slice B3 k3 d3] 27))).mono ?_; rintro e w3 ⟨v, rfl, HC, hb3⟩
    have HCb := HC
    obtain ⟨K0, m0, e0, K1, m1, e1, K2, m2, e2, K3, m3, e3, rfl, _⟩ := HCb.open_
    have BW3 : Below w.heap.size w w3 := (BW2.alloc BW2.size (.cells #[.slice B0 k0 d0, .slice B1 k1 d1, .slice B2 k2 d2, .slice B3 k3 d3] 27)).trans (hb3.mono (BW2.alloc BW2.size (.cells #[.slice B0 k0 d0, .slice B1 k1 d1, .slice B2 k2 d2, .slice B3 k3 d3] 27)).size)
    have zz3 : w2.heap.size + 1 ≤ w3.heap.size := by have := hb3.size; simp at this; omega
    have HA_3 := Cv.below (by exact (HA_2.alloc (.cells #[.slice B0 k0 d0, .slice B1 k1 d1, .slice B2 k2 d2, .slice B3 k3 d3] 27))) hb3
    have X_3 := Blk4.below (by exact (X_2.alloc (.cells #[.slice B0 k0 d0, .slice B1 k1 d1, .slice B2 k2 d2, .slice B3 k3 d3] 27))) hb3
    obtain ⟨cX_3_0, cX_3_1, cX_3_2, cX_3_3, _⟩ := X_3.cells
    have lX_3 := X_3.lt
    have Y_3 := Blk3.below (by exact (Y_2.alloc (.cells #[.slice B0 k0 d0, .slice B1 k1 d1, .slice B2 k2 d2, .slice B3 k3 d3] 27))) hb3
    obtain ⟨cY_3_0, cY_3_1, cY_3_2, _⟩ := Y_3.cells
    have lY_3 := Y_3.lt
    have HB_3 := Cv.below (by exact (HB.alloc (.cells #[.slice B0 k0 d0, .slice B1 k1 d1, .slice B2 k2 d2, .slice B3 k3 d3] 27))) hb3
    have P_3 := Blk4.below (by exact (Blk4.new w2 (.slice B0 k0 d0) (.slice B1 k1 d1) (.slice B2 k2 d2) (.slice B3 k3 d3) 27)) hb3
    obtain ⟨cP_3_0, cP_3_1, cP_3_2, cP_3_3, _⟩ := P_3.cells
    have lP_3 := P_3.lt
    have E1 := implStoreSame_any _ _ _ _ _ _ _ (HB_3.alloc (.cells #[.slice K0 m0 e0, .slice K1 m1 e1, .slice K2 m2 e2, .slice K3 m3 e3] 27)) (HC.alloc (.cells #[.slice K0 m0 e0, .slice K1 m1 e1, .slice K2 m2 e2, .slice K3 m3 e3] 27))
    rw [sameC_self] at E1
    go_wp2_with fail
    refine (E1).mono ?_; rintro e w4 ⟨rfl, hb4⟩
    have BW4 : Below w.heap.size w w4 := (BW3.alloc BW3.size (.cells #[.slice K0 m0 e0, .slice K1 m1 e1, .slice K2 m2 e2, .slice K3 m3 e3] 27)).trans (hb4.mono (BW3.alloc BW3.size (.cells #[.slice K0 m0 e0, .slice K1 m1 e1, .slice K2 m2 e2, .slice K3 m3 e3] 27)).size)
    have zz4 : w3.heap.size + 1 ≤ w4.heap.size := by have := hb4.size; simp at this; omega
    have HA_4 := Cv.below (by exact (HA_3.alloc (.cells #[.slice K0 m0 e0, .slice K1 m1 e1, .slice K2 m2 e2, .slice K3 m3 e3] 27))) hb4
    have X_4 := Blk4.below (by exact (X_3.alloc (.cells #[.slice K0 m0 e0, .slice K1 m1 e1, .slice K2 m2 e2, .slice K3 m3 e3] 27))) hb4
    obtain ⟨cX_4_0, cX_4_1, cX_4_2, cX_4_3, _⟩ := X_4.cells
    have lX_4 := X_4.lt
    have Y_4 := Blk3.below (by exact (Y_3.alloc (.cells #[.slice K0 m0 e0, .slice K1 m1 e1, .slice K2 m2 e2, .slice K3 m3 e3] 27))) hb4
    obtain ⟨cY_4_0, cY_4_1, cY_4_2, _⟩ := Y_4.cells
    have lY_4 := Y_4.lt
    have HB_4 := Cv.below (by exact (HB_3.alloc (.cells #[.slice K0 m0 e0, .slice K1 m1 e1, .slice K2 m2 e2, .slice K3 m3 e3] 27))) hb4
    have P_4 := Blk4.below (by exact (P_3.alloc (.cells #[.slice K0 m0 e0, .slice K1 m1 e1, .slice K2 m2 e2, .slice K3 m3 e3] 27))) hb4
    obtain ⟨cP_4_0, cP_4_1, cP_4_2, cP_4_3, _⟩ := P_4.cells
    have lP_4 := P_4.lt
    have HC_4 := Cv.below (by exact (HC.alloc (.cells #[.slice K0 m0 e0, .slice K1 m1 e1, .slice K2 m2 e2, .slice K3 m3 e3] 27))) hb4
    have Q_4 := Blk4.below (by exact (Blk4.new w3 (.slice K0 m0 e0) (.slice K1 m1 e1) (.slice K2 m2 e2) (.slice K3 m3 e3) 27)) hb4
    obtain ⟨cQ_4_0, cQ_4_1, cQ_4_2, cQ_4_3, _⟩ := Q_4.cells
    have lQ_4 := Q_4.lt
    have E2 := implStoreSame_any _ _ _ _ _ _ _ HB_4 HC_4
    rw [sameC_self] at E2
    go_wp2_with fail
    refine (E2).mono ?_; rintro e w5 ⟨rfl, hb5⟩
    have BW5 : Below w.heap.size w w5 := BW4.trans (hb5.mono BW4.size)
    have zz5 : w4.heap.size ≤ w5.heap.size := hb5.size
    have HA_5 := Cv.below (by exact HA_4) hb5
    have X_5 := Blk4.below (by exact X_4) hb5
    obtain ⟨cX_5_0, cX_5_1, cX_5_2, cX_5_3, _⟩ := X_5.cells
    have lX_5 := X_5.lt
    have Y_5 := Blk3.below (by exact Y_4) hb5
    obtain ⟨cY_5_0, cY_5_1, cY_5_2, _⟩ := Y_5.cells
    have lY_5 := Y_5.lt
    have HB_5 := Cv.below (by exact HB_4) hb5
    have P_5 := Blk4.below (by exact P_4) hb5
    obtain ⟨cP_5_0, cP_5_1, cP_5_2, cP_5_3, _⟩ := P_5.cells
    have lP_5 := P_5.lt
    have HC_5 := Cv.below (by exact HC_4) hb5
    have Q_5 := Blk4.below (by exact Q_4) hb5
    obtain ⟨cQ_5_0, cQ_5_1, cQ_5_2, cQ_5_3, _⟩ := Q_5.cells
    have lQ_5 := Q_5.lt
    go_wp2_with fail
    go_ret
    exact ⟨rfl, BW5⟩
  · rw [ho] at I S
    have hdead := fun i hd => run_dead (i := i) ho hd
    have hvC := (stoB_parts (runB_iff.1 ho).1).1
    have hvD := (stoB_parts (run_valid ho)).1
    have hcl := op_cells ho
    have e0 := l0.out
    have hyl : (liveL C.h).length = n0 := by rw [liveL_len hvC]; exact e0
    have hyd : (liveL (runC C ⟨k, a, q⟩).h).length = n0 := by rw [liveL_len hvD, hcl]; exact e0
    have RR := fun W lo v hW => implReach_any W lo v C.h hW
    have RD := fun W lo v hW => implReach_any W lo v (runC C ⟨k, a, q⟩).h hW
    have FR := fun W lo v hW x => implIsFree_any W lo v C hW x
    generalize liveL (runC C ⟨k, a, q⟩).h = zs at RD hyd hdead
    generalize liveL C.h = ys at RR hyl hdead
    generalize runC C ⟨k, a, q⟩ = D at I S RD
    generalize runE C ⟨k, a, q⟩ = x at I S
    have hne0 : (x != x) = false := by simp
    have HYL := Lib.hid hyl
    have HYD := Lib.hid hyd
    have HDD := Lib.hid hdead
    have hn63 : n0 ≤ 9223372036854775807 := mm0
    clear ho hvC hvD hcl hyl hyd hdead
    go_wp2_with fail
    refine (I _ _ _ ((HA.alloc (.cells #[.slice A0 n0 c0, .slice A1 n1 c1, .slice A2 n2 c2, .slice A3 n3 c3] 27)).alloc (.cells #[.int .i64 k, .int .i64 a, .int .i64 q] 29))).mono ?_; rintro e w2 ⟨v, rfl, HB, hb2⟩
    have HBb := HB
    obtain ⟨B0, k0, d0, B1, k1, d1, B2, k2, d2, B3, k3, d3, rfl, _, ⟨_, _, _, br3⟩, ⟨_, _, _, bl3⟩, _⟩ := HBb.open_
    have BW2 : Below w.heap.size w w2 := ((BW1.alloc BW1.size (.cells #[.slice A0 n0 c0, .slice A1 n1 c1, .slice A2 n2 c2, .slice A3 n3 c3] 27)).alloc (BW1.alloc BW1.size (.cells #[.slice A0 n0 c0, .slice A1 n1 c1, .slice A2 n2 c2, .slice A3 n3 c3] 27)).size (.cells #[.int .i64 k, .int .i64 a, .int .i64 q] 29)).trans (hb2.mono ((BW1.alloc BW1.size (.cells #[.slice A0 n0 c0, .slice A1 n1 c1, .slice A2 n2 c2, .slice A3 n3 c3] 27)).alloc (BW1.alloc BW1.size (.cells #[.slice A0 n0 c0, .slice A1 n1 c1, .slice A2 n2 c2, .slice A3 n3 c3] 27)).size (.cells #[.int .i64 k, .int .i64 a, .int .i64 q] 29)).size)
    have zz2 : w1.heap.size + 2 ≤ w2.heap.size := by have := hb2.size; simp at this; omega
    have HA_2 := Cv.below (by exact ((HA.alloc (.cells #[.slice A0 n0 c0, .slice A1 n1 c1, .slice A2 n2 c2, .slice A3 n3 c3] 27)).alloc (.cells #[.int .i64 k, .int .i64 a, .int .i64 q] 29))) hb2
    have X_2 := Blk4.below (by exact ((Blk4.new w1 (.slice A0 n0 c0) (.slice A1 n1 c1) (.slice A2 n2 c2) (.slice A3 n3 c3) 27).alloc (.cells #[.int .i64 k, .int .i64 a, .int .i64 q] 29))) hb2
    obtain ⟨cX_2_0, cX_2_1, cX_2_2, cX_2_3, _⟩ := X_2.cells
    have lX_2 := X_2.lt
    have Y_2 := Blk3.below (by exact (Blk3.new_at (w := w1.alloc (.cells #[.slice A0 n0 c0, .slice A1 n1 c1, .slice A2 n2 c2, .slice A3 n3 c3] 27)) (b := w1.heap.size + 1) (by simp) (.int .i64 k) (.int .i64 a) (.int .i64 q) 29)) hb2
    obtain ⟨cY_2_0, cY_2_1, cY_2_2, _⟩ := Y_2.cells
    have lY_2 := Y_2.lt
    go_wp2_with fail
    refine (S _ _ _ (HA_2.alloc (.cells #[.slice B0 k0 d0, .slice B1 k1 d1, .slice B2 k2 d2, .slice B3 k3 d3] 27))).mono ?_; rintro e w3 ⟨v, rfl, HC, hb3⟩
    have HCb := HC
    obtain ⟨K0, m0, e0, K1, m1, e1, K2, m2, e2, K3, m3, e3, rfl, _⟩ := HCb.open_
    have BW3 : Below w.heap.size w w3 := (BW2.alloc BW2.size (.cells #[.slice B0 k0 d0, .slice B1 k1 d1, .slice B2 k2 d2, .slice B3 k3 d3] 27)).trans (hb3.mono (BW2.alloc BW2.size (.cells #[.slice B0 k0 d0, .slice B1 k1 d1, .slice B2 k2 d2, .slice B3 k3 d3] 27)).size)
    have zz3 : w2.heap.size + 1 ≤ w3.heap.size := by have := hb3.size; simp at this; omega
    have HA_3 := Cv.below (by exact (HA_2.alloc (.cells #[.slice B0 k0 d0, .slice B1 k1 d1, .slice B2 k2 d2, .slice B3 k3 d3] 27))) hb3
    have X_3 := Blk4.below (by exact (X_2.alloc (.cells #[.slice B0 k0 d0, .slice B1 k1 d1, .slice B2 k2 d2, .slice B3 k3 d3] 27))) hb3
    obtain ⟨cX_3_0, cX_3_1, cX_3_2, cX_3_3, _⟩ := X_3.cells
    have lX_3 := X_3.lt
    have Y_3 := Blk3.below (by exact (Y_2.alloc (.cells #[.slice B0 k0 d0, .slice B1 k1 d1, .slice B2 k2 d2, .slice B3 k3 d3] 27))) hb3
    obtain ⟨cY_3_0, cY_3_1, cY_3_2, _⟩ := Y_3.cells
    have lY_3 := Y_3.lt
    have HB_3 := Cv.below (by exact (HB.alloc (.cells #[.slice B0 k0 d0, .slice B1 k1 d1, .slice B2 k2 d2, .slice B3 k3 d3] 27))) hb3
    have P_3 := Blk4.below (by exact (Blk4.new w2 (.slice B0 k0 d0) (.slice B1 k1 d1) (.slice B2 k2 d2) (.slice B3 k3 d3) 27)) hb3
    obtain ⟨cP_3_0, cP_3_1, cP_3_2, cP_3_3, _⟩ := P_3.cells
    have lP_3 := P_3.lt
    have E1 := implStoreSame_any _ _ _ _ _ _ _ (HB_3.alloc (.cells #[.slice K0 m0 e0, .slice K1 m1 e1, .slice K2 m2 e2, .slice K3 m3 e3] 27)) (HC.alloc (.cells #[.slice K0 m0 e0, .slice K1 m1 e1, .slice K2 m2 e2, .slice K3 m3 e3] 27))
    rw [sameC_self] at E1
    go_wp2_with fail
    refine (E1).mono ?_; rintro e w4 ⟨rfl, hb4⟩
    have BW4 : Below w.heap.size w w4 := (BW3.alloc BW3.size (.cells #[.slice K0 m0 e0, .slice K1 m1 e1, .slice K2 m2 e2, .slice K3 m3 e3] 27)).trans (hb4.mono (BW3.alloc BW3.size (.cells #[.slice K0 m0 e0, .slice K1 m1 e1, .slice K2 m2 e2, .slice K3 m3 e3] 27)).size)
    have zz4 : w3.heap.size + 1 ≤ w4.heap.size := by have := hb4.size; simp at this; omega
    have HA_4 := Cv.below (by exact (HA_3.alloc (.cells #[.slice K0 m0 e0, .slice K1 m1 e1, .slice K2 m2 e2, .slice K3 m3 e3] 27))) hb4
    have X_4 := Blk4.below (by exact (X_3.alloc (.cells #[.slice K0 m0 e0, .slice K1 m1 e1, .slice K2 m2 e2, .slice K3 m3 e3] 27))) hb4
    obtain ⟨cX_4_0, cX_4_1, cX_4_2, cX_4_3, _⟩ := X_4.cells
    have lX_4 := X_4.lt
    have Y_4 := Blk3.below (by exact (Y_3.alloc (.cells #[.slice K0 m0 e0, .slice K1 m1 e1, .slice K2 m2 e2, .slice K3 m3 e3] 27))) hb4
    obtain ⟨cY_4_0, cY_4_1, cY_4_2, _⟩ := Y_4.cells
    have lY_4 := Y_4.lt
    have HB_4 := Cv.below (by exact (HB_3.alloc (.cells #[.slice K0 m0 e0, .slice K1 m1 e1, .slice K2 m2 e2, .slice K3 m3 e3] 27))) hb4
    have P_4 := Blk4.below (by exact (P_3.alloc (.cells #[.slice K0 m0 e0, .slice K1 m1 e1, .slice K2 m2 e2, .slice K3 m3 e3] 27))) hb4
    obtain ⟨cP_4_0, cP_4_1, cP_4_2, cP_4_3, _⟩ := P_4.cells
    have lP_4 := P_4.lt
    have HC_4 := Cv.below (by exact (HC.alloc (.cells #[.slice K0 m0 e0, .slice K1 m1 e1, .slice K2 m2 e2, .slice K3 m3 e3] 27))) hb4
    have Q_4 := Blk4.below (by exact (Blk4.new w3 (.slice K0 m0 e0) (.slice K1 m1 e1) (.slice K2 m2 e2) (.slice K3 m3 e3) 27)) hb4
    obtain ⟨cQ_4_0, cQ_4_1, cQ_4_2, cQ_4_3, _⟩ := Q_4.cells
    have lQ_4 := Q_4.lt
    go_wp2_with fail
    refine (RR _ _ _ (Cv.hv5 HA_4)).mono ?_; rintro e w5 ⟨A5, k5, rfl, R5, hb5⟩
    have BW5 : Below w.heap.size w w5 := BW4.trans (hb5.mono BW4.size)
    have zz5 : w4.heap.size ≤ w5.heap.size := hb5.size
    have HA_5 := Cv.below (by exact HA_4) hb5
    have X_5 := Blk4.below (by exact X_4) hb5
    obtain ⟨cX_5_0, cX_5_1, cX_5_2, cX_5_3, _⟩ := X_5.cells
    have lX_5 := X_5.lt
    have Y_5 := Blk3.below (by exact Y_4) hb5
    obtain ⟨cY_5_0, cY_5_1, cY_5_2, _⟩ := Y_5.cells
    have lY_5 := Y_5.lt
    have HB_5 := Cv.below (by exact HB_4) hb5
    have P_5 := Blk4.below (by exact P_4) hb5
    obtain ⟨cP_5_0, cP_5_1, cP_5_2, cP_5_3, _⟩ := P_5.cells
    have lP_5 := P_5.lt
    rw [HYL.out] at R5 ⊢
    go_wp2_with fail
    refine (RD _ _ _ (Cv.hv5 HB_5)).mono ?_; rintro e w6 ⟨A6, k6, rfl, R6, hb6⟩
    have BW6 : Below w.heap.size w w6 := BW5.trans (hb6.mono BW5.size)
    have zz6 : w5.heap.size ≤ w6.heap.size := hb6.size
    have HA_6 := Cv.below (by exact HA_5) hb6
    have X_6 := Blk4.below (by exact X_5) hb6
    obtain ⟨cX_6_0, cX_6_1, cX_6_2, cX_6_3, _⟩ := X_6.cells
    have lX_6 := X_6.lt
    have Y_6 := Blk3.below (by exact Y_5) hb6
    obtain ⟨cY_6_0, cY_6_1, cY_6_2, _⟩ := Y_6.cells
    have lY_6 := Y_6.lt
    have HB_6 := Cv.below (by exact HB_5) hb6
    have P_6 := Blk4.below (by exact P_5) hb6
    obtain ⟨cP_6_0, cP_6_1, cP_6_2, cP_6_3, _⟩ := P_6.cells
    have lP_6 := P_6.lt
    have R5_6 := RowB.below (by exact R5) hb6
    rw [HYD.out] at R6 ⊢
    go_wp2_with fail
    go_loopw [13] (fun i wr => ∃ j : Nat, j ≤ n0 ∧ i = .int .i64 (j : Int) ∧ Blk4 wr w1.heap.size (.slice A0 n0 c0) (.slice A1 n1 c1) (.slice A2 n2 c2) (.slice A3 n3 c3) 27 ∧ Cv wr w.heap.size (.agg #[.slice A0 n0 c0, .slice A1 n1 c1, .slice A2 n2 c2, .slice A3 n3 c3]) C ∧ RowB wr w4.heap.size (.slice A5 n0 k5) ys ∧ RowB wr w5.heap.size (.slice A6 n0 k6) zs ∧ Below w.heap.size w wr) (fun i _ => n0 - (intOf i).toNat)
    case atStart => exact ⟨0, Nat.zero_le _, rfl, X_6, HA_6, R5_6, R6, BW6⟩
    case round =>
      obtain ⟨j, hj, rfl, X9, H9, R5', R6', B9⟩ := hrel
      by_cases hjn : j < n0
      · obtain ⟨gy, y, ey, _, _, hy, cy, _⟩ := R5'.get (k := j) (by have := HYL.out; omega)
        subst ey
        obtain ⟨gz, z, ez, _, _, hz, cz, _⟩ := R6'.get (k := j) (by have := HYD.out; omega)
        subst ez
        obtain ⟨x0, x1, x2, x3, _⟩ := X9.cells
        have hji : (j : Int) < (n0 : Int) := by omega
        by_cases hc : y = false ∧ z = true
        · obtain ⟨rfl, rfl⟩ := hc
          have hfree : isFreeB C (j : Int) = true := by
            rcases HDD.out j hz.out with h9 | h9
            · have := hy.out; rw [h9] at this; cases this
            · exact h9
          have FF := fun W lo v hW => FR W lo v hW (j : Int)
          rw [hfree] at FF
          clear hfree hy hz
          go_wp2_with fail
          refine (FF _ _ _ H9).mono ?_; rintro e w9 ⟨rfl, hb9⟩
          have X10 := X9.below hb9
          have H10 := H9.below hb9
          have R10 := R5'.below hb9
          have R11 := R6'.below hb9
          have B10 := B9.trans (hb9.mono B9.size)
          go_wp2_with fail
          go_roundw
          case rel => exact ⟨j + 1, by omega, by go_num, X10, H10, R10, R11, B10⟩
          case measure => simp [intOf]; omega
        · have hc2 : y = true ∨ (y = false ∧ z = false) := by cases y <;> cases z <;> simp_all
          clear hy hz hc
          rcases hc2 with rfl | ⟨rfl, rfl⟩
          all_goals
            go_wp2_with fail
            go_roundw
            case rel => exact ⟨j + 1, by omega, by go_num, X9, H9, R5', R6', B9⟩
            case measure => simp [intOf]; omega
      · obtain rfl : j = n0 := by omega
        go_wp2_with fail
        go_ret
        exact ⟨rfl, B9⟩
end Go.Proofs.Ythbflohanjnaeaa
