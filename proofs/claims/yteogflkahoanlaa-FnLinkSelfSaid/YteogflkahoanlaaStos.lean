import Derived.Test.YteogflkahoanlaaSCols
import Derived.OrdersHeld
import Derived.Deep.RegionHeld3
import Derived.Test.YteogflkahoanlaaSCopy
import Derived.Deep.Upon
/- Stores: a heap and a row of free cells (a Cp whose c is the row); l4At and l4Free, of spec. -/
namespace Go.Proofs.Yteogflkahoanlaa
open Go.RowKit

theorem first_neg {c : List Int} {x : Int} (h : x ∉ c) : firstOf c x = -1 := by unfold firstOf; rw [if_neg h]
theorem first_pos {c : List Int} {x : Int} (h : x ∈ c) : ∃ k : Nat, firstOf c x = (k : Int) ∧ k < c.length := by
  unfold firstOf; rw [if_pos h]; exact ⟨_, rfl, List.idxOf_lt_length_iff.2 h⟩
/-- A cell that can be free. -/
def freeB (h : Hp) (x : Int) : Bool := decide (0 ≤ x ∧ x < h.l.length ∧ h.l[x.toNat]? = some (-1) ∧ h.r[x.toNat]? = some (-1) ∧ x ∉ h.l ∧ x ∉ h.r ∧ x ∉ h.t)
/-- A store is valid. -/
def stoB (C : Cp) : Bool := hvB C.h && decide (C.c.length ≤ C.h.l.length ∧ (∀ x ∈ C.c, freeB C.h x = true) ∧ C.c.Nodup)
theorem stoB_parts {C : Cp} (h : stoB C = true) : hvB C.h = true ∧ C.c.length ≤ C.h.l.length ∧ (∀ x ∈ C.c, freeB C.h x = true) ∧ C.c.Nodup := by
  simpa only [stoB, Bool.and_eq_true, decide_eq_true_eq] using h
theorem stoB_of {C : Cp} (h1 : hvB C.h = true) (h2 : C.c.length ≤ C.h.l.length) (h3 : ∀ x ∈ C.c, freeB C.h x = true) (h4 : C.c.Nodup) : stoB C = true := by
  simp only [stoB, Bool.and_eq_true, decide_eq_true_eq]; exact ⟨h1, h2, h3, h4⟩
theorem stoB_not {C : Cp} (h : hvB C.h = false) : stoB C = false := by unfold stoB; rw [h]; rfl
theorem stoB_long {C : Cp} (h : C.h.l.length < C.c.length) : stoB C = false := by
  rw [Bool.eq_false_iff]; intro h9; have := (stoB_parts h9).2.1; omega
theorem stoB_unfree {C : Cp} {k : Nat} {x : Int} (hx : C.c[k]? = some x) (h : freeB C.h x = false) : stoB C = false := by
  rw [Bool.eq_false_iff]; intro h9
  have := (stoB_parts h9).2.2.1 x (List.mem_of_getElem? hx); rw [h] at this; cases this
theorem stoB_dup {C : Cp} {k : Nat} {x : Int} (hx : C.c[k]? = some x) (hm : x ∈ C.c.take k) : stoB C = false := by
  rw [Bool.eq_false_iff]; intro h9
  have hn := (stoB_parts h9).2.2.2
  obtain ⟨j, hj, he⟩ := List.getElem_of_mem hm
  obtain ⟨hk, ek⟩ := List.getElem?_eq_some_iff.1 hx
  have hj' : j < k := by rw [List.length_take] at hj; omega
  rw [List.getElem_take] at he
  exact (List.pairwise_iff_getElem.1 hn) j k (by omega) hk hj' (he.trans ek.symm)
theorem free_take {C : Cp} {k : Nat} {x : Int} (hx : C.c[k]? = some x) (h : freeB C.h x = true) (ht : ∀ y ∈ C.c.take k, freeB C.h y = true) : ∀ y ∈ C.c.take (k + 1), freeB C.h y = true := by
  rw [List.take_add_one, hx, Option.toList_some]
  intro y hy
  rcases List.mem_append.1 hy with h9 | h9
  · exact ht y h9
  · rw [List.mem_singleton.1 h9]; exact h
theorem nodup_take {c : List Int} {k : Nat} {x : Int} (hx : c[k]? = some x) (h : x ∉ c.take k) (ht : (c.take k).Nodup) : (c.take (k + 1)).Nodup := by
  rw [List.take_add_one, hx, Option.toList_some, List.nodup_append]
  refine ⟨ht, by simp, ?_⟩
  intro a ha b hb e
  rw [List.mem_singleton.1 hb] at e
  exact h (e ▸ ha)

set_option maxHeartbeats 1000000 in
theorem l4At_any (w : World) (lo : Nat) (A : Option Addr) (n c : Nat) (xs : List Int) (h : Row w lo (.slice A n c) xs) (l : Hid (xs.length = n)) (hm : n ≤ 9223372036854775807) (x : Int) :
    Calls Try.prog 79 #[.slice A n c, .int .i64 x] w fun e w' => e = .returned (.int .i64 (firstOf xs x)) ∧ ∃ nq, w' = w.drewN nq := by
  go_enter Try.func79, Try.ntmps79
  go_wp2_with fail
  go_loopw [5] (fun i wr => (∃ k : Nat, k ≤ n ∧ i = .int .i64 k ∧ Hid (∀ j, j < k → xs[j]? ≠ some x)) ∧ ∃ nq, wr = w.drewN nq) (fun i _ => n - (intOf i).toNat)
  case atStart => exact ⟨⟨0, Nat.zero_le _, rfl, fun j hj => absurd hj (Nat.not_lt_zero _)⟩, 0, rfl⟩
  case round =>
    obtain ⟨⟨k, hk, rfl, ht⟩, nq, rfl⟩ := hrel
    by_cases hlt : k < n
    · obtain ⟨g, y, rfl, _, _, hy, hcy, _⟩ := h.get (k := k) (by rw [l.out]; exact hlt)
      have hb : (k : Int) < (n : Int) := by omega
      by_cases hxy : y = x
      · subst hxy
        have hf := Lib.hid (first_at hy.out ht.out)
        clear hy ht
        go_wp2_with fail
        go_ret
        exact ⟨ret_int hf.out.symm, _, by first | rfl | (rw [World.drewN_drewN])⟩
      · have hxy1 : (y == x) = false := by simp [hxy]
        have ht' : Hid (∀ j, j < k + 1 → xs[j]? ≠ some x) := fun j hj => by
          rcases Nat.lt_succ_iff_lt_or_eq.1 hj with h9 | rfl
          · exact ht.out j h9
          · rw [hy.out]; intro e; exact hxy (by simpa using e)
        clear hy ht
        go_wp2_with fail
        go_roundw
        case rel => exact ⟨⟨k + 1, by omega, by go_num, ht'⟩, _, by first | rfl | (rw [World.drewN_drewN])⟩
        case measure => simp [intOf]; omega
    · obtain rfl : k = n := by omega
      have hf := Lib.hid (first_none (c := xs) (x := x) (fun j hj => ht.out j (by rw [l.out] at hj; exact hj)))
      clear ht
      go_wp2_with fail
      go_ret
      exact ⟨ret_int hf.out.symm, _, by first | rfl | (rw [World.drewN_drewN])⟩
theorem l4At_not (w : World) (lo : Nat) (A : Option Addr) (n c : Nat) (xs : List Int) (h : Row w lo (.slice A n c) xs) (l : Hid (xs.length = n)) (hm : n ≤ 9223372036854775807) (x : Int) (hx : x ∉ xs) :
    Calls Try.prog 79 #[.slice A n c, .int .i64 x] w fun e w' => e = .returned (.int .i64 (-1)) ∧ ∃ nq, w' = w.drewN nq := by
  rw [← first_neg hx]; exact l4At_any w lo A n c xs h l hm x
theorem l4At_in (w : World) (lo : Nat) (A : Option Addr) (n c : Nat) (xs : List Int) (h : Row w lo (.slice A n c) xs) (l : Hid (xs.length = n)) (hm : n ≤ 9223372036854775807) (x : Int) (hx : x ∈ xs) :
    Calls Try.prog 79 #[.slice A n c, .int .i64 x] w fun e w' => (∃ k : Nat, e = .returned (.int .i64 (k : Int))) ∧ ∃ nq, w' = w.drewN nq := by
  obtain ⟨k, hk, _⟩ := first_pos hx
  refine (l4At_any w lo A n c xs h l hm x).mono ?_
  rintro e w' ⟨rfl, hw⟩
  exact ⟨⟨k, by rw [hk]⟩, hw⟩

set_option maxRecDepth 100000 in
set_option maxHeartbeats 2000000 in
theorem l4Free_any (w : World) (lo : Nat) (v : Value) (h : Hp) (hv : Hv w lo v h) (hr : h.r.length = h.l.length) (x : Int) :
    Calls Try.prog 84 #[v, .int .i64 x] w (RetB w (freeB h x)) := by
  obtain ⟨A0, n0, c0, A1, n1, c1, A2, n2, c2, rfl, ⟨r0, r1, r2⟩, ⟨l0, l1, l2⟩, ⟨m0, m1, m2⟩, _⟩ := hv.open_
  have P := Blk3.new w (.slice A0 n0 c0) (.slice A1 n1 c1) (.slice A2 n2 c2) 25
  have fin : Below w.heap.size w (w.alloc (.cells #[.slice A0 n0 c0, .slice A1 n1 c1, .slice A2 n2 c2] 25)) := (Below.refl _ _).alloc (Nat.le_refl _) _
  have R0 := r0.alloc (.cells #[.slice A0 n0 c0, .slice A1 n1 c1, .slice A2 n2 c2] 25)
  have R1 := r1.alloc (.cells #[.slice A0 n0 c0, .slice A1 n1 c1, .slice A2 n2 c2] 25)
  have R2 := r2.alloc (.cells #[.slice A0 n0 c0, .slice A1 n1 c1, .slice A2 n2 c2] 25)
  clear hv r0 r1 r2
  obtain ⟨x0, x1, x2, _⟩ := P.cells
  by_cases h0 : 0 ≤ x
  · obtain ⟨k, rfl⟩ := Int.eq_ofNat_of_zero_le h0
    by_cases hk : k < n0
    · obtain ⟨g, y, rfl, _, _, hy, hcy, _⟩ := R0.get (k := k) (by rw [l0.out]; exact hk)
      have hk1 : k < n1 := by have := l0.out; have := l1.out; omega
      obtain ⟨g', z, rfl, _, _, hz, hcz, _⟩ := R1.get (k := k) (by rw [l1.out]; exact hk1)
      have b0 : (k : Int) < (n0 : Int) := by omega
      have hF : Hid (freeB h (k : Int) = decide (y = -1 ∧ z = -1 ∧ (k : Int) ∉ h.l ∧ (k : Int) ∉ h.r ∧ (k : Int) ∉ h.t)) := by
        unfold Hid freeB
        rw [decide_eq_decide]
        have hkl : (k : Int) < h.l.length := by rw [l0.out]; exact b0
        have e1 : h.l[k]? = some y := hy.out
        have e2 : h.r[k]? = some z := hz.out
        simp [e1, e2, hkl]
      clear hy hz h0 hr
      by_cases hy1 : y = -1
      · subst hy1
        by_cases hz1 : z = -1
        · subst hz1
          by_cases a0 : (k : Int) ∈ h.l
          · have hf : Hid (freeB h (k : Int) = false) := by unfold Hid; rw [hF.out]; simp [a0]
            have I0 := l4At_in (w.alloc (.cells #[.slice (some ⟨g, 0, none⟩) n0 c0, .slice (some ⟨g', 0, none⟩) n1 c1, .slice A2 n2 c2] 25)) _ _ _ _ _ R0 l0 m0 _ a0
            clear hF a0
            go_enter Try.func84, Try.ntmps84
            go_wp2_with fail
            refine I0.mono ?_; rintro e w1 ⟨⟨j, rfl⟩, nq, rfl⟩
            have hj : ((j : Int) < 0) = False := by simp
            go_wp2_with fail
            go_ret
            exact ⟨ret_bool hf.out.symm, below_drewN fin _⟩
          · have I0 := l4At_not (w.alloc (.cells #[.slice (some ⟨g, 0, none⟩) n0 c0, .slice (some ⟨g', 0, none⟩) n1 c1, .slice A2 n2 c2] 25)) _ _ _ _ _ R0 l0 m0 _ a0
            by_cases a1 : (k : Int) ∈ h.r
            · have hf : Hid (freeB h (k : Int) = false) := by unfold Hid; rw [hF.out]; simp [a1]
              have I1 := fun q => l4At_in ((w.alloc (.cells #[.slice (some ⟨g, 0, none⟩) n0 c0, .slice (some ⟨g', 0, none⟩) n1 c1, .slice A2 n2 c2] 25)).drewN q) _ _ _ _ _ (R1.drewN q) l1 m1 _ a1
              clear hF a0 a1
              go_enter Try.func84, Try.ntmps84
              go_wp2_with fail
              refine I0.mono ?_; rintro e w1 ⟨rfl, nq, rfl⟩
              go_wp2_with fail
              refine (I1 _).mono ?_; rintro e w1 ⟨⟨j, rfl⟩, nq1, rfl⟩
              have hj : ((j : Int) < 0) = False := by simp
              go_wp2_with fail
              go_ret
              exact ⟨ret_bool hf.out.symm, below_drewN fin _⟩
            · have I1 := fun q => l4At_not ((w.alloc (.cells #[.slice (some ⟨g, 0, none⟩) n0 c0, .slice (some ⟨g', 0, none⟩) n1 c1, .slice A2 n2 c2] 25)).drewN q) _ _ _ _ _ (R1.drewN q) l1 m1 _ a1
              by_cases a2 : (k : Int) ∈ h.t
              · have hf : Hid (freeB h (k : Int) = false) := by unfold Hid; rw [hF.out]; simp [a2]
                have I2 := fun q => l4At_in ((w.alloc (.cells #[.slice (some ⟨g, 0, none⟩) n0 c0, .slice (some ⟨g', 0, none⟩) n1 c1, .slice A2 n2 c2] 25)).drewN q) _ _ _ _ _ (R2.drewN q) l2 m2 _ a2
                clear hF a0 a1 a2
                go_enter Try.func84, Try.ntmps84
                go_wp2_with fail
                refine I0.mono ?_; rintro e w1 ⟨rfl, nq, rfl⟩
                go_wp2_with fail
                refine (I1 _).mono ?_; rintro e w1 ⟨rfl, nq1, rfl⟩
                go_wp2_with fail
                refine (I2 _).mono ?_; rintro e w1 ⟨⟨j, rfl⟩, nq2, rfl⟩
                have hj : ((j : Int) < 0) = False := by simp
                go_wp2_with fail
                go_ret
                exact ⟨ret_bool hf.out.symm, below_drewN fin _⟩
              · have hf : Hid (freeB h (k : Int) = true) := by unfold Hid; rw [hF.out]; simp [a0, a1, a2]
                have I2 := fun q => l4At_not ((w.alloc (.cells #[.slice (some ⟨g, 0, none⟩) n0 c0, .slice (some ⟨g', 0, none⟩) n1 c1, .slice A2 n2 c2] 25)).drewN q) _ _ _ _ _ (R2.drewN q) l2 m2 _ a2
                clear hF a0 a1 a2
                go_enter Try.func84, Try.ntmps84
                go_wp2_with fail
                refine I0.mono ?_; rintro e w1 ⟨rfl, nq, rfl⟩
                go_wp2_with fail
                refine (I1 _).mono ?_; rintro e w1 ⟨rfl, nq1, rfl⟩
                go_wp2_with fail
                refine (I2 _).mono ?_; rintro e w1 ⟨rfl, nq2, rfl⟩
                go_wp2_with fail
                go_ret
                exact ⟨ret_bool hf.out.symm, below_drewN fin _⟩
        · have hf : Hid (freeB h (k : Int) = false) := by unfold Hid; rw [hF.out]; simp [hz1]
          have hz2 : (z == -1) = false := by simp [hz1]
          clear hF
          go_enter Try.func84, Try.ntmps84
          go_wp2_with fail
          go_ret
          exact ⟨ret_bool hf.out.symm, fin⟩
      · have hf : Hid (freeB h (k : Int) = false) := by unfold Hid; rw [hF.out]; simp [hy1]
        have hy2 : (y == -1) = false := by simp [hy1]
        clear hF
        go_enter Try.func84, Try.ntmps84
        go_wp2_with fail
        go_ret
        exact ⟨ret_bool hf.out.symm, fin⟩
    · have hf : Hid (freeB h (k : Int) = false) := by
        unfold Hid freeB
        have hkl : ¬ (k : Int) < h.l.length := by rw [l0.out]; omega
        simp [hkl]
      have hkk : ¬ (k : Int) < (n0 : Int) := by omega
      clear hr
      go_enter Try.func84, Try.ntmps84
      go_wp2_with fail
      go_ret
      exact ⟨ret_bool hf.out.symm, fin⟩
  · have hf : Hid (freeB h x = false) := by unfold Hid freeB; simp [h0]
    have hx0 : ¬ x ≥ 0 := h0
    clear hr
    go_enter Try.func84, Try.ntmps84
    go_wp2_with fail
    go_ret
    exact ⟨ret_bool hf.out.symm, fin⟩
end Go.Proofs.Yteogflkahoanlaa

/- StoreValid of spec. -/
namespace Go.Proofs.Yteogflkahoanlaa
open Go.RowKit

theorem Row.cut {w : World} {lo g n c : Nat} {xs : List Int} (h : Row w lo (.slice (some ⟨g, 0, none⟩) n c) xs) {k : Nat} (hk : k ≤ xs.length) : Row w lo (.slice (some ⟨g, 0, none⟩) k c) (xs.take k) := by
  have hl : (xs.take k).length = k := by rw [List.length_take]; omega
  unfold Row
  rw [hl]
  refine ⟨by simp; omega, .inr ?_⟩
  rcases h.2 with ⟨e, h0⟩ | ⟨g', cap, cur, e, hb, hg, h1, h2, h3, h4⟩
  · cases e
  · cases e
    refine ⟨g, c, cur, rfl, hb, hg, by omega, h2, h3, ?_⟩
    rw [List.map_take, ← h4, List.take_take]
    congr 1
    omega
theorem cellDN {w : World} {a : Addr} {u : Value} (h : w.cell? a = some u) (n : Nat) : (w.drewN n).cell? a = some u := h
theorem Row.cap {w : World} {lo n c : Nat} {A : Option Addr} {xs : List Int} (h : Row w lo (.slice A n c) xs) : n ≤ c := by
  obtain ⟨A', c', e, h1, _⟩ := h.form
  cases e; exact h1

set_option maxRecDepth 100000 in
set_option maxHeartbeats 3000000 in
theorem specStoreValid_any (w : World) (lo : Nat) (v : Value) (C : Cp) (hv : Cv w lo v C) : Calls Try.prog 60 #[v] w (RetB w (stoB C)) := by
  obtain ⟨A0, n0, c0, A1, n1, c1, A2, n2, c2, A3, n3, c3, rfl, hh, ⟨r0, r1, r2, r3⟩, ⟨l0, l1, l2, l3⟩, ⟨m0, m1, m2, m3⟩, _⟩ := hv.open_
  have X0 := Blk4.new w (.slice A0 n0 c0) (.slice A1 n1 c1) (.slice A2 n2 c2) (.slice A3 n3 c3) 27
  have HH := hh.alloc (.cells #[.slice A0 n0 c0, .slice A1 n1 c1, .slice A2 n2 c2, .slice A3 n3 c3] 27)
  have R3 := r3.alloc (.cells #[.slice A0 n0 c0, .slice A1 n1 c1, .slice A2 n2 c2, .slice A3 n3 c3] 27)
  have V := specHeapValid_any _ _ _ _ HH
  have fin : Below w.heap.size w (w.alloc (.cells #[.slice A0 n0 c0, .slice A1 n1 c1, .slice A2 n2 c2, .slice A3 n3 c3] 27)) := (Below.refl _ _).alloc (Nat.le_refl _) _
  clear hv hh r0 r1 r2
  rcases ev : hvB C.h
  · have hf : Hid (stoB C = false) := stoB_not ev
    rw [ev] at V
    clear ev
    go_enter Try.func60, Try.ntmps60
    go_wp2_with fail
    refine V.mono ?_; rintro e w1 ⟨rfl, hb1⟩
    go_wp2_with fail
    go_ret
    exact ⟨ret_bool hf.out.symm, fin.trans (hb1.mono fin.size)⟩
  · rw [ev] at V
    obtain ⟨e1, e2, _⟩ := hvB_len ev
    by_cases hlong : n0 < n3
    · have hf : Hid (stoB C = false) := stoB_long (by rw [l0.out, l3.out]; exact hlong)
      have hlg : decide ((n3 : Int) > (n0 : Int)) = true := by simp; omega
      have hlg2 : (n0 : Int) < (n3 : Int) := by omega
      clear ev e1 e2
      go_enter Try.func60, Try.ntmps60
      go_wp2_with fail
      refine V.mono ?_; rintro e w1 ⟨rfl, hb1⟩
      obtain ⟨x0, x1, x2, x3, _⟩ := (Blk4.below (by exact X0) hb1).cells
      go_wp2_with fail
      go_ret
      exact ⟨ret_bool hf.out.symm, fin.trans (hb1.mono fin.size)⟩
    · have hr : C.h.r.length = C.h.l.length := by omega
      have hgood : (∀ y ∈ C.c, freeB C.h y = true) → C.c.Nodup → stoB C = true := fun h1 h2 => stoB_of ev (by rw [l0.out, l3.out]; omega) h1 h2
      have hlg2 : ¬ (n0 : Int) < (n3 : Int) := by omega
      have hs8 : n3 ≤ 8 := by have := l0.out; omega
      clear e1 e2 ev
      go_enter Try.func60, Try.ntmps60
      go_wp2_with fail
      refine V.mono ?_; rintro e w1 ⟨rfl, hb1⟩
      have X1 := Blk4.below (by exact X0) hb1
      have H1 := Hv.below (by exact HH) hb1
      have R1 := Row.below (by exact R3) hb1
      have B1 := fin.trans (hb1.mono fin.size)
      obtain ⟨x0, x1, x2, x3, _⟩ := X1.cells
      clear V X0 HH R3 fin hb1
      go_wp2_with fail
      clear x0 x1 x2 x3 hlg2
      go_loopw [3] (fun i wr => ∃ k : Nat, k ≤ n3 ∧ i = .int .i64 k ∧ Hid (∀ y ∈ C.c.take k, freeB C.h y = true) ∧ Hid (C.c.take k).Nodup ∧ Blk4 wr w.heap.size (.slice A0 n0 c0) (.slice A1 n1 c1) (.slice A2 n2 c2) (.slice A3 n3 c3) 27 ∧ Row wr lo (.slice A3 n3 c3) C.c ∧ Hv wr lo (.agg #[.slice A0 n0 c0, .slice A1 n1 c1, .slice A2 n2 c2]) C.h ∧ Below w.heap.size w wr) (fun i _ => n3 - (intOf i).toNat)
      case atStart => exact ⟨0, Nat.zero_le _, rfl, fun y hy => by simp at hy, by unfold Hid; simp, X1, R1, H1, B1⟩
      case round =>
        clear X1 R1 H1 B1
        obtain ⟨k, hk, rfl, hfr, hnd, X, R, H, B⟩ := hrel
        by_cases hlt : k < n3
        · obtain ⟨g, y, rfl, _, _, hy, hcy, _⟩ := R.get (k := k) (by rw [l3.out]; exact hlt)
          have hb : (k : Int) < (n3 : Int) := by omega
          have hcap := R.cap
          have hkc : (k : Int) ≤ (c3 : Int) := by omega
          obtain ⟨cX0, cX1, cX2, cX3, _⟩ := X.cells
          have gl := R.lt g rfl
          have lX := X.lt
          have RC := R.cut (k := k) (by rw [l3.out]; exact hk)
          have F := fun W h9 => l4Free_any W lo (.agg #[.slice A0 n0 c0, .slice A1 n1 c1, .slice A2 n2 c2]) C.h h9 hr y
          rcases hfy : freeB C.h y
          · have hf : Hid (stoB C = false) := stoB_unfree hy.out hfy
            rw [hfy] at F
            clear hfy hy hfr hnd hgood RC
            go_wp2_with fail
            refine wp_region_held_drew (S := fun w' => w'.cell? ⟨w.heap.size, 0, none⟩ = some (.slice A0 n0 c0) ∧ w'.cell? ⟨w.heap.size, 1, none⟩ = some (.slice A1 n1 c1) ∧ w'.cell? ⟨w.heap.size, 2, none⟩ = some (.slice A2 n2 c2) ∧ w'.cell? ⟨w.heap.size, 3, none⟩ = some (.slice (some ⟨g, 0, none⟩) n3 c3) ∧ w'.cell? ⟨g, k, none⟩ = some (.int .i64 y)) (by kernel_rfl) ?_ (fun hHeld => ?_)
            · exact ⟨cellD cX0, cellD cX1, cellD cX2, cellD cX3, cellD hcy⟩
            refine wpAnyH_take (i := 0) (oi := ?oi0) (v := ?v0) ?hi0 (by kernel_rfl) (by kernel_rfl) (by kernel_rfl) ?hQ0 ?hy0 (by assumption) ?_
            case hi0 => simp only [List.getElem?_toArray, List.getElem?_cons_zero]; rfl
            case hQ0 => exact fun _ _ _ h => h
            case hy0 => refine Or.inl ⟨by rfl, ?_⟩; intro w9 hSw; (try dsimp only at hSw); go_simp; (try with_reducible rfl)
            try simp only [Act.put, List.setIfInBounds_toArray, List.set_cons_zero, List.set_cons_succ]
            refine wpAnyH_take (i := 1) (oi := ?oi1) (v := ?v1) ?hi1 (by kernel_rfl) (by kernel_rfl) (by kernel_rfl) ?hQ1 ?hy1 (by assumption) ?_
            case hi1 => simp only [List.getElem?_toArray, List.getElem?_cons_zero, List.getElem?_cons_succ]; rfl
            case hQ1 => exact fun _ _ _ h => h
            case hy1 => refine Or.inl ⟨by rfl, ?_⟩; intro w9 hSw; (try dsimp only at hSw); go_simp; (try with_reducible rfl)
            try simp only [Act.put, List.setIfInBounds_toArray, List.set_cons_zero, List.set_cons_succ]
            refine wpAnyH_take (i := 2) (oi := ?oi2) (v := ?v2) ?hi2 (by kernel_rfl) (by kernel_rfl) (by kernel_rfl) ?hQ2 ?hy2 (by assumption) ?_
            case hi2 => simp only [List.getElem?_toArray, List.getElem?_cons_zero, List.getElem?_cons_succ]; rfl
            case hQ2 => exact fun _ _ _ h => h
            case hy2 => refine Or.inl ⟨by rfl, ?_⟩; intro w9 hSw; (try dsimp only at hSw); go_simp; (try with_reducible rfl)
            try simp only [Act.put, List.setIfInBounds_toArray, List.set_cons_zero, List.set_cons_succ]
            refine wpAnyH_take (i := 3) (oi := ?oi3) (v := ?v3) ?hi3 (by kernel_rfl) (by kernel_rfl) (by kernel_rfl) ?hQ3 ?hy3 (by assumption) ?_
            case hi3 => simp only [List.getElem?_toArray, List.getElem?_cons_zero, List.getElem?_cons_succ]; rfl
            case hQ3 => exact fun _ _ _ h => h
            case hy3 => refine Or.inl ⟨by rfl, ?_⟩; intro w9 hSw; (try dsimp only at hSw); go_simp; (try with_reducible rfl)
            try simp only [Act.put, List.setIfInBounds_toArray, List.set_cons_zero, List.set_cons_succ]
            refine wpAnyH_take (i := 4) (oi := ?oi4) (v := ?v4) ?hi4 (by kernel_rfl) (by kernel_rfl) (by kernel_rfl) ?hQ4 ?hy4 (by assumption) ?_
            case hi4 => simp only [List.getElem?_toArray, List.getElem?_cons_zero, List.getElem?_cons_succ]; rfl
            case hQ4 => exact fun _ _ _ h => h
            case hy4 => refine Or.inl ⟨by rfl, ?_⟩; intro w9 hSw; (try dsimp only at hSw); go_simp; (try with_reducible rfl)
            try simp only [Act.put, List.setIfInBounds_toArray, List.set_cons_zero, List.set_cons_succ]
            refine wpAnyH_take (i := 5) (oi := ?oi5) (v := ?v5) ?hi5 (by kernel_rfl) (by kernel_rfl) (by kernel_rfl) ?hQ5 ?hy5 (by assumption) ?_
            case hi5 => simp only [List.getElem?_toArray, List.getElem?_cons_zero, List.getElem?_cons_succ]; rfl
            case hQ5 => exact fun _ _ _ h => h
            case hy5 => refine Or.inl ⟨by rfl, ?_⟩; intro w9 hSw; (try dsimp only at hSw); go_simp; (try with_reducible rfl)
            try simp only [Act.put, List.setIfInBounds_toArray, List.set_cons_zero, List.set_cons_succ]
            refine wpAnyH_take (i := 6) (oi := ?oi6) (v := ?v6) ?hi6 (by kernel_rfl) (by kernel_rfl) (by kernel_rfl) ?hQ6 ?hy6 (by assumption) ?_
            case hi6 => simp only [List.getElem?_toArray, List.getElem?_cons_zero, List.getElem?_cons_succ]; rfl
            case hQ6 => exact fun _ _ _ h => h
            case hy6 => refine Or.inl ⟨by rfl, ?_⟩; intro w9 hSw; (try dsimp only at hSw); go_simp; (try with_reducible rfl)
            try simp only [Act.put, List.setIfInBounds_toArray, List.set_cons_zero, List.set_cons_succ]
            refine wpAnyH_ready (rs := [7]) (by kernel_rfl) (by simp) ?_
            refine AllReadyH.cons (o := ?oo7) ?ho7 (fun K hK => ?_) AllReadyH.nil
            case ho7 => simp only [List.getElem?_toArray, List.getElem?_cons_zero, List.getElem?_cons_succ]; rfl
            go_simp
            refine (F _ (Hv.drew H)).mono ?_; rintro e w2 ⟨rfl, hb2⟩
            have X2 := Blk4.below (w := wr.drew) (by exact X) hb2
            have R2 := Row.below (w := wr.drew) (by exact R) hb2
            have H2 := Hv.below (w := wr.drew) (by exact H) hb2
            have B2 := (Below.drew B).trans (hb2.mono (Below.drew B).size)
            obtain ⟨cY0, cY1, cY2, cY3, _⟩ := X2.cells
            have hcy2 := (World.cell?_of_block (a := ⟨g, k, none⟩) (hb2.block g (by exact gl.2))).trans hcy
            go_wp2_with fail
            refine hK.out _ _ ?hS7 (fun hHeld7 => ?_)
            case hS7 => exact ⟨cY0, cY1, cY2, cY3, hcy2⟩
            clear hK K
            try simp only [Act.put, List.setIfInBounds_toArray, List.set_cons_zero, List.set_cons_succ]
            refine wpAnyH_take (i := 8) (oi := ?oi8) (v := ?v8) ?hi8 (by kernel_rfl) (by kernel_rfl) (by kernel_rfl) ?hQ8 ?hy8 (by assumption) ?_
            case hi8 => simp only [List.getElem?_toArray, List.getElem?_cons_zero, List.getElem?_cons_succ]; rfl
            case hQ8 => exact fun _ _ _ h => h
            case hy8 => refine Or.inl ⟨by rfl, ?_⟩; intro w9 hSw; (try dsimp only at hSw); go_simp; (try with_reducible rfl)
            try simp only [Act.put, List.setIfInBounds_toArray, List.set_cons_zero, List.set_cons_succ]
            refine wpAnyH_take (i := 9) (oi := ?oi9) (v := ?v9) ?hi9 (by kernel_rfl) (by kernel_rfl) (by kernel_rfl) ?hQ9 ?hy9 (by assumption) ?_
            case hi9 => simp only [List.getElem?_toArray, List.getElem?_cons_zero, List.getElem?_cons_succ]; rfl
            case hQ9 => exact fun _ _ _ h => h
            case hy9 => refine Or.inl ⟨by rfl, ?_⟩; intro w9 hSw; (try dsimp only at hSw); go_simp; (try with_reducible rfl)
            try simp only [Act.put, List.setIfInBounds_toArray, List.set_cons_zero, List.set_cons_succ]
            refine wpAnyH_take (i := 10) (oi := ?oi10) (v := undef) ?hi10 (by kernel_rfl) (by kernel_rfl) (by kernel_rfl) ?hQ10 ?hy10 (by assumption) ?_
            case hi10 => simp only [List.getElem?_toArray, List.getElem?_cons_zero, List.getElem?_cons_succ]; rfl
            case hQ10 => exact fun _ _ _ h => h
            case hy10 => exact Or.inr ⟨by rfl, rfl⟩
            try simp only [Act.put, List.setIfInBounds_toArray, List.set_cons_zero, List.set_cons_succ]
            refine wpAnyH_take (i := 11) (oi := ?oi11) (v := undef) ?hi11 (by kernel_rfl) (by kernel_rfl) (by kernel_rfl) ?hQ11 ?hy11 (by assumption) ?_
            case hi11 => simp only [List.getElem?_toArray, List.getElem?_cons_zero, List.getElem?_cons_succ]; rfl
            case hQ11 => exact fun _ _ _ h => h
            case hy11 => exact Or.inr ⟨by rfl, rfl⟩
            try simp only [Act.put, List.setIfInBounds_toArray, List.set_cons_zero, List.set_cons_succ]
            refine wpAnyH_take (i := 12) (oi := ?oi12) (v := undef) ?hi12 (by kernel_rfl) (by kernel_rfl) (by kernel_rfl) ?hQ12 ?hy12 (by assumption) ?_
            case hi12 => simp only [List.getElem?_toArray, List.getElem?_cons_zero, List.getElem?_cons_succ]; rfl
            case hQ12 => exact fun _ _ _ h => h
            case hy12 => exact Or.inr ⟨by rfl, rfl⟩
            try simp only [Act.put, List.setIfInBounds_toArray, List.set_cons_zero, List.set_cons_succ]
            refine wpAnyH_take (i := 13) (oi := ?oi13) (v := undef) ?hi13 (by kernel_rfl) (by kernel_rfl) (by kernel_rfl) ?hQ13 ?hy13 (by assumption) ?_
            case hi13 => simp only [List.getElem?_toArray, List.getElem?_cons_zero, List.getElem?_cons_succ]; rfl
            case hQ13 => exact fun _ _ _ h => h
            case hy13 => exact Or.inr ⟨by rfl, rfl⟩
            try simp only [Act.put, List.setIfInBounds_toArray, List.set_cons_zero, List.set_cons_succ]
            refine wpAnyH_take (i := 14) (oi := ?oi14) (v := undef) ?hi14 (by kernel_rfl) (by kernel_rfl) (by kernel_rfl) ?hQ14 ?hy14 (by assumption) ?_
            case hi14 => simp only [List.getElem?_toArray, List.getElem?_cons_zero, List.getElem?_cons_succ]; rfl
            case hQ14 => exact fun _ _ _ h => h
            case hy14 => exact Or.inr ⟨by rfl, rfl⟩
            try simp only [Act.put, List.setIfInBounds_toArray, List.set_cons_zero, List.set_cons_succ]
            refine wpAnyH_take (i := 15) (oi := ?oi15) (v := undef) ?hi15 (by kernel_rfl) (by kernel_rfl) (by kernel_rfl) ?hQ15 ?hy15 (by assumption) ?_
            case hi15 => simp only [List.getElem?_toArray, List.getElem?_cons_zero, List.getElem?_cons_succ]; rfl
            case hQ15 => exact fun _ _ _ h => h
            case hy15 => exact Or.inr ⟨by rfl, rfl⟩
            try simp only [Act.put, List.setIfInBounds_toArray, List.set_cons_zero, List.set_cons_succ]
            refine wpAnyH_take (i := 16) (oi := ?oi16) (v := undef) ?hi16 (by kernel_rfl) (by kernel_rfl) (by kernel_rfl) ?hQ16 ?hy16 (by assumption) ?_
            case hi16 => simp only [List.getElem?_toArray, List.getElem?_cons_zero, List.getElem?_cons_succ]; rfl
            case hQ16 => exact fun _ _ _ h => h
            case hy16 => exact Or.inr ⟨by rfl, rfl⟩
            try simp only [Act.put, List.setIfInBounds_toArray, List.set_cons_zero, List.set_cons_succ]
            refine wpAnyH_take (i := 17) (oi := ?oi17) (v := undef) ?hi17 (by kernel_rfl) (by kernel_rfl) (by kernel_rfl) ?hQ17 ?hy17 (by assumption) ?_
            case hi17 => simp only [List.getElem?_toArray, List.getElem?_cons_zero, List.getElem?_cons_succ]; rfl
            case hQ17 => exact fun _ _ _ h => h
            case hy17 => exact Or.inr ⟨by rfl, rfl⟩
            try simp only [Act.put, List.setIfInBounds_toArray, List.set_cons_zero, List.set_cons_succ]
            refine wpAnyH_take (i := 18) (oi := ?oi18) (v := undef) ?hi18 (by kernel_rfl) (by kernel_rfl) (by kernel_rfl) ?hQ18 ?hy18 (by assumption) ?_
            case hi18 => simp only [List.getElem?_toArray, List.getElem?_cons_zero, List.getElem?_cons_succ]; rfl
            case hQ18 => exact fun _ _ _ h => h
            case hy18 => exact Or.inr ⟨by rfl, rfl⟩
            try simp only [Act.put, List.setIfInBounds_toArray, List.set_cons_zero, List.set_cons_succ]
            refine wpAnyH_take (i := 19) (oi := ?oi19) (v := undef) ?hi19 (by kernel_rfl) (by kernel_rfl) (by kernel_rfl) ?hQ19 ?hy19 (by assumption) ?_
            case hi19 => simp only [List.getElem?_toArray, List.getElem?_cons_zero, List.getElem?_cons_succ]; rfl
            case hQ19 => exact fun _ _ _ h => h
            case hy19 => exact Or.inr ⟨by rfl, rfl⟩
            try simp only [Act.put, List.setIfInBounds_toArray, List.set_cons_zero, List.set_cons_succ]
            refine wpAnyH_take (i := 20) (oi := ?oi20) (v := undef) ?hi20 (by kernel_rfl) (by kernel_rfl) (by kernel_rfl) ?hQ20 ?hy20 (by assumption) ?_
            case hi20 => simp only [List.getElem?_toArray, List.getElem?_cons_zero, List.getElem?_cons_succ]; rfl
            case hQ20 => exact fun _ _ _ h => h
            case hy20 => exact Or.inr ⟨by rfl, rfl⟩
            try simp only [Act.put, List.setIfInBounds_toArray, List.set_cons_zero, List.set_cons_succ]
            refine wpAnyH_take (i := 21) (oi := ?oi21) (v := ?v21) ?hi21 (by kernel_rfl) (by kernel_rfl) (by kernel_rfl) ?hQ21 ?hy21 (by assumption) ?_
            case hi21 => simp only [List.getElem?_toArray, List.getElem?_cons_zero, List.getElem?_cons_succ]; rfl
            case hQ21 => exact fun _ _ _ h => h
            case hy21 => refine Or.inl ⟨by rfl, ?_⟩; intro w9 hSw; (try dsimp only at hSw); go_simp; (try with_reducible rfl)
            try simp only [Act.put, List.setIfInBounds_toArray, List.set_cons_zero, List.set_cons_succ]
            refine wpAnyH_done (by kernel_rfl) ?_ _
            go_wp2_with fail
            go_ret
            exact ⟨ret_bool hf.out.symm, B2⟩
          · rw [hfy] at F
            by_cases hm : y ∈ C.c.take k
            · have hf : Hid (stoB C = false) := stoB_dup hy.out hm
              have I := fun W h9 => l4At_in W lo (some ⟨g, 0, none⟩) k c3 (C.c.take k) h9 (l := by unfold Hid; rw [List.length_take, l3.out]; omega) (by omega) y hm
              clear hfy hy hfr hnd hgood hm
              go_wp2_with fail
              go_region_held3 (fun w' => w'.cell? ⟨w.heap.size, 0, none⟩ = some (.slice A0 n0 c0) ∧ w'.cell? ⟨w.heap.size, 1, none⟩ = some (.slice A1 n1 c1) ∧ w'.cell? ⟨w.heap.size, 2, none⟩ = some (.slice A2 n2 c2) ∧ w'.cell? ⟨w.heap.size, 3, none⟩ = some (.slice (some ⟨g, 0, none⟩) n3 c3) ∧ w'.cell? ⟨g, k, none⟩ = some (.int .i64 y))
                (((try dsimp only); (repeat' apply And.intro) <;> (with_reducible (first | exact cellD cX0 | exact cellD cX1 | exact cellD cX2 | exact cellD cX3 | exact cellD hcy | exact cY0 | exact cY1 | exact cY2 | exact cY3 | exact hcy2 | exact dZ0 | exact dZ1 | exact dZ2 | exact dZ3 | exact dZ4))))
                (first | (go_at_call 84; (with_reducible refine (F _ (Hv.drew H)).mono ?_); rintro e w2 ⟨rfl, hb2⟩; (have X2 := Blk4.below (w := wr.drew) (by exact X) hb2); (have R2 := Row.below (w := wr.drew) (by exact R) hb2); (have H2 := Hv.below (w := wr.drew) (by exact H) hb2); (have B2 := (Below.drew B).trans (hb2.mono (Below.drew B).size)); (obtain ⟨cY0, cY1, cY2, cY3, _⟩ := X2.cells); (have RC2 := Row.below (w := wr.drew) (by exact RC) hb2); (have hcy2 := (World.cell?_of_block (a := ⟨g, k, none⟩) (hb2.block g (by exact gl.2))).trans hcy)) | (go_at_call 79; (with_reducible refine (I _ RC2).mono ?_); rintro e w3 ⟨⟨j, rfl⟩, nq, rfl⟩; (have dZ0 := cellDN cY0 nq); (have dZ1 := cellDN cY1 nq); (have dZ2 := cellDN cY2 nq); (have dZ3 := cellDN cY3 nq); (have dZ4 := cellDN hcy2 nq)))
              go_wp2_with fail
              go_ret
              exact ⟨ret_bool hf.out.symm, below_drewN B2 _⟩
            · have hfr' := Lib.hid (free_take hy.out hfy hfr.out)
              have hnd' := Lib.hid (nodup_take hy.out hm hnd.out)
              have I := fun W h9 => l4At_not W lo (some ⟨g, 0, none⟩) k c3 (C.c.take k) h9 (l := by unfold Hid; rw [List.length_take, l3.out]; omega) (by omega) y hm
              clear hfy hy hfr hnd hm
              go_wp2_with fail
              go_region_held3 (fun w' => w'.cell? ⟨w.heap.size, 0, none⟩ = some (.slice A0 n0 c0) ∧ w'.cell? ⟨w.heap.size, 1, none⟩ = some (.slice A1 n1 c1) ∧ w'.cell? ⟨w.heap.size, 2, none⟩ = some (.slice A2 n2 c2) ∧ w'.cell? ⟨w.heap.size, 3, none⟩ = some (.slice (some ⟨g, 0, none⟩) n3 c3) ∧ w'.cell? ⟨g, k, none⟩ = some (.int .i64 y))
                (((try dsimp only); (repeat' apply And.intro) <;> (with_reducible (first | exact cellD cX0 | exact cellD cX1 | exact cellD cX2 | exact cellD cX3 | exact cellD hcy | exact cY0 | exact cY1 | exact cY2 | exact cY3 | exact hcy2 | exact dZ0 | exact dZ1 | exact dZ2 | exact dZ3 | exact dZ4))))
                (first | (go_at_call 84; (with_reducible refine (F _ (Hv.drew H)).mono ?_); rintro e w2 ⟨rfl, hb2⟩; (have X2 := Blk4.below (w := wr.drew) (by exact X) hb2); (have R2 := Row.below (w := wr.drew) (by exact R) hb2); (have H2 := Hv.below (w := wr.drew) (by exact H) hb2); (have B2 := (Below.drew B).trans (hb2.mono (Below.drew B).size)); (obtain ⟨cY0, cY1, cY2, cY3, _⟩ := X2.cells); (have RC2 := Row.below (w := wr.drew) (by exact RC) hb2); (have hcy2 := (World.cell?_of_block (a := ⟨g, k, none⟩) (hb2.block g (by exact gl.2))).trans hcy)) | (go_at_call 79; (with_reducible refine (I _ RC2).mono ?_); rintro e w3 ⟨rfl, nq, rfl⟩; (have dZ0 := cellDN cY0 nq); (have dZ1 := cellDN cY1 nq); (have dZ2 := cellDN cY2 nq); (have dZ3 := cellDN cY3 nq); (have dZ4 := cellDN hcy2 nq)))
              go_wp2_with fail
              go_roundw
              case rel => exact ⟨k + 1, by omega, by go_num, hfr', hnd', by exact X2, by exact R2, by exact H2, below_drewN B2 _⟩
              case measure => simp [intOf]; omega
        · obtain rfl : k = n3 := by omega
          have hfull : C.c.take k = C.c := List.take_of_length_le (by rw [l3.out]; exact Nat.le_refl _)
          have hf : Hid (stoB C = true) := by
            have h1 := hfr.out; have h2 := hnd.out
            rw [hfull] at h1 h2
            exact hgood h1 h2
          obtain ⟨x0, x1, x2, x3, _⟩ := X.cells
          clear hfr hnd hfull hgood
          go_wp2_with fail
          go_ret
          exact ⟨ret_bool hf.out.symm, B⟩
end Go.Proofs.Yteogflkahoanlaa

/- StoreSame and l4Copy of spec. -/
namespace Go.Proofs.Yteogflkahoanlaa
open Go.RowKit

set_option maxHeartbeats 1000000 in
theorem specStoreSame_any (w : World) (lo lo' : Nat) (v v' : Value) (C D : Cp) (hv : Cv w lo v C) (hv' : Cv w lo' v' D) : Calls Try.prog 70 #[v, v'] w (RetB w (sameC C D)) := by
  obtain ⟨A0, n0, c0, A1, n1, c1, A2, n2, c2, A3, n3, c3, rfl, hh, ⟨r0, r1, r2, r3⟩, ⟨l0, l1, l2, l3⟩, ⟨m0, m1, m2, m3⟩, _⟩ := hv.open_
  obtain ⟨A0', n0', c0', A1', n1', c1', A2', n2', c2', A3', n3', c3', rfl, hh', ⟨r0', r1', r2', r3'⟩, ⟨l0', l1', l2', l3'⟩, ⟨m0', m1', m2', m3'⟩, _⟩ := hv'.open_
  have X0 := (Blk4.new w (.slice A0 n0 c0) (.slice A1 n1 c1) (.slice A2 n2 c2) (.slice A3 n3 c3) 27).alloc (.cells #[.slice A0' n0' c0', .slice A1' n1' c1', .slice A2' n2' c2', .slice A3' n3' c3'] 27)
  have X1 := Blk4.new_at (w := w.alloc (.cells #[.slice A0 n0 c0, .slice A1 n1 c1, .slice A2 n2 c2, .slice A3 n3 c3] 27)) (b := w.heap.size + 1) (by simp) (.slice A0' n0' c0') (.slice A1' n1' c1') (.slice A2' n2' c2') (.slice A3' n3' c3') 27
  have H0 := (hh.alloc (.cells #[.slice A0 n0 c0, .slice A1 n1 c1, .slice A2 n2 c2, .slice A3 n3 c3] 27)).alloc (.cells #[.slice A0' n0' c0', .slice A1' n1' c1', .slice A2' n2' c2', .slice A3' n3' c3'] 27)
  have H1 := (hh'.alloc (.cells #[.slice A0 n0 c0, .slice A1 n1 c1, .slice A2 n2 c2, .slice A3 n3 c3] 27)).alloc (.cells #[.slice A0' n0' c0', .slice A1' n1' c1', .slice A2' n2' c2', .slice A3' n3' c3'] 27)
  have R3 := (r3.alloc (.cells #[.slice A0 n0 c0, .slice A1 n1 c1, .slice A2 n2 c2, .slice A3 n3 c3] 27)).alloc (.cells #[.slice A0' n0' c0', .slice A1' n1' c1', .slice A2' n2' c2', .slice A3' n3' c3'] 27)
  have R3' := (r3'.alloc (.cells #[.slice A0 n0 c0, .slice A1 n1 c1, .slice A2 n2 c2, .slice A3 n3 c3] 27)).alloc (.cells #[.slice A0' n0' c0', .slice A1' n1' c1', .slice A2' n2' c2', .slice A3' n3' c3'] 27)
  have S := specHeapSame_any _ _ _ _ _ _ _ H0 H1
  have fin : Below w.heap.size w ((w.alloc (.cells #[.slice A0 n0 c0, .slice A1 n1 c1, .slice A2 n2 c2, .slice A3 n3 c3] 27)).alloc (.cells #[.slice A0' n0' c0', .slice A1' n1' c1', .slice A2' n2' c2', .slice A3' n3' c3'] 27)) := ((Below.refl _ _).alloc (Nat.le_refl _) _).alloc (by simp) _
  rcases ev : sameB C.h D.h
  · have hf : Hid (sameC C D = false) := by unfold Hid sameC; rw [ev]; rfl
    rw [ev] at S
    clear ev
    go_enter Try.func70, Try.ntmps70
    go_wp2_with fail
    refine S.mono ?_; rintro e w1 ⟨rfl, hb1⟩
    go_wp2_with fail
    go_ret
    exact ⟨ret_bool hf.out.symm, fin.trans (hb1.mono fin.size)⟩
  · have hf : Hid (sameC C D = decide (C.c = D.c)) := by unfold Hid sameC; rw [ev]; simp
    rw [ev] at S
    clear ev
    go_enter Try.func70, Try.ntmps70
    go_wp2_with fail
    refine S.mono ?_; rintro e w1 ⟨rfl, hb1⟩
    obtain ⟨x0, x1, x2, x3, _⟩ := (Blk4.below (by exact X0) hb1).cells
    obtain ⟨y0, y1, y2, y3, _⟩ := (Blk4.below (by exact X1) hb1).cells
    have I := l1Ints_any w1 lo lo' _ _ _ _ _ _ _ _ (Row.below (by exact R3) hb1) l3.out m3 (Row.below (by exact R3') hb1) l3'.out m3'
    have B1 := fin.trans (hb1.mono fin.size)
    clear S X0 X1 H0 H1 R3 R3' hb1 fin
    go_wp2_with fail
    refine I.mono ?_; rintro e w2 ⟨rfl, nq, rfl⟩
    go_wp2_with fail
    go_ret
    exact ⟨ret_bool hf.out.symm, below_drewN B1 _⟩

/-- append of nothing, as one step of a region that draws. -/
theorem step_append_zero {P : Program} {ops : Array Oper} {o : Oper} {a : Act} {w : World} {K : Act → World → Prop} {Q : Exit → Act → World → Prop} {E : Prop}
    (hg : o.guard = none) (s x : Operand) (t : TypeId) (hop : o.op = Op.call { callee := Callee.builtin Builtin.append, args := #[s, x], argTypes := #[t, t] })
    (e : TypeId) (i : TypeInfo) (h1 : P.underlying t = some (.slice e)) (h2 : P.info? e = some i)
    (base : Option Addr) (n cap : Nat) (hs : a.eval s = .slice base n cap) (hle : n ≤ cap) (ax : Option Addr) (cx : Nat) (hx : a.eval x = .slice ax 0 cx)
    (hK : K (a.put o.dst (.slice base n cap)) w) :
    if Region.wanted o (yielded ops a.tmps) = true then Oper.wp P o a w K Q else E := by
  have hw : Region.wanted o (yielded ops a.tmps) = true := by simp [Region.wanted, hg]
  rw [if_pos hw]
  have hrun : (Builtin.append_ #[t, t] o.type #[.slice base n cap, .slice ax 0 cx]).run P w = .ok (.slice base n cap) w := by
    refine run_append_nothing w t t o.type e i h1 h2 base n cap hle _ ?_
    cases ax with
    | none => exact Src.ofNil w h1 cx
    | some ad => exact Src.ofSlice w h1 ad 0 cx [] (by simp) (fun j u hj => by simp at hj) (fun u hu => by simp at hu)
  unfold Oper.wp
  simp [execOp, hop, resolve, invoke, builtin, hs, hx, hrun, Result.andThen]
  exact hK
theorem Row.empty (w : World) (lo : Nat) (hlo : lo ≤ w.heap.size) : Row (w.alloc (.cells #[] 3)) lo (.slice (some ⟨w.heap.size, 0, none⟩) 0 0) [] := by
  unfold Row
  exact ⟨rfl, .inr ⟨w.heap.size, 0, #[], rfl, hlo, heap_alloc_new w _, Nat.le_refl _, by unfold maxLen; omega, rfl, rfl⟩⟩

set_option maxRecDepth 100000 in
set_option maxHeartbeats 3200000 in
theorem l4CopyP_any (w : World) (lo : Nat) (v : Value) (C : Cp) (hv : Cv w lo v C) (hC : stoB C = true) (hpos : 0 < C.c.length) :
    Calls Try.prog 61 #[v] w (NewCv w C) := by
  obtain ⟨A0, n0, c0, A1, n1, c1, A2, n2, c2, A3, n3, c3, rfl, hh, ⟨r0, r1, r2, r3⟩, ⟨l0, l1, l2, l3⟩, _, _⟩ := hv.open_
  obtain ⟨hvh, hlen, _, _⟩ := stoB_parts hC
  obtain ⟨e1, e2, e3, e4, e5⟩ := hvB_len hvh
  obtain ⟨g3, rfl, _, _⟩ := r3.at_ (k := 0) (by omega)
  have y3 : n3 = C.c.length := l3.out.symm
  obtain ⟨i0, hi, hz0, hz1, hz2⟩ := info_parts Try.infoInt
  have E3 : (C.c.map iv).length = n3 * 1 := by simp; omega
  have M3 : 0 + n3 ≤ maxLen := by unfold maxLen; omega
  have u3a : 0 < n3 := by omega
  have u3b : n3 ≤ 1048576 := by omega
  have L3 : Hid (0 + n3 = C.c.length) := by unfold Hid; omega
  have z0 : 0 < C.h.l.length := by omega
  have z1 : 0 < C.h.r.length := by omega
  have z2 : 0 < C.h.t.length := by omega
  have b0 : C.h.l.length ≤ 1048576 := by omega
  have b1 : C.h.r.length ≤ 1048576 := by omega
  have b2 : C.h.t.length ≤ 1048576 := by omega
  clear hv y3 hC hvh hlen e1 e2 e3 e4 e5 r0 r1 r2 l0 l1 l2 l3
  have P := Blk4.new w (.slice A0 n0 c0) (.slice A1 n1 c1) (.slice A2 n2 c2) (.slice (some ⟨g3, 0, none⟩) n3 c3) 27
  have X := P.alloc (.cells #[.slice none 0 0, .slice none 0 0, .slice none 0 0, .slice none 0 0] 27)
  have Y := Blk4.new_at (w := w.alloc (.cells #[.slice A0 n0 c0, .slice A1 n1 c1, .slice A2 n2 c2, .slice (some ⟨g3, 0, none⟩) n3 c3] 27)) (b := w.heap.size + 1) (by simp) (.slice none 0 0) (.slice none 0 0) (.slice none 0 0) (.slice none 0 0) 27
  have R3 := (r3.alloc (.cells #[.slice A0 n0 c0, .slice A1 n1 c1, .slice A2 n2 c2, .slice (some ⟨g3, 0, none⟩) n3 c3] 27)).alloc (.cells #[.slice none 0 0, .slice none 0 0, .slice none 0 0, .slice none 0 0] 27)
  have HH := (hh.alloc (.cells #[.slice A0 n0 c0, .slice A1 n1 c1, .slice A2 n2 c2, .slice (some ⟨g3, 0, none⟩) n3 c3] 27)).alloc (.cells #[.slice none 0 0, .slice none 0 0, .slice none 0 0, .slice none 0 0] 27)
  have BB : Below w.heap.size w ((w.alloc (.cells #[.slice A0 n0 c0, .slice A1 n1 c1, .slice A2 n2 c2, .slice (some ⟨g3, 0, none⟩) n3 c3] 27)).alloc (.cells #[.slice none 0 0, .slice none 0 0, .slice none 0 0, .slice none 0 0] 27)) := ((Below.refl _ _).alloc (Nat.le_refl _) _).alloc (by simp) _
  have sz : ((w.alloc (.cells #[.slice A0 n0 c0, .slice A1 n1 c1, .slice A2 n2 c2, .slice (some ⟨g3, 0, none⟩) n3 c3] 27)).alloc (.cells #[.slice none 0 0, .slice none 0 0, .slice none 0 0, .slice none 0 0] 27)).heap.size = w.heap.size + 2 := by simp
  go_enter Try.func61, Try.ntmps61
  go_wp2_with fail
  generalize (w.alloc (.cells #[.slice A0 n0 c0, .slice A1 n1 c1, .slice A2 n2 c2, .slice (some ⟨g3, 0, none⟩) n3 c3] 27)).alloc (.cells #[.slice none 0 0, .slice none 0 0, .slice none 0 0, .slice none 0 0] 27) = W at X Y R3 HH BB sz ⊢
  obtain ⟨x0, x1, x2, x3, _⟩ := X.cells
  have hnb : w.heap.size + 1 ≠ w.heap.size := by omega
  have sD : (W.alloc (.cells #[] 3)).drew.heap.size = W.heap.size + 1 := by show (W.alloc (.cells #[] 3)).heap.size = _; simp
  go_region_held3 (fun w' => w'.cell? ⟨w.heap.size, 0, none⟩ = some (.slice A0 n0 c0) ∧ w'.cell? ⟨w.heap.size, 1, none⟩ = some (.slice A1 n1 c1) ∧ w'.cell? ⟨w.heap.size, 2, none⟩ = some (.slice A2 n2 c2) ∧ w'.cell? ⟨w.heap.size, 3, none⟩ = some (.slice (some ⟨g3, 0, none⟩) n3 c3))
    (((try dsimp only); (repeat' apply And.intro) <;> (with_reducible (first | exact cellF4 s0 hnb _ _ _ _ | exact cellF4 s1 hnb _ _ _ _ | exact cellF4 s2 hnb _ _ _ _ | exact cellF4 s3 hnb _ _ _ _ | exact s0 | exact s1 | exact s2 | exact s3 | exact cellA s0 _ | exact cellA s1 _ | exact cellA s2 _ | exact cellA s3 _ | exact p0 | exact p1 | exact p2 | exact p3 | exact cellA p0 _ | exact cellA p1 _ | exact cellA p2 _ | exact cellA p3 _ | exact x0 | exact x1 | exact x2 | exact x3 | exact cellD x0 | exact cellD x1 | exact cellD x2 | exact cellD x3 | exact cellA x0 _ | exact cellA x1 _ | exact cellA x2 _ | exact cellA x3 _ | exact cellD (cellA x0 _) | exact cellD (cellA x1 _) | exact cellD (cellA x2 _) | exact cellD (cellA x3 _) | exact cellA (cellD x0) _ | exact cellA (cellD x1) _ | exact cellA (cellD x2) _ | exact cellA (cellD x3) _)) <;> done))
    (first
      | (go_at_call 85; (with_reducible refine (l1Copy_any W.drew lo _ C.h HH.drew z0 z1 z2 b0 b1 b2).mono ?_); rintro e w1 ⟨vv, rfl, HN0, hb0⟩; have HN : Hv w1 W.heap.size vv C.h := HN0; have hb1 : Below W.heap.size W w1 := (Below.refl W.heap.size W).drew.trans (hb0.mono (Nat.le_refl _)); (obtain ⟨p0, p1, p2, p3, _⟩ := (X.below hb1).cells); (have hNo := HN); (obtain ⟨B0, m0, d0, B1, m1, d1, B2, m2, d2, rfl, _⟩ := hNo.open_))
      | (go_at_call 85; (with_reducible refine (l1Copy_any (W.alloc (.cells #[] 3)).drew lo _ C.h (HH.alloc _).drew z0 z1 z2 b0 b1 b2).mono ?_); rintro e w1 ⟨vv, rfl, HN0, hb0⟩; have HN : Hv w1 W.heap.size vv C.h := HN0.mono (by rw [sD]; omega); have hb1 : Below W.heap.size W w1 := (((Below.refl W.heap.size W).alloc (Nat.le_refl _) (.cells #[] 3)).drew).trans (hb0.mono (by rw [sD]; omega)); (obtain ⟨p0, p1, p2, p3, _⟩ := (X.below hb1).cells); (have hNo := HN); (obtain ⟨B0, m0, d0, B1, m1, d1, B2, m2, d2, rfl, _⟩ := hNo.open_))
      | (refine step_append_grows rfl (.tmp 6) (.tmp 8) 23 rfl 3 i0 (.int .i64 0) 1 8 Try.underlying23 hi hz0 hz1 hz2 rfl (by decide) _ 0 0 [] (by rfl) (fun _ => ⟨rfl, rfl⟩) rfl (fun _ _ j u hj => nil_get hj) ⟨g3, 0, none⟩ n3 c3 (C.c.map iv) (by rfl) E3 ?_ (ints_oneCell _ _) (by omega) (by omega) (by omega) ?_; (exact Row.cellsV (lo := lo) (n := n3) (c := c3) (xs := C.c) (by repeat (with_reducible (first | refine Row.drew ?_ | refine Row.alloc ?_ _ | refine Row.below ?_ hb1 | exact R3)))); intro vr w2 hown hgr; obtain ⟨A3', c3', rfl, hr, hb2⟩ := after_append (xs := C.c) hown hgr L3.out; have X2 : Blk4 w2 w.heap.size (.slice A0 n0 c0) (.slice A1 n1 c1) (.slice A2 n2 c2) (.slice (some ⟨g3, 0, none⟩) n3 c3) 27 := (by repeat (with_reducible (first | exact X | refine Blk4.alloc ?_ _ | refine Blk4.below ?_ hb2 | refine Blk4.below ?_ hb1))); obtain ⟨s0, s1, s2, s3, _⟩ := X2.cells; have Y2 : Blk4 w2 (w.heap.size + 1) (.slice none 0 0) (.slice none 0 0) (.slice none 0 0) (.slice none 0 0) 27 := (by repeat (with_reducible (first | exact Y | refine Blk4.alloc ?_ _ | refine Blk4.below ?_ hb2 | refine Blk4.below ?_ hb1))); obtain ⟨q0, q1, q2, q3, k0, k1, k2, k3⟩ := Y2.cells))
  all_goals
    rename_i hHeld
    clear hHeld
    have s1 := hb1.size
    have HN2 : Hv w2 W.heap.size (.agg #[.slice B0 m0 d0, .slice B1 m1 d1, .slice B2 m2 d2]) C.h := by repeat (with_reducible (first | exact HN | refine Hv.alloc ?_ _ | refine Hv.below ?_ hb2))
    have B2' : Below W.heap.size W w2 := Below.trans (by repeat (with_reducible (first | exact hb1 | refine Below.alloc ?_ (by first | omega | (simp <;> omega)) _))) (hb2.mono (by first | omega | (simp <;> omega)))
    have hr' : Row w2 (w.heap.size + 2) (.slice A3' C.c.length c3') C.c := hr.mono (by first | omega | (simp <;> omega))
    have ap : ∀ (v : Value) (xs : List Int), Row w1 W.heap.size v xs → Apart v (.slice A3' C.c.length c3') := fun v xs r j e e' => by
      have h1 := (r.lt j e).2
      have h2 := (hr.lt j e').1
      (try simp at h2)
      omega
    obtain ⟨_, _, _, ev, H0, H1, H2, _⟩ := HN
    cases ev
    obtain ⟨hH, hB⟩ := copyC_done (w := w) (C := C) (HN2.mono (by omega)) hr' ⟨ap _ _ H0, ap _ _ H1, ap _ _ H2⟩ (BB.trans (B2'.mono (by omega)))
    clear s0 s1 s2 s3 p0 p1 p2 p3 x0 x1 x2 x3
    go_wp2_with fail
    refine bodyPost_ret (v := .agg #[.slice B0 m0 d0, .slice B1 m1 d1, .slice B2 m2 d2, .slice A3' C.c.length c3']) ?_ rfl ⟨_, rfl, hH, hB⟩
    simp [results, Try.results61, go_sem, q0, q1, q2, q3]

set_option maxRecDepth 100000 in
set_option maxHeartbeats 3200000 in
theorem l4CopyE_any (w : World) (lo : Nat) (v : Value) (C : Cp) (hv : Cv w lo v C) (hC : stoB C = true) (hnil : C.c.length = 0) :
    Calls Try.prog 61 #[v] w (NewCv w C) := by
  obtain ⟨A0, n0, c0, A1, n1, c1, A2, n2, c2, A3, n3, c3, rfl, hh, ⟨r0, r1, r2, r3⟩, ⟨l0, l1, l2, l3⟩, _, _⟩ := hv.open_
  obtain ⟨hvh, hlen, _, _⟩ := stoB_parts hC
  obtain ⟨e1, e2, e3, e4, e5⟩ := hvB_len hvh
  have hc0 : C.c = [] := List.eq_nil_of_length_eq_zero hnil
  obtain rfl : n3 = 0 := by rw [← l3.out]; exact hnil
  obtain ⟨i0, hi, hz0, hz1, hz2⟩ := info_parts Try.infoInt
  have z0 : 0 < C.h.l.length := by omega
  have z1 : 0 < C.h.r.length := by omega
  have z2 : 0 < C.h.t.length := by omega
  have b0 : C.h.l.length ≤ 1048576 := by omega
  have b1 : C.h.r.length ≤ 1048576 := by omega
  have b2 : C.h.t.length ≤ 1048576 := by omega
  clear hv hC hvh hlen e1 e2 e3 e4 e5 r0 r1 r2 l0 l1 l2 l3
  have P := Blk4.new w (.slice A0 n0 c0) (.slice A1 n1 c1) (.slice A2 n2 c2) (.slice A3 0 c3) 27
  have X := P.alloc (.cells #[.slice none 0 0, .slice none 0 0, .slice none 0 0, .slice none 0 0] 27)
  have Y := Blk4.new_at (w := w.alloc (.cells #[.slice A0 n0 c0, .slice A1 n1 c1, .slice A2 n2 c2, .slice A3 0 c3] 27)) (b := w.heap.size + 1) (by simp) (.slice none 0 0) (.slice none 0 0) (.slice none 0 0) (.slice none 0 0) 27
  have R3 := (r3.alloc (.cells #[.slice A0 n0 c0, .slice A1 n1 c1, .slice A2 n2 c2, .slice A3 0 c3] 27)).alloc (.cells #[.slice none 0 0, .slice none 0 0, .slice none 0 0, .slice none 0 0] 27)
  have HH := (hh.alloc (.cells #[.slice A0 n0 c0, .slice A1 n1 c1, .slice A2 n2 c2, .slice A3 0 c3] 27)).alloc (.cells #[.slice none 0 0, .slice none 0 0, .slice none 0 0, .slice none 0 0] 27)
  have BB : Below w.heap.size w ((w.alloc (.cells #[.slice A0 n0 c0, .slice A1 n1 c1, .slice A2 n2 c2, .slice A3 0 c3] 27)).alloc (.cells #[.slice none 0 0, .slice none 0 0, .slice none 0 0, .slice none 0 0] 27)) := ((Below.refl _ _).alloc (Nat.le_refl _) _).alloc (by simp) _
  have sz : ((w.alloc (.cells #[.slice A0 n0 c0, .slice A1 n1 c1, .slice A2 n2 c2, .slice A3 0 c3] 27)).alloc (.cells #[.slice none 0 0, .slice none 0 0, .slice none 0 0, .slice none 0 0] 27)).heap.size = w.heap.size + 2 := by simp
  go_enter Try.func61, Try.ntmps61
  go_wp2_with fail
  generalize (w.alloc (.cells #[.slice A0 n0 c0, .slice A1 n1 c1, .slice A2 n2 c2, .slice A3 0 c3] 27)).alloc (.cells #[.slice none 0 0, .slice none 0 0, .slice none 0 0, .slice none 0 0] 27) = W at X Y R3 HH BB sz ⊢
  obtain ⟨x0, x1, x2, x3, _⟩ := X.cells
  have hnb : w.heap.size + 1 ≠ w.heap.size := by omega
  have sD : (W.alloc (.cells #[] 3)).drew.heap.size = W.heap.size + 1 := by show (W.alloc (.cells #[] 3)).heap.size = _; simp
  go_region_held3 (fun w' => w'.cell? ⟨w.heap.size, 0, none⟩ = some (.slice A0 n0 c0) ∧ w'.cell? ⟨w.heap.size, 1, none⟩ = some (.slice A1 n1 c1) ∧ w'.cell? ⟨w.heap.size, 2, none⟩ = some (.slice A2 n2 c2) ∧ w'.cell? ⟨w.heap.size, 3, none⟩ = some (.slice A3 0 c3))
    (((try dsimp only); (repeat' apply And.intro) <;> (with_reducible (first | exact cellF4 p0 hnb _ _ _ _ | exact cellF4 p1 hnb _ _ _ _ | exact cellF4 p2 hnb _ _ _ _ | exact cellF4 p3 hnb _ _ _ _ | exact cellF4 (cellA p0 _) hnb _ _ _ _ | exact cellF4 (cellA p1 _) hnb _ _ _ _ | exact cellF4 (cellA p2 _) hnb _ _ _ _ | exact cellF4 (cellA p3 _) hnb _ _ _ _ | exact cellF4 s0 hnb _ _ _ _ | exact cellF4 s1 hnb _ _ _ _ | exact cellF4 s2 hnb _ _ _ _ | exact cellF4 s3 hnb _ _ _ _ | exact s0 | exact s1 | exact s2 | exact s3 | exact cellA s0 _ | exact cellA s1 _ | exact cellA s2 _ | exact cellA s3 _ | exact p0 | exact p1 | exact p2 | exact p3 | exact cellA p0 _ | exact cellA p1 _ | exact cellA p2 _ | exact cellA p3 _ | exact x0 | exact x1 | exact x2 | exact x3 | exact cellD x0 | exact cellD x1 | exact cellD x2 | exact cellD x3 | exact cellA x0 _ | exact cellA x1 _ | exact cellA x2 _ | exact cellA x3 _ | exact cellD (cellA x0 _) | exact cellD (cellA x1 _) | exact cellD (cellA x2 _) | exact cellD (cellA x3 _) | exact cellA (cellD x0) _ | exact cellA (cellD x1) _ | exact cellA (cellD x2) _ | exact cellA (cellD x3) _)) <;> done))
    (first
      | (go_at_call 85; (with_reducible refine (l1Copy_any W.drew lo _ C.h HH.drew z0 z1 z2 b0 b1 b2).mono ?_); rintro e w1 ⟨vv, rfl, HN0, hb0⟩; have HN : Hv w1 W.heap.size vv C.h := HN0; have hb1 : Below W.heap.size W w1 := (Below.refl W.heap.size W).drew.trans (hb0.mono (Nat.le_refl _)); (obtain ⟨p0, p1, p2, p3, _⟩ := (X.below hb1).cells); (have hNo := HN); (obtain ⟨B0, m0, d0, B1, m1, d1, B2, m2, d2, rfl, _⟩ := hNo.open_))
      | (go_at_call 85; (with_reducible refine (l1Copy_any (W.alloc (.cells #[] 3)).drew lo _ C.h (HH.alloc _).drew z0 z1 z2 b0 b1 b2).mono ?_); rintro e w1 ⟨vv, rfl, HN0, hb0⟩; have HN : Hv w1 W.heap.size vv C.h := HN0.mono (by rw [sD]; omega); have hb1 : Below W.heap.size W w1 := (((Below.refl W.heap.size W).alloc (Nat.le_refl _) (.cells #[] 3)).drew).trans (hb0.mono (by rw [sD]; omega)); (obtain ⟨p0, p1, p2, p3, _⟩ := (X.below hb1).cells); (have hNo := HN); (obtain ⟨B0, m0, d0, B1, m1, d1, B2, m2, d2, rfl, _⟩ := hNo.open_))
      | (refine step_append_zero rfl (.tmp 6) (.tmp 8) 23 rfl 3 i0 Try.underlying23 hi _ 0 0 (by rfl) (Nat.le_refl _) A3 c3 (by rfl) ?_; obtain ⟨q0, q1, q2, q3, k0, k1, k2, k3⟩ := (Y.below hb1).cells; obtain ⟨q0', q1', q2', q3', k0', k1', k2', k3'⟩ := ((Y.below hb1).alloc (.cells #[] 3)).cells))
  · rename_i hHeld
    clear hHeld
    have s1 := hb1.size
    have RM := Row.empty w1 (w.heap.size + 2) (by omega)
    have HN2 : Hv (w1.alloc (.cells #[] 3)) W.heap.size (.agg #[.slice B0 m0 d0, .slice B1 m1 d1, .slice B2 m2 d2]) C.h := HN.alloc _
    have ap : ∀ (v : Value) (xs : List Int), Row w1 W.heap.size v xs → Apart v (.slice (some ⟨w1.heap.size, 0, none⟩) 0 0) := fun v xs r j e e' => by
      have h1 := (r.lt j e).2
      have h2 := Option.some.inj e'
      simp at h2
      omega
    obtain ⟨_, _, _, ev, H0, H1, H2, _⟩ := HN
    cases ev
    obtain ⟨hH, hB⟩ := copyC_done (w := w) (C := C) (HN2.mono (by omega)) (by rw [hc0]; exact RM) ⟨ap _ _ H0, ap _ _ H1, ap _ _ H2⟩ ((BB.trans (hb1.mono (by omega))).alloc (by omega) _)
    clear p0 p1 p2 p3 x0 x1 x2 x3
    go_wp2_with fail
    refine bodyPost_ret (v := .agg #[.slice B0 m0 d0, .slice B1 m1 d1, .slice B2 m2 d2, .slice (some ⟨w1.heap.size, 0, none⟩) 0 0]) ?_ rfl ⟨_, rfl, hH, hB⟩
    simp [results, Try.results61, go_sem, q0', q1', q2', q3']
  · rename_i hHeld
    clear hHeld
    have s1 := hb1.size
    have RM : Row w1 (w.heap.size + 2) (.slice (some ⟨w.heap.size + 2, 0, none⟩) 0 0) [] := by
      have h9 := ((Row.empty W (w.heap.size + 2) (by omega)).drew).below hb0
      rw [sz] at h9; exact h9
    have ap : ∀ (v : Value) (xs : List Int), Row w1 (W.alloc (.cells #[] 3)).drew.heap.size v xs → Apart v (.slice (some ⟨w.heap.size + 2, 0, none⟩) 0 0) := fun v xs r j e e' => by
      have h1 := (r.lt j e).1
      rw [sD] at h1
      have h2 := Option.some.inj e'
      simp at h2
      omega
    obtain ⟨_, _, _, evv, H0, H1, H2, _⟩ := HN0
    cases evv
    obtain ⟨hH, hB⟩ := copyC_done (w := w) (C := C) (HN.mono (by omega)) (by rw [hc0]; exact RM) ⟨ap _ _ H0, ap _ _ H1, ap _ _ H2⟩ (BB.trans (hb1.mono (by omega)))
    clear p0 p1 p2 p3 x0 x1 x2 x3
    go_wp2_with fail
    refine bodyPost_ret (v := .agg #[.slice B0 m0 d0, .slice B1 m1 d1, .slice B2 m2 d2, .slice (some ⟨w.heap.size + 2, 0, none⟩) 0 0]) ?_ rfl ⟨_, rfl, hH, hB⟩
    simp [results, Try.results61, go_sem, q0, q1, q2, q3]

theorem l4Copy_any (w : World) (lo : Nat) (v : Value) (C : Cp) (hv : Cv w lo v C) (hC : stoB C = true) :
    Calls Try.prog 61 #[v] w (NewCv w C) := by
  rcases Nat.eq_zero_or_pos C.c.length with h | h
  · exact l4CopyE_any w lo v C hv hC h
  · exact l4CopyP_any w lo v C hv hC h
end Go.Proofs.Yteogflkahoanlaa

/- IsFree of spec. -/
namespace Go.Proofs.Yteogflkahoanlaa
open Go.RowKit

def isFreeB (C : Cp) (x : Int) : Bool := stoB C && decide (x ∈ C.c)

end Go.Proofs.Yteogflkahoanlaa

