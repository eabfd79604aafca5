/- l3First, ColoredSame, CountColor, of spec. -/
import Derived.Test.YtmngkjcdaaladaaSCol
import Derived.Test.YtmngkjcdaaladaaSame
namespace Go.Proofs.Ytmngkjcdaaladaa
open Go.RowKit

theorem first_at {c : List Int} {x : Int} {k : Nat} (hk : c[k]? = some x) (hb : ∀ j, j < k → c[j]? ≠ some x) : firstOf c x = k := by
  obtain ⟨hlt, he⟩ := List.getElem?_eq_some_iff.1 hk
  have hm : x ∈ c := by rw [← he]; exact List.getElem_mem hlt
  unfold firstOf
  rw [if_pos hm]
  have h1 : c.idxOf x ≤ k := by
    rcases Nat.lt_or_ge k (c.idxOf x) with h9 | h9
    · exfalso
      have := List.not_of_lt_findIdx (p := (· == x)) (xs := c) (i := k) h9
      rw [he] at this; simp at this
    · exact h9
  rcases Nat.lt_or_ge (c.idxOf x) k with h9 | h9
  · exfalso
    refine hb _ h9 ?_
    rw [List.getElem?_eq_getElem (by omega), List.getElem_idxOf]
  · have : c.idxOf x = k := by omega
    rw [this]
theorem first_none {c : List Int} {x : Int} (hb : ∀ j, j < c.length → c[j]? ≠ some x) : firstOf c x = -1 := by
  unfold firstOf
  rw [if_neg]
  intro hm
  obtain ⟨j, hj, he⟩ := List.getElem_of_mem hm
  exact hb j hj (by rw [List.getElem?_eq_getElem hj, he])

set_option maxHeartbeats 1000000 in
theorem l3First_any (w : World) (lo : Nat) (v : Value) (C : Cp) (hv : Cv w lo v C) (x : Int) : Calls Try.prog 42 #[v, .int .i64 x] w fun e w' => e = .returned (.int .i64 (firstOf C.c x)) ∧ Below w.heap.size w w' := by
  obtain ⟨A0, n0, c0, A1, n1, c1, A2, n2, c2, A3, n3, c3, rfl, hh, ⟨r0, r1, r2, r3⟩, ⟨l0, l1, l2, l3⟩, ⟨m0, m1, m2, m3⟩, _⟩ := hv.open_
  have X0 := Blk4.new w (.slice A0 n0 c0) (.slice A1 n1 c1) (.slice A2 n2 c2) (.slice A3 n3 c3) 27
  have fin : Below w.heap.size w (w.alloc (.cells #[.slice A0 n0 c0, .slice A1 n1 c1, .slice A2 n2 c2, .slice A3 n3 c3] 27)) := (Below.refl _ _).alloc (Nat.le_refl _) _
  have R3 := r3.alloc (.cells #[.slice A0 n0 c0, .slice A1 n1 c1, .slice A2 n2 c2, .slice A3 n3 c3] 27)
  go_enter Try.func42, Try.ntmps42
  go_wp2_with fail
  generalize w.alloc (.cells #[.slice A0 n0 c0, .slice A1 n1 c1, .slice A2 n2 c2, .slice A3 n3 c3] 27) = W at X0 fin R3 ⊢
  obtain ⟨x0, x1, x2, x3, _⟩ := X0.cells
  go_loopw [5] (fun i wr => (∃ k : Nat, k ≤ n3 ∧ i = .int .i64 k ∧ Hid (∀ j, j < k → C.c[j]? ≠ some x)) ∧ ∃ nq, wr = W.drewN nq) (fun i _ => n3 - (intOf i).toNat)
  case atStart => exact ⟨⟨0, Nat.zero_le _, rfl, fun j hj => absurd hj (Nat.not_lt_zero _)⟩, 0, rfl⟩
  case round =>
    obtain ⟨⟨k, hk, rfl, ht⟩, nq, rfl⟩ := hrel
    by_cases hlt : k < n3
    · obtain ⟨g, y, rfl, _, _, hy, hcy, _⟩ := R3.get (k := k) (by rw [l3.out]; exact hlt)
      have hb : (k : Int) < (n3 : Int) := by omega
      by_cases hxy : y = x
      · subst hxy
        have hf := Lib.hid (first_at hy.out ht.out)
        clear hy ht
        go_wp2_with fail
        go_ret
        exact ⟨ret_int hf.out.symm, below_drewN fin _⟩
      · have hxy1 : (y == x) = false := by simp [hxy]
        have ht' : Hid (∀ j, j < k + 1 → C.c[j]? ≠ some x) := fun j hj => by
          rcases Nat.lt_succ_iff_lt_or_eq.1 hj with h9 | rfl
          · exact ht.out j h9
          · rw [hy.out]; intro e; exact hxy (by simpa using e)
        clear hy ht
        go_wp2_with fail
        go_roundw
        case rel => exact ⟨⟨k + 1, by omega, by go_num, ht'⟩, _, rfl⟩
        case measure => simp [intOf]; omega
    · obtain rfl : k = n3 := by omega
      have hf := Lib.hid (first_none (c := C.c) (x := x) (fun j hj => ht.out j (by rw [l3.out] at hj; exact hj)))
      clear ht
      go_wp2_with fail
      go_ret
      exact ⟨ret_int hf.out.symm, below_drewN fin _⟩

set_option maxHeartbeats 1000000 in
theorem specColoredSame_any (w : World) (lo lo' : Nat) (v v' : Value) (C D : Cp) (hv : Cv w lo v C) (hv' : Cv w lo' v' D) : Calls Try.prog 36 #[v, v'] w (RetB w (sameC C D)) := by
  obtain ⟨A0, n0, c0, A1, n1, c1, A2, n2, c2, A3, n3, c3, rfl, hh, ⟨r0, r1, r2, r3⟩, ⟨l0, l1, l2, l3⟩, ⟨m0, m1, m2, m3⟩, _⟩ := hv.open_
  obtain ⟨A0', n0', c0', A1', n1', c1', A2', n2', c2', A3', n3', c3', rfl, hh', ⟨r0', r1', r2', r3'⟩, ⟨l0', l1', l2', l3'⟩, ⟨m0', m1', m2', m3'⟩, _⟩ := hv'.open_
  have X0 := (Blk4.new w (.slice A0 n0 c0) (.slice A1 n1 c1) (.slice A2 n2 c2) (.slice A3 n3 c3) 27).alloc (.cells #[.slice A0' n0' c0', .slice A1' n1' c1', .slice A2' n2' c2', .slice A3' n3' c3'] 27)
  have X1 := Blk4.new_at (w := w.alloc (.cells #[.slice A0 n0 c0, .slice A1 n1 c1, .slice A2 n2 c2, .slice A3 n3 c3] 27)) (b := w.heap.size + 1) (by simp) (.slice A0' n0' c0') (.slice A1' n1' c1') (.slice A2' n2' c2') (.slice A3' n3' c3') 27
  have H0 := (hh.alloc (.cells #[.slice A0 n0 c0, .slice A1 n1 c1, .slice A2 n2 c2, .slice A3 n3 c3] 27)).alloc (.cells #[.slice A0' n0' c0', .slice A1' n1' c1', .slice A2' n2' c2', .slice A3' n3' c3'] 27)
  have H1 := (hh'.alloc (.cells #[.slice A0 n0 c0, .slice A1 n1 c1, .slice A2 n2 c2, .slice A3 n3 c3] 27)).alloc (.cells #[.slice A0' n0' c0', .slice A1' n1' c1', .slice A2' n2' c2', .slice A3' n3' c3'] 27)
  have R3 := (r3.alloc (.cells #[.slice A0 n0 c0, .slice A1 n1 c1, .slice A2 n2 c2, .slice A3 n3 c3] 27)).alloc (.cells #[.slice A0' n0' c0', .slice A1' n1' c1', .slice A2' n2' c2', .slice A3' n3' c3'] 27)
  have R3' := (r3'.alloc (.cells #[.slice A0 n0 c0, .slice A1 n1 c1, .slice A2 n2 c2, .slice A3 n3 c3] 27)).alloc (.cells #[.slice A0' n0' c0', .slice A1' n1' c1', .slice A2' n2' c2', .slice A3' n3' c3'] 27)
  have S := specHeapSame_any _ _ _ _ _ _ _ H0 H1
  have fin : Below w.heap.size w ((w.alloc (.cells #[.slice A0 n0 c0, .slice A1 n1 c1, .slice A2 n2 c2, .slice A3 n3 c3] 27)).alloc (.cells #[.slice A0' n0' c0', .slice A1' n1' c1', .slice A2' n2' c2', .slice A3' n3' c3'] 27)) := ((Below.refl _ _).alloc (Nat.le_refl _) _).alloc (by simp) _
  rcases ev : sameB C.h D.h
  · have hf : Hid (sameC C D = false) := by unfold Hid sameC; rw [ev]; rfl
    rw [ev] at S
    clear ev
    go_enter Try.func36, Try.ntmps36
    go_wp2_with fail
    refine S.mono ?_; rintro e w1 ⟨rfl, hb1⟩
    go_wp2_with fail
    go_ret
    exact ⟨ret_bool hf.out.symm, fin.trans (hb1.mono fin.size)⟩
  · have hf : Hid (sameC C D = decide (C.c = D.c)) := by unfold Hid sameC; rw [ev]; simp
    rw [ev] at S
    clear ev
    go_enter Try.func36, Try.ntmps36
    go_wp2_with fail
    refine S.mono ?_; rintro e w1 ⟨rfl, hb1⟩
    obtain ⟨x0, x1, x2, x3, _⟩ := (Blk4.below (by exact X0) hb1).cells
    obtain ⟨y0, y1, y2, y3, _⟩ := (Blk4.below (by exact X1) hb1).cells
    have I := l1Ints_any w1 lo lo' _ _ _ _ _ _ _ _ (Row.below (by exact R3) hb1) l3.out m3 (Row.below (by exact R3') hb1) l3'.out m3'
    have B1 := fin.trans (hb1.mono fin.size)
    clear S X0 X1 H0 H1 R3 R3' hb1 fin
    go_wp2_with fail
    refine I.mono ?_; rintro e w2 ⟨rfl, nq, rfl⟩
    go_wp2_with fail
    go_ret
    exact ⟨ret_bool hf.out.symm, below_drewN B1 _⟩
end Go.Proofs.Ytmngkjcdaaladaa
