import Derived.Test.YtfoimicbmkiigaaGreatCol
import Derived.Test.YtfoimicbmkiigaaGreatHeap2
import Derived.Test.YtfoimicbmkiigaaGreatHpB
/- ColoredValid and its like, of spec. -/
namespace Go.Proofs.YtfoimicbmkiigaaGreat
open Go.RowKit

set_option maxHeartbeats 1000000 in
theorem shade_any (w : World) (lo g n c : Nat) (xs : List Int) (h : Row w lo (.slice (some ⟨g, 0, none⟩) n c) xs) (hn : xs.length = n) (k : Int) (h1 : -1 ≤ k) (h2 : k < n) :
    Calls Tryz.prog 129 #[.slice (some ⟨g, 0, none⟩) n c, .int .i64 k] w fun e w' => e = .returned (.slice (some ⟨g, 0, none⟩) n c) ∧ Row w' lo (.slice (some ⟨g, 0, none⟩) n c) (shade xs k) ∧ OnlyB g w w' := by
  by_cases hk : k = -1
  · subst hk
    go_enter Tryz.func129, Tryz.ntmps129
    go_wp2_with fail
    go_ret
    exact ⟨rfl, by rw [shade_none]; exact h, World.grownBy.refl w _, rfl⟩
  · obtain ⟨j, rfl⟩ := Int.eq_ofNat_of_zero_le (by omega : 0 ≤ k)
    obtain ⟨g', x, e, _, _, hx, hc, hf⟩ := h.get (k := j) (by omega)
    cases e
    have hk2 : ((j : Int) == -1) = false := by simp
    by_cases hx0 : x = 0
    · subst hx0
      have R := h.set_ j 1
      have hs := Lib.hid (shade_white hx.out)
      have gr : OnlyB g w (w.setCell ⟨g, j, none⟩ (.int .i64 1)) := ⟨⟨rfl, rfl, rfl, by simp [World.setCell], fun b _ hne => Below.heap_setCell _ _ _ _ (fun e => hne (by rw [e]))⟩, by simp [World.setCell]⟩
      clear hx
      go_enter Tryz.func129, Tryz.ntmps129
      go_wp2_with fail
      go_ret
      exact ⟨rfl, by rw [hs.out]; exact R, gr⟩
    · have hx1 : (x == 0) = false := by simp [hx0]
      have hs := Lib.hid (shade_other hx.out hx0)
      clear hx
      go_enter Tryz.func129, Tryz.ntmps129
      go_wp2_with fail
      go_ret
      exact ⟨rfl, by rw [hs.out]; exact h, World.grownBy.refl w _, rfl⟩

set_option maxHeartbeats 1000000 in
theorem specColoredValid_any (w : World) (lo : Nat) (v : Value) (C : Cp) (hv : Cv w lo v C) : Calls Tryz.prog 123 #[v] w (RetB w (cvB C)) := by
  obtain ⟨A0, n0, c0, A1, n1, c1, A2, n2, c2, A3, n3, c3, rfl, hh, ⟨r0, r1, r2, r3⟩, ⟨l0, l1, l2, l3⟩, ⟨m0, m1, m2, m3⟩, _⟩ := hv.open_
  have X0 := Blk4.new w (.slice A0 n0 c0) (.slice A1 n1 c1) (.slice A2 n2 c2) (.slice A3 n3 c3) 156
  have V := specHeapValid_any _ _ _ _ (hh.alloc (.cells #[.slice A0 n0 c0, .slice A1 n1 c1, .slice A2 n2 c2, .slice A3 n3 c3] 156))
  have fin : Below w.heap.size w (w.alloc (.cells #[.slice A0 n0 c0, .slice A1 n1 c1, .slice A2 n2 c2, .slice A3 n3 c3] 156)) := (Below.refl _ _).alloc (Nat.le_refl _) _
  have hC : Hid (cvB C = (hvB C.h && decide (n3 = n0) && C.c.all colB)) := by unfold Hid cvB; rw [l0.out, l3.out]
  rcases ev : hvB C.h
  · have hf : Hid (cvB C = false) := by unfold Hid; rw [hC.out, ev]; rfl
    rw [ev] at V
    clear ev hC
    go_enter Tryz.func123, Tryz.ntmps123
    go_wp2_with fail
    refine V.mono ?_; rintro e w1 ⟨rfl, hb1⟩
    go_wp2_with fail
    go_ret
    exact ⟨ret_bool hf.out.symm, fin.trans (hb1.mono (by simp))⟩
  · rw [ev] at V
    by_cases hn : n3 = n0
    · subst hn
      have hC' : Hid (cvB C = C.c.all colB) := by unfold Hid; rw [hC.out, ev]; simp
      have hne : ((n3 : Int) != (n3 : Int)) = false := by simp
      clear ev hC
      go_enter Tryz.func123, Tryz.ntmps123
      go_wp2_with fail
      refine V.mono ?_; rintro e w1 ⟨rfl, hb1⟩
      have X1 := Blk4.below (by exact X0) hb1
      have B1 : Below w.heap.size w w1 := fin.trans (hb1.mono (by simp))
      have R3 := (r3.alloc (.cells #[.slice A0 n3 c0, .slice A1 n1 c1, .slice A2 n2 c2, .slice A3 n3 c3] 156)).below hb1
      obtain ⟨x0, x1, x2, x3, _⟩ := X1.cells
      clear V X0 fin
      go_wp2_with fail
      go_loopw [3] (fun i wr => (∃ k : Nat, k ≤ n3 ∧ i = .int .i64 k ∧ Hid (∀ x ∈ C.c.take k, 0 ≤ x ∧ x ≤ 2)) ∧ ∃ nq, wr = w1.drewN nq) (fun i _ => n3 - (intOf i).toNat)
      case atStart => exact ⟨⟨0, Nat.zero_le _, rfl, fun x hx => by simp at hx⟩, 0, rfl⟩
      case round =>
        obtain ⟨⟨k, hk, rfl, ht⟩, nq, rfl⟩ := hrel
        by_cases hlt : k < n3
        · obtain ⟨g, x, rfl, _, _, hx, hcx, _⟩ := R3.get (k := k) (by rw [l3.out]; exact hlt)
          have hb : (k : Int) < (n3 : Int) := by omega
          by_cases h0 : x < 0
          · have hf : Hid (C.c.all colB = false) := by
              unfold Hid
              rw [Bool.eq_false_iff]; intro h9; rw [List.all_eq_true] at h9
              have := h9 x (List.mem_of_getElem? hx.out); simp [colB] at this; omega
            clear hx ht
            go_wp2_with fail
            go_ret
            exact ⟨ret_bool (by rw [hC'.out, hf.out]), below_drewN B1 _⟩
          · by_cases h2 : 2 < x
            · have hf : Hid (C.c.all colB = false) := by
                unfold Hid
                rw [Bool.eq_false_iff]; intro h9; rw [List.all_eq_true] at h9
                have := h9 x (List.mem_of_getElem? hx.out); simp [colB] at this; omega
              clear hx ht
              go_wp2_with fail
              go_ret
              exact ⟨ret_bool (by rw [hC'.out, hf.out]), below_drewN B1 _⟩
            · have ht' : Hid (∀ x ∈ C.c.take (k + 1), 0 ≤ x ∧ x ≤ 2) := fun y hy => by
                rw [List.take_add_one, hx.out] at hy
                rcases List.mem_append.1 hy with h9 | h9
                · exact ht.out y h9
                · simp at h9; subst h9; omega
              clear hx ht
              go_wp2_with fail
              go_roundw
              case rel => exact ⟨⟨k + 1, by omega, by go_num, ht'⟩, _, rfl⟩
              case measure => simp [intOf]; omega
        · obtain rfl : k = n3 := by omega
          have hf : Hid (C.c.all colB = true) := by
            unfold Hid; rw [List.all_eq_true]; intro x hx
            have h9 := ht.out; rw [List.take_of_length_le (by rw [l3.out]; exact Nat.le_refl _)] at h9
            have := h9 x hx; simp [colB]; omega
          clear ht
          go_wp2_with fail
          go_ret
          exact ⟨ret_bool (by rw [hC'.out, hf.out]), below_drewN B1 _⟩
    · have hf : Hid (cvB C = false) := by unfold Hid; rw [hC.out, ev]; simp [hn]
      have hne : ((n3 : Int) != (n0 : Int)) = true := by simp; omega
      clear ev hC
      go_enter Tryz.func123, Tryz.ntmps123
      go_wp2_with fail
      refine V.mono ?_; rintro e w1 ⟨rfl, hb1⟩
      have X1 := Blk4.below (by exact X0) hb1
      obtain ⟨x0, x1, x2, x3, _⟩ := X1.cells
      go_wp2_with fail
      go_ret
      exact ⟨ret_bool hf.out.symm, fin.trans (hb1.mono (by simp))⟩
end Go.Proofs.YtfoimicbmkiigaaGreat

/- l3First, ColoredSame, CountColor, of spec. -/
namespace Go.Proofs.YtfoimicbmkiigaaGreat
open Go.RowKit

theorem first_at {c : List Int} {x : Int} {k : Nat} (hk : c[k]? = some x) (hb : ∀ j, j < k → c[j]? ≠ some x) : firstOf c x = k := by
  obtain ⟨hlt, he⟩ := List.getElem?_eq_some_iff.1 hk
  have hm : x ∈ c := by rw [← he]; exact List.getElem_mem hlt
  unfold firstOf
  rw [if_pos hm]
  have h1 : c.idxOf x ≤ k := by
    rcases Nat.lt_or_ge k (c.idxOf x) with h9 | h9
    · exfalso
      have := List.not_of_lt_findIdx (p := (· == x)) (xs := c) (i := k) h9
      rw [he] at this; simp at this
    · exact h9
  rcases Nat.lt_or_ge (c.idxOf x) k with h9 | h9
  · exfalso
    refine hb _ h9 ?_
    rw [List.getElem?_eq_getElem (by omega), List.getElem_idxOf]
  · have : c.idxOf x = k := by omega
    rw [this]
theorem first_none {c : List Int} {x : Int} (hb : ∀ j, j < c.length → c[j]? ≠ some x) : firstOf c x = -1 := by
  unfold firstOf
  rw [if_neg]
  intro hm
  obtain ⟨j, hj, he⟩ := List.getElem_of_mem hm
  exact hb j hj (by rw [List.getElem?_eq_getElem hj, he])

set_option maxHeartbeats 1000000 in
theorem l3First_any (w : World) (lo : Nat) (v : Value) (C : Cp) (hv : Cv w lo v C) (x : Int) : Calls Tryz.prog 154 #[v, .int .i64 x] w fun e w' => e = .returned (.int .i64 (firstOf C.c x)) ∧ Below w.heap.size w w' := by
  obtain ⟨A0, n0, c0, A1, n1, c1, A2, n2, c2, A3, n3, c3, rfl, hh, ⟨r0, r1, r2, r3⟩, ⟨l0, l1, l2, l3⟩, ⟨m0, m1, m2, m3⟩, _⟩ := hv.open_
  have X0 := Blk4.new w (.slice A0 n0 c0) (.slice A1 n1 c1) (.slice A2 n2 c2) (.slice A3 n3 c3) 156
  have fin : Below w.heap.size w (w.alloc (.cells #[.slice A0 n0 c0, .slice A1 n1 c1, .slice A2 n2 c2, .slice A3 n3 c3] 156)) := (Below.refl _ _).alloc (Nat.le_refl _) _
  have R3 := r3.alloc (.cells #[.slice A0 n0 c0, .slice A1 n1 c1, .slice A2 n2 c2, .slice A3 n3 c3] 156)
  go_enter Tryz.func154, Tryz.ntmps154
  go_wp2_with fail
  generalize w.alloc (.cells #[.slice A0 n0 c0, .slice A1 n1 c1, .slice A2 n2 c2, .slice A3 n3 c3] 156) = W at X0 fin R3 ⊢
  obtain ⟨x0, x1, x2, x3, _⟩ := X0.cells
  go_loopw [5] (fun i wr => (∃ k : Nat, k ≤ n3 ∧ i = .int .i64 k ∧ Hid (∀ j, j < k → C.c[j]? ≠ some x)) ∧ ∃ nq, wr = W.drewN nq) (fun i _ => n3 - (intOf i).toNat)
  case atStart => exact ⟨⟨0, Nat.zero_le _, rfl, fun j hj => absurd hj (Nat.not_lt_zero _)⟩, 0, rfl⟩
  case round =>
    obtain ⟨⟨k, hk, rfl, ht⟩, nq, rfl⟩ := hrel
    by_cases hlt : k < n3
    · obtain ⟨g, y, rfl, _, _, hy, hcy, _⟩ := R3.get (k := k) (by rw [l3.out]; exact hlt)
      have hb : (k : Int) < (n3 : Int) := by omega
      by_cases hxy : y = x
      · subst hxy
        have hf := Lib.hid (first_at hy.out ht.out)
        clear hy ht
        go_wp2_with fail
        go_ret
        exact ⟨ret_int hf.out.symm, below_drewN fin _⟩
      · have hxy1 : (y == x) = false := by simp [hxy]
        have ht' : Hid (∀ j, j < k + 1 → C.c[j]? ≠ some x) := fun j hj => by
          rcases Nat.lt_succ_iff_lt_or_eq.1 hj with h9 | rfl
          · exact ht.out j h9
          · rw [hy.out]; intro e; exact hxy (by simpa using e)
        clear hy ht
        go_wp2_with fail
        go_roundw
        case rel => exact ⟨⟨k + 1, by omega, by go_num, ht'⟩, _, rfl⟩
        case measure => simp [intOf]; omega
    · obtain rfl : k = n3 := by omega
      have hf := Lib.hid (first_none (c := C.c) (x := x) (fun j hj => ht.out j (by rw [l3.out] at hj; exact hj)))
      clear ht
      go_wp2_with fail
      go_ret
      exact ⟨ret_int hf.out.symm, below_drewN fin _⟩

end Go.Proofs.YtfoimicbmkiigaaGreat

