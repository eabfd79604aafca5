/- What a text of a heap is: the parse. -/
import Derived.Test.YtpimndfafibgeaaRdt
import Derived.Test.YtpimndfafibgeaaPure
namespace Go.Proofs.Ytpimndfafibgeaa
open Go.RowKit

/-- The heap whose text is s. -/
def IsText (s : ByteArray) (h : Hp) : Prop := hvB h = true ∧ s = ⟨(fmtV h).toArray⟩
theorem ltr_inj {x y : Int} (h1 : -1 ≤ x) (h2 : x ≤ 9) (k1 : -1 ≤ y) (k2 : y ≤ 9) (e : ltr x = ltr y) : x = y := by
  by_cases hx : x = -1
  · by_cases hy : y = -1
    · rw [hx, hy]
    · have := ltr_num (x := y) (by omega) k2
      rw [← e, hx, ltr_none] at this
      have h9 : ((45 : UInt8).toNat : Int) = 45 := rfl
      omega
  · have hx' := ltr_num (x := x) (by omega) h2
    by_cases hy : y = -1
    · rw [e, hy, ltr_none] at hx'
      have h9 : ((45 : UInt8).toNat : Int) = 45 := rfl
      omega
    · have := ltr_num (x := y) (by omega) k2
      rw [← e] at this
      omega
theorem ltr_ne {x : Int} (h1 : -1 ≤ x) (h2 : x ≤ 9) : ltr x ≠ 32 ∧ ltr x ≠ 47 := by
  by_cases hx : x = -1
  · subst hx; exact ⟨by decide, by decide⟩
  · have := ltr_num (x := x) (by omega) h2
    constructor
    · intro e; rw [e] at this; have h9 : ((32 : UInt8).toNat : Int) = 32 := rfl; omega
    · intro e; rw [e] at this; have h9 : ((47 : UInt8).toNat : Int) = 47 := rfl; omega
theorem rdP_some {s : ByteArray} {a : Nat} {x : Int} (h : rdP s a = some x) : (-1 ≤ x ∧ x < 8) ∧ s.data[a]? = some (ltr x) := by
  unfold rdP at h
  split at h
  · rename_i h1
    obtain rfl : x = -1 := by simpa using h.symm
    refine ⟨by omega, ?_⟩
    unfold nextB at h1
    rw [beq_iff_eq] at h1
    rw [h1, ltr_none]
  · cases hf : (List.range 8).find? (fun k : Nat => nextB s a (ltr (k : Int))) with
    | none => rw [hf] at h; cases h
    | some k =>
      rw [hf] at h
      obtain rfl : (k : Int) = x := Option.some.inj h
      rw [List.find?_range_eq_some] at hf
      obtain ⟨h2, h3, _⟩ := hf
      rw [List.mem_range] at h3
      refine ⟨by omega, ?_⟩
      unfold nextB at h2
      rw [beq_iff_eq] at h2
      exact h2
theorem rdP_of {s : ByteArray} {a : Nat} {x : Int} (h1 : -1 ≤ x) (h2 : x < 8) (h : s.data[a]? = some (ltr x)) : rdP s a = some x := by
  unfold rdP nextB
  rw [h]
  by_cases hx : x = -1
  · subst hx; rfl
  · have hne : ¬ ((some (ltr x) == some (45 : UInt8)) = true) := by
      rw [beq_iff_eq]
      intro e
      have e' : ltr x = ltr (-1) := by simpa [ltr_none] using e
      exact hx (ltr_inj h1 (by omega) (by omega) (by omega) e')
    rw [if_neg hne]
    obtain ⟨k, rfl⟩ : ∃ k : Nat, x = k := ⟨x.toNat, by omega⟩
    have : (List.range 8).find? (fun j : Nat => some (ltr (k : Int)) == some (ltr (j : Int))) = some k := by
      rw [List.find?_range_eq_some]
      refine ⟨by simp, List.mem_range.2 (by omega), fun j hj => ?_⟩
      simp only [Bool.not_eq_true', beq_eq_false_iff_ne, ne_eq, Option.some.injEq]
      intro e
      have := ltr_inj (x := (k : Int)) (y := (j : Int)) (by omega) (by omega) (by omega) (by omega) e
      omega
    rw [this]; rfl
/-- The bytes of a heap's text. -/
theorem cellsT_get {h : Hp} {k j : Nat} (hj : j < k) : (cellsT h k)[3 * j]? = some (ltr (h.l.getD j 0)) ∧ (cellsT h k)[3 * j + 1]? = some (ltr (h.r.getD j 0)) ∧ (cellsT h k)[3 * j + 2]? = some 32 := by
  induction k with
  | zero => omega
  | succ k ih =>
    have e : cellsT h (k + 1) = cellsT h k ++ [ltr (h.l.getD k 0), ltr (h.r.getD k 0), 32] := by unfold cellsT; rw [List.range_succ, List.flatMap_append]; simp
    have hl := cellsT_len h k
    rw [e]
    by_cases hjk : j < k
    · obtain ⟨a, b, c⟩ := ih hjk
      refine ⟨?_, ?_, ?_⟩
      · rw [List.getElem?_append_left (by omega)]; exact a
      · rw [List.getElem?_append_left (by omega)]; exact b
      · rw [List.getElem?_append_left (by omega)]; exact c
    · obtain rfl : j = k := by omega
      refine ⟨?_, ?_, ?_⟩
      · rw [List.getElem?_append_right (by omega), hl, Nat.sub_self]; rfl
      · rw [List.getElem?_append_right (by omega), hl, show 3 * j + 1 - 3 * j = 1 by omega]; rfl
      · rw [List.getElem?_append_right (by omega), hl, show 3 * j + 2 - 3 * j = 2 by omega]; rfl
theorem rootsT_get {h : Hp} {k j : Nat} (hj : j < k) : (rootsT h k)[2 * j]? = some 32 ∧ (rootsT h k)[2 * j + 1]? = some (ltr (h.t.getD j 0)) := by
  induction k with
  | zero => omega
  | succ k ih =>
    have e : rootsT h (k + 1) = rootsT h k ++ [32, ltr (h.t.getD k 0)] := by unfold rootsT; rw [List.range_succ, List.flatMap_append]; simp
    have hl := rootsT_len h k
    rw [e]
    by_cases hjk : j < k
    · obtain ⟨a, b⟩ := ih hjk
      refine ⟨?_, ?_⟩
      · rw [List.getElem?_append_left (by omega)]; exact a
      · rw [List.getElem?_append_left (by omega)]; exact b
    · obtain rfl : j = k := by omega
      refine ⟨?_, ?_⟩
      · rw [List.getElem?_append_right (by omega), hl, Nat.sub_self]; rfl
      · rw [List.getElem?_append_right (by omega), hl, show 2 * j + 1 - 2 * j = 1 by omega]; rfl
/-- A text is known by its bytes. -/
structure TextOf (s : ByteArray) (h : Hp) : Prop where
  size : s.size = 3 * h.l.length + 2 * h.t.length + 1
  cell : ∀ j, j < h.l.length → s.data[3 * j]? = some (ltr (h.l.getD j 0)) ∧ s.data[3 * j + 1]? = some (ltr (h.r.getD j 0)) ∧ s.data[3 * j + 2]? = some 32
  slash : s.data[3 * h.l.length]? = some 47
  root : ∀ j, j < h.t.length → s.data[3 * h.l.length + 1 + 2 * j]? = some 32 ∧ s.data[3 * h.l.length + 1 + 2 * j + 1]? = some (ltr (h.t.getD j 0))
theorem fmtV_text (h : Hp) : TextOf ⟨(fmtV h).toArray⟩ h := by
  have hc := cellsT_len h h.l.length
  have hr := rootsT_len h h.t.length
  refine ⟨?_, fun j hj => ?_, ?_, fun j hj => ?_⟩
  · have := fmtV_len h
    simp [ByteArray.size]; omega
  · obtain ⟨a, b, c⟩ := cellsT_get (h := h) hj
    simp only [List.getElem?_toArray, fmtV, List.append_assoc]
    refine ⟨?_, ?_, ?_⟩
    · rw [List.getElem?_append_left (by omega)]; exact a
    · rw [List.getElem?_append_left (by omega)]; exact b
    · rw [List.getElem?_append_left (by omega)]; exact c
  · simp only [List.getElem?_toArray, fmtV, List.append_assoc]
    rw [List.getElem?_append_right (by omega), hc, Nat.sub_self]; rfl
  · obtain ⟨a, b⟩ := rootsT_get (h := h) hj
    simp only [List.getElem?_toArray, fmtV, List.append_assoc]
    refine ⟨?_, ?_⟩
    · rw [List.getElem?_append_right (by omega), hc, show 3 * h.l.length + 1 + 2 * j - 3 * h.l.length = 1 + 2 * j by omega, List.getElem?_append_right (by simp), List.length_singleton, show 1 + 2 * j - 1 = 2 * j by omega]
      exact a
    · rw [List.getElem?_append_right (by omega), hc, show 3 * h.l.length + 1 + 2 * j + 1 - 3 * h.l.length = 1 + (2 * j + 1) by omega, List.getElem?_append_right (by simp), List.length_singleton, show 1 + (2 * j + 1) - 1 = 2 * j + 1 by omega]
      exact b
theorem text_fmtV {s : ByteArray} {h : Hp} (t : TextOf s h) : s = ⟨(fmtV h).toArray⟩ := by
  have u := fmtV_text h
  apply ByteArray.ext
  apply Array.ext_getElem?
  intro i
  have hs := t.size
  have hs' := u.size
  by_cases hi : i < 3 * h.l.length
  · obtain ⟨j, hj⟩ : ∃ j, i = 3 * j ∨ i = 3 * j + 1 ∨ i = 3 * j + 2 := ⟨i / 3, by omega⟩
    obtain ⟨a, b, c⟩ := t.cell j (by omega)
    obtain ⟨a', b', c'⟩ := u.cell j (by omega)
    rcases hj with rfl | rfl | rfl
    · rw [a, a']
    · rw [b, b']
    · rw [c, c']
  · by_cases hi2 : i = 3 * h.l.length
    · subst hi2; rw [t.slash, u.slash]
    · by_cases hi3 : i < 3 * h.l.length + 1 + 2 * h.t.length
      · obtain ⟨j, hj⟩ : ∃ j, i = 3 * h.l.length + 1 + 2 * j ∨ i = 3 * h.l.length + 1 + 2 * j + 1 := ⟨(i - (3 * h.l.length + 1)) / 2, by omega⟩
        obtain ⟨a, b⟩ := t.root j (by omega)
        obtain ⟨a', b'⟩ := u.root j (by omega)
        rcases hj with rfl | rfl
        · rw [a, a']
        · rw [b, b']
      · rw [Array.getElem?_eq_none (by have h9 : s.data.size = s.size := rfl; omega), Array.getElem?_eq_none (by have h9 : (ByteArray.mk (fmtV h).toArray).data.size = (ByteArray.mk (fmtV h).toArray).size := rfl; omega)]
end Go.Proofs.Ytpimndfafibgeaa
