/- Stores: a heap and a row of free cells (a Cp whose c is the row); l4At and l4Free, of spec. -/
import Derived.Test.YtapkhgpifpgleaaSCol2
namespace Go.Proofs.Ytapkhgpifpgleaa
open Go.RowKit

theorem first_neg {c : List Int} {x : Int} (h : x ∉ c) : firstOf c x = -1 := by unfold firstOf; rw [if_neg h]
theorem first_pos {c : List Int} {x : Int} (h : x ∈ c) : ∃ k : Nat, firstOf c x = (k : Int) ∧ k < c.length := by
  unfold firstOf; rw [if_pos h]; exact ⟨_, rfl, List.idxOf_lt_length_iff.2 h⟩
/-- A cell that can be free. -/
def freeB (h : Hp) (x : Int) : Bool := decide (0 ≤ x ∧ x < h.l.length ∧ h.l[x.toNat]? = some (-1) ∧ h.r[x.toNat]? = some (-1) ∧ x ∉ h.l ∧ x ∉ h.r ∧ x ∉ h.t)
/-- A store is valid. -/
def stoB (C : Cp) : Bool := hvB C.h && decide (C.c.length ≤ C.h.l.length ∧ (∀ x ∈ C.c, freeB C.h x = true) ∧ C.c.Nodup)
theorem stoB_parts {C : Cp} (h : stoB C = true) : hvB C.h = true ∧ C.c.length ≤ C.h.l.length ∧ (∀ x ∈ C.c, freeB C.h x = true) ∧ C.c.Nodup := by
  simpa only [stoB, Bool.and_eq_true, decide_eq_true_eq] using h
theorem stoB_of {C : Cp} (h1 : hvB C.h = true) (h2 : C.c.length ≤ C.h.l.length) (h3 : ∀ x ∈ C.c, freeB C.h x = true) (h4 : C.c.Nodup) : stoB C = true := by
  simp only [stoB, Bool.and_eq_true, decide_eq_true_eq]; exact ⟨h1, h2, h3, h4⟩
theorem stoB_not {C : Cp} (h : hvB C.h = false) : stoB C = false := by unfold stoB; rw [h]; rfl
theorem stoB_long {C : Cp} (h : C.h.l.length < C.c.length) : stoB C = false := by
  rw [Bool.eq_false_iff]; intro h9; have := (stoB_parts h9).2.1; omega
theorem stoB_unfree {C : Cp} {k : Nat} {x : Int} (hx : C.c[k]? = some x) (h : freeB C.h x = false) : stoB C = false := by
  rw [Bool.eq_false_iff]; intro h9
  have := (stoB_parts h9).2.2.1 x (List.mem_of_getElem? hx); rw [h] at this; cases this
theorem stoB_dup {C : Cp} {k : Nat} {x : Int} (hx : C.c[k]? = some x) (hm : x ∈ C.c.take k) : stoB C = false := by
  rw [Bool.eq_false_iff]; intro h9
  have hn := (stoB_parts h9).2.2.2
  obtain ⟨j, hj, he⟩ := List.getElem_of_mem hm
  obtain ⟨hk, ek⟩ := List.getElem?_eq_some_iff.1 hx
  have hj' : j < k := by rw [List.length_take] at hj; omega
  rw [List.getElem_take] at he
  exact (List.pairwise_iff_getElem.1 hn) j k (by omega) hk hj' (he.trans ek.symm)
theorem free_take {C : Cp} {k : Nat} {x : Int} (hx : C.c[k]? = some x) (h : freeB C.h x = true) (ht : ∀ y ∈ C.c.take k, freeB C.h y = true) : ∀ y ∈ C.c.take (k + 1), freeB C.h y = true := by
  rw [List.take_add_one, hx, Option.toList_some]
  intro y hy
  rcases List.mem_append.1 hy with h9 | h9
  · exact ht y h9
  · rw [List.mem_singleton.1 h9]; exact h
theorem nodup_take {c : List Int} {k : Nat} {x : Int} (hx : c[k]? = some x) (h : x ∉ c.take k) (ht : (c.take k).Nodup) : (c.take (k + 1)).Nodup := by
  rw [List.take_add_one, hx, Option.toList_some, List.nodup_append]
  refine ⟨ht, by simp, ?_⟩
  intro a ha b hb e
  rw [List.mem_singleton.1 hb] at e
  exact h (e ▸ ha)

end Go.Proofs.Ytapkhgpifpgleaa
