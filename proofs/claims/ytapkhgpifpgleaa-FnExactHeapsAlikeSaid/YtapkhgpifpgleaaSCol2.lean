/- l3First, ColoredSame, CountColor, of spec. -/
import Derived.Test.YtapkhgpifpgleaaSCol
import Derived.Test.YtapkhgpifpgleaaHpB
namespace Go.Proofs.Ytapkhgpifpgleaa
open Go.RowKit

theorem first_at {c : List Int} {x : Int} {k : Nat} (hk : c[k]? = some x) (hb : ∀ j, j < k → c[j]? ≠ some x) : firstOf c x = k := by
  obtain ⟨hlt, he⟩ := List.getElem?_eq_some_iff.1 hk
  have hm : x ∈ c := by rw [← he]; exact List.getElem_mem hlt
  unfold firstOf
  rw [if_pos hm]
  have h1 : c.idxOf x ≤ k := by
    rcases Nat.lt_or_ge k (c.idxOf x) with h9 | h9
    · exfalso
      have := List.not_of_lt_findIdx (p := (· == x)) (xs := c) (i := k) h9
      rw [he] at this; simp at this
    · exact h9
  rcases Nat.lt_or_ge (c.idxOf x) k with h9 | h9
  · exfalso
    refine hb _ h9 ?_
    rw [List.getElem?_eq_getElem (by omega), List.getElem_idxOf]
  · have : c.idxOf x = k := by omega
    rw [this]
theorem first_none {c : List Int} {x : Int} (hb : ∀ j, j < c.length → c[j]? ≠ some x) : firstOf c x = -1 := by
  unfold firstOf
  rw [if_neg]
  intro hm
  obtain ⟨j, hj, he⟩ := List.getElem_of_mem hm
  exact hb j hj (by rw [List.getElem?_eq_getElem hj, he])

end Go.Proofs.Ytapkhgpifpgleaa
