/- Plain facts of a heap whose cells are cleared. -/
import Derived.Test.YtmpcgegbfbkmnaaStoKs
import Derived.Test.YtmpcgegbfbkmnaaPureN
import Derived.Test.YtmpcgegbfbkmnaaPure
namespace Go.Proofs.Ytmpcgegbfbkmnaa
open Go.RowKit

theorem hv_range {h : Hp} (hv : hvB h = true) : (∀ x ∈ h.l, -1 ≤ x ∧ x < h.l.length) ∧ (∀ x ∈ h.r, -1 ≤ x ∧ x < h.l.length) ∧ (∀ x ∈ h.t, -1 ≤ x ∧ x < h.l.length) := by
  obtain ⟨_, h3, h4, h5⟩ := hvB_parts hv
  rw [List.all_eq_true] at h3 h4 h5
  exact ⟨fun x hx => by simpa only [ptB, decide_eq_true_eq] using h3 x hx, fun x hx => by simpa only [ptB, decide_eq_true_eq] using h4 x hx, fun x hx => by simpa only [ptB, decide_eq_true_eq] using h5 x hx⟩
theorem clr_at {l cs : List Int} {i : Nat} {x : Int} (h : l[i]? = some x) : (clrN l cs l.length)[i]? = some (clrF cs i x) := by
  have hi := (List.getElem?_eq_some_iff.1 h).1
  rw [clrN_at, h]; simp [hi]
theorem clr_at' {l cs : List Int} {n i : Nat} {x : Int} (hn : l.length = n) (h : l[i]? = some x) : (clrN l cs n)[i]? = some (clrF cs i x) := by
  subst hn; exact clr_at h
theorem clr_mem {l cs : List Int} {n : Nat} (hn : l.length = n) {y : Int} (hy : y ∈ clrN l cs n) : y = -1 ∨ ∃ i : Nat, l[i]? = some y ∧ y ∉ cs ∧ (i : Int) ∉ cs := by
  obtain ⟨i, hi, e⟩ := List.getElem_of_mem hy
  have hi' : i < l.length := by rw [clrN_len] at hi; exact hi
  have h1 : l[i]? = some l[i] := List.getElem?_eq_getElem hi'
  have h2 := clr_at' (cs := cs) hn h1
  rw [List.getElem?_eq_getElem hi, e] at h2
  have h3 := Option.some.inj h2
  unfold clrF at h3
  by_cases h9 : l[i] ∈ cs ∨ (i : Int) ∈ cs
  · rw [if_pos h9] at h3; exact .inl h3
  · rw [if_neg h9] at h3
    refine .inr ⟨i, by rw [h1, h3], ?_⟩
    rw [h3]; exact ⟨fun h => h9 (.inl h), fun h => h9 (.inr h)⟩
theorem clear_heap {C : Cp} (cs : List Int) (hv : hvB C.h = true) : hvB (clearC C cs).h = true := by
  obtain ⟨⟨hrl, hsz⟩, _⟩ := hvB_parts hv
  obtain ⟨g1, g2, g3⟩ := hv_range hv
  have e : (clearC C cs).h.l.length = C.h.l.length := clrN_len _ _ _
  refine hvB_mk ?_ ?_ ?_ ?_ ?_
  · show (clrN C.h.r cs C.h.l.length).length = (clrN C.h.l cs C.h.l.length).length
    rw [clrN_len, clrN_len, hrl]
  · rw [e]; exact hsz
  all_goals
    rw [e, List.all_eq_true]
    intro y hy
    simp only [ptB, decide_eq_true_eq]
  · rcases clr_mem rfl hy with rfl | ⟨i, hi, _⟩
    · omega
    · exact g1 _ (List.mem_of_getElem? hi)
  · rcases clr_mem hrl hy with rfl | ⟨i, hi, _⟩
    · omega
    · exact g2 _ (List.mem_of_getElem? hi)
  · exact g3 y hy
theorem clear_none {C : Cp} (hl : C.h.r.length = C.h.l.length) : clearC C [] = C := by
  have h : ∀ l : List Int, l.length = C.h.l.length → clrN l [] C.h.l.length = l := fun l e => by
    apply List.ext_getElem?; intro i
    rw [clrN_at]
    cases hx : l[i]? with
    | none => rfl
    | some x => simp [clrF]
  unfold clearC
  rw [h _ rfl, h _ hl, List.append_nil]
theorem clr_clr {l a b : List Int} {n : Nat} (hn : l.length = n) : clrN (clrN l a n) b n = clrN l (a ++ b) n := by
  apply List.ext_getElem?; intro i
  rw [clrN_at, clrN_at, clrN_at]
  cases hx : l[i]? with
  | none => rfl
  | some x =>
    have hi : i < n := by have := (List.getElem?_eq_some_iff.1 hx).1; omega
    simp only [Option.map_some, if_pos hi]
    congr 1
    unfold clrF
    by_cases h1 : x ∈ a ∨ (i : Int) ∈ a
    · have e1 : x ∈ a ++ b ∨ (i : Int) ∈ a ++ b := by
        rcases h1 with h | h
        · exact .inl (List.mem_append_left _ h)
        · exact .inr (List.mem_append_left _ h)
      rw [if_pos h1, if_pos e1]
      split <;> rfl
    · rw [if_neg h1]
      by_cases h2 : x ∈ b ∨ (i : Int) ∈ b
      · have e2 : x ∈ a ++ b ∨ (i : Int) ∈ a ++ b := by
          rcases h2 with h | h
          · exact .inl (List.mem_append_right _ h)
          · exact .inr (List.mem_append_right _ h)
        rw [if_pos h2, if_pos e2]
      · rw [if_neg h2, if_neg (by
          rw [List.mem_append, List.mem_append]
          rintro ((h | h) | (h | h))
          · exact h1 (.inl h)
          · exact h2 (.inl h)
          · exact h1 (.inr h)
          · exact h2 (.inr h))]
theorem clrN_mem {l a b : List Int} (h : ∀ x, x ∈ a ↔ x ∈ b) (n : Nat) : clrN l a n = clrN l b n := by
  have e : clrF a = clrF b := by
    funext i x; unfold clrF
    by_cases h1 : x ∈ b ∨ (i : Int) ∈ b
    · rw [if_pos h1, if_pos (by rw [h, h]; exact h1)]
    · rw [if_neg h1, if_neg (by rw [h, h]; exact h1)]
  unfold clrN; rw [e]
/-- Cells cleared in two turns. -/
theorem clear_clear {C : Cp} (hr : C.h.r.length = C.h.l.length) (a b c : List Int) (hc : ∀ x, x ∈ c ↔ x ∈ a ∨ x ∈ b) : (clearC (clearC C a) b).h = (clearC C c).h := by
  show (⟨clrN (clrN C.h.l a C.h.l.length) b (clrN C.h.l a C.h.l.length).length, clrN (clrN C.h.r a C.h.l.length) b (clrN C.h.l a C.h.l.length).length, C.h.t⟩ : Hp) = ⟨clrN C.h.l c C.h.l.length, clrN C.h.r c C.h.l.length, C.h.t⟩
  have hm : ∀ x, x ∈ c ↔ x ∈ a ++ b := fun x => by rw [hc, List.mem_append]
  rw [clrN_len, clr_clr rfl, clr_clr hr, clrN_mem hm, clrN_mem hm]
theorem clear_snoc {C : Cp} (hr : C.h.r.length = C.h.l.length) (a : List Int) (x : Int) : clearC (clearC C a) [x] = clearC C (a ++ [x]) := by
  have h1 := clear_clear hr a [x] (a ++ [x]) (fun y => by simp)
  show (⟨(clearC (clearC C a) [x]).h, (C.c ++ a) ++ [x]⟩ : Cp) = ⟨(clearC C (a ++ [x])).h, C.c ++ (a ++ [x])⟩
  rw [h1, List.append_assoc]
end Go.Proofs.Ytmpcgegbfbkmnaa
