/- What comes of the functions of chapter 3 where they give a colored heap. -/
import Derived.Test.YtmngkjcdaaladaaPureC
import Derived.Test.YtmngkjcdaaladaaDrawC
import Derived.Test.YtmngkjcdaaladaaCan
namespace Go.Proofs.Ytmngkjcdaaladaa
open Go.RowKit

theorem shadeO_parts {C C2 : Cp} {k : Int} (e : shadeO C k = some C2) : cvB C = true ∧ (∃ j : Nat, k = j ∧ j < C.h.l.length) ∧ C2 = ⟨C.h, shade C.c k⟩ ∧ cvB C2 = true := by
  unfold shadeO at e
  split at e
  · rename_i hc
    cases e
    obtain ⟨h1, h2, h3⟩ := cvB_parts hc.1
    exact ⟨hc.1, plB_nat hc.2, rfl, cvB_of h1 (by rw [shade_len]; exact h2) (shade_valid k h3)⟩
  · cases e
theorem shadeO_of {C : Cp} {j : Nat} (hv : cvB C = true) (hj : j < C.h.l.length) : shadeO C j = some ⟨C.h, shade C.c j⟩ := by
  unfold shadeO; rw [if_pos ⟨hv, by simp [plB]; omega⟩]
theorem rootsO_parts {C C2 : Cp} (e : rootsO C = some C2) : cvB C = true ∧ C2 = ⟨C.h, shadeAll C.c C.h.t⟩ ∧ cvB C2 = true := by
  have hv : cvB C = true := by
    unfold rootsO at e; split at e
    · assumption
    · cases e
  obtain ⟨h1, h2⟩ := cvB_roots hv
  rw [h1] at e; cases e
  exact ⟨hv, rfl, h2⟩
theorem allO_parts {C C2 : Cp} (e : allO C = some C2) : cvB C = true ∧ C2 = ⟨C.h, allL C.h C.c⟩ ∧ cvB C2 = true := by
  unfold allO at e
  split at e
  · rename_i hv
    cases e
    exact ⟨hv, rfl, all_valid hv⟩
  · cases e
theorem allO_of {C : Cp} (hv : cvB C = true) : allO C = some ⟨C.h, allL C.h C.c⟩ := by unfold allO; rw [if_pos hv]
theorem allL_len (h : Hp) (c : List Int) : (allL h c).length = c.length := allN_ind (fun d => d.length = c.length) (fun _ _ _ H => by rw [blackC_len]; exact H) _ c rfl
theorem countO_valid {C : Cp} (hv : cvB C = true) (x : Int) : countO C x = (C.c.count x : Int) := by unfold countO; rw [if_pos hv]
theorem moves_parts {C : Cp} (e : movesO C = true) : cvB C = true ∧ ∃ k : Nat, firstOf C.c 1 = k ∧ k < C.c.length ∧ C.c[k]? = some 1 ∧ stepOf C = ⟨C.h, blackC C.h C.c k⟩ := by
  unfold movesO movesB at e
  rw [Bool.and_eq_true, decide_eq_true_eq] at e
  refine ⟨e.1, ?_⟩
  rcases first_cases C.c 1 with h | ⟨k, h1, h2, h3⟩
  · exact absurd h e.2
  · exact ⟨k, h1, h2, h3, by unfold stepOf stepC; rw [if_pos e.1, if_neg e.2, h1]; rfl⟩
theorem stays_parts {C : Cp} (hv : cvB C = true) (e : movesO C = false) : stepOf C = C ∧ C.c.count 1 = 0 := by
  unfold movesO movesB at e
  rw [hv, Bool.true_and] at e
  have h : firstOf C.c 1 = -1 := by simpa using e
  exact ⟨by unfold stepOf stepC; rw [if_pos hv, if_pos h], count_zero_of (first_no h)⟩
theorem first_before {c : List Int} {x : Int} {k : Nat} (h : firstOf c x = k) : ∀ j, j < k → c[j]? ≠ some x := by
  unfold firstOf at h
  split at h
  · rename_i hm
    have hk : c.idxOf x = k := by omega
    intro j hj e
    obtain ⟨hl, he⟩ := List.getElem?_eq_some_iff.1 e
    have := List.not_of_lt_findIdx (p := (· == x)) (xs := c) (i := j) (by rw [← hk] at hj; exact hj)
    rw [he] at this; simp at this
  · omega
theorem Cv.hv {w : World} {lo : Nat} {v0 v1 v2 v3 : Value} {C : Cp} (h : Cv w lo (.agg #[v0, v1, v2, v3]) C) : Hv w lo (.agg #[v0, v1, v2]) C.h := by
  obtain ⟨_, _, _, _, e, hh, _⟩ := h
  cases e; exact hh
theorem Blk4.drewN {w : World} {b : Nat} {x y z q : Value} {t : TypeId} (h : Blk4 w b x y z q t) (n : Nat) : Blk4 (w.drewN n) b x y z q t := h
theorem Cv.setBlk {w : World} {lo b : Nat} {v0 v1 v2 v3 : Value} {C : Cp} (h : Cv w lo (.agg #[v0, v1, v2, v3]) C) (f : v0.ownBlock ≠ some b ∧ v1.ownBlock ≠ some b ∧ v2.ownBlock ≠ some b ∧ v3.ownBlock ≠ some b) (x y z u : Value) :
    Cv ((((w.setCell ⟨b, 0, none⟩ x).setCell ⟨b, 1, none⟩ y).setCell ⟨b, 2, none⟩ z).setCell ⟨b, 3, none⟩ u) lo (.agg #[v0, v1, v2, v3]) C :=
  (((h.set_far (p := ⟨b, 0, none⟩) f x).set_far (p := ⟨b, 1, none⟩) f y).set_far (p := ⟨b, 2, none⟩) f z).set_far (p := ⟨b, 3, none⟩) f u
theorem Cv.old {w : World} {lo b : Nat} {v0 v1 v2 v3 : Value} {C : Cp} (h : Cv w lo (.agg #[v0, v1, v2, v3]) C) (hb : w.heap.size ≤ b) : v0.ownBlock ≠ some b ∧ v1.ownBlock ≠ some b ∧ v2.ownBlock ≠ some b ∧ v3.ownBlock ≠ some b := by
  obtain ⟨_, _, _, _, e, ⟨_, _, _, e', r0, r1, r2, _⟩, r3, _⟩ := h
  cases e; cases e'
  exact ⟨fun e => by have := (r0.lt _ e).2; omega, fun e => by have := (r1.lt _ e).2; omega, fun e => by have := (r2.lt _ e).2; omega, fun e => by have := (r3.lt _ e).2; omega⟩
/-- The colors when the first k cells were shaded. -/
def shN (c : List Int) (k : Nat) : List Int := shadeAll c ((List.range k).map (fun (i : Nat) => (i : Int)))
theorem shN_zero (c : List Int) : shN c 0 = c := rfl
theorem shN_succ (c : List Int) (k : Nat) : shN c (k + 1) = shade (shN c k) (k : Int) := by
  unfold shN shadeAll
  rw [List.range_succ, List.map_append, List.foldl_append]; rfl
theorem shN_len (c : List Int) (k : Nat) : (shN c k).length = c.length := shadeAll_len _ _
theorem shN_nowhite (c : List Int) : (shN c c.length).count 0 = 0 := by
  refine count_zero_of fun hm => ?_
  obtain ⟨i, hi, e⟩ := List.getElem_of_mem hm
  have h1 : (shN c c.length)[i]? = some 0 := by rw [List.getElem?_eq_getElem hi, e]
  have h2 := (shadeAll_white h1).2 (i : Int) (List.mem_map.2 ⟨i, List.mem_range.2 (by rw [shN_len] at hi; exact hi), rfl⟩)
  exact h2 rfl
theorem sameC_comm (a b : Cp) : sameC b a = sameC a b := by
  unfold sameC sameB
  simp only [eq_comm]
theorem sameC_iff (a b : Cp) : sameC a b = true ↔ a = b := by
  cases a; cases b
  unfold sameC
  rw [Bool.and_eq_true, sameB_iff, decide_eq_true_eq]
  simp
end Go.Proofs.Ytmngkjcdaaladaa
