/- PathTo of spec: the plain facts. -/
import Derived.Test.YtkcelcjghplhiaaPthI
namespace Go.Proofs.Ytkcelcjghplhiaa

/-- What spec.PathTo has built: cur ahead of rest. -/
structure SInv (h : Hp) (N : Nat) (c : Int) (p : Nat) (cur : Int) (rest : List Int) : Prop where
  len : rest.length + p + 1 = N
  way : wayL h (dist h h.t) N c = wayL h (dist h h.t) (p + 1) cur ++ rest
  pos : 0 ≤ cur
  at_ : gd (dist h h.t) cur = (p : Int) + 1
theorem sinv_start {h : Hp} {N : Nat} {c : Int} (h0 : 0 ≤ c) (hN : 1 ≤ N) (hc : gd (dist h h.t) c = (N : Int)) : SInv h N c (N - 1) c [] := by
  have e : N - 1 + 1 = N := by omega
  exact ⟨by simp; omega, by rw [e]; simp, h0, by rw [hc]; omega⟩
theorem sinv_end {h : Hp} {N : Nat} {c cur : Int} {rest : List Int} (P : SInv h N c 0 cur rest) : wayL h (dist h h.t) N c = cur :: rest := by
  rw [P.way]; rfl
/-- Some cell is a source that is one nearer. -/
theorem prev_exists {h : Hp} {c : Int} {k : Nat} (hv : hvB h = true) (h0 : 0 ≤ c) (hk : 1 ≤ k) (hc : gd (dist h h.t) c = (k : Int) + 1) : ∃ j : Nat, j < h.l.length ∧ gd (dist h h.t) j = k ∧ pntB h j c = true := by
  obtain ⟨q1, q2⟩ := prev_some hv h0 hk hc
  unfold srcs at q1
  split at q1
  · unfold srcN at q1
    rw [List.mem_map] at q1
    obtain ⟨j, hj, e⟩ := q1
    rw [List.mem_filter, List.mem_range] at hj
    exact ⟨j, hj.1, by rw [e]; exact q2, hj.2⟩
  · simp at q1
/-- The first one found, going up, is the one. -/
theorem prev_find {h : Hp} {c : Int} {k : Nat} {i : Nat} (hv : hvB h = true) (h0 : 0 ≤ c) (hc : gd (dist h h.t) c = (k : Int) + 1) (hi : i < h.l.length) (hp : pntB h i c = true) (hd : gd (dist h h.t) i = k)
    (hn : ∀ j : Nat, j < i → ¬ (gd (dist h h.t) j = k ∧ pntB h j c = true)) : prevC h (dist h h.t) c k = i := by
  have hcl := gd_plB h0 (by rw [hc]; omega)
  rw [dist_len] at hcl
  have e : srcs h c = srcN h c h.l.length := by unfold srcs; rw [if_pos (by rw [hv, hcl]; rfl)]
  unfold prevC
  rw [e]
  unfold srcN
  rw [List.find?_map, List.find?_filter]
  have hf : (List.range h.l.length).find? (fun a => decide (pntB h a c = true ∧ ((fun y => gd (dist h h.t) y == (k : Int)) ∘ fun i : Nat => (i : Int)) a = true)) = some i := by
    rw [List.find?_range_eq_some]
    refine ⟨?_, List.mem_range.2 hi, fun j hj => ?_⟩
    · simp [hp, hd]
    · have h9 := hn j hj
      simp only [Function.comp, beq_iff_eq, Bool.not_eq_true', decide_eq_false_iff_not]
      exact fun e => h9 ⟨e.2, e.1⟩
  rw [hf]
  rfl
theorem sinv_step {h : Hp} {N : Nat} {c : Int} {p : Nat} {cur : Int} {rest : List Int} {i : Nat} (hv : hvB h = true) (P : SInv h N c (p + 1) cur rest) (hi : i < h.l.length) (hp : pntB h i cur = true) (hd : gd (dist h h.t) i = ((p + 1 : Nat) : Int))
    (hn : ∀ j : Nat, j < i → ¬ (gd (dist h h.t) j = ((p + 1 : Nat) : Int) ∧ pntB h j cur = true)) : SInv h N c p (i : Int) (cur :: rest) := by
  have e := prev_find (k := p + 1) hv P.pos (by have := P.at_; omega) hi hp hd hn
  refine ⟨by have := P.len; simp; omega, ?_, by omega, by rw [hd]; omega⟩
  rw [P.way, way_succ h _ (by omega), e, List.append_assoc]
  rfl
end Go.Proofs.Ytkcelcjghplhiaa
