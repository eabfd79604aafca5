/- The counts of a heap add up. -/
import Derived.Test.YtpjdpflghcdkiaaCnt
import Derived.Test.YtpjdpflghcdkiaaIStos
namespace Go.Proofs.Ytpjdpflghcdkiaa

theorem sum_set (l : List Int) : ∀ {k : Nat} {y z : Int}, l[k]? = some y → (l.set k z).sum = l.sum - y + z := by
  induction l with
  | nil => intro k y z h; simp at h
  | cons a l ih =>
    intro k y z h
    cases k with
    | zero => simp at h; subst h; simp; omega
    | succ k => simp at h; simp [ih h]; omega
theorem bump_sum {n : List Int} {x : Int} (h : -1 ≤ x ∧ x < n.length) : (bump n x).sum = n.sum + if x = -1 then 0 else 1 := by
  by_cases hx : x = -1
  · subst hx; rw [bump_none]; simp
  · obtain ⟨k, rfl⟩ := Int.eq_ofNat_of_zero_le (by omega : 0 ≤ x)
    obtain ⟨y, hy⟩ : ∃ y, n[k]? = some y := ⟨_, List.getElem?_eq_getElem (by omega)⟩
    rw [bump_at hy, sum_set n hy, if_neg hx]; omega
theorem cntN_cons (x : Int) (l : List Int) : cntN (x :: l) = (if x = -1 then 0 else 1) + cntN l := by
  unfold cntN; by_cases h : x = -1 <;> simp [h]; omega
theorem cntN_app (l m : List Int) : cntN (l ++ m) = cntN l + cntN m := by
  unfold cntN; simp [List.filter_append]
theorem bumps_sum (xs : List Int) : ∀ {n : List Int}, (∀ x ∈ xs, -1 ≤ x ∧ x < (n.length : Int)) → (bumps n xs).sum = n.sum + cntN xs := by
  induction xs with
  | nil => intro n _; simp [bumps, cntN]
  | cons x xs ih =>
    intro n h
    show (bumps (bump n x) xs).sum = _
    rw [ih (fun y hy => by rw [bump_len]; exact h y (List.mem_cons_of_mem _ hy)), bump_sum (h x (List.mem_cons_self ..)), cntN_cons]; omega
theorem zeros_sum (k : Nat) : (List.replicate k (0 : Int)).sum = 0 := by
  induction k with
  | zero => rfl
  | succ k ih => rw [List.replicate_succ, List.sum_cons, ih]; rfl
theorem cnts_sum {h : Hp} (hv : hvB h = true) : (cnts h).sum = cntN h.l + cntN h.r + cntN h.t := by
  obtain ⟨_, a1, a2, a3⟩ := hvB_parts hv
  rw [List.all_eq_true] at a1 a2 a3
  unfold cnts
  rw [bumps_sum, zeros_sum, cntN_app, cntN_app]; · omega
  intro x hx
  have hp : ptB x h.l.length = true := by
    rw [List.mem_append, List.mem_append] at hx
    rcases hx with (hx | hx) | hx
    · exact a1 x hx
    · exact a2 x hx
    · exact a3 x hx
  simp only [ptB, decide_eq_true_eq] at hp
  rw [List.length_replicate]; omega
theorem cnts_bd {h : Hp} (hv : hvB h = true) {y : Int} (hy : y ∈ cnts h) : 0 ≤ y ∧ y ≤ 100 := by
  obtain ⟨e1, e2, e3, e4, e5⟩ := hvB_len hv
  have h9 := bumps_bd ((h.l ++ h.r) ++ h.t) (n := List.replicate h.l.length 0) (B := 0) (fun y hy => by rw [List.mem_replicate] at hy; omega) y hy
  simp at h9; omega
theorem take_sum {l : List Int} {i : Nat} {y : Int} (h : l[i]? = some y) : (l.take (i + 1)).sum = (l.take i).sum + y := by
  rw [List.take_add_one, h]; simp
theorem psum_bd {l : List Int} (h : ∀ y ∈ l, 0 ≤ y ∧ y ≤ 100) (i : Nat) : 0 ≤ (l.take i).sum ∧ (l.take i).sum ≤ 100 * i := by
  induction i with
  | zero => simp
  | succ i ih =>
    by_cases hi : i < l.length
    · have hy := List.getElem?_eq_getElem hi
      rw [take_sum hy]
      have := h _ (List.getElem_mem hi)
      omega
    · rw [List.take_of_length_le (by omega)] at ih ⊢; omega
theorem srcN_le (h : Hp) (c : Int) : ∀ k : Nat, k ≤ h.l.length → k ≤ h.r.length → (srcN h c k).length ≤ (h.l.take k).count c + (h.r.take k).count c := by
  intro k
  induction k with
  | zero => intro _ _; simp [srcN]
  | succ k ih =>
    intro h1 h2
    have h3 := ih (by omega) (by omega)
    have e1 : h.l[k]? = some (h.l.getD k 0) := by simp [List.getD, List.getElem?_eq_getElem (show k < h.l.length by omega)]
    have e2 : h.r[k]? = some (h.r.getD k 0) := by simp [List.getD, List.getElem?_eq_getElem (show k < h.r.length by omega)]
    rw [srcN_succ, List.take_add_one, List.take_add_one, e1, e2, List.count_append, List.count_append]
    simp only [Option.toList_some, List.count_singleton]
    unfold pntB
    generalize h.l.getD k 0 = a
    generalize h.r.getD k 0 = b
    generalize (h.l.take k).count c = A at h3 ⊢
    generalize (h.r.take k).count c = B at h3 ⊢
    by_cases p1 : a = c
    · have q1 : (a == c) = true := by simp [p1]
      rw [q1]
      simp only [Bool.true_or, if_true, List.length_append, List.length_singleton]
      split <;> omega
    · have q1 : (a == c) = false := by simp [p1]
      rw [q1]
      by_cases p2 : b = c
      · have q2 : (b == c) = true := by simp [p2]
        rw [q2]
        simp only [Bool.false_or, if_true, List.length_append, List.length_singleton]
        omega
      · have q2 : (b == c) = false := by simp [p2]
        rw [q2]
        simp only [Bool.false_or, Bool.false_eq_true, if_false]
        omega
theorem srcs_cnt {h : Hp} (hv : hvB h = true) {i : Nat} {y : Int} (hy : (cnts h)[i]? = some y) : ((srcs h (i : Int)).length : Int) ≤ y := by
  obtain ⟨e1, _⟩ := hvB_len hv
  have hi : i < h.l.length := by have := (List.getElem?_eq_some_iff.1 hy).1; rw [cnts_len] at this; exact this
  rw [cnts_get hi] at hy
  have h9 : (srcs h (i : Int)).length ≤ h.l.count (i : Int) + h.r.count (i : Int) := by
    unfold srcs
    split
    · have h8 := srcN_le h (i : Int) h.l.length (Nat.le_refl _) (by omega)
      rw [List.take_of_length_le (Nat.le_refl _), List.take_of_length_le (by omega)] at h8
      exact h8
    · simp
  have h7 := Option.some.inj hy
  omega
end Go.Proofs.Ytpjdpflghcdkiaa
