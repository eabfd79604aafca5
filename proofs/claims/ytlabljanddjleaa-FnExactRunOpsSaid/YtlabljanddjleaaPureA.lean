/- Plain facts of stores: what keeps a store valid. -/
import Derived.Test.YtlabljanddjleaaStoA
import Derived.Test.YtlabljanddjleaaSNewS
import Derived.Test.YtlabljanddjleaaPureN
import Derived.Test.YtlabljanddjleaaPure
namespace Go.Proofs.Ytlabljanddjleaa
open Go.RowKit

theorem free_mk {h : Hp} {k : Nat} (h1 : k < h.l.length) (h2 : h.l[k]? = some (-1)) (h3 : h.r[k]? = some (-1)) (h4 : (k : Int) ∉ h.l) (h5 : (k : Int) ∉ h.r) (h6 : (k : Int) ∉ h.t) : freeB h (k : Int) = true := by
  simp only [freeB, decide_eq_true_eq]
  exact ⟨by omega, by omega, by simpa using h2, by simpa using h3, h4, h5, h6⟩
theorem free_parts {h : Hp} {x : Int} (e : freeB h x = true) : ∃ k : Nat, x = k ∧ k < h.l.length ∧ h.l[k]? = some (-1) ∧ h.r[k]? = some (-1) ∧ (k : Int) ∉ h.l ∧ (k : Int) ∉ h.r ∧ (k : Int) ∉ h.t := by
  simp only [freeB, decide_eq_true_eq] at e
  obtain ⟨h0, h1, h2, h3, h4, h5, h6⟩ := e
  obtain ⟨k, rfl⟩ := Int.eq_ofNat_of_zero_le h0
  exact ⟨k, rfl, by omega, by simpa using h2, by simpa using h3, h4, h5, h6⟩
theorem sto_put {C : Cp} (hC : stoB C = true) {h' : Hp} (hv : hvB h' = true) (hl : h'.l.length = C.h.l.length) (hf : ∀ x ∈ C.c, freeB C.h x = true → freeB h' x = true) : stoB ⟨h', C.c⟩ = true := by
  obtain ⟨_, h2, h3, h4⟩ := stoB_parts hC
  exact stoB_of hv (by show C.c.length ≤ h'.l.length; omega) (fun x hx => hf x hx (h3 x hx)) h4
theorem not_in_set {l : List Int} {k : Nat} {x y : Int} (h : x ∉ l) (hy : y ≠ x) : x ∉ l.set k y := fun hm => by
  rcases List.mem_or_eq_of_mem_set hm with h9 | h9
  · exact h h9
  · exact hy h9.symm
theorem root_pt {h : Hp} (hv : hvB h = true) {b : Int} (hb : b ∈ h.t) : ptB b h.l.length = true := by
  obtain ⟨_, _, _, h5⟩ := hvB_parts hv
  rw [List.all_eq_true] at h5; exact h5 b hb
theorem sto_left {C : Cp} (hC : stoB C = true) {a : Nat} {b : Int} (ha : (a : Int) ∈ C.h.t) (hb : b ∈ C.h.t) : stoB ⟨⟨C.h.l.set a b, C.h.r, C.h.t⟩, C.c⟩ = true := by
  obtain ⟨hv, _⟩ := stoB_parts hC
  obtain ⟨⟨hr, hs⟩, h3, h4, h5⟩ := hvB_parts hv
  refine sto_put hC (hvB_mk (by simpa using hr) (by simpa using hs) ?_ (by simpa using h4) (by simpa using h5)) (by simp) fun x hx hf => ?_
  · rw [List.length_set]; exact all_set h3 a (root_pt hv hb)
  · obtain ⟨k, rfl, f1, f2, f3, f4, f5, f6⟩ := free_parts hf
    have hka : a ≠ k := fun e => f6 (e ▸ ha)
    exact free_mk (by simpa using f1) (by show (C.h.l.set a b)[k]? = _; rw [List.getElem?_set_ne hka]; exact f2) f3 (not_in_set f4 (fun e => f6 (e ▸ hb))) f5 f6
theorem sto_right {C : Cp} (hC : stoB C = true) {a : Nat} {b : Int} (ha : (a : Int) ∈ C.h.t) (hb : b ∈ C.h.t) : stoB ⟨⟨C.h.l, C.h.r.set a b, C.h.t⟩, C.c⟩ = true := by
  obtain ⟨hv, _⟩ := stoB_parts hC
  obtain ⟨⟨hr, hs⟩, h3, h4, h5⟩ := hvB_parts hv
  refine sto_put hC (hvB_mk (by simpa using hr) hs h3 (all_set h4 a (root_pt hv hb)) h5) rfl fun x hx hf => ?_
  obtain ⟨k, rfl, f1, f2, f3, f4, f5, f6⟩ := free_parts hf
  have hka : a ≠ k := fun e => f6 (e ▸ ha)
  exact free_mk f1 f2 (by show (C.h.r.set a b)[k]? = _; rw [List.getElem?_set_ne hka]; exact f3) f4 (not_in_set f5 (fun e => f6 (e ▸ hb))) f6
theorem sto_root {C : Cp} (hC : stoB C = true) (k : Nat) {y : Int} (hy : y ∈ C.h.l ∨ y = -1) : stoB ⟨⟨C.h.l, C.h.r, C.h.t.set k y⟩, C.c⟩ = true := by
  obtain ⟨hv, _⟩ := stoB_parts hC
  obtain ⟨⟨hr, hs⟩, h3, h4, h5⟩ := hvB_parts hv
  have hp : ptB y C.h.l.length = true := by
    rcases hy with hy | rfl
    · rw [List.all_eq_true] at h3; exact h3 y hy
    · simp only [szB, decide_eq_true_eq] at hs
      simp [ptB]; omega
  refine sto_put hC (hvB_mk hr (by simpa using hs) h3 h4 (all_set h5 k hp)) rfl fun x hx hf => ?_
  obtain ⟨j, rfl, f1, f2, f3, f4, f5, f6⟩ := free_parts hf
  refine free_mk f1 f2 f3 f4 f5 (not_in_set f6 fun e => ?_)
  rcases hy with hy | h9
  · exact f4 (e ▸ hy)
  · omega
theorem newS_valid {n m : Nat} (h1 : 1 ≤ n) (h8 : n ≤ 8) (m1 : 1 ≤ m) (m3 : m ≤ 3) : stoB ⟨⟨List.replicate n (-1), List.replicate n (-1), List.replicate m (-1)⟩, nums n⟩ = true := by
  have hall : ∀ k : Nat, (List.replicate k (-1 : Int)).all (ptB · ((List.replicate n (-1 : Int)).length : Nat)) = true := fun k => by
    rw [List.all_eq_true]; intro x hx
    obtain ⟨_, rfl⟩ := List.mem_replicate.1 hx
    simp [ptB]; omega
  have hno : ∀ (k j : Nat), (k : Int) ∉ List.replicate j (-1 : Int) := fun k j hm => by
    have := (List.mem_replicate.1 hm).2; omega
  refine stoB_of (hvB_mk (by simp) (by simp [szB]; omega) (hall n) (hall n) (hall m)) (by show (nums n).length ≤ (List.replicate n (-1 : Int)).length; rw [nums_len]; simp) (fun x hx => ?_) (up_nodup (nums_up n))
  obtain ⟨h0, hn⟩ := mem_nums.1 hx
  obtain ⟨k, rfl⟩ := Int.eq_ofNat_of_zero_le h0
  have hk : k < n := by omega
  exact free_mk (by simpa using hk) (by simp [hk]) (by simp [hk]) (hno k n) (hno k n) (hno k m)
/-- What is taken leaves a valid store. -/
theorem alloc_valid {C : Cp} {k : Int} (h : allocB C k = true) : stoB (allocC C k) = true := by
  obtain ⟨hC, ⟨h0, h1⟩, hne⟩ := allocB_iff.1 h
  obtain ⟨hv, hle, hf, hnd⟩ := stoB_parts hC
  obtain ⟨⟨hr, hs⟩, h3, h4, h5⟩ := hvB_parts hv
  obtain ⟨x, tl, ec⟩ : ∃ x tl, C.c = x :: tl := by
    cases e : C.c with
    | nil => exact absurd e hne
    | cons x tl => exact ⟨x, tl, rfl⟩
  have e1 : allocC C k = ⟨⟨C.h.l, C.h.r, C.h.t.set k.toNat x⟩, tl⟩ := by unfold allocC; rw [if_pos h, ec]; rfl
  rw [e1]
  rw [ec] at hf hnd hle
  rw [List.nodup_cons] at hnd
  have hpx : ptB x C.h.l.length = true := by
    obtain ⟨j, rfl, f1, _⟩ := free_parts (hf x (List.mem_cons_self ..))
    simp [ptB]; omega
  refine stoB_of (hvB_mk hr (by simpa using hs) h3 h4 (all_set h5 _ hpx)) (by simp at hle; show tl.length ≤ C.h.l.length; omega) (fun y hy => ?_) hnd.2
  obtain ⟨j, rfl, f1, f2, f3, f4, f5, f6⟩ := free_parts (hf y (List.mem_cons_of_mem _ hy))
  exact free_mk f1 f2 f3 f4 f5 (not_in_set f6 (fun e => hnd.1 (e ▸ hy)))
end Go.Proofs.Ytlabljanddjleaa
