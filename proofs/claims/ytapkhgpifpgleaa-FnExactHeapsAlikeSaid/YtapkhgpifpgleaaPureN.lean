/- Plain facts of lists: what is left of a list when others are taken out. -/
import Derived.Test.YtapkhgpifpgleaaMemos
namespace Go.Proofs.Ytapkhgpifpgleaa
open Go.RowKit

def outF (c : List Int) (x : Int) : Bool := !decide (x ∈ c)
theorem outF_iff {c : List Int} {x : Int} : outF c x = true ↔ x ∉ c := by unfold outF; simp
theorem filt_one {gs : List Int} {x : Int} {c : List Int} (hg : gs.Nodup) (hx : x ∈ gs) (hc : x ∉ c) : (gs.filter (outF c)).length = (gs.filter (outF (x :: c))).length + 1 := by
  induction gs with
  | nil => cases hx
  | cons y gs ih =>
    rw [List.nodup_cons] at hg
    by_cases e : y = x
    · subst e
      have h1 : outF c y = true := outF_iff.2 hc
      have h2 : outF (y :: c) y = false := by unfold outF; simp
      rw [List.filter_cons_of_pos h1, List.filter_cons_of_neg (by rw [h2]; simp), List.length_cons]
      congr 2
      apply List.filter_congr
      intro z hz
      have hzy : z ≠ y := fun e => hg.1 (e ▸ hz)
      unfold outF; simp [hzy]
    · have hx' : x ∈ gs := (List.mem_cons.1 hx).resolve_left (fun h => e h.symm)
      have ih' := ih hg.2 hx'
      have h1 : outF (x :: c) y = outF c y := by unfold outF; simp [e]
      by_cases h2 : outF c y = true
      · rw [List.filter_cons_of_pos h2, List.filter_cons_of_pos (by rw [h1]; exact h2), List.length_cons, List.length_cons, ih']
      · rw [List.filter_cons_of_neg h2, List.filter_cons_of_neg (by rw [h1]; exact h2), ih']
theorem filt_nil (gs : List Int) : gs.filter (outF []) = gs := by
  rw [List.filter_eq_self]; intro x _; unfold outF; simp
theorem filt_len {gs : List Int} (hg : gs.Nodup) : ∀ {c : List Int}, c.Nodup → (∀ x ∈ c, x ∈ gs) → (gs.filter (outF c)).length + c.length = gs.length := by
  intro c
  induction c with
  | nil => intro _ _; rw [filt_nil]; simp
  | cons x c ih =>
    intro hc hs
    rw [List.nodup_cons] at hc
    have h1 := filt_one hg (hs x (List.mem_cons_self ..)) hc.1
    have h2 := ih hc.2 (fun y hy => hs y (List.mem_cons_of_mem _ hy))
    rw [List.length_cons]; omega
def nums (n : Nat) : List Int := (List.range n).map fun i : Nat => (i : Int)
theorem nums_len (n : Nat) : (nums n).length = n := by unfold nums; simp
theorem mem_nums {n : Nat} {x : Int} : x ∈ nums n ↔ 0 ≤ x ∧ x < n := by
  unfold nums
  rw [List.mem_map]
  constructor
  · rintro ⟨k, hk, rfl⟩; rw [List.mem_range] at hk; omega
  · rintro ⟨h0, h1⟩
    exact ⟨x.toNat, by rw [List.mem_range]; omega, by omega⟩
theorem nums_up (n : Nat) : (nums n).Pairwise (· < ·) := by
  unfold nums; rw [List.pairwise_map]; exact List.pairwise_lt_range.imp (fun h => by omega)
theorem up_nodup {xs : List Int} (h : xs.Pairwise (· < ·)) : xs.Nodup := h.imp (fun h => by omega)
theorem nums_succ (k : Nat) : nums (k + 1) = nums k ++ [(k : Int)] := by
  unfold nums; rw [List.range_succ, List.map_append]; rfl
/-- Different cells of n are at most n. -/
theorem pigeon {c : List Int} {n : Nat} (hc : c.Nodup) (h : ∀ x ∈ c, 0 ≤ x ∧ x < n) : c.length ≤ n := by
  have h9 := filt_len (up_nodup (nums_up n)) hc (fun x hx => mem_nums.2 (h x hx))
  rw [nums_len] at h9; omega
end Go.Proofs.Ytapkhgpifpgleaa
