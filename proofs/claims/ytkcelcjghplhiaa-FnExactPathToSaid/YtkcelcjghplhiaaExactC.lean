/- The helpers of the exact laws over rows of ints, with the number that comes back under a name. -/
import Derived.Test.YtkcelcjghplhiaaExactB
namespace Go.Proofs.Ytkcelcjghplhiaa
open Go.RowKit

theorem row_apart {w w' : World} {lo lo' : Nat} {v u : Value} {xs ys : List Int} (hv : Row w lo v xs) (hu : Row w' lo' u ys) (h : w.heap.size ≤ lo') : v.ownBlock = none ∨ v.ownBlock ≠ u.ownBlock := by
  cases hob : v.ownBlock with
  | none => exact .inl rfl
  | some b =>
    refine .inr fun e => ?_
    have h1 := (hv.lt b hob).2
    have h2 := (hu.lt b e.symm).1
    omega
theorem Row.max {w : World} {lo n c : Nat} {A : Option Addr} {xs : List Int} (h : Row w lo (.slice A n c) xs) : xs.length ≤ 9223372036854775807 := by
  obtain ⟨A', c', _, h1, h2⟩ := h.form
  unfold maxLen at h2; omega
theorem eqIntS_same (w : World) (lo lo' : Nat) (A A' : Option Addr) (c c' : Nat) (xs : List Int) (h : Row w lo (.slice A xs.length c) xs) (h' : Row w lo' (.slice A' xs.length c') xs) :
    Calls Try.prog 18 #[.slice A xs.length c, .slice A' xs.length c'] w (RetB w true) :=
  (eqIntS_any w lo lo' A A' xs.length c xs.length c' xs xs h rfl h.max h' rfl h.max).mono fun _ _ ⟨he, nq, hw⟩ => ⟨by rw [he]; simp, by rw [hw]; exact below_drewN (Below.refl _ _) _⟩
theorem markR1 (xs : List Int) (hm : xs.length ≤ 1048576) :
    ∃ N : Int, ¬ (N < 0) ∧ (N != N) = false ∧
      (∀ (w : World) (lo : Nat) (A : Option Addr) (c : Nat), Row w lo (.slice A xs.length c) xs → Calls Try.prog 21 #[.slice A xs.length c, .int .i64 1] w
        (fun e w' => e = .returned (.int .i64 N) ∧ Row w' lo (.slice A xs.length c) (seqI 1 xs.length) ∧ w.grownBy w' (Value.slice A xs.length c).ownBlock)) ∧
      (∀ (w : World) (lo : Nat) (A : Option Addr) (c : Nat), Row w lo (.slice A xs.length c) (seqI 1 xs.length) → Calls Try.prog 22 #[.slice A xs.length c, .int .i64 1] w (RetI w N)) := by
  refine ⟨((1 + xs.length : Nat) : Int), by omega, by simp, fun w lo A c h => ?_, fun w lo A c h => ?_⟩
  · exact (markIntS_any w lo A xs.length c xs h rfl hm 1 (by omega)).mono fun _ _ ⟨a, b, c, _⟩ => ⟨a, b, c⟩
  · refine (heldIntS_any w lo A xs.length c (seqI 1 xs.length) h (seqI_len _ _) hm 1 (by omega)).mono fun e w' ⟨a, b⟩ => ⟨?_, ?_⟩
    · rw [a]
      unfold heldR
      rw [seqI_len, if_pos rfl]
    · subst b; exact Below.refl _ _
end Go.Proofs.Ytkcelcjghplhiaa
