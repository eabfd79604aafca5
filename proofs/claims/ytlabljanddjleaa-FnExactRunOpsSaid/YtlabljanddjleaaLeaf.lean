/- The small functions of heaps over numbers: each contract says which Bool comes back, and that the world stays. -/
import Derived.Test.YtlabljanddjleaaChecked
import Derived.WalkKit
import Derived.WalkSpells
import Derived.WalkLawsBesides
namespace Go.Proofs.Ytlabljanddjleaa
open Go.RowKit

def szB (c r : Int) : Bool := decide (1 ≤ c ∧ c ≤ 8 ∧ 1 ≤ r ∧ r ≤ 3)
def ptB (x n : Int) : Bool := decide (-1 ≤ x ∧ x < n)
def plB (x n : Int) : Bool := decide (0 ≤ x ∧ x < n)

set_option maxHeartbeats 400000 in
theorem sizesValid_any (c r : Int) (w : World) : Calls Try.prog 65 #[.int .i64 c, .int .i64 r] w fun e w' => e = .returned (.bool (szB c r)) ∧ w = w' := by
  by_cases h1 : 1 ≤ c <;> by_cases h2 : c ≤ 8 <;> by_cases h3 : 1 ≤ r <;> by_cases h4 : r ≤ 3
  all_goals
    go_enter Try.func65, Try.ntmps65
    go_wp2
    go_ret
    exact ⟨by simp [szB, h1, h2, h3, h4], rfl⟩

set_option maxHeartbeats 400000 in
theorem pointerValid_any (x n : Int) (hn : 0 ≤ n) (w : World) : Calls Try.prog 67 #[.int .i64 x, .int .i64 n] w fun e w' => e = .returned (.bool (ptB x n)) ∧ w = w' := by
  by_cases h0 : x = -1
  · subst h0
    go_enter Try.func67, Try.ntmps67
    go_wp2
    go_ret
    exact ⟨by simp [ptB]; omega, rfl⟩
  · have h0' : (x == -1) = false := by simpa using h0
    by_cases h1 : 0 ≤ x <;> by_cases h2 : x < n
    all_goals
      go_enter Try.func67, Try.ntmps67
      go_wp2
      go_ret
      exact ⟨by simp [ptB, h2]; try omega, rfl⟩

set_option maxHeartbeats 400000 in
theorem l1Points_any (x n : Int) (w : World) : Calls Try.prog 64 #[.int .i64 x, .int .i64 n] w fun e w' => e = .returned (.bool (ptB x n)) ∧ w = w' := by
  by_cases h1 : -1 ≤ x <;> by_cases h2 : x < n
  all_goals
    go_enter Try.func64, Try.ntmps64
    go_wp2
    go_ret
    exact ⟨by simp [ptB, h1, h2], rfl⟩

set_option maxHeartbeats 400000 in
theorem hasPlace_any (A : Option Addr) (n c : Nat) (x : Int) (w : World) : Calls Try.prog 88 #[.slice A n c, .int .i64 x] w fun e w' => e = .returned (.bool (plB x n)) ∧ w = w' := by
  by_cases h1 : 0 ≤ x <;> by_cases h2 : x < n
  all_goals
    go_enter Try.func88, Try.ntmps88
    go_wp2
    go_ret
    exact ⟨by simp [plB, h1, h2], rfl⟩
end Go.Proofs.Ytlabljanddjleaa
