/- spec.DrawNewHeap. -/
import Derived.Test.YtmpcgegbfbkmnaaOpen
namespace Go.Proofs.Ytmpcgegbfbkmnaa
open Go.RowKit

/-- Two numbers come back. -/
def Drawn2 (w : World) (e : Ending) (w' : World) : Prop := ∃ a b : Int, e = .returned (.tuple #[.int .i64 a, .int .i64 b]) ∧ Below w.heap.size w w'

set_option maxHeartbeats 1000000 in
theorem drawNewHeap_any (w : World) (A : Option Addr) (n c : Nat) (h : Inp w A n c) :
    Calls Try.prog 62 #[.slice A n c] w (Drawn2 w) := by
  go_enter Try.func62, Try.ntmps62
  go_wp2_with fail
  refine (l13Open_any _ _ _ _ h).mono ?_; rintro e w1 ⟨rb, A1, n1, c1, rfl, hR1, hb1⟩
  go_wp2_with fail
  refine (num_any _ _ _ _ _ _ _ (hR1.alloc _) (by omega) _ _ _ [4, 1, 8, 0, 9] 0 (Row.lit w1 0 [4, 1, 8, 0, 9] (by omega) (by simp)) rfl (by decide) (by decide) (by have := hR1.lt; omega)).mono ?_
  rintro e w2 ⟨x, _, rfl, hR2, hO2⟩
  go_wp2_with fail
  refine (num_any _ _ _ _ _ _ _ (hR2.alloc _) (by omega) _ _ _ [2, 1, 3, 0, 4] 0 (Row.lit w2 0 [2, 1, 3, 0, 4] (by omega) (by simp)) rfl (by decide) (by decide) (by have := hR2.lt; omega)).mono ?_
  rintro e w3 ⟨y, _, rfl, hR3, hO3⟩
  have z1 := hb1.size
  have z2 : w1.heap.size + 1 ≤ w2.heap.size := by have := hO2.2; simp at this; omega
  have B2 : Below w.heap.size w w2 := (hb1.alloc z1 _).trans (hO2.below hR1.2.2.1 (by simp; omega))
  have B3 : Below w.heap.size w w3 := (B2.alloc B2.size _).trans (hO3.below hR1.2.2.1 (by simp; omega))
  go_wp2_with fail
  go_ret2
  exact ⟨x, y, rfl, B3⟩
end Go.Proofs.Ytmpcgegbfbkmnaa
