/- CountLive and GarbageOf of both. -/
import Derived.Test.YtkcelcjghplhiaaReach
import Derived.Test.YtkcelcjghplhiaaSReach
import Derived.Test.YtkcelcjghplhiaaCount
namespace Go.Proofs.Ytkcelcjghplhiaa
open Go.RowKit

def cntB (xs : List Bool) : Int := ((xs.filter id).length : Nat)
theorem cntB_snoc (l : List Bool) (x : Bool) : cntB (l ++ (some x).toList) = cntB l + if x = true then 1 else 0 := by
  unfold cntB; cases x <;> simp [List.filter_append]
theorem cntB_bd (l : List Bool) : 0 ≤ cntB l ∧ cntB l ≤ l.length := by
  unfold cntB; exact ⟨by omega, by have := List.length_filter_le id l; omega⟩

end Go.Proofs.Ytkcelcjghplhiaa
