/- CountColor of spec. -/
import Derived.Test.YtepljdlikplfeaaSCol2
namespace Go.Proofs.Ytepljdlikplfeaa
open Go.RowKit

/-- How many cells have a color. -/
def countO (C : Cp) (x : Int) : Int := if cvB C = true then (C.c.count x : Int) else 0
theorem count_take {c : List Int} {k : Nat} {y : Int} (x : Int) (h : c[k]? = some y) : (c.take (k + 1)).count x = (c.take k).count x + (if y = x then 1 else 0) := by
  rw [List.take_add_one, h, Option.toList_some, List.count_append, List.count_singleton]
  simp only [beq_iff_eq]

end Go.Proofs.Ytepljdlikplfeaa
