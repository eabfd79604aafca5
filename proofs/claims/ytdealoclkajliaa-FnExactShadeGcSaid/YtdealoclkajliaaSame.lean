/- HeapSame of both. -/
import Derived.Test.YtdealoclkajliaaHeap
namespace Go.Proofs.Ytdealoclkajliaa
open Go.RowKit

def sameB (a b : Hp) : Bool := decide (a.l = b.l) && decide (a.r = b.r) && decide (a.t = b.t)
theorem sameB_iff (a b : Hp) : sameB a b = true ↔ a = b := by cases a; cases b; simp [sameB, and_assoc]

end Go.Proofs.Ytdealoclkajliaa
