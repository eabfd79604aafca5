import Derived.Test.YteogflkahoanlaaStoKs
import Derived.Test.YteogflkahoanlaaWrong
/- CollectStore of spec. -/
namespace Go.Proofs.Yteogflkahoanlaa
open Go.RowKit

def collectO (C : Cp) : Option Cp := if stoB C = true then some (clearC C (leakL C)) else none

end Go.Proofs.Yteogflkahoanlaa

/- FreeCell of spec. -/
namespace Go.Proofs.Yteogflkahoanlaa
open Go.RowKit

def freeO (C : Cp) (k : Int) : Option Cp := if k ∈ leakL C then some (clearC C [k]) else none
theorem leak_sto {C : Cp} {k : Int} (h : k ∈ leakL C) : stoB C = true := by
  rcases e : stoB C
  · unfold leakL at h; rw [e] at h; simp at h
  · rfl

end Go.Proofs.Yteogflkahoanlaa

