/- FreeCell of spec. -/
import Derived.Test.YtlabljanddjleaaStoG
import Derived.Test.YtlabljanddjleaaWrong
namespace Go.Proofs.Ytlabljanddjleaa
open Go.RowKit

def freeO (C : Cp) (k : Int) : Option Cp := if k ∈ leakL C then some (clearC C [k]) else none
theorem leak_sto {C : Cp} {k : Int} (h : k ∈ leakL C) : stoB C = true := by
  rcases e : stoB C
  · unfold leakL at h; rw [e] at h; simp at h
  · rfl

end Go.Proofs.Ytlabljanddjleaa
