/- CollectStore of spec. -/
import Derived.Test.YtlabljanddjleaaStoKs
namespace Go.Proofs.Ytlabljanddjleaa
open Go.RowKit

def collectO (C : Cp) : Option Cp := if stoB C = true then some (clearC C (leakL C)) else none

end Go.Proofs.Ytlabljanddjleaa
