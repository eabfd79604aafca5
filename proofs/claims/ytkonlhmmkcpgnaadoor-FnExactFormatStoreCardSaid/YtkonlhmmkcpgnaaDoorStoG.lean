/- CollectStore of spec. -/
import Derived.Test.YtkonlhmmkcpgnaaDoorStoKs
namespace Go.Proofs.YtkonlhmmkcpgnaaDoor
open Go.RowKit

def collectO (C : Cp) : Option Cp := if stoB C = true then some (clearC C (leakL C)) else none

end Go.Proofs.YtkonlhmmkcpgnaaDoor
