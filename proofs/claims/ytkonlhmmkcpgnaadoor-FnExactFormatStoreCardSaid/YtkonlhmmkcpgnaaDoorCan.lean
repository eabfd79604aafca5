/- canPut, l1Cell. -/
import Derived.Test.YtkonlhmmkcpgnaaDoorHeap2
import Derived.Test.YtkonlhmmkcpgnaaDoorNew
import Derived.Test.YtkonlhmmkcpgnaaDoorCopys
namespace Go.Proofs.YtkonlhmmkcpgnaaDoor
open Go.RowKit

end Go.Proofs.YtkonlhmmkcpgnaaDoor
