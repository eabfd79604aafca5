/- ColoredValid and its like, of spec. -/
import Derived.Test.YtapkhgpifpgleaaCol
import Derived.Test.YtapkhgpifpgleaaHeap2
namespace Go.Proofs.Ytapkhgpifpgleaa
open Go.RowKit

end Go.Proofs.Ytapkhgpifpgleaa
