/- ColoredValid and its like, of spec. -/
import Derived.Test.YtgooohapdjgmpaaCol
import Derived.Test.YtgooohapdjgmpaaHeap2
namespace Go.Proofs.Ytgooohapdjgmpaa
open Go.RowKit

end Go.Proofs.Ytgooohapdjgmpaa
