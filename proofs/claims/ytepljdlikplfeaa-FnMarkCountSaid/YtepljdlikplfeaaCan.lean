/- canPut, l1Cell. -/
import Derived.Test.YtepljdlikplfeaaHeap2
import Derived.Test.YtepljdlikplfeaaNew
import Derived.Test.YtepljdlikplfeaaCopy2
namespace Go.Proofs.Ytepljdlikplfeaa
open Go.RowKit

end Go.Proofs.Ytepljdlikplfeaa
