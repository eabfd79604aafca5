/- canPut, l1Cell. -/
import Derived.Test.YtpimndfafibgeaaHeap2
import Derived.Test.YtpimndfafibgeaaNew
import Derived.Test.YtpimndfafibgeaaCopy2
namespace Go.Proofs.Ytpimndfafibgeaa
open Go.RowKit

end Go.Proofs.Ytpimndfafibgeaa
