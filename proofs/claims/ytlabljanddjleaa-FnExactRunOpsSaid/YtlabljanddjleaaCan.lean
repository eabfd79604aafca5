/- canPut, l1Cell. -/
import Derived.Test.YtlabljanddjleaaHeap2
import Derived.Test.YtlabljanddjleaaNew
import Derived.Test.YtlabljanddjleaaCopys
namespace Go.Proofs.Ytlabljanddjleaa
open Go.RowKit

end Go.Proofs.Ytlabljanddjleaa
