/- canPut, l1Cell. -/
import Derived.Test.YtpipagcpgjoigaaHeap2
import Derived.Test.YtpipagcpgjoigaaNew
import Derived.Test.YtpipagcpgjoigaaCopys
namespace Go.Proofs.Ytpipagcpgjoigaa
open Go.RowKit

end Go.Proofs.Ytpipagcpgjoigaa
