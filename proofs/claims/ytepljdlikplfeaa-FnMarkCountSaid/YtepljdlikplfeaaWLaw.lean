/- What a law's walk ends in. -/
import Derived.Test.YtepljdlikplfeaaOpen
import Derived.Test.YtepljdlikplfeaaLawT
import Derived.Test.YtepljdlikplfeaaDraw
