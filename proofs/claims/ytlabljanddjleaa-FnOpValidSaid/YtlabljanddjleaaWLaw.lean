/- What a law's walk ends in. -/
import Derived.Test.YtlabljanddjleaaOpen
import Derived.Test.YtlabljanddjleaaLawT
import Derived.Test.YtlabljanddjleaaDraw
