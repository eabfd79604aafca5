/- What a law's walk ends in. -/
import Derived.Test.YtmpcgegbfbkmnaaOpen
import Derived.Test.YtmpcgegbfbkmnaaLawT
import Derived.Test.YtmpcgegbfbkmnaaDraw
