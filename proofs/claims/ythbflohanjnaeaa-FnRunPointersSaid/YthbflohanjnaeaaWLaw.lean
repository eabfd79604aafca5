/- What a law's walk ends in. -/
import Derived.Test.YthbflohanjnaeaaOpen
import Derived.Test.YthbflohanjnaeaaLawT
import Derived.Test.YthbflohanjnaeaaDraw
