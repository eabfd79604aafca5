/- What a law's walk ends in. -/
import Derived.Test.YtmngkjcdaaladaaOpen
import Derived.Test.YtmngkjcdaaladaaLawT
import Derived.Test.YtmngkjcdaaladaaDraw
