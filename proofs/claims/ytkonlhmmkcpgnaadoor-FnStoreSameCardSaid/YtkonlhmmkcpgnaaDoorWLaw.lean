/- What a law's walk ends in. -/
import Derived.Test.YtkonlhmmkcpgnaaDoorOpen
import Derived.Test.YtkonlhmmkcpgnaaDoorLawT
import Derived.Test.YtkonlhmmkcpgnaaDoorDraw
