/- impl.Reachable. -/
import Derived.Test.YtkcelcjghplhiaaMemB
import Derived.Test.YtkcelcjghplhiaaDist
namespace Go.Proofs.Ytkcelcjghplhiaa
open Go.RowKit Go.Maps

theorem set_repB {l : List Bool} {k n : Nat} {x : Bool} (hk : k < n) (hl : l.length = n) (hx : l[k]? = some x) :
    (l.take k ++ List.replicate (n - k) false).set k x = l.take (k + 1) ++ List.replicate (n - (k + 1)) false := by
  have hlk : (l.take k).length = k := by simp; omega
  rw [List.set_append, if_neg (by omega), hlk, Nat.sub_self, show n - k = (n - (k + 1)) + 1 from by omega, List.replicate_succ, List.set_cons_zero, List.take_add_one, hx]
  simp

end Go.Proofs.Ytkcelcjghplhiaa
