/- spec.CountPointers: three appends, then a count. -/
import Derived.Test.YteogflkahoanlaaCopys
import Derived.Test.YteogflkahoanlaaCntA
import Derived.Test.YteogflkahoanlaaWrong
import Derived.Deep.AppendLies
namespace Go.Proofs.Yteogflkahoanlaa
open Go.RowKit

theorem cntN_append (l m : List Int) : cntN (l ++ m) = cntN l + cntN m := by
  unfold cntN; simp [List.filter_append]

theorem after_lies {w' : World} {lo g n m cap : Nat} {xs ys : List Int} (hown : w'.ownsRow lo 3 1 (.slice (some ⟨g, 0, none⟩) (n + m) cap) (n + m) (xs.map iv ++ ys.map iv)) (hn : n + m = (xs ++ ys).length) :
    Row w' lo (.slice (some ⟨g, 0, none⟩) (n + m) cap) (xs ++ ys) := Row.of_own hown (by simp) hn

end Go.Proofs.Yteogflkahoanlaa
