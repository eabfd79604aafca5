/- spec.l10Mix and spec.DrawMoveCells: a heap, and a list of as many numbers, whatever they are. -/
import Derived.Test.YtapkhgpifpgleaaOrdW
import Derived.Test.YtapkhgpifpgleaaWrong
import Derived.Test.YtapkhgpifpgleaaDraws
namespace Go.Proofs.Ytapkhgpifpgleaa
open Go.RowKit

/-- A list of n numbers comes back; of what was there, only the reader has turned. -/
def MixedT (w : World) (B rb : Nat) (A : Option Addr) (nb c p n : Nat) (e : Ending) (w' : World) : Prop :=
  ∃ A' c' xs p', e = .returned (.slice A' n c') ∧ Hid (List.length (α := Int) xs = n) ∧ Row w' w.heap.size (.slice A' n c') xs ∧ Rd w' B rb A nb c p' ∧ p' ≤ p + n ∧ w.grownBy w' (some rb)
theorem Row.keptRd {w w' : World} {lo rb : Nat} {v : Value} {xs : List Int} (h : Row w lo v xs) (hg : w.grownBy w' (some rb)) (hl : rb < lo) : Row w' lo v xs :=
  h.kept hg (.inr fun e => by have := (h.lt _ e).1; omega)

end Go.Proofs.Ytapkhgpifpgleaa
