/- impl.CountPointers. -/
import Derived.Test.YtdealoclkajliaaPut
namespace Go.Proofs.Ytdealoclkajliaa
open Go.RowKit

theorem quiet_left {P : Program} {f : FuncId} {args : Array Value} {w : World} {n : Nat} {v : Value}
    (h : Calls P f args (w.drewN n) fun e w' => e = .returned v ∧ w.drewN n = w') : Calls P f args (w.drewN n) fun e w'' => e = .returned v ∧ ∃ m, w'' = w.drewN m :=
  h.mono fun _ _ ⟨he, hm⟩ => ⟨he, n, hm.symm⟩

def cntH (h : Hp) : Int := if hvB h = true then cntN h.l + cntN h.r + cntN h.t else 0
/-- A number comes back, and nothing that was there has turned. -/
def RetI (w : World) (x : Int) (e : Ending) (w' : World) : Prop := e = .returned (.int .i64 x) ∧ Below w.heap.size w w'

end Go.Proofs.Ytdealoclkajliaa
