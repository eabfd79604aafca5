/- NewHeap of both. -/
import Derived.Test.YtdealoclkajliaaHeap
import Derived.Test.YtdealoclkajliaaCopys
namespace Go.Proofs.Ytdealoclkajliaa
open Go.RowKit

/-- A heap or none comes back, and nothing that was there has turned. -/
def OptHv (w : World) (o : Option Hp) (e : Ending) (w' : World) : Prop := ∃ v, e = .returned (.tuple #[v, .bool o.isSome]) ∧ Hv w' w.heap.size v (o.getD Hp.zero) ∧ Below w.heap.size w w'

theorem made_done {w w3 : World} {b : Nat} (hb : w.heap.size ≤ b) {v0 v1 v2 : Value} {h : Hp} (r0 : Row w3 (b + 1) v0 h.l) (r1 : Row w3 (b + 1) v1 h.r) (r2 : Row w3 (b + 1) v2 h.t)
    (a01 : Apart v0 v1) (a02 : Apart v0 v2) (a12 : Apart v1 v2) (hB : Below w.heap.size w w3) :
    Hv (((w3.setCell ⟨b, 0, none⟩ v0).setCell ⟨b, 1, none⟩ v1).setCell ⟨b, 2, none⟩ v2) w.heap.size (.agg #[v0, v1, v2]) h ∧
    Below w.heap.size w (((w3.setCell ⟨b, 0, none⟩ v0).setCell ⟨b, 1, none⟩ v1).setCell ⟨b, 2, none⟩ v2) := by
  have k : ∀ (v : Value) (xs : List Int), Row w3 (b + 1) v xs → v.ownBlock ≠ some b := fun v xs r e => by have := (r.lt _ e).1; omega
  have t : ∀ (v : Value) (xs : List Int), Row w3 (b + 1) v xs → Row (((w3.setCell ⟨b, 0, none⟩ v0).setCell ⟨b, 1, none⟩ v1).setCell ⟨b, 2, none⟩ v2) w.heap.size v xs :=
    fun v xs r => (((r.other (k v xs r) _).other (k v xs r) _).other (k v xs r) _).mono (by omega)
  exact ⟨⟨v0, v1, v2, rfl, t _ _ r0, t _ _ r1, t _ _ r2, a01, a02, a12⟩, ((hB.setCell hb _).setCell hb _).setCell hb _⟩

def newO (c r : Int) : Option Hp := if szB c r = true then some ⟨List.replicate c.toNat (-1), List.replicate c.toNat (-1), List.replicate r.toNat (-1)⟩ else none

end Go.Proofs.Ytdealoclkajliaa
