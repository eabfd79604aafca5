/- spec.l4Case and the draws of chapter 4: stores, whatever they are. -/
import Derived.Test.YtpjdpflghcdkiaaDrawss
import Derived.Test.YtpjdpflghcdkiaaDraws
import Derived.Test.YtpjdpflghcdkiaaStoKs
namespace Go.Proofs.Ytpjdpflghcdkiaa
open Go.RowKit

/-- A store comes back, and nothing that was there has turned. -/
def DrawnS (w : World) (e : Ending) (w' : World) : Prop := ∃ v C, e = .returned v ∧ Cv w' w.heap.size v C ∧ Below w.heap.size w w'
/-- .. and a number. -/
def DrawnSI (w : World) (e : Ending) (w' : World) : Prop := ∃ v C x, e = .returned (.tuple #[v, .int .i64 x]) ∧ Cv w' w.heap.size v C ∧ Below w.heap.size w w'
/-- A store is laid into the result's block. -/
theorem laidS {w w3 : World} {b : Nat} {v0 v1 v2 v3 : Value} {C : Cp} (hb : w.heap.size ≤ b) (hc : Cv w3 (b + 1) (.agg #[v0, v1, v2, v3]) C) (hB : Below w.heap.size w w3) :
    Cv ((((w3.setCell ⟨b, 0, none⟩ v0).setCell ⟨b, 1, none⟩ v1).setCell ⟨b, 2, none⟩ v2).setCell ⟨b, 3, none⟩ v3) w.heap.size (.agg #[v0, v1, v2, v3]) C ∧ Below w.heap.size w ((((w3.setCell ⟨b, 0, none⟩ v0).setCell ⟨b, 1, none⟩ v1).setCell ⟨b, 2, none⟩ v2).setCell ⟨b, 3, none⟩ v3) := by
  have lt : b < b + 1 := by omega
  exact ⟨((((hc.set_low (p := ⟨b, 0, none⟩) lt _).set_low (p := ⟨b, 1, none⟩) lt _).set_low (p := ⟨b, 2, none⟩) lt _).set_low (p := ⟨b, 3, none⟩) lt _).mono (by omega), (((hB.setCell hb _).setCell hb _).setCell hb _).setCell hb _⟩

end Go.Proofs.Ytpjdpflghcdkiaa
