/- Heaps that are copied: impl.copyOfHeap, spec.l1Copy. -/
import Derived.Test.YtpimndfafibgeaaHeap
import Derived.Deep.AppendLies
import Derived.Deep.RegionLaw
namespace Go.Proofs.Ytpimndfafibgeaa
open Go.RowKit

/-- A new heap comes back, and nothing that was there has turned. -/
def NewHv (w : World) (h : Hp) (e : Ending) (w' : World) : Prop := ∃ v, e = .returned v ∧ Hv w' w.heap.size v h ∧ Below w.heap.size w w'

theorem apart_new {w w' : World} {lo : Nat} {v v' : Value} {xs xs' : List Int} (h : Row w lo v xs) (h' : Row w' w.heap.size v' xs') : Apart v v' := fun b hb hb' => by
  have := (h.lt b hb).2; have := (h'.lt b hb').1; omega
theorem bcell {W w1 : World} (hb : Below W.heap.size W w1) : (∀ b o, b < W.heap.size → w1.cell? ⟨b, o, none⟩ = W.cell? ⟨b, o, none⟩) ∧ (∀ b o, b < W.heap.size → w1.frozen? ⟨b, o, none⟩ = W.frozen? ⟨b, o, none⟩) :=
  ⟨fun b o h => hb.cell (p := ⟨b, o, none⟩) h, fun b o h => hb.frozen (p := ⟨b, o, none⟩) h⟩
theorem Apart.symm {u v : Value} (h : Apart u v) : Apart v u := fun b hb hb' => h b hb' hb

end Go.Proofs.Ytpimndfafibgeaa
