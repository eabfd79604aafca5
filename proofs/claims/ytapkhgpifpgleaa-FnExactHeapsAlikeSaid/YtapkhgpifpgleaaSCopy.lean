/- l3Copy of spec: a deep copy of a colored heap. -/
import Derived.Test.YtapkhgpifpgleaaSCol2
import Derived.Deep.RegionLawGrows
import Derived.Deep.RegionHeld3
namespace Go.Proofs.Ytapkhgpifpgleaa
open Go.RowKit

theorem cellF4 {w : World} {a : Addr} {u : Value} {b : Nat} (h : w.cell? a = some u) (hne : b ≠ a.block) (v0 v1 v2 v3 : Value) : ((((w.setCell ⟨b, 0, none⟩ v0).setCell ⟨b, 1, none⟩ v1).setCell ⟨b, 2, none⟩ v2).setCell ⟨b, 3, none⟩ v3).cell? a = some u := by
  rw [World.cell?_setCell_far _ _ _ _ hne, World.cell?_setCell_far _ _ _ _ hne, World.cell?_setCell_far _ _ _ _ hne, World.cell?_setCell_far _ _ _ _ hne]; exact h

def NewCv (w : World) (C : Cp) (e : Ending) (w' : World) : Prop := ∃ v, e = .returned v ∧ Cv w' w.heap.size v C ∧ Below w.heap.size w w'

theorem copyC_done {w w3 : World} {v0 v1 v2 v3 : Value} {C : Cp} (hh : Hv w3 (w.heap.size + 2) (.agg #[v0, v1, v2]) C.h) (h3 : Row w3 (w.heap.size + 2) v3 C.c) (a : Apart v0 v3 ∧ Apart v1 v3 ∧ Apart v2 v3) (hB : Below w.heap.size w w3) :
    Cv ((((w3.setCell ⟨w.heap.size + 1, 0, none⟩ v0).setCell ⟨w.heap.size + 1, 1, none⟩ v1).setCell ⟨w.heap.size + 1, 2, none⟩ v2).setCell ⟨w.heap.size + 1, 3, none⟩ v3) w.heap.size (.agg #[v0, v1, v2, v3]) C ∧
    Below w.heap.size w ((((w3.setCell ⟨w.heap.size + 1, 0, none⟩ v0).setCell ⟨w.heap.size + 1, 1, none⟩ v1).setCell ⟨w.heap.size + 1, 2, none⟩ v2).setCell ⟨w.heap.size + 1, 3, none⟩ v3) := by
  have C0 : Cv w3 (w.heap.size + 2) (.agg #[v0, v1, v2, v3]) C := ⟨v0, v1, v2, v3, rfl, hh, h3, a⟩
  exact ⟨((((C0.set_low (by simp) _).set_low (by simp) _).set_low (by simp) _).set_low (by simp) _).mono (by omega), (((hB.setCell (by simp) _).setCell (by simp) _).setCell (by simp) _).setCell (by simp) _⟩

end Go.Proofs.Ytapkhgpifpgleaa
