/- Three cells of a block that are stored into. -/
import Derived.Test.YtlabljanddjleaaMem
namespace Go.Proofs.Ytlabljanddjleaa
open Go.RowKit

theorem cell_o3 {w : World} {b i j : Nat} {u : Value} (v : Value) (h : i ≠ j) (hc : w.cell? ⟨b, j, none⟩ = some u) : (w.setCell ⟨b, i, none⟩ v).cell? ⟨b, j, none⟩ = some u := (World.cell?_setCell_other w _ _ v (by intro e; cases e; exact h rfl)).trans hc
theorem cells3 {W : World} {b : Nat} {u0 u1 u2 : Value} (v0 v1 v2 : Value) (q0 : W.cell? ⟨b, 0, none⟩ = some u0) (q1 : W.cell? ⟨b, 1, none⟩ = some u1) (q2 : W.cell? ⟨b, 2, none⟩ = some u2) :
    (((W.setCell ⟨b, 0, none⟩ v0).setCell ⟨b, 1, none⟩ v1).setCell ⟨b, 2, none⟩ v2).cell? ⟨b, 0, none⟩ = some v0 ∧ (((W.setCell ⟨b, 0, none⟩ v0).setCell ⟨b, 1, none⟩ v1).setCell ⟨b, 2, none⟩ v2).cell? ⟨b, 1, none⟩ = some v1 ∧ (((W.setCell ⟨b, 0, none⟩ v0).setCell ⟨b, 1, none⟩ v1).setCell ⟨b, 2, none⟩ v2).cell? ⟨b, 2, none⟩ = some v2 :=
  ⟨cell_o3 v2 (by decide) (cell_o3 v1 (by decide) (World.cell?_setCell_same _ _ v0 q0)), cell_o3 v2 (by decide) (World.cell?_setCell_same _ _ v1 (cell_o3 v0 (by decide) q1)), World.cell?_setCell_same _ _ v2 (cell_o3 v1 (by decide) (cell_o3 v0 (by decide) q2))⟩
end Go.Proofs.Ytlabljanddjleaa
