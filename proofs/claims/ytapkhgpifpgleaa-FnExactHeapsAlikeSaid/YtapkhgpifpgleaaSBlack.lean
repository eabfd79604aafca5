/- l3Black of spec: a cell is made black, and what it points to gray, in a row of colors of its own. -/
import Derived.Test.YtapkhgpifpgleaaSCol2
import Derived.Deep.RegionHeld3
namespace Go.Proofs.Ytapkhgpifpgleaa
open Go.RowKit

theorem cellO {w : World} {a p : Addr} {u v : Value} (h : w.cell? a = some u) (hne : p ≠ a) : (w.setCell p v).cell? a = some u := (World.cell?_setCell_other w p a v hne).trans h
theorem onlyB_row {w w' : World} {g lo : Nat} {v : Value} {xs : List Int} (h : Row w lo v xs) (hO : OnlyB g w w') (hne : v.ownBlock ≠ some g) : Row w' lo v xs := h.kept hO.1 (.inr hne)
theorem trans_grown {row : Option Nat} {a b c : World} (h : a.grownBy b row) (k : b.grownBy c row) : a.grownBy c row :=
  ⟨k.os.trans h.os, k.tape.trans h.tape, k.output.trans h.output, Nat.le_trans h.size k.size, fun j hj hne => (k.block j (Nat.lt_of_lt_of_le hj h.size) hne).trans (h.block j hj hne)⟩
theorem grown_setNew {row : Option Nat} {a b : World} (h : a.grownBy b row) {p : Addr} (hp : some p.block = row ∨ a.heap.size ≤ p.block) (u : Value) : a.grownBy (b.setCell p u) row :=
  ⟨h.os, h.tape, h.output, by simpa [World.setCell] using h.size, fun j hj hne => (Below.heap_setCell b p u j (fun e => by
    rcases hp with h9 | h9
    · exact hne (by rw [e]; exact h9)
    · omega)).trans (h.block j hj hne)⟩

end Go.Proofs.Ytapkhgpifpgleaa
