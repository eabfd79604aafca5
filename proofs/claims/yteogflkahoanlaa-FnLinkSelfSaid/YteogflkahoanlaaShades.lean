import Derived.Test.YteogflkahoanlaaSCols
import Derived.Deep.RegionHeld3
import Derived.Test.YteogflkahoanlaaSCopy
import Derived.Test.YteogflkahoanlaaHpB
/- l3Black of spec: a cell is made black, and what it points to gray, in a row of colors of its own. -/
namespace Go.Proofs.Yteogflkahoanlaa
open Go.RowKit

theorem cellO {w : World} {a p : Addr} {u v : Value} (h : w.cell? a = some u) (hne : p ≠ a) : (w.setCell p v).cell? a = some u := (World.cell?_setCell_other w p a v hne).trans h
theorem onlyB_row {w w' : World} {g lo : Nat} {v : Value} {xs : List Int} (h : Row w lo v xs) (hO : OnlyB g w w') (hne : v.ownBlock ≠ some g) : Row w' lo v xs := h.kept hO.1 (.inr hne)
theorem trans_grown {row : Option Nat} {a b c : World} (h : a.grownBy b row) (k : b.grownBy c row) : a.grownBy c row :=
  ⟨k.os.trans h.os, k.tape.trans h.tape, k.output.trans h.output, Nat.le_trans h.size k.size, fun j hj hne => (k.block j (Nat.lt_of_lt_of_le hj h.size) hne).trans (h.block j hj hne)⟩
theorem grown_setNew {row : Option Nat} {a b : World} (h : a.grownBy b row) {p : Addr} (hp : some p.block = row ∨ a.heap.size ≤ p.block) (u : Value) : a.grownBy (b.setCell p u) row :=
  ⟨h.os, h.tape, h.output, by simpa [World.setCell] using h.size, fun j hj hne => (Below.heap_setCell b p u j (fun e => by
    rcases hp with h9 | h9
    · exact hne (by rw [e]; exact h9)
    · omega)).trans (h.block j hj hne)⟩

end Go.Proofs.Yteogflkahoanlaa

/- ShadeCell of spec. -/
namespace Go.Proofs.Yteogflkahoanlaa
open Go.RowKit

def OptCv (w : World) (o : Option Cp) (e : Ending) (w' : World) : Prop := ∃ v, e = .returned (.tuple #[v, .bool o.isSome]) ∧ Cv w' w.heap.size v (o.getD Cp.zero) ∧ Below w.heap.size w w'
def shadeO (C : Cp) (k : Int) : Option Cp := if cvB C = true ∧ plB k C.h.l.length = true then some ⟨C.h, shade C.c k⟩ else none

theorem Row.nown {w : World} {lo b : Nat} {v : Value} {xs : List Int} (h : Row w lo v xs) (hb : w.heap.size ≤ b) : v.ownBlock ≠ some b := fun e => by have := (h.lt b e).2; omega
theorem below_only {g B : Nat} {w w' : World} (h : OnlyB g w w') (hB : B ≤ g) (hs : B ≤ w.heap.size) : Below B w w' :=
  ⟨h.1.os, h.1.tape, h.1.output, h.1.size, fun k hk => h.1.block k (by omega) (fun e => by cases e; omega)⟩
/-- The zero value is laid into the result's block. -/
theorem zero_done {w w1 : World} {b : Nat} (hb : w.heap.size ≤ b) (hB : Below w.heap.size w w1) :
    Cv ((((w1.setCell ⟨b, 0, none⟩ (.slice none 0 0)).setCell ⟨b, 1, none⟩ (.slice none 0 0)).setCell ⟨b, 2, none⟩ (.slice none 0 0)).setCell ⟨b, 3, none⟩ (.slice none 0 0)) w.heap.size (.agg #[.slice none 0 0, .slice none 0 0, .slice none 0 0, .slice none 0 0]) Cp.zero ∧
    Below w.heap.size w ((((w1.setCell ⟨b, 0, none⟩ (.slice none 0 0)).setCell ⟨b, 1, none⟩ (.slice none 0 0)).setCell ⟨b, 2, none⟩ (.slice none 0 0)).setCell ⟨b, 3, none⟩ (.slice none 0 0)) :=
  ⟨Cv.zero _ _, (((hB.setCell hb _).setCell hb _).setCell hb _).setCell hb _⟩

end Go.Proofs.Yteogflkahoanlaa

