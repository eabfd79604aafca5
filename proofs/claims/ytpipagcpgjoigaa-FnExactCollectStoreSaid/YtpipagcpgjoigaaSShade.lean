/- ShadeCell of spec. -/
import Derived.Test.YtpipagcpgjoigaaSCopy
import Derived.Test.YtpipagcpgjoigaaSBlack
import Derived.Test.YtpipagcpgjoigaaCan
namespace Go.Proofs.Ytpipagcpgjoigaa
open Go.RowKit

def OptCv (w : World) (o : Option Cp) (e : Ending) (w' : World) : Prop := ∃ v, e = .returned (.tuple #[v, .bool o.isSome]) ∧ Cv w' w.heap.size v (o.getD Cp.zero) ∧ Below w.heap.size w w'
def shadeO (C : Cp) (k : Int) : Option Cp := if cvB C = true ∧ plB k C.h.l.length = true then some ⟨C.h, shade C.c k⟩ else none

theorem Row.nown {w : World} {lo b : Nat} {v : Value} {xs : List Int} (h : Row w lo v xs) (hb : w.heap.size ≤ b) : v.ownBlock ≠ some b := fun e => by have := (h.lt b e).2; omega
theorem below_only {g B : Nat} {w w' : World} (h : OnlyB g w w') (hB : B ≤ g) (hs : B ≤ w.heap.size) : Below B w w' :=
  ⟨h.1.os, h.1.tape, h.1.output, h.1.size, fun k hk => h.1.block k (by omega) (fun e => by cases e; omega)⟩
/-- The zero value is laid into the result's block. -/
theorem zero_done {w w1 : World} {b : Nat} (hb : w.heap.size ≤ b) (hB : Below w.heap.size w w1) :
    Cv ((((w1.setCell ⟨b, 0, none⟩ (.slice none 0 0)).setCell ⟨b, 1, none⟩ (.slice none 0 0)).setCell ⟨b, 2, none⟩ (.slice none 0 0)).setCell ⟨b, 3, none⟩ (.slice none 0 0)) w.heap.size (.agg #[.slice none 0 0, .slice none 0 0, .slice none 0 0, .slice none 0 0]) Cp.zero ∧
    Below w.heap.size w ((((w1.setCell ⟨b, 0, none⟩ (.slice none 0 0)).setCell ⟨b, 1, none⟩ (.slice none 0 0)).setCell ⟨b, 2, none⟩ (.slice none 0 0)).setCell ⟨b, 3, none⟩ (.slice none 0 0)) :=
  ⟨Cv.zero _ _, (((hB.setCell hb _).setCell hb _).setCell hb _).setCell hb _⟩

end Go.Proofs.Ytpipagcpgjoigaa
