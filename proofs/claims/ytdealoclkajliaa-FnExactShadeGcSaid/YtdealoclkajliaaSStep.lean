/- MarkStep of spec. -/
import Derived.Test.YtdealoclkajliaaShades
namespace Go.Proofs.Ytdealoclkajliaa
open Go.RowKit

/-- A colored heap, and two answers. -/
theorem below_row' {rb B : Nat} {w w' : World} (h : w.grownBy w' (some rb)) (hB : B ≤ rb) (hs : B ≤ w.heap.size) : Below B w w' :=
  ⟨h.os, h.tape, h.output, h.size, fun k hk => h.block k (by omega) (fun e => by cases e; omega)⟩
def Opt3 (w : World) (C : Cp) (b1 b2 : Bool) (e : Ending) (w' : World) : Prop := ∃ v, e = .returned (.tuple #[v, .bool b1, .bool b2]) ∧ Cv w' w.heap.size v C ∧ Below w.heap.size w w'
def stepC (C : Cp) : Cp := if firstOf C.c 1 = -1 then C else ⟨C.h, blackC C.h C.c (firstOf C.c 1).toNat⟩
def movesB (C : Cp) : Bool := decide (firstOf C.c 1 ≠ -1)
def stepOf (C : Cp) : Cp := if cvB C = true then stepC C else Cp.zero
def movesO (C : Cp) : Bool := cvB C && movesB C
theorem first_cases (c : List Int) (x : Int) : firstOf c x = -1 ∨ ∃ k : Nat, firstOf c x = k ∧ k < c.length ∧ c[k]? = some x := by
  unfold firstOf
  by_cases h : x ∈ c
  · rw [if_pos h]
    have hlt : c.idxOf x < c.length := List.idxOf_lt_length_of_mem h
    exact .inr ⟨c.idxOf x, rfl, hlt, by rw [List.getElem?_eq_getElem hlt, List.getElem_idxOf]⟩
  · rw [if_neg h]; exact .inl rfl

end Go.Proofs.Ytdealoclkajliaa
