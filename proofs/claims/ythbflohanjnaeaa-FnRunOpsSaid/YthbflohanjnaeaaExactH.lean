/- The helpers of the exact laws over heaps: eqHeap, markHeap, heldHeap. -/
import Derived.Test.YthbflohanjnaeaaExactR
import Derived.Test.YthbflohanjnaeaaSame
import Derived.Test.YthbflohanjnaeaaPut
import Derived.Test.YthbflohanjnaeaaCount
namespace Go.Proofs.Ythbflohanjnaeaa
open Go.RowKit

theorem apart_row {u v : Value} (h : Apart u v) : v.ownBlock = none ∨ v.ownBlock ≠ u.ownBlock := by
  cases hv : v.ownBlock with
  | none => exact .inl rfl
  | some b => exact .inr fun e => h b e.symm hv
theorem Blk3.keptR {w w' : World} {row : Option Nat} {b : Nat} {x y z : Value} {t : TypeId} (h : Blk3 w b x y z t) (hg : w.grownBy w' row) (hb : some b ≠ row) : Blk3 w' b x y z t := (hg.block b h.lt hb).trans h
theorem Row.notown {w : World} {lo b : Nat} {v : Value} {xs : List Int} (h : Row w lo v xs) (hb : w.heap.size ≤ b) : some b ≠ v.ownBlock := fun e => by have := (h.lt b e.symm).2; omega
theorem Row.belowLo {w w' : World} {lo : Nat} {v : Value} {xs : List Int} (h : Row w lo v xs) (hl : lo ≤ w.heap.size) (hg : w.grownBy w' v.ownBlock) : Below lo w w' :=
  ⟨hg.os, hg.tape, hg.output, hg.size, fun k hk => hg.block k (by omega) (fun e => by have := (h.lt k e.symm).1; omega)⟩

def markH (k : Nat) (h : Hp) : Hp := ⟨seqI k h.l.length, seqI (k + h.l.length) h.r.length, seqI (k + h.l.length + h.r.length) h.t.length⟩
def sizeH (h : Hp) : Nat := h.l.length + h.r.length + h.t.length
/-- Block b is none of the heap's own. -/
def NotIn (v : Value) (b : Nat) : Prop := ∀ v0 v1 v2, v = .agg #[v0, v1, v2] → some b ≠ v0.ownBlock ∧ some b ≠ v1.ownBlock ∧ some b ≠ v2.ownBlock
/-- The heap holds k, k+1, ..; below lo nothing has turned. -/
def MarkedH (w : World) (lo k : Nat) (v : Value) (h : Hp) (e : Ending) (w' : World) : Prop :=
  e = .returned (.int .i64 ((k + sizeH h : Nat) : Int)) ∧ Hv w' lo v (markH k h) ∧ Below lo w w' ∧ ∀ b, b < w.heap.size → NotIn v b → w'.heap[b]? = w.heap[b]?

end Go.Proofs.Ythbflohanjnaeaa
