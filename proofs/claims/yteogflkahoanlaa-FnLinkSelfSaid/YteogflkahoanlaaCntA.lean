import Derived.Test.YteogflkahoanlaaHpB
import Derived.Test.YteogflkahoanlaaHpA
/- impl.CountPointers. -/
namespace Go.Proofs.Yteogflkahoanlaa
open Go.RowKit

theorem quiet_left {P : Program} {f : FuncId} {args : Array Value} {w : World} {n : Nat} {v : Value}
    (h : Calls P f args (w.drewN n) fun e w' => e = .returned v ∧ w.drewN n = w') : Calls P f args (w.drewN n) fun e w'' => e = .returned v ∧ ∃ m, w'' = w.drewN m :=
  h.mono fun _ _ ⟨he, hm⟩ => ⟨he, n, hm.symm⟩

def cntH (h : Hp) : Int := if hvB h = true then cntN h.l + cntN h.r + cntN h.t else 0
/-- A number comes back, and nothing that was there has turned. -/
def RetI (w : World) (x : Int) (e : Ending) (w' : World) : Prop := e = .returned (.int .i64 x) ∧ Below w.heap.size w w'

end Go.Proofs.Yteogflkahoanlaa

/- The helpers of the exact laws over rows: eqIntS, markIntS, heldIntS. -/
namespace Go.Proofs.Yteogflkahoanlaa
open Go.RowKit

/-- k, k+1, .. : n numbers. -/
def seqI (k n : Nat) : List Int := (List.range n).map fun i => ((k + i : Nat) : Int)
theorem seqI_len (k n : Nat) : (seqI k n).length = n := by simp [seqI]
theorem seqI_succ (k n : Nat) : seqI k (n + 1) = seqI k n ++ [((k + n : Nat) : Int)] := by simp [seqI, List.range_succ]
theorem seqI_set {xs : List Int} {k j : Nat} (h : j < xs.length) : (seqI k j ++ xs.drop j).set j ((k + j : Nat) : Int) = seqI k (j + 1) ++ xs.drop (j + 1) := by
  rw [List.set_append, if_neg (by rw [seqI_len]; omega), seqI_len, Nat.sub_self, List.drop_eq_getElem_cons h, List.set_cons_zero, seqI_succ]
  simp

/-- The row holds k, k+1, ..; its own block alone has turned. -/
def Marked (w : World) (lo k n : Nat) (v : Value) (e : Ending) (w' : World) : Prop :=
  e = .returned (.int .i64 ((k + n : Nat) : Int)) ∧ Row w' lo v (seqI k n) ∧ w.grownBy w' v.ownBlock ∧ w'.heap.size = w.heap.size

def heldR (k : Nat) (xs : List Int) : Int := if xs = seqI k xs.length then ((k + xs.length : Nat) : Int) else -1

end Go.Proofs.Yteogflkahoanlaa

/- The helpers of the exact laws over heaps: eqHeap, markHeap, heldHeap. -/
namespace Go.Proofs.Yteogflkahoanlaa
open Go.RowKit

theorem apart_row {u v : Value} (h : Apart u v) : v.ownBlock = none ∨ v.ownBlock ≠ u.ownBlock := by
  cases hv : v.ownBlock with
  | none => exact .inl rfl
  | some b => exact .inr fun e => h b e.symm hv
theorem Blk3.keptR {w w' : World} {row : Option Nat} {b : Nat} {x y z : Value} {t : TypeId} (h : Blk3 w b x y z t) (hg : w.grownBy w' row) (hb : some b ≠ row) : Blk3 w' b x y z t := (hg.block b h.lt hb).trans h
theorem Row.notown {w : World} {lo b : Nat} {v : Value} {xs : List Int} (h : Row w lo v xs) (hb : w.heap.size ≤ b) : some b ≠ v.ownBlock := fun e => by have := (h.lt b e.symm).2; omega
theorem Row.belowLo {w w' : World} {lo : Nat} {v : Value} {xs : List Int} (h : Row w lo v xs) (hl : lo ≤ w.heap.size) (hg : w.grownBy w' v.ownBlock) : Below lo w w' :=
  ⟨hg.os, hg.tape, hg.output, hg.size, fun k hk => hg.block k (by omega) (fun e => by have := (h.lt k e.symm).1; omega)⟩

def markH (k : Nat) (h : Hp) : Hp := ⟨seqI k h.l.length, seqI (k + h.l.length) h.r.length, seqI (k + h.l.length + h.r.length) h.t.length⟩
def sizeH (h : Hp) : Nat := h.l.length + h.r.length + h.t.length
/-- Block b is none of the heap's own. -/
def NotIn (v : Value) (b : Nat) : Prop := ∀ v0 v1 v2, v = .agg #[v0, v1, v2] → some b ≠ v0.ownBlock ∧ some b ≠ v1.ownBlock ∧ some b ≠ v2.ownBlock
/-- The heap holds k, k+1, ..; below lo nothing has turned. -/
def MarkedH (w : World) (lo k : Nat) (v : Value) (h : Hp) (e : Ending) (w' : World) : Prop :=
  e = .returned (.int .i64 ((k + sizeH h : Nat) : Int)) ∧ Hv w' lo v (markH k h) ∧ Below lo w w' ∧ ∀ b, b < w.heap.size → NotIn v b → w'.heap[b]? = w.heap[b]?

end Go.Proofs.Yteogflkahoanlaa

