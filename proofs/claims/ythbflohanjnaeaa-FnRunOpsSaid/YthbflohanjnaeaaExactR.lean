/- The helpers of the exact laws over rows: eqIntS, markIntS, heldIntS. -/
import Derived.Test.YthbflohanjnaeaaMake
namespace Go.Proofs.Ythbflohanjnaeaa
open Go.RowKit

/-- k, k+1, .. : n numbers. -/
def seqI (k n : Nat) : List Int := (List.range n).map fun i => ((k + i : Nat) : Int)
theorem seqI_len (k n : Nat) : (seqI k n).length = n := by simp [seqI]
theorem seqI_succ (k n : Nat) : seqI k (n + 1) = seqI k n ++ [((k + n : Nat) : Int)] := by simp [seqI, List.range_succ]
theorem seqI_set {xs : List Int} {k j : Nat} (h : j < xs.length) : (seqI k j ++ xs.drop j).set j ((k + j : Nat) : Int) = seqI k (j + 1) ++ xs.drop (j + 1) := by
  rw [List.set_append, if_neg (by rw [seqI_len]; omega), seqI_len, Nat.sub_self, List.drop_eq_getElem_cons h, List.set_cons_zero, seqI_succ]
  simp

/-- The row holds k, k+1, ..; its own block alone has turned. -/
def Marked (w : World) (lo k n : Nat) (v : Value) (e : Ending) (w' : World) : Prop :=
  e = .returned (.int .i64 ((k + n : Nat) : Int)) ∧ Row w' lo v (seqI k n) ∧ w.grownBy w' v.ownBlock ∧ w'.heap.size = w.heap.size

def heldR (k : Nat) (xs : List Int) : Int := if xs = seqI k xs.length then ((k + xs.length : Nat) : Int) else -1

end Go.Proofs.Ythbflohanjnaeaa
