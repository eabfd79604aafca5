/- Which cells point to a cell: hasCell, l2Points, SourcesOf of both. -/
import Derived.Test.YtapkhgpifpgleaaHpB
import Derived.Test.YtapkhgpifpgleaaWrong
namespace Go.Proofs.Ytapkhgpifpgleaa
open Go.RowKit

/-- Does cell k point to c? -/
def pntB (h : Hp) (k : Nat) (c : Int) : Bool := h.l.getD k 0 == c || h.r.getD k 0 == c
def srcN (h : Hp) (c : Int) (k : Nat) : List Int := ((List.range k).filter (pntB h · c)).map fun i : Nat => (i : Int)
def srcs (h : Hp) (c : Int) : List Int := if (hvB h && plB c h.l.length) = true then srcN h c h.l.length else []
theorem srcN_succ (h : Hp) (c : Int) (k : Nat) : srcN h c (k + 1) = if pntB h k c = true then srcN h c k ++ [(k : Int)] else srcN h c k := by
  unfold srcN
  rw [List.range_succ, List.filter_append]
  by_cases hp : pntB h k c = true <;> simp [hp]
theorem srcN_len (h : Hp) (c : Int) (k : Nat) : (srcN h c k).length ≤ k := by
  unfold srcN; rw [List.length_map]; exact Nat.le_trans (List.length_filter_le _ _) (by simp)

theorem srcs_len (h : Hp) (c : Int) : (srcs h c).length ≤ h.l.length := by
  unfold srcs; split
  · exact srcN_len _ _ _
  · simp

end Go.Proofs.Ytapkhgpifpgleaa
