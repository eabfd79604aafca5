/- Which cells point to a cell: hasCell, l2Points, SourcesOf of both. -/
import Derived.Test.YtgooohapdjgmpaaHpB
import Derived.Test.YtgooohapdjgmpaaWrong
namespace Go.Proofs.Ytgooohapdjgmpaa
open Go.RowKit

set_option maxHeartbeats 1000000 in
theorem hasCell_any (w : World) (lo : Nat) (v : Value) (h : Hp) (hv : Hv w lo v h) (x : Int) :
    Calls Try.prog 59 #[v, .int .i64 x] w (RetB w (hvB h && plB x h.l.length)) := by
  obtain ⟨A0, n0, c0, A1, n1, c1, A2, n2, c2, rfl, ⟨h0, h1, h2⟩, ⟨l0, l1, l2⟩, _⟩ := hv.open_
  have X0 := Blk3.new w (.slice A0 n0 c0) (.slice A1 n1 c1) (.slice A2 n2 c2) 25
  have V := implHeapValid_any _ _ _ _ (hv.alloc (.cells #[.slice A0 n0 c0, .slice A1 n1 c1, .slice A2 n2 c2] 25))
  have fin : Below w.heap.size w (w.alloc (.cells #[.slice A0 n0 c0, .slice A1 n1 c1, .slice A2 n2 c2] 25)) := (Below.refl _ _).alloc (Nat.le_refl _) _
  have hdef : Hid ((hvB h && plB x h.l.length) = (hvB h && plB x n0)) := by unfold Hid; rw [l0.out]
  rcases ev : hvB h
  · rw [ev] at V
    have hf : Hid ((false && plB x h.l.length) = false) := by unfold Hid; simp
    clear ev hdef
    go_enter Try.func59, Try.ntmps59
    go_wp2_with fail
    refine V.mono ?_; rintro e w1 ⟨rfl, hb1⟩
    go_wp2_with fail
    go_ret
    exact ⟨ret_bool hf.out.symm, fin.trans (hb1.mono (by simp))⟩
  · rw [ev] at V hdef
    have PL := hasPlace_any A0 n0 c0 x
    have hf : Hid ((true && plB x h.l.length) = plB x n0) := by unfold Hid; rw [hdef.out]; simp
    clear ev hdef
    generalize plB x n0 = r at PL hf
    go_enter Try.func59, Try.ntmps59
    go_wp2_with fail
    refine V.mono ?_; rintro e w1 ⟨rfl, hb1⟩
    obtain ⟨p0, p1, p2, _⟩ := (Blk3.below (by exact X0) hb1).cells
    go_wp2_with fail
    refine (PL _).mono ?_; rintro e w' ⟨rfl, rfl⟩
    go_wp2_with fail
    go_ret
    exact ⟨ret_bool hf.out.symm, fin.trans (hb1.mono (by simp))⟩

/-- Does cell k point to c? -/
def pntB (h : Hp) (k : Nat) (c : Int) : Bool := h.l.getD k 0 == c || h.r.getD k 0 == c
def srcN (h : Hp) (c : Int) (k : Nat) : List Int := ((List.range k).filter (pntB h · c)).map fun i : Nat => (i : Int)
def srcs (h : Hp) (c : Int) : List Int := if (hvB h && plB c h.l.length) = true then srcN h c h.l.length else []
theorem srcN_succ (h : Hp) (c : Int) (k : Nat) : srcN h c (k + 1) = if pntB h k c = true then srcN h c k ++ [(k : Int)] else srcN h c k := by
  unfold srcN
  rw [List.range_succ, List.filter_append]
  by_cases hp : pntB h k c = true <;> simp [hp]
theorem srcN_len (h : Hp) (c : Int) (k : Nat) : (srcN h c k).length ≤ k := by
  unfold srcN; rw [List.length_map]; exact Nat.le_trans (List.length_filter_le _ _) (by simp)

theorem srcs_len (h : Hp) (c : Int) : (srcs h c).length ≤ h.l.length := by
  unfold srcs; split
  · exact srcN_len _ _ _
  · simp

end Go.Proofs.Ytgooohapdjgmpaa
