import Derived.Test.YtdealoclkajliaaCan
import Derived.Test.YtdealoclkajliaaPut
import Derived.Test.YtdealoclkajliaaWrong
import Derived.Test.YtdealoclkajliaaIStos
import Derived.Test.YtdealoclkajliaaStoKs
/- Which cells point to a cell: hasCell, l2Points, SourcesOf of both. -/
namespace Go.Proofs.Ytdealoclkajliaa
open Go.RowKit

/-- Does cell k point to c? -/
def pntB (h : Hp) (k : Nat) (c : Int) : Bool := h.l.getD k 0 == c || h.r.getD k 0 == c
def srcN (h : Hp) (c : Int) (k : Nat) : List Int := ((List.range k).filter (pntB h · c)).map fun i : Nat => (i : Int)
def srcs (h : Hp) (c : Int) : List Int := if (hvB h && plB c h.l.length) = true then srcN h c h.l.length else []
theorem srcN_succ (h : Hp) (c : Int) (k : Nat) : srcN h c (k + 1) = if pntB h k c = true then srcN h c k ++ [(k : Int)] else srcN h c k := by
  unfold srcN
  rw [List.range_succ, List.filter_append]
  by_cases hp : pntB h k c = true <;> simp [hp]
theorem srcN_len (h : Hp) (c : Int) (k : Nat) : (srcN h c k).length ≤ k := by
  unfold srcN; rw [List.length_map]; exact Nat.le_trans (List.length_filter_le _ _) (by simp)

theorem srcs_len (h : Hp) (c : Int) : (srcs h c).length ≤ h.l.length := by
  unfold srcs; split
  · exact srcN_len _ _ _
  · simp

end Go.Proofs.Ytdealoclkajliaa

/- LeakedOf and IsFree of impl. -/
namespace Go.Proofs.Ytdealoclkajliaa
open Go.RowKit

set_option maxRecDepth 100000 in
set_option maxHeartbeats 4000000 in
theorem implIsFree_any (w : World) (lo : Nat) (v : Value) (C : Cp) (hv : Cv w lo v C) (x : Int) : Calls Try.prog 55 #[v, .int .i64 x] w (RetB w (isFreeB C x)) := by
  have hvo := hv
  obtain ⟨A0, n0, c0, A1, n1, c1, A2, n2, c2, A3, n3, c3, rfl, hh, ⟨r0, r1, r2, r3⟩, ⟨l0, l1, l2, l3⟩, ⟨mm0, mm1, mm2, mm3⟩, _⟩ := hvo.open_
  have X0 := Blk4.new w (.slice A0 n0 c0) (.slice A1 n1 c1) (.slice A2 n2 c2) (.slice A3 n3 c3) 34
  have fin : Below w.heap.size w (w.alloc (.cells #[.slice A0 n0 c0, .slice A1 n1 c1, .slice A2 n2 c2, .slice A3 n3 c3] 34)) := (Below.refl _ _).alloc (Nat.le_refl _) _
  have VV := hv.alloc (.cells #[.slice A0 n0 c0, .slice A1 n1 c1, .slice A2 n2 c2, .slice A3 n3 c3] 34)
  have HH := hh.alloc (.cells #[.slice A0 n0 c0, .slice A1 n1 c1, .slice A2 n2 c2, .slice A3 n3 c3] 34)
  have S0 := r0.alloc (.cells #[.slice A0 n0 c0, .slice A1 n1 c1, .slice A2 n2 c2, .slice A3 n3 c3] 34)
  have S1 := r1.alloc (.cells #[.slice A0 n0 c0, .slice A1 n1 c1, .slice A2 n2 c2, .slice A3 n3 c3] 34)
  have S2 := r2.alloc (.cells #[.slice A0 n0 c0, .slice A1 n1 c1, .slice A2 n2 c2, .slice A3 n3 c3] 34)
  have S3 := r3.alloc (.cells #[.slice A0 n0 c0, .slice A1 n1 c1, .slice A2 n2 c2, .slice A3 n3 c3] 34)
  have V := implStoreValid_any _ _ _ _ VV
  clear hv hh r0 r1 r2 r3 S0 S1 S2 VV HH
  rcases ev : stoB C
  · rw [ev] at V
    have hf : Hid (isFreeB C x = false) := by unfold Hid isFreeB; rw [ev]; rfl
    clear ev
    go_enter Try.func55, Try.ntmps55
    go_wp2_with fail
    refine V.mono ?_; rintro e w1 ⟨rfl, hb1⟩
    have B1 := fin.trans (hb1.mono fin.size)
    go_wp2_with fail
    go_ret
    exact ⟨ret_bool hf.out.symm, B1⟩
  · rw [ev] at V
    have hf : Hid (isFreeB C x = decide (x ∈ C.c)) := by unfold Hid isFreeB; rw [ev]; rfl
    clear ev
    go_enter Try.func55, Try.ntmps55
    go_wp2_with fail
    refine V.mono ?_; rintro e w1 ⟨rfl, hb1⟩
    have B1 := fin.trans (hb1.mono fin.size)
    obtain ⟨x0, x1, x2, x3, _⟩ := (Blk4.below (by exact X0) hb1).cells
    have I := slicesContains_any w1 lo A3 n3 c3 C.c (Row.below (by exact S3) hb1) l3.out mm3 x
    generalize decide (x ∈ C.c) = q at I hf
    clear V X0 S3 fin hb1
    go_wp2_with fail
    refine I.mono ?_; rintro e w3 ⟨rfl, rfl⟩
    go_wp2_with fail
    go_ret
    exact ⟨ret_bool hf.out.symm, B1⟩
end Go.Proofs.Ytdealoclkajliaa

