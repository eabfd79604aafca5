/- spec.l2Case: a heap and a cell, whatever they are. -/
import Derived.Test.YtkcelcjghplhiaaCase
namespace Go.Proofs.Ytkcelcjghplhiaa
open Go.RowKit

/-- A heap and a number come back, and nothing that was there has turned. -/
def DrawnP (w : World) (e : Ending) (w' : World) : Prop := ∃ v h x, e = .returned (.tuple #[v, .int .i64 x]) ∧ Hv w' w.heap.size v h ∧ Below w.heap.size w w' ∧ (-2 ≤ x ∧ x ≤ 8)

set_option maxHeartbeats 1000000 in
theorem l2Case_any (w : World) (A : Option Addr) (n c : Nat) (h : Inp w A n c) :
    Calls Try.prog 23 #[.slice A n c] w (DrawnP w) := by
  have h0 := inp_alloc h (.cells #[.slice none 0 0, .slice none 0 0, .slice none 0 0] 25)
  have Y0 := Blk3.new w (.slice none 0 0) (.slice none 0 0) (.slice none 0 0) 25
  go_enter Try.func23, Try.ntmps23
  go_wp2_with fail
  refine (l1CaseW_any _ _ _ _ h0).mono ?_; rintro e w1 ⟨v, hp, x, y, rfl, hv, hb, hx0, _⟩
  have HX := Lib.hid hx0
  clear hx0
  obtain ⟨A0, n0, c0, A1, m1, c1, A2, m2, c2, rfl, ⟨r0, r1, r2⟩, _, _, _, a01, a02, a12⟩ := hv.open_
  have Y1 := (Y0.below hb).alloc (.cells #[.slice A0 n0 c0, .slice A1 m1 c1, .slice A2 m2 c2] 25)
  obtain ⟨y0, y1, y2, f0, f1, f2⟩ := Y1.cells
  have B0 : Below w.heap.size w w1 := ((Below.refl _ _).alloc (Nat.le_refl _) _).trans (hb.mono (by simp))
  have B := B0.alloc B0.size (.cells #[.slice A0 n0 c0, .slice A1 m1 c1, .slice A2 m2 c2] 25)
  obtain ⟨hH, hBf⟩ := made_done (h := hp) (Nat.le_refl _) ((r0.mono (by simp)).alloc (.cells #[.slice A0 n0 c0, .slice A1 m1 c1, .slice A2 m2 c2] 25)) ((r1.mono (by simp)).alloc (.cells #[.slice A0 n0 c0, .slice A1 m1 c1, .slice A2 m2 c2] 25)) ((r2.mono (by simp)).alloc (.cells #[.slice A0 n0 c0, .slice A1 m1 c1, .slice A2 m2 c2] 25)) a01 a02 a12 B
  clear hv r0 r1 r2
  go_wp2_with fail
  refine bodyPost_ret (v := .tuple #[.agg #[.slice A0 n0 c0, .slice A1 m1 c1, .slice A2 m2 c2], .int .i64 x]) ?_ rfl ⟨_, hp, x, rfl, hH, hBf, HX.out⟩
  simp [results, Try.results23, go_sem, y0, y1, y2]
end Go.Proofs.Ytkcelcjghplhiaa
