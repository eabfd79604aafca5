/- spec.DrawNewColored: a heap, whatever it is. -/
import Derived.Test.YtepljdlikplfeaaDHV
namespace Go.Proofs.Ytepljdlikplfeaa
open Go.RowKit

set_option maxHeartbeats 1000000 in
theorem drawNewColored_any (w : World) (A : Option Addr) (n c : Nat) (h : Inp w A n c) :
    Calls Try.prog 7 #[.slice A n c] w (DrawnV w) := by
  have h0 := inp_alloc h (.cells #[.slice none 0 0, .slice none 0 0, .slice none 0 0] 25)
  have Y0 := Blk3.new w (.slice none 0 0) (.slice none 0 0) (.slice none 0 0) 25
  go_enter Try.func7, Try.ntmps7
  go_wp2_with fail
  refine (drawHeapValid_any _ _ _ _ h0).mono ?_; rintro e w1 ⟨v1, hh, rfl, hv1, hb1⟩
  obtain ⟨A0, n0, c0, A1, m1, c1, A2, m2, c2, rfl, ⟨r0, r1, r2⟩, _, _, _, a01, a02, a12⟩ := hv1.open_
  have z1 := hb1.size
  simp at z1
  have B3 : Below w.heap.size w w1 := ((Below.refl _ _).alloc (Nat.le_refl _) _).trans (hb1.mono (by simp))
  obtain ⟨y0, y1, y2, f0, f1, f2⟩ := (Y0.below hb1).cells
  obtain ⟨hH, hBf⟩ := made_done (h := hh) (Nat.le_refl _) (r0.mono (by simp)) (r1.mono (by simp)) (r2.mono (by simp)) a01 a02 a12 B3
  clear hv1 r0 r1 r2
  go_wp2_with fail
  refine bodyPost_ret (v := .agg #[.slice A0 n0 c0, .slice A1 m1 c1, .slice A2 m2 c2]) ?_ rfl ⟨_, hh, rfl, hH, hBf⟩
  simp [results, Try.results7, go_sem, y0, y1, y2]
end Go.Proofs.Ytepljdlikplfeaa
