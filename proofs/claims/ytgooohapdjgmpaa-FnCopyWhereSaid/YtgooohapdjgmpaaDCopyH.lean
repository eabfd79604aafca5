/- spec.DrawCountPointers and its like: a heap, whatever it is. -/
import Derived.Test.YtgooohapdjgmpaaDHV
namespace Go.Proofs.Ytgooohapdjgmpaa
open Go.RowKit

set_option maxHeartbeats 400000 in
theorem drawCopyHeap_any (w : World) (A : Option Addr) (n c : Nat) (h : Inp w A n c) :
    Calls Try.prog 12 #[.slice A n c] w (DrawnV w) := by
  have h0 := inp_alloc h (.cells #[.slice none 0 0, .slice none 0 0, .slice none 0 0] 25)
  have Y0 := Blk3.new w (.slice none 0 0) (.slice none 0 0) (.slice none 0 0) 25
  go_enter Try.func12, Try.ntmps12
  go_wp2_with fail
  refine (drawHeapValid_any _ _ _ _ h0).mono ?_; rintro e w1 ⟨v, hp, rfl, hv, hb⟩
  obtain ⟨A0, n0, c0, A1, m1, c1, A2, m2, c2, rfl, ⟨r0, r1, r2⟩, _, _, _, a01, a02, a12⟩ := hv.open_
  obtain ⟨y0, y1, y2, f0, f1, f2⟩ := (Y0.below hb).cells
  have B : Below w.heap.size w w1 := ((Below.refl _ _).alloc (Nat.le_refl _) _).trans (hb.mono (by simp))
  obtain ⟨hH, hBf⟩ := made_done (h := hp) (Nat.le_refl _) (r0.mono (by simp)) (r1.mono (by simp)) (r2.mono (by simp)) a01 a02 a12 B
  clear hv r0 r1 r2
  go_wp2_with fail
  refine bodyPost_ret (v := .agg #[.slice A0 n0 c0, .slice A1 m1 c1, .slice A2 m2 c2]) ?_ rfl ⟨_, hp, rfl, hH, hBf⟩
  simp [results, Try.results12, go_sem, y0, y1, y2]
end Go.Proofs.Ytgooohapdjgmpaa
