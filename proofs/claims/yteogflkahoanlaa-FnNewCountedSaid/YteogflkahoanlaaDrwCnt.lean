/- spec.DrawNewCounted. -/
import Derived.Test.YteogflkahoanlaaCaseS
namespace Go.Proofs.Yteogflkahoanlaa
open Go.RowKit

set_option maxHeartbeats 1000000 in
theorem drawNewCounted_any (w : World) (A : Option Addr) (n c : Nat) (h : Inp w A n c) :
    Calls Try.prog 33 #[.slice A n c] w (DrawnS w) := by
  have h0 := inp_alloc h (.cells #[.slice none 0 0, .slice none 0 0, .slice none 0 0, .slice none 0 0] 27)
  have Y0 := Blk4.new w (.slice none 0 0) (.slice none 0 0) (.slice none 0 0) (.slice none 0 0) 27
  have B0 : Below w.heap.size w (w.alloc (.cells #[.slice none 0 0, .slice none 0 0, .slice none 0 0, .slice none 0 0] 27)) := (Below.refl _ _).alloc (Nat.le_refl _) _
  have s0 : (w.alloc (.cells #[.slice none 0 0, .slice none 0 0, .slice none 0 0, .slice none 0 0] 27)).heap.size = w.heap.size + 1 := by simp
  go_enter Try.func33, Try.ntmps33
  go_wp2_with fail
  generalize w.alloc (.cells #[.slice none 0 0, .slice none 0 0, .slice none 0 0, .slice none 0 0] 27) = W at h0 Y0 B0 s0 ⊢
  refine (drawCollectStore_any _ _ _ _ h0).mono ?_; rintro e w1 ⟨v3, C3, rfl, hv3, hb1⟩
  have z1 := hb1.size
  obtain ⟨A0, n0, k0, A1, n1, k1, A2, n2, k2, A3, n3, k3, rfl, _⟩ := hv3.open_
  have B3 := B0.trans (hb1.mono (by omega))
  obtain ⟨hH, hBf⟩ := laidS (w := w) (b := w.heap.size) (Nat.le_refl _) (hv3.mono (by omega)) B3
  obtain ⟨y0, y1, y2, y3, i0, i1, i2, i3⟩ := (Y0.below hb1).cells
  clear hv3 Y0 B3
  go_wp2_with fail
  refine bodyPost_ret (v := .agg #[.slice A0 n0 k0, .slice A1 n1 k1, .slice A2 n2 k2, .slice A3 n3 k3]) ?_ rfl ⟨_, C3, rfl, hH, hBf⟩
  simp [results, Try.results33, go_sem, y0, y1, y2, y3]
end Go.Proofs.Yteogflkahoanlaa
