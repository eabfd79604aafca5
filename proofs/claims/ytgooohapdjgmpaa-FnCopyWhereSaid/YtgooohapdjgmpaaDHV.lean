/- spec.DrawHeapValid: a heap, whatever it is. -/
import Derived.Test.YtgooohapdjgmpaaDraws
namespace Go.Proofs.Ytgooohapdjgmpaa
open Go.RowKit

set_option maxHeartbeats 1000000 in
theorem drawHeapValid_any (w : World) (A : Option Addr) (n c : Nat) (h : Inp w A n c) :
    Calls Try.prog 32 #[.slice A n c] w (DrawnV w) := by
  have h0 := inp_alloc h (.cells #[.slice none 0 0, .slice none 0 0, .slice none 0 0] 25)
  have Y0 := Blk3.new w (.slice none 0 0) (.slice none 0 0) (.slice none 0 0) 25
  go_enter Try.func32, Try.ntmps32
  go_wp2_with fail
  refine (l13Open_any _ _ _ _ h0).mono ?_; rintro e w1 ⟨rb, A1, n1, c1, rfl, hR1, hb1⟩
  have hB := hR1.2.2.1
  simp at hB
  go_wp2_with fail
  refine (l1Draw_any _ _ _ _ _ _ _ hR1 (by omega)).mono ?_; rintro e w2 ⟨v2, h2, p2, rfl, hv2, hl2, hR2, hp2, hg2⟩
  go_wp2_with fail
  refine (l1Wrong_any _ _ _ _ _ _ _ hR2 (by omega) _ _ _ hv2 hl2).mono ?_; rintro e w3 ⟨v3, h3, p3, rfl, hv3, hR3, hp3, hg3⟩
  obtain ⟨A0, n0, c0, A1, m1, c1, A2, m2, c2, rfl, ⟨r0, r1, r2⟩, ⟨l0, l1, l2⟩, _, _, a01, a02, a12⟩ := hv3.open_
  have z1 := hb1.size
  simp at z1
  have z2 := hg2.size
  have z3 := hg3.size
  have B3 : Below w.heap.size w w3 := ((((Below.refl _ _).alloc (Nat.le_refl _) _).trans (hb1.mono (by simp))).trans (below_row hg2 (by omega) (by omega))).trans (below_row hg3 (by omega) (by omega))
  obtain ⟨y0, y1, y2, f0, f1, f2⟩ := (((Y0.below hb1).kept hg2 (by omega)).kept hg3 (by omega)).cells
  obtain ⟨hH, hBf⟩ := made_done (h := h3) (Nat.le_refl _) (r0.mono (by omega)) (r1.mono (by omega)) (r2.mono (by omega)) a01 a02 a12 B3
  clear hv2 hv3 r0 r1 r2
  go_wp2_with fail
  refine bodyPost_ret (v := .agg #[.slice A0 n0 c0, .slice A1 m1 c1, .slice A2 m2 c2]) ?_ rfl ⟨_, h3, rfl, hH, hBf⟩
  simp [results, Try.results32, go_sem, y0, y1, y2]
end Go.Proofs.Ytgooohapdjgmpaa
