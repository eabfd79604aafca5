/- The draw of TargetOf. -/
import Derived.Test.YthbflohanjnaeaaDRuns
namespace Go.Proofs.Ythbflohanjnaeaa
open Go.RowKit

set_option maxRecDepth 100000 in
set_option maxHeartbeats 4000000 in
theorem drawTargetOf_any (w : World) (A : Option Addr) (n c : Nat) (h : Inp w A n c) :
    Calls Try.prog 20 #[.slice A n c] w (DrawnSO w) := by
  have h0 := inp_alloc (inp_alloc h (.cells #[.slice none 0 0, .slice none 0 0, .slice none 0 0, .slice none 0 0] 27)) (.cells #[.int .i64 0, .int .i64 0, .int .i64 0] 29)
  have Y0 := (Blk4.new w (.slice none 0 0) (.slice none 0 0) (.slice none 0 0) (.slice none 0 0) 27).alloc (.cells #[.int .i64 0, .int .i64 0, .int .i64 0] 29)
  have U0 := Blk3.new_at (w := w.alloc (.cells #[.slice none 0 0, .slice none 0 0, .slice none 0 0, .slice none 0 0] 27)) (b := w.heap.size + 1) (by simp) (.int .i64 0) (.int .i64 0) (.int .i64 0) 29
  have B0 : Below w.heap.size w ((w.alloc (.cells #[.slice none 0 0, .slice none 0 0, .slice none 0 0, .slice none 0 0] 27)).alloc (.cells #[.int .i64 0, .int .i64 0, .int .i64 0] 29)) := ((Below.refl _ _).alloc (Nat.le_refl _) _).alloc (by simp) _
  have s0 : w.heap.size + 2 ≤ ((w.alloc (.cells #[.slice none 0 0, .slice none 0 0, .slice none 0 0, .slice none 0 0] 27)).alloc (.cells #[.int .i64 0, .int .i64 0, .int .i64 0] 29)).heap.size := by simp
  go_enter Try.func20, Try.ntmps20
  go_wp2_with fail
  generalize (w.alloc (.cells #[.slice none 0 0, .slice none 0 0, .slice none 0 0, .slice none 0 0] 27)).alloc (.cells #[.int .i64 0, .int .i64 0, .int .i64 0] 29) = W at h0 Y0 U0 B0 s0 ⊢
  refine (drawRunOp_any _ _ _ _ h0).mono ?_; rintro e w4 ⟨v3, C3, o, rfl, hv3, hb⟩
  obtain ⟨k, a, q⟩ := o
  have Y4 := Y0.below hb
  have U4 := U0.below hb
  have B4 := B0.trans (hb.mono (by omega))
  have H4 : Cv w4 (w.heap.size + 2) v3 C3 := hv3.mono (by omega)
  have hvo := H4
  obtain ⟨A0, n0, k0, A1, n1, k1, A2, n2, k2, A3, n3, k3, rfl, _⟩ := hvo.open_
  clear hv3 hvo h0 Y0 U0 B0 hb h
  obtain ⟨y0, y1, y2, y3, f0, f1, f2, f3⟩ := Y4.cells
  have U5 : Blk3 ((((w4.setCell ⟨w.heap.size, 0, none⟩ (.slice A0 n0 k0)).setCell ⟨w.heap.size, 1, none⟩ (.slice A1 n1 k1)).setCell ⟨w.heap.size, 2, none⟩ (.slice A2 n2 k2)).setCell ⟨w.heap.size, 3, none⟩ (.slice A3 n3 k3)) (w.heap.size + 1) _ _ _ _ := (((U4.other (p := ⟨w.heap.size, 0, none⟩) (by simp) _).other (p := ⟨w.heap.size, 1, none⟩) (by simp) _).other (p := ⟨w.heap.size, 2, none⟩) (by simp) _).other (p := ⟨w.heap.size, 3, none⟩) (by simp) _
  have Y5 := Y4.set4R (.slice A0 n0 k0) (.slice A1 n1 k1) (.slice A2 n2 k2) (.slice A3 n3 k3)
  have Y6 := ((Y5.other (p := ⟨w.heap.size + 1, 0, none⟩) (by simp) (.int .i64 k)).other (p := ⟨w.heap.size + 1, 1, none⟩) (by simp) (.int .i64 a)).other (p := ⟨w.heap.size + 1, 2, none⟩) (by simp) (.int .i64 q)
  obtain ⟨u0, u1, u2, g0, g1, g2⟩ := U5.cells
  obtain ⟨e0, e1, e2⟩ := cells3 (.int .i64 k) (.int .i64 a) (.int .i64 q) u0 u1 u2
  obtain ⟨d0, d1, d2, d3, _⟩ := Y6.cells
  have H5 := H4.set4O (H4.ownLt w.heap.size (.inl (by omega))) (.slice A0 n0 k0) (.slice A1 n1 k1) (.slice A2 n2 k2) (.slice A3 n3 k3)
  have f6 := H5.ownLt (w.heap.size + 1) (.inl (by omega))
  have H6 := (((H5.setFarO (p := ⟨w.heap.size + 1, 0, none⟩) f6 (.int .i64 k)).setFarO (p := ⟨w.heap.size + 1, 1, none⟩) f6 (.int .i64 a)).setFarO (p := ⟨w.heap.size + 1, 2, none⟩) f6 (.int .i64 q)).mono (lo' := w.heap.size) (by omega)
  have B5 := below_set4 B4 (Nat.le_refl _) (.slice A0 n0 k0) (.slice A1 n1 k1) (.slice A2 n2 k2) (.slice A3 n3 k3)
  have B6 := ((B5.setCell (p := ⟨w.heap.size + 1, 0, none⟩) (by simp) (.int .i64 k)).setCell (p := ⟨w.heap.size + 1, 1, none⟩) (by simp) (.int .i64 a)).setCell (p := ⟨w.heap.size + 1, 2, none⟩) (by simp) (.int .i64 q)
  clear Y4 U4 B4 H4 U5 Y5 Y6 H5 B5
  go_wp2_with fail
  refine bodyPost_ret (v := .tuple #[.agg #[.slice A0 n0 k0, .slice A1 n1 k1, .slice A2 n2 k2, .slice A3 n3 k3], .agg #[.int .i64 k, .int .i64 a, .int .i64 q]]) ?_ rfl ⟨_, C3, ⟨k, a, q⟩, rfl, H6, B6⟩
  simp [results, Try.results20, go_sem, d0, d1, d2, d3, e0, e1, e2]
end Go.Proofs.Ythbflohanjnaeaa
