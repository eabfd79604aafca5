/- spec.l1Case: a heap, a cell and a pointer, whatever they are. -/
import Derived.Test.YtpjdpflghcdkiaaDraws
namespace Go.Proofs.Ytpjdpflghcdkiaa
open Go.RowKit

/-- A heap and two small numbers come back, and nothing that was there has turned. -/
def DrawnCW (w : World) (e : Ending) (w' : World) : Prop := ∃ v h x y, e = .returned (.tuple #[v, .int .i64 x, .int .i64 y]) ∧ Hv w' w.heap.size v h ∧ Below w.heap.size w w' ∧ (-2 ≤ x ∧ x ≤ 8) ∧ (-2 ≤ y ∧ y ≤ 8)

set_option maxHeartbeats 1000000 in
theorem l1CaseW_any (w : World) (A : Option Addr) (n c : Nat) (h : Inp w A n c) :
    Calls Try.prog 81 #[.slice A n c] w (DrawnCW w) := by
  have h0 := inp_alloc h (.cells #[.slice none 0 0, .slice none 0 0, .slice none 0 0] 27)
  have Y0 := Blk3.new w (.slice none 0 0) (.slice none 0 0) (.slice none 0 0) 27
  go_enter Try.func81, Try.ntmps81
  go_wp2_with fail
  refine (l13Open_any _ _ _ _ h0).mono ?_; rintro e w1 ⟨rb, A1, n1, c1, rfl, hR1, hb1⟩
  have hB := hR1.2.2.1
  simp at hB
  go_wp2_with fail
  refine (l1Draw_any _ _ _ _ _ _ _ hR1 (by omega)).mono ?_; rintro e w2 ⟨v2, h2, p2, rfl, hv2, hl2, hR2, hp2, hg2⟩
  go_wp2_with fail
  refine (l1Wrong_any _ _ _ _ _ _ _ hR2 (by omega) _ _ _ hv2 hl2).mono ?_; rintro e w3 ⟨v3, h3, p3, rfl, hv3, hR3, hp3, hg3⟩
  go_wp2_with fail
  refine (num_any _ _ _ _ _ _ _ (hR3.alloc _) (by omega) w3.heap.size 7 7 [0, 1, 2, 3, 0, 8, -1] 0 (lit7 w3 0 1 2 3 0 8 (-1)) (len7 _ _ _ _ _ _ _) (by decide) (by decide) (Nat.ne_of_gt hR3.lt)).mono ?_; rintro e w4 ⟨x, hmx, rfl, hR4, hO4⟩
  have HX : Hid (-2 ≤ x ∧ x ≤ 8) := by unfold Hid; simp at hmx; omega
  clear hmx
  go_wp2_with fail
  refine (num_any _ _ _ _ _ _ _ (hR4.alloc _) (by omega) w4.heap.size 7 7 [1, 0, 2, -1, 3, 8, -2] 0 (lit7 w4 1 0 2 (-1) 3 8 (-2)) (len7 _ _ _ _ _ _ _) (by decide) (by decide) (Nat.ne_of_gt hR4.lt)).mono ?_; rintro e w5 ⟨y, hmy, rfl, hR5, hO5⟩
  have HY : Hid (-2 ≤ y ∧ y ≤ 8) := by unfold Hid; simp at hmy; omega
  clear hmy
  have hgA := grown_trans (grown_alloc (World.grownBy.refl w3 (some rb)) (.cells #[.int .i64 0, .int .i64 1, .int .i64 2, .int .i64 3, .int .i64 0, .int .i64 8, .int .i64 (-1)] 3)) hO4.1
  have hgB := grown_trans (grown_alloc (World.grownBy.refl w4 (some rb)) (.cells #[.int .i64 1, .int .i64 0, .int .i64 2, .int .i64 (-1), .int .i64 3, .int .i64 8, .int .i64 (-2)] 3)) hO5.1
  have hg45 := grown_trans hgA hgB
  obtain ⟨A0, n0, c0, A1, m1, c1, A2, m2, c2, rfl, ⟨r0, r1, r2⟩, ⟨l0, l1, l2⟩, _, _, a01, a02, a12⟩ := hv3.open_
  have hrw2 : rb < w2.heap.size := hR2.lt
  have q0 := r0.kept hg45 (.inr fun e => by have := (r0.lt _ e).1; omega)
  have q1 := r1.kept hg45 (.inr fun e => by have := (r1.lt _ e).1; omega)
  have q2 := r2.kept hg45 (.inr fun e => by have := (r2.lt _ e).1; omega)
  have z1 := hb1.size
  simp at z1
  have z2 := hg2.size
  have z3 := hg3.size
  have z4 := hg45.size
  have B3 : Below w.heap.size w w5 := (((((Below.refl _ _).alloc (Nat.le_refl _) _).trans (hb1.mono (by simp))).trans (below_row hg2 (by omega) (by omega))).trans (below_row hg3 (by omega) (by omega))).trans (below_row hg45 (by omega) (by omega))
  obtain ⟨y0, y1, y2, f0, f1, f2⟩ := ((((Y0.below hb1).kept hg2 (by omega)).kept hg3 (by omega)).kept hg45 (by omega)).cells
  obtain ⟨hH, hBf⟩ := made_done (h := h3) (Nat.le_refl _) (q0.mono (by omega)) (q1.mono (by omega)) (q2.mono (by omega)) a01 a02 a12 B3
  clear hv2 hv3 r0 r1 r2 q0 q1 q2
  go_wp2_with fail
  refine bodyPost_ret (v := .tuple #[.agg #[.slice A0 n0 c0, .slice A1 m1 c1, .slice A2 m2 c2], .int .i64 x, .int .i64 y]) ?_ rfl ⟨_, h3, x, y, rfl, hH, hBf, HX.out, HY.out⟩
  simp [results, Try.results81, go_sem, y0, y1, y2]
theorem l1Case_any (w : World) (A : Option Addr) (n c : Nat) (h : Inp w A n c) :
    Calls Try.prog 81 #[.slice A n c] w (DrawnC w) :=
  (l1CaseW_any w A n c h).mono fun _ _ ⟨v, h, x, y, a, b, c, _⟩ => ⟨v, h, x, y, a, b, c⟩
end Go.Proofs.Ytpjdpflghcdkiaa
