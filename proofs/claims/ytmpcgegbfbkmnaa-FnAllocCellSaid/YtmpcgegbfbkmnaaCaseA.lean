/- spec.DrawAllocCell. -/
import Derived.Test.YtmpcgegbfbkmnaaCaseS
namespace Go.Proofs.Ytmpcgegbfbkmnaa
open Go.RowKit

theorem lit6 (w : World) (a b c d e f : Int) : Row (w.alloc (.cells #[.int .i64 a, .int .i64 b, .int .i64 c, .int .i64 d, .int .i64 e, .int .i64 f] 3)) 0 (.slice (some ⟨w.heap.size, 0, none⟩) 6 6) [a, b, c, d, e, f] := Row.lit_at rfl [a, b, c, d, e, f] (by simp)
theorem len6 (a b c d e f : Int) : [a, b, c, d, e, f].length = 6 := rfl
theorem Cv.kept_upS {w w' W : World} {lo rb : Nat} {v : Value} {C : Cp} (hv : Cv w lo v C) (hW : Cv W lo v C) (hg : w.grownBy w' (some rb)) (hrb : W.heap.size ≤ rb) : Cv w' lo v C := by
  obtain ⟨_, _, _, _, e, ⟨_, _, _, e', r0, r1, r2, a⟩, r3, b0, b1, b2⟩ := hv
  cases e; cases e'
  obtain ⟨q0, q1, q2, q3⟩ := hW.rowsS
  exact ⟨_, _, _, _, rfl, ⟨_, _, _, rfl, r0.kept hg (.inr fun e => by have := (q0.lt _ e).2; omega), r1.kept hg (.inr fun e => by have := (q1.lt _ e).2; omega), r2.kept hg (.inr fun e => by have := (q2.lt _ e).2; omega), a⟩, r3.kept hg (.inr fun e => by have := (q3.lt _ e).2; omega), b0, b1, b2⟩
set_option maxRecDepth 100000 in
set_option maxHeartbeats 3000000 in
theorem drawAllocCell_any (w : World) (A : Option Addr) (n c : Nat) (h : Inp w A n c) :
    Calls Try.prog 24 #[.slice A n c] w (DrawnSI w) := by
  have h0 := inp_alloc h (.cells #[.slice none 0 0, .slice none 0 0, .slice none 0 0, .slice none 0 0] 27)
  have Y0 := Blk4.new w (.slice none 0 0) (.slice none 0 0) (.slice none 0 0) (.slice none 0 0) 27
  have B0 : Below w.heap.size w (w.alloc (.cells #[.slice none 0 0, .slice none 0 0, .slice none 0 0, .slice none 0 0] 27)) := (Below.refl _ _).alloc (Nat.le_refl _) _
  have s0 : (w.alloc (.cells #[.slice none 0 0, .slice none 0 0, .slice none 0 0, .slice none 0 0] 27)).heap.size = w.heap.size + 1 := by simp
  go_enter Try.func24, Try.ntmps24
  go_wp2_with fail
  generalize w.alloc (.cells #[.slice none 0 0, .slice none 0 0, .slice none 0 0, .slice none 0 0] 27) = W at h0 Y0 B0 s0 ⊢
  refine (l4Case_any _ _ _ _ h0).mono ?_; rintro e w1 ⟨v3, C3, x, rfl, hv3, hb1⟩
  have z1 := hb1.size
  have hi1 : Inp w1 A n c := by
    obtain ⟨hb, h1, h2⟩ := h0
    refine ⟨?_, h1, h2⟩
    have hb' := hb.below (hb1.mono (Nat.le_refl _))
    rcases hb' with h | ⟨b, off, e, hlt, hc⟩
    · exact .inl h
    · exact .inr ⟨b, off, e, by omega, hc⟩
  obtain ⟨A0, n0, k0, A1, n1, k1, A2, n2, k2, A3, n3, k3, rfl, _⟩ := hv3.open_
  have hi2 := inp_alloc hi1 (.cells #[.slice A0 n0 k0, .slice A1 n1 k1, .slice A2 n2 k2, .slice A3 n3 k3] 27)
  have X1 := Blk4.new_at (w := w1) (b := w1.heap.size) rfl (.slice A0 n0 k0) (.slice A1 n1 k1) (.slice A2 n2 k2) (.slice A3 n3 k3) 27
  have Y1 := (Y0.below hb1).alloc (.cells #[.slice A0 n0 k0, .slice A1 n1 k1, .slice A2 n2 k2, .slice A3 n3 k3] 27)
  have H1 := hv3.alloc (.cells #[.slice A0 n0 k0, .slice A1 n1 k1, .slice A2 n2 k2, .slice A3 n3 k3] 27)
  have B1 := (B0.trans (hb1.mono (by omega))).alloc (by omega) (.cells #[.slice A0 n0 k0, .slice A1 n1 k1, .slice A2 n2 k2, .slice A3 n3 k3] 27)
  have zz : (w1.alloc (.cells #[.slice A0 n0 k0, .slice A1 n1 k1, .slice A2 n2 k2, .slice A3 n3 k3] 27)).heap.size = w1.heap.size + 1 := by simp
  clear hv3 Y0 B0 hb1 h h0 hi1
  go_wp2_with fail
  generalize w1.alloc (.cells #[.slice A0 n0 k0, .slice A1 n1 k1, .slice A2 n2 k2, .slice A3 n3 k3] 27) = W1 at hi2 X1 Y1 H1 B1 zz ⊢
  have hiL := inp_alloc hi2 (.cells #[.int .i64 0, .int .i64 0, .int .i64 1, .int .i64 2, .int .i64 3, .int .i64 (-1)] 3)
  have hi2d : Inp W1.drew A n c := hi2
  have hiLd : Inp (W1.alloc (.cells #[.int .i64 0, .int .i64 0, .int .i64 1, .int .i64 2, .int .i64 3, .int .i64 (-1)] 3)).drew A n c := hiL
  have LW := lit6 W1 0 0 1 2 3 (-1)
  obtain ⟨x0, x1, x2, x3, _⟩ := X1.cells
  have zh := Lib.hid zz
  have hw1 : w1.heap.size < W1.heap.size := by omega
  have hnb : w.heap.size ≠ w1.heap.size := by omega
  have hw0 : w.heap.size < W1.heap.size := by omega
  have hLs : Hid ((W1.alloc (.cells #[.int .i64 0, .int .i64 0, .int .i64 1, .int .i64 2, .int .i64 3, .int .i64 (-1)] 3)).drew.heap.size = W1.heap.size + 1) := by
    unfold Hid; show (W1.alloc (.cells #[.int .i64 0, .int .i64 0, .int .i64 1, .int .i64 2, .int .i64 3, .int .i64 (-1)] 3)).heap.size = _; simp
  clear zz
  go_region_held3 (fun w' => w'.cell? ⟨w1.heap.size, 0, none⟩ = some (.slice A0 n0 k0) ∧ w'.cell? ⟨w1.heap.size, 1, none⟩ = some (.slice A1 n1 k1) ∧ w'.cell? ⟨w1.heap.size, 2, none⟩ = some (.slice A2 n2 k2) ∧ w'.cell? ⟨w1.heap.size, 3, none⟩ = some (.slice A3 n3 k3))
    (((try dsimp only); (repeat' apply And.intro) <;> (with_reducible (first | exact s0 | exact s1 | exact s2 | exact s3 | exact cellF4 s0 hnb _ _ _ _ | exact cellF4 s1 hnb _ _ _ _ | exact cellF4 s2 hnb _ _ _ _ | exact cellF4 s3 hnb _ _ _ _ | exact p0 | exact p1 | exact p2 | exact p3 | exact cellA p0 _ | exact cellA p1 _ | exact cellA p2 _ | exact cellA p3 _ | exact cellD x0 | exact cellD x1 | exact cellD x2 | exact cellD x3 | exact cellD (cellA x0 _) | exact cellD (cellA x1 _) | exact cellD (cellA x2 _) | exact cellD (cellA x3 _) | exact x0 | exact x1 | exact x2 | exact x3))))
    (first
      | (go_at_call 54; (with_reducible refine (l13Open_any W1.drew _ _ _ (hi2d)).mono ?_); rintro e w2 ⟨rb, A9, n9, c9, rfl, hR2, hb20⟩; (have hb2 : Below W1.heap.size W1 w2 := (Below.refl W1.heap.size W1).drew.trans (hb20.mono (Nat.le_refl _))); (have X2 := X1.below hb2); (obtain ⟨p0, p1, p2, p3, _⟩ := X2.cells); (have hB := hR2.2.2.1); have hB1 : W1.heap.size ≤ rb := hB)
      | (go_at_call 54; (with_reducible refine (l13Open_any (W1.alloc (.cells #[.int .i64 0, .int .i64 0, .int .i64 1, .int .i64 2, .int .i64 3, .int .i64 (-1)] 3)).drew _ _ _ (hiLd)).mono ?_); rintro e w2 ⟨rb, A9, n9, c9, rfl, hR2, hb20⟩; (have hb2 : Below W1.heap.size W1 w2 := (((Below.refl W1.heap.size W1).alloc (Nat.le_refl _) (.cells #[.int .i64 0, .int .i64 0, .int .i64 1, .int .i64 2, .int .i64 3, .int .i64 (-1)] 3)).drew).trans (hb20.mono (Nat.le_trans (Nat.le_succ _) (Nat.le_of_eq hLs.out.symm)))); (have X2 := X1.below hb2); (obtain ⟨p0, p1, p2, p3, _⟩ := X2.cells); (have hB := hR2.2.2.1); (have hB2 : W1.heap.size + 1 ≤ rb := Nat.le_trans (Nat.le_of_eq hLs.out.symm) hB); (have hB1 : W1.heap.size ≤ rb := Nat.le_of_succ_le hB2); (have hB3 : W1.heap.size ≠ rb := Nat.ne_of_lt hB2); (have hLIT := (LW.drew).below hb20))
      | (go_at_call 55; (with_reducible refine (num_any (w2.alloc (.cells #[.int .i64 0, .int .i64 0, .int .i64 1, .int .i64 2, .int .i64 3, .int .i64 (-1)] 3)) _ _ _ _ _ _ (hR2.alloc (.cells #[.int .i64 0, .int .i64 0, .int .i64 1, .int .i64 2, .int .i64 3, .int .i64 (-1)] 3)) (Nat.zero_le _) w2.heap.size 6 6 [0, 0, 1, 2, 3, -1] 0 (lit6 w2 0 0 1 2 3 (-1)) (len6 _ _ _ _ _ _) (by decide) (by decide) (Nat.ne_of_gt hR2.lt)).mono ?_); rintro e w4 ⟨y, hy, rfl, hR4, hO4⟩; (have g4 : w2.grownBy w4 (some rb) := grown_trans (grown_alloc (World.grownBy.refl w2 _) _) hO4.1); (have X4 := X2.kept g4 (Nat.ne_of_lt (Nat.lt_of_lt_of_le hw1 hB1))); (obtain ⟨s0, s1, s2, s3, _⟩ := X4.cells); (have Y4 := (Y1.below hb2).kept g4 (Nat.ne_of_lt (Nat.lt_of_lt_of_le hw0 hB1))); (obtain ⟨y0, y1, y2, y3, i0, i1, i2, i3⟩ := Y4.cells))
      | (go_at_call 55; (with_reducible refine (num_any w2 _ _ _ _ _ _ hR2 (Nat.zero_le _) W1.heap.size 6 6 [0, 0, 1, 2, 3, -1] 0 (hLIT) (len6 _ _ _ _ _ _) (by decide) (by decide) hB3).mono ?_); rintro e w4 ⟨y, hy, rfl, hR4, hO4⟩; (have g4 : w2.grownBy w4 (some rb) := hO4.1); (have X4 := X2.kept g4 (Nat.ne_of_lt (Nat.lt_of_lt_of_le hw1 hB1))); (obtain ⟨s0, s1, s2, s3, _⟩ := X4.cells); (have Y4 := (Y1.below hb2).kept g4 (Nat.ne_of_lt (Nat.lt_of_lt_of_le hw0 hB1))); (obtain ⟨y0, y1, y2, y3, i0, i1, i2, i3⟩ := Y4.cells)))
  all_goals
    have z2 := hb2.size
    have hz1 := zh.out
    have B4 := (B1.trans (hb2.mono (by omega))).trans (below_row g4 (by omega) (by omega))
    have hv4 := (H1.below hb2).kept_upS H1 g4 (by omega)
    obtain ⟨hH, hBf⟩ := laidS (w := w) (b := w.heap.size) (Nat.le_refl _) (hv4.mono (by omega)) B4
    clear H1 hv4 Y1 Y4 B4 B1 hR2 hR4 hi2 hiL hi2d hiLd LW hz1
    go_wp2_with fail
    refine bodyPost_ret (v := .tuple #[.agg #[.slice A0 n0 k0, .slice A1 n1 k1, .slice A2 n2 k2, .slice A3 n3 k3], .int .i64 y]) ?_ rfl ⟨_, C3, y, rfl, hH, hBf⟩
    simp [results, Try.results24, go_sem, y0, y1, y2, y3]
end Go.Proofs.Ytmpcgegbfbkmnaa
