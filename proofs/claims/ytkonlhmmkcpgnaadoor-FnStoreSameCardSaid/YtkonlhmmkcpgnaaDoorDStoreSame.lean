/- spec.DrawStoreSame: two stores. -/
import Derived.Test.YtkonlhmmkcpgnaaDoorCaseS
import Derived.Test.YtkonlhmmkcpgnaaDoorSCopy
namespace Go.Proofs.YtkonlhmmkcpgnaaDoor
open Go.RowKit

/-- Two stores come back. -/
def DrawnKK (w : World) (e : Ending) (w' : World) : Prop := ∃ v C v' C', e = .returned (.tuple #[v, v']) ∧ Cv w' w.heap.size v C ∧ Cv w' w.heap.size v' C' ∧ Below w.heap.size w w'

theorem Cv.set8 {w : World} {lo : Nat} {v : Value} {C : Cp} (hv : Cv w lo v C) {b : Nat} (hb : b + 1 < lo) (x0 x1 x2 x3 y0 y1 y2 y3 : Value) : Cv ((((((((w.setCell ⟨b, 0, none⟩ x0).setCell ⟨b, 1, none⟩ x1).setCell ⟨b, 2, none⟩ x2).setCell ⟨b, 3, none⟩ x3).setCell ⟨b + 1, 0, none⟩ y0).setCell ⟨b + 1, 1, none⟩ y1).setCell ⟨b + 1, 2, none⟩ y2).setCell ⟨b + 1, 3, none⟩ y3) b v C := by
  have l1 : b < lo := by omega
  exact (((((((((hv.set_low (p := ⟨b, 0, none⟩) l1 x0).set_low (p := ⟨b, 1, none⟩) l1 x1).set_low (p := ⟨b, 2, none⟩) l1 x2).set_low (p := ⟨b, 3, none⟩) l1 x3).set_low (p := ⟨b + 1, 0, none⟩) hb y0).set_low (p := ⟨b + 1, 1, none⟩) hb y1).set_low (p := ⟨b + 1, 2, none⟩) hb y2).set_low (p := ⟨b + 1, 3, none⟩) hb y3).mono (by omega))
theorem below_set8 {a w : World} {b : Nat} (h : Below b a w) (x0 x1 x2 x3 y0 y1 y2 y3 : Value) : Below b a ((((((((w.setCell ⟨b, 0, none⟩ x0).setCell ⟨b, 1, none⟩ x1).setCell ⟨b, 2, none⟩ x2).setCell ⟨b, 3, none⟩ x3).setCell ⟨b + 1, 0, none⟩ y0).setCell ⟨b + 1, 1, none⟩ y1).setCell ⟨b + 1, 2, none⟩ y2).setCell ⟨b + 1, 3, none⟩ y3) :=
  (((((((h.setCell (Nat.le_refl _) x0).setCell (Nat.le_refl _) x1).setCell (Nat.le_refl _) x2).setCell (Nat.le_refl _) x3).setCell (Nat.le_succ _) y0).setCell (Nat.le_succ _) y1).setCell (Nat.le_succ _) y2).setCell (Nat.le_succ _) y3

set_option maxRecDepth 100000 in
set_option maxHeartbeats 3000000 in
theorem drawStoreSame_any (w : World) (A : Option Addr) (n c : Nat) (h : Inp w A n c) :
    Calls Tryd.prog 7 #[.slice A n c] w (DrawnKK w) := by
  have h0 := inp_alloc (inp_alloc h (.cells #[.slice none 0 0, .slice none 0 0, .slice none 0 0, .slice none 0 0] 27)) (.cells #[.slice none 0 0, .slice none 0 0, .slice none 0 0, .slice none 0 0] 27)
  have Y0 := (Blk4.new w (.slice none 0 0) (.slice none 0 0) (.slice none 0 0) (.slice none 0 0) 27).alloc (.cells #[.slice none 0 0, .slice none 0 0, .slice none 0 0, .slice none 0 0] 27)
  have Y1 := Blk4.new_at (w := w.alloc (.cells #[.slice none 0 0, .slice none 0 0, .slice none 0 0, .slice none 0 0] 27)) (b := w.heap.size + 1) (by simp) (.slice none 0 0) (.slice none 0 0) (.slice none 0 0) (.slice none 0 0) 27
  have B0 : Below w.heap.size w ((w.alloc (.cells #[.slice none 0 0, .slice none 0 0, .slice none 0 0, .slice none 0 0] 27)).alloc (.cells #[.slice none 0 0, .slice none 0 0, .slice none 0 0, .slice none 0 0] 27)) := ((Below.refl _ _).alloc (Nat.le_refl _) _).alloc (by simp) _
  have s0 : ((w.alloc (.cells #[.slice none 0 0, .slice none 0 0, .slice none 0 0, .slice none 0 0] 27)).alloc (.cells #[.slice none 0 0, .slice none 0 0, .slice none 0 0, .slice none 0 0] 27)).heap.size = w.heap.size + 2 := by simp
  go_enter Tryd.func7, Tryd.ntmps7
  go_wp2_with fail
  generalize (w.alloc (.cells #[.slice none 0 0, .slice none 0 0, .slice none 0 0, .slice none 0 0] 27)).alloc (.cells #[.slice none 0 0, .slice none 0 0, .slice none 0 0, .slice none 0 0] 27) = W at h0 Y0 Y1 B0 s0 ⊢
  refine (l13Open_any _ _ _ _ h0).mono ?_; rintro e w1 ⟨rb, A1, n1, c1, rfl, hR1, hb1⟩
  have hB := hR1.2.2.1
  have z1 := hb1.size
  have Y01 := Y0.below hb1
  have Y11 := Y1.below hb1
  have B1 : Below w.heap.size w w1 := B0.trans (hb1.mono (by omega))
  go_wp2_with fail
  refine (l4Draw_any _ _ _ _ _ _ _ hR1 (by omega)).mono ?_; rintro e w2 ⟨v2, C2, p2, rfl, hv2, hC2, hR2, hp2, hg2⟩
  have z2 := hg2.size
  have Y02 := Y01.kept hg2 (by omega)
  have Y12 := Y11.kept hg2 (by omega)
  have B2 := B1.trans (below_row hg2 (by omega) (by omega))
  obtain ⟨A0, n0, c0, A1_, m1, c1_, A2, m2, c2, A3, m3, c3, rfl, _⟩ := hv2.open_
  have hrb2 := hR2.lt
  have hrbl : rb < w1.heap.size := hR1.lt
  clear Y0 Y1 Y01 Y11 h0
  have X2 := Blk4.new w2 (.slice A0 n0 c0) (.slice A1_ m1 c1_) (.slice A2 m2 c2) (.slice A3 m3 c3) 27
  have hv3 := hv2.alloc (.cells #[.slice A0 n0 c0, .slice A1_ m1 c1_, .slice A2 m2 c2, .slice A3 m3 c3] 27)
  have Y03 := Y02.alloc (.cells #[.slice A0 n0 c0, .slice A1_ m1 c1_, .slice A2 m2 c2, .slice A3 m3 c3] 27)
  have Y13 := Y12.alloc (.cells #[.slice A0 n0 c0, .slice A1_ m1 c1_, .slice A2 m2 c2, .slice A3 m3 c3] 27)
  have B3 := B2.alloc B2.size (.cells #[.slice A0 n0 c0, .slice A1_ m1 c1_, .slice A2 m2 c2, .slice A3 m3 c3] 27)
  have P := pick_any _ _ _ _ _ _ _ (hR2.alloc (.cells #[.slice A0 n0 c0, .slice A1_ m1 c1_, .slice A2 m2 c2, .slice A3 m3 c3] 27)) 3 (by omega) (by omega) (by omega)
  have hz3 : (w2.alloc (.cells #[.slice A0 n0 c0, .slice A1_ m1 c1_, .slice A2 m2 c2, .slice A3 m3 c3] 27)).heap.size = w2.heap.size + 1 := by simp
  go_wp2_with fail
  generalize w2.alloc (.cells #[.slice A0 n0 c0, .slice A1_ m1 c1_, .slice A2 m2 c2, .slice A3 m3 c3] 27) = W3 at X2 hv3 Y03 Y13 B3 P hz3 ⊢
  refine P.mono ?_; rintro e w4 ⟨k, rfl, hk, hR4, hO4⟩
  have hg4 := hO4.1
  have X4 := X2.kept hg4 (by omega)
  have hv4 := hv3.kept_low hg4 hrbl
  have Y04 := Y03.kept hg4 (by omega)
  have Y14 := Y13.kept hg4 (by omega)
  have B4 := B3.trans (hO4.below (by omega) (by omega))
  have z4 := hg4.size
  clear P X2 Y03 Y13 hv3 B3 Y02 Y12 hv2 hR2
  obtain ⟨x0, x1, x2, x3, _⟩ := X4.cells
  obtain ⟨y0, y1, y2, y3, f0, f1, f2, f3⟩ := Y04.cells
  obtain ⟨u0, u1, u2, u3, g0, g1, g2, g3⟩ := Y14.cells
  have lX4 := X4.lt
  have hn0 : w.heap.size ≠ w2.heap.size := by omega
  have hn1 : w.heap.size + 1 ≠ w2.heap.size := by omega
  have hR4d : Rd w4.drew _ _ _ _ _ _ := hR4
  have hw4d : w4.drew.heap.size = w4.heap.size := rfl
  by_cases hk0 : k = 0
  · subst hk0
    go_wp2_with fail
    go_region_held3 (fun w' => w'.cell? ⟨w2.heap.size, 0, none⟩ = some (.slice A0 n0 c0) ∧ w'.cell? ⟨w2.heap.size, 1, none⟩ = some (.slice A1_ m1 c1_) ∧ w'.cell? ⟨w2.heap.size, 2, none⟩ = some (.slice A2 m2 c2) ∧ w'.cell? ⟨w2.heap.size, 3, none⟩ = some (.slice A3 m3 c3))
      (((try dsimp only); (repeat' apply And.intro) <;> (with_reducible (first | exact x05 | exact x15 | exact x25 | exact x35 | exact x0 | exact x1 | exact x2 | exact x3 | exact cellD x0 | exact cellD x1 | exact cellD x2 | exact cellD x3 | exact cellF4 x05 hn0 _ _ _ _ | exact cellF4 x15 hn0 _ _ _ _ | exact cellF4 x25 hn0 _ _ _ _ | exact cellF4 x35 hn0 _ _ _ _ | exact cellF4 (cellF4 x05 hn0 _ _ _ _) hn1 _ _ _ _ | exact cellF4 (cellF4 x15 hn0 _ _ _ _) hn1 _ _ _ _ | exact cellF4 (cellF4 x25 hn0 _ _ _ _) hn1 _ _ _ _ | exact cellF4 (cellF4 x35 hn0 _ _ _ _) hn1 _ _ _ _))))
      ((go_at_call 20; (with_reducible refine (l4Draw_any w4.drew _ _ _ _ _ _ hR4d (by omega)).mono ?_); rintro e w5 ⟨v5, C5, p5, rfl, hv5, hl5, hR5, hp5, hg5⟩; (have hv5' := hv5); (obtain ⟨Z0, k0, d0, Z1, k1, d1, Z2, k2, d2, Z3, k3, d3, rfl, _⟩ := hv5'.open_); (have hv45 := hv4.drew.kept_low hg5 hrbl); (have B5 := B4.drew.trans (below_row hg5 (by omega) (by omega))); (obtain ⟨x05, x15, x25, x35, _⟩ := (Blk4.kept (w := w4.drew) X4 hg5 (by omega)).cells); (obtain ⟨y05, y15, y25, y35, f05, f15, f25, f35⟩ := (Blk4.kept (w := w4.drew) Y04 hg5 (by omega)).cells); (obtain ⟨u05, u15, u25, u35, g05, g15, g25, g35⟩ := (Blk4.kept (w := w4.drew) Y14 hg5 (by omega)).cells)))
    rename_i hHeld
    clear hHeld
    have z5 := hg5.size
    have F1 := hv45.set8 (b := w.heap.size) (by omega) (.slice A0 n0 c0) (.slice A1_ m1 c1_) (.slice A2 m2 c2) (.slice A3 m3 c3) (.slice Z0 k0 d0) (.slice Z1 k1 d1) (.slice Z2 k2 d2) (.slice Z3 k3 d3)
    have F2 := hv5.set8 (b := w.heap.size) (by omega) (.slice A0 n0 c0) (.slice A1_ m1 c1_) (.slice A2 m2 c2) (.slice A3 m3 c3) (.slice Z0 k0 d0) (.slice Z1 k1 d1) (.slice Z2 k2 d2) (.slice Z3 k3 d3)
    have F3 := below_set8 B5 (.slice A0 n0 c0) (.slice A1_ m1 c1_) (.slice A2 m2 c2) (.slice A3 m3 c3) (.slice Z0 k0 d0) (.slice Z1 k1 d1) (.slice Z2 k2 d2) (.slice Z3 k3 d3)
    clear hv45 hv5 B5
    go_wp2_with fail
    refine bodyPost_ret (v := .tuple #[.agg #[.slice A0 n0 c0, .slice A1_ m1 c1_, .slice A2 m2 c2, .slice A3 m3 c3], .agg #[.slice Z0 k0 d0, .slice Z1 k1 d1, .slice Z2 k2 d2, .slice Z3 k3 d3]]) ?_ rfl ⟨_, C2, _, C5, rfl, F1, F2, F3⟩
    simp [results, Tryd.results7, go_sem, y05, y15, y25, y35, u05, u15, u25, u35]
  · have hk2 : ((k : Int) == 0) = false := by simpa using hk0
    go_wp2_with fail
    go_region_held3 (fun w' => w'.cell? ⟨w2.heap.size, 0, none⟩ = some (.slice A0 n0 c0) ∧ w'.cell? ⟨w2.heap.size, 1, none⟩ = some (.slice A1_ m1 c1_) ∧ w'.cell? ⟨w2.heap.size, 2, none⟩ = some (.slice A2 m2 c2) ∧ w'.cell? ⟨w2.heap.size, 3, none⟩ = some (.slice A3 m3 c3))
      (((try dsimp only); (repeat' apply And.intro) <;> (with_reducible (first | exact x06 | exact x16 | exact x26 | exact x36 | exact x05 | exact x15 | exact x25 | exact x35 | exact x0 | exact x1 | exact x2 | exact x3 | exact cellD x0 | exact cellD x1 | exact cellD x2 | exact cellD x3 | exact cellF4 x06 hn0 _ _ _ _ | exact cellF4 x16 hn0 _ _ _ _ | exact cellF4 x26 hn0 _ _ _ _ | exact cellF4 x36 hn0 _ _ _ _ | exact cellF4 (cellF4 x06 hn0 _ _ _ _) hn1 _ _ _ _ | exact cellF4 (cellF4 x16 hn0 _ _ _ _) hn1 _ _ _ _ | exact cellF4 (cellF4 x26 hn0 _ _ _ _) hn1 _ _ _ _ | exact cellF4 (cellF4 x36 hn0 _ _ _ _) hn1 _ _ _ _ | exact cellF4 x05 hn0 _ _ _ _ | exact cellF4 x15 hn0 _ _ _ _ | exact cellF4 x25 hn0 _ _ _ _ | exact cellF4 x35 hn0 _ _ _ _ | exact cellF4 (cellF4 x05 hn0 _ _ _ _) hn1 _ _ _ _ | exact cellF4 (cellF4 x15 hn0 _ _ _ _) hn1 _ _ _ _ | exact cellF4 (cellF4 x25 hn0 _ _ _ _) hn1 _ _ _ _ | exact cellF4 (cellF4 x35 hn0 _ _ _ _) hn1 _ _ _ _))))
      (first
        | (go_at_call 22; (with_reducible refine (l4Wrong_any 8 (by omega) w4.drew _ _ _ _ _ _ hR4d (by omega) _ _ _ hv4.drew (szS_valid hC2)).mono ?_); rintro e w5 ⟨v5, C5, p5, rfl, hv5, hz5, hR5, hp5, hg5⟩; (have hv5' := hv5); (obtain ⟨E0, j0, i0, E1, j1, i1, E2, j2, i2, E3, j3, i3, rfl, _⟩ := hv5'.open_); (have z5 := hg5.size); (have X5 := Blk4.kept (w := w4.drew) X4 hg5 (by omega)); (have Y05 := Blk4.kept (w := w4.drew) Y04 hg5 (by omega)); (have Y15 := Blk4.kept (w := w4.drew) Y14 hg5 (by omega)); (have hv45 := hv4.drew.kept_low hg5 hrbl); (have B5 := B4.drew.trans (below_row hg5 (by omega) (by omega))); (obtain ⟨x05, x15, x25, x35, _⟩ := (Blk4.kept (w := w4.drew) X4 hg5 (by omega)).cells); (obtain ⟨y05, y15, y25, y35, f05, f15, f25, f35⟩ := (Blk4.kept (w := w4.drew) Y04 hg5 (by omega)).cells); (obtain ⟨u05, u15, u25, u35, g05, g15, g25, g35⟩ := (Blk4.kept (w := w4.drew) Y14 hg5 (by omega)).cells))
        | (go_at_call 22; (with_reducible refine (l4Wrong_any 10 (by omega) w5 _ _ _ _ _ _ hR5 (by omega) _ _ _ hv5 hz5).mono ?_); rintro e w6 ⟨v6, C6, p6, rfl, hv6, hz6, hR6, hp6, hg6⟩; (have hv6' := hv6); (obtain ⟨Z0, k0, d0, Z1, k1, d1, Z2, k2, d2, Z3, k3, d3, rfl, _⟩ := hv6'.open_); (have hv46 := hv45.kept_low hg6 hrbl); (have B6 := B5.trans (below_row hg6 (by omega) (by omega))); (obtain ⟨x06, x16, x26, x36, _⟩ := (Blk4.kept (w := w5) X5 hg6 (by omega)).cells); (obtain ⟨y06, y16, y26, y36, f06, f16, f26, f36⟩ := (Blk4.kept (w := w5) Y05 hg6 (by omega)).cells); (obtain ⟨u06, u16, u26, u36, g06, g16, g26, g36⟩ := (Blk4.kept (w := w5) Y15 hg6 (by omega)).cells)))
    rename_i hHeld
    clear hHeld
    have z6 := hg6.size
    have F1 := hv46.set8 (b := w.heap.size) (by omega) (.slice A0 n0 c0) (.slice A1_ m1 c1_) (.slice A2 m2 c2) (.slice A3 m3 c3) (.slice Z0 k0 d0) (.slice Z1 k1 d1) (.slice Z2 k2 d2) (.slice Z3 k3 d3)
    have F2 := hv6.set8 (b := w.heap.size) (by omega) (.slice A0 n0 c0) (.slice A1_ m1 c1_) (.slice A2 m2 c2) (.slice A3 m3 c3) (.slice Z0 k0 d0) (.slice Z1 k1 d1) (.slice Z2 k2 d2) (.slice Z3 k3 d3)
    have F3 := below_set8 B6 (.slice A0 n0 c0) (.slice A1_ m1 c1_) (.slice A2 m2 c2) (.slice A3 m3 c3) (.slice Z0 k0 d0) (.slice Z1 k1 d1) (.slice Z2 k2 d2) (.slice Z3 k3 d3)
    clear hv46 hv6 B6
    go_wp2_with fail
    refine bodyPost_ret (v := .tuple #[.agg #[.slice A0 n0 c0, .slice A1_ m1 c1_, .slice A2 m2 c2, .slice A3 m3 c3], .agg #[.slice Z0 k0 d0, .slice Z1 k1 d1, .slice Z2 k2 d2, .slice Z3 k3 d3]]) ?_ rfl ⟨_, C2, _, C6, rfl, F1, F2, F3⟩
    simp [results, Tryd.results7, go_sem, y06, y16, y26, y36, u06, u16, u26, u36]
end Go.Proofs.YtkonlhmmkcpgnaaDoor
