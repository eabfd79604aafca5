/- spec.DrawHeapSame: two heaps. -/
import Derived.Test.YtpimndfafibgeaaDraws
namespace Go.Proofs.Ytpimndfafibgeaa
open Go.RowKit

/-- Two heaps come back, and nothing that was there has turned. -/
def DrawnVV (w : World) (e : Ending) (w' : World) : Prop := ∃ v h v' h', e = .returned (.tuple #[v, v']) ∧ Hv w' w.heap.size v h ∧ Hv w' w.heap.size v' h' ∧ Below w.heap.size w w'

theorem cellS {w : World} {a p : Addr} {u v : Value} (h : w.cell? a = some u) (hne : a.block ≠ p.block) : (w.setCell p v).cell? a = some u := (World.cell?_setCell_far w p a v hne.symm).trans h

theorem Hv.set_low {w : World} {lo : Nat} {v : Value} {h : Hp} (hv : Hv w lo v h) {p : Addr} (hp : p.block < lo) (u : Value) : Hv (w.setCell p u) lo v h := by
  obtain ⟨v0, v1, v2, rfl, r0, r1, r2, a⟩ := hv
  exact ⟨v0, v1, v2, rfl, r0.other (fun e => by have := (r0.lt _ e).1; omega) u, r1.other (fun e => by have := (r1.lt _ e).1; omega) u, r2.other (fun e => by have := (r2.lt _ e).1; omega) u, a⟩
theorem Hv.kept_low {w w' : World} {lo rb : Nat} {v : Value} {h : Hp} (hv : Hv w lo v h) (hg : w.grownBy w' (some rb)) (hrb : rb < lo) : Hv w' lo v h := by
  obtain ⟨v0, v1, v2, rfl, r0, r1, r2, a⟩ := hv
  exact ⟨v0, v1, v2, rfl, r0.kept hg (.inr fun e => by have := (r0.lt _ e).1; omega), r1.kept hg (.inr fun e => by have := (r1.lt _ e).1; omega), r2.kept hg (.inr fun e => by have := (r2.lt _ e).1; omega), a⟩
theorem Hv.set6 {w : World} {lo : Nat} {v : Value} {h : Hp} (hv : Hv w lo v h) {b : Nat} (hb : b + 1 < lo) (x0 x1 x2 y0 y1 y2 : Value) :
    Hv ((((((w.setCell ⟨b, 0, none⟩ x0).setCell ⟨b, 1, none⟩ x1).setCell ⟨b, 2, none⟩ x2).setCell ⟨b + 1, 0, none⟩ y0).setCell ⟨b + 1, 1, none⟩ y1).setCell ⟨b + 1, 2, none⟩ y2) b v h :=
  (((((((hv.set_low (by simp; omega) x0).set_low (by simp; omega) x1).set_low (by simp; omega) x2).set_low (by simp; omega) y0).set_low (by simp; omega) y1).set_low (by simp; omega) y2).mono (by omega))
theorem below_set6 {a w : World} {b : Nat} (h : Below b a w) (x0 x1 x2 y0 y1 y2 : Value) :
    Below b a ((((((w.setCell ⟨b, 0, none⟩ x0).setCell ⟨b, 1, none⟩ x1).setCell ⟨b, 2, none⟩ x2).setCell ⟨b + 1, 0, none⟩ y0).setCell ⟨b + 1, 1, none⟩ y1).setCell ⟨b + 1, 2, none⟩ y2) :=
  (((((h.setCell (Nat.le_refl _) x0).setCell (Nat.le_refl _) x1).setCell (Nat.le_refl _) x2).setCell (Nat.le_succ _) y0).setCell (Nat.le_succ _) y1).setCell (Nat.le_succ _) y2

set_option maxHeartbeats 2000000 in
theorem drawHeapSame_any (w : World) (A : Option Addr) (n c : Nat) (h : Inp w A n c) :
    Calls Try.prog 18 #[.slice A n c] w (DrawnVV w) := by
  have h0 := inp_alloc (inp_alloc h (.cells #[.slice none 0 0, .slice none 0 0, .slice none 0 0] 25)) (.cells #[.slice none 0 0, .slice none 0 0, .slice none 0 0] 25)
  have Y0 := (Blk3.new w (.slice none 0 0) (.slice none 0 0) (.slice none 0 0) 25).alloc (.cells #[.slice none 0 0, .slice none 0 0, .slice none 0 0] 25)
  have Y1 := Blk3.new_at (w := w.alloc (.cells #[.slice none 0 0, .slice none 0 0, .slice none 0 0] 25)) (b := w.heap.size + 1) (by simp) (.slice none 0 0) (.slice none 0 0) (.slice none 0 0) 25
  go_enter Try.func18, Try.ntmps18
  go_wp2_with fail
  refine (l13Open_any _ _ _ _ h0).mono ?_; rintro e w1 ⟨rb, A1, n1, c1, rfl, hR1, hb1⟩
  have hB := hR1.2.2.1
  simp at hB
  have z1 := hb1.size
  simp at z1
  have Y01 := Y0.below hb1
  have Y11 := Y1.below hb1
  have B1 : Below w.heap.size w w1 := (((Below.refl _ _).alloc (Nat.le_refl _) _).alloc (by simp) _).trans (hb1.mono (by first | omega | (simp; omega)))
  go_wp2_with fail
  refine (l1Draw_any _ _ _ _ _ _ _ hR1 (by omega)).mono ?_; rintro e w2 ⟨v2, h2, p2, rfl, hv2, hl2, hR2, hp2, hg2⟩
  have z2 := hg2.size
  have Y02 := Y01.kept hg2 (by omega)
  have Y12 := Y11.kept hg2 (by first | omega | (simp; omega))
  have B2 := B1.trans (below_row hg2 (by omega) (by omega))
  obtain ⟨A0, n0, c0, A1_, m1, c1_, A2, m2, c2, rfl, _⟩ := hv2.open_
  have hrb2 := hR2.lt
  clear Y0 Y1 Y01 Y11 h0
  have X2 := Blk3.new w2 (.slice A0 n0 c0) (.slice A1_ m1 c1_) (.slice A2 m2 c2) 25
  have hv3 := hv2.alloc (.cells #[.slice A0 n0 c0, .slice A1_ m1 c1_, .slice A2 m2 c2] 25)
  have Y03 := Y02.alloc (.cells #[.slice A0 n0 c0, .slice A1_ m1 c1_, .slice A2 m2 c2] 25)
  have Y13 := Y12.alloc (.cells #[.slice A0 n0 c0, .slice A1_ m1 c1_, .slice A2 m2 c2] 25)
  have B3 := B2.alloc B2.size (.cells #[.slice A0 n0 c0, .slice A1_ m1 c1_, .slice A2 m2 c2] 25)
  have P := pick_any _ _ _ _ _ _ _ (hR2.alloc (.cells #[.slice A0 n0 c0, .slice A1_ m1 c1_, .slice A2 m2 c2] 25)) 3 (by omega) (by omega) (by omega)
  have hz3 : (w2.alloc (.cells #[.slice A0 n0 c0, .slice A1_ m1 c1_, .slice A2 m2 c2] 25)).heap.size = w2.heap.size + 1 := by simp
  generalize hW3 : w2.alloc (.cells #[.slice A0 n0 c0, .slice A1_ m1 c1_, .slice A2 m2 c2] 25) = W3 at X2 hv3 Y03 Y13 B3 P hz3
  have HW3 := Lib.hid hW3
  clear hW3 Y02 Y12 hv2 hR2
  go_wp2_with fail
  rw [HW3.out]
  refine P.mono ?_; rintro e w4 ⟨k, rfl, hk, hR4, hO4⟩
  have hg4 := hO4.1
  have X4 := X2.kept hg4 (by omega)
  have hrbl : rb < w1.heap.size := hR1.lt
  have hv4 := hv3.kept_low hg4 hrbl
  have Y04 := Y03.kept hg4 (by omega)
  have Y14 := Y13.kept hg4 (by first | omega | (simp; omega))
  have B4 := B3.trans (hO4.below (by omega) (by omega))
  have z4 := hg4.size
  by_cases hk0 : k = 0
  · subst hk0
    clear P X2 Y03 Y13
    obtain ⟨x0, x1, x2, _⟩ := X4.cells
    obtain ⟨y0, y1, y2, f0, f1, f2⟩ := Y04.cells
    obtain ⟨u0, u1, u2, g0, g1, g2⟩ := Y14.cells
    have lX4 := X4.lt
    have hw4d : w4.drew.heap.size = w4.heap.size := rfl
    have hn0 : w2.heap.size ≠ w.heap.size := by omega
    have hn1 : w2.heap.size ≠ w.heap.size + 1 := by omega
    have hR4d : Rd w4.drew _ _ _ _ _ _ := hR4
    go_wp2_with fail
    go_region_held3 (fun w' => w'.cell? ⟨w2.heap.size, 0, none⟩ = some (.slice A0 n0 c0) ∧ w'.cell? ⟨w2.heap.size, 1, none⟩ = some (.slice A1_ m1 c1_) ∧ w'.cell? ⟨w2.heap.size, 2, none⟩ = some (.slice A2 m2 c2))
      (((try dsimp only); (repeat' apply And.intro) <;> (with_reducible (first | exact x05 | exact x15 | exact x25 | exact x0 | exact x1 | exact x2 | exact cellD x0 | exact cellD x1 | exact cellD x2 | exact cellS (cellS (cellS (x05) hn0) hn0) hn0 | exact cellS (cellS (cellS (x15) hn0) hn0) hn0 | exact cellS (cellS (cellS (x25) hn0) hn0) hn0 | exact cellS (cellS (cellS (cellS (cellS (cellS (x05) hn0) hn0) hn0) hn1) hn1) hn1 | exact cellS (cellS (cellS (cellS (cellS (cellS (x15) hn0) hn0) hn0) hn1) hn1) hn1 | exact cellS (cellS (cellS (cellS (cellS (cellS (x25) hn0) hn0) hn0) hn1) hn1) hn1))))
      ((go_at_call 40; (with_reducible refine (l1Draw_any w4.drew _ _ _ _ _ _ hR4d (by omega)).mono ?_); rintro e w5 ⟨v5, h5, p5, rfl, hv5, hl5, hR5, hp5, hg5⟩; (have hv5' := hv5); (obtain ⟨Z0, k0, d0, Z1, k1, d1, Z2, k2, d2, rfl, _⟩ := hv5'.open_); (have hv45 := hv4.drew.kept_low hg5 hrbl); (have B5 := B4.drew.trans (below_row hg5 (by omega) (by omega))); (obtain ⟨x05, x15, x25, _⟩ := (X4.drew.kept hg5 (by omega)).cells); (obtain ⟨y05, y15, y25, f05, f15, f25⟩ := (Y04.drew.kept hg5 (by omega)).cells); (obtain ⟨u05, u15, u25, g05, g15, g25⟩ := (Y14.drew.kept hg5 (by first | omega | (simp; omega))).cells)))
    rename_i hHeld
    clear hHeld
    have z5 := hg5.size
    have F1 := hv45.set6 (b := w.heap.size) (by omega) (.slice A0 n0 c0) (.slice A1_ m1 c1_) (.slice A2 m2 c2) (.slice Z0 k0 d0) (.slice Z1 k1 d1) (.slice Z2 k2 d2)
    have F2 := hv5.set6 (b := w.heap.size) (by omega) (.slice A0 n0 c0) (.slice A1_ m1 c1_) (.slice A2 m2 c2) (.slice Z0 k0 d0) (.slice Z1 k1 d1) (.slice Z2 k2 d2)
    have F3 := below_set6 B5 (.slice A0 n0 c0) (.slice A1_ m1 c1_) (.slice A2 m2 c2) (.slice Z0 k0 d0) (.slice Z1 k1 d1) (.slice Z2 k2 d2)
    clear hv45 hv5 B5
    go_wp2_with fail
    refine bodyPost_ret (v := .tuple #[.agg #[.slice A0 n0 c0, .slice A1_ m1 c1_, .slice A2 m2 c2], .agg #[.slice Z0 k0 d0, .slice Z1 k1 d1, .slice Z2 k2 d2]]) ?_ rfl ⟨_, h2, _, h5, rfl, F1, F2, F3⟩
    simp [results, Try.results18, go_sem, y05, y15, y25, u05, u15, u25]
  · clear P X2 Y03 Y13
    obtain ⟨x0, x1, x2, _⟩ := X4.cells
    obtain ⟨y0, y1, y2, f0, f1, f2⟩ := Y04.cells
    obtain ⟨u0, u1, u2, g0, g1, g2⟩ := Y14.cells
    have lX4 := X4.lt
    have hw4d : w4.drew.heap.size = w4.heap.size := rfl
    have hn0 : w2.heap.size ≠ w.heap.size := by omega
    have hn1 : w2.heap.size ≠ w.heap.size + 1 := by omega
    have hR4d : Rd w4.drew _ _ _ _ _ _ := hR4
    have hk2 : ((k : Int) == 0) = false := by simpa using hk0
    go_wp2_with fail
    go_region_held3 (fun w' => w'.cell? ⟨w2.heap.size, 0, none⟩ = some (.slice A0 n0 c0) ∧ w'.cell? ⟨w2.heap.size, 1, none⟩ = some (.slice A1_ m1 c1_) ∧ w'.cell? ⟨w2.heap.size, 2, none⟩ = some (.slice A2 m2 c2))
      (((try dsimp only); (repeat' apply And.intro) <;> (with_reducible (first | exact x05 | exact x15 | exact x25 | exact x0 | exact x1 | exact x2 | exact cellD x0 | exact cellD x1 | exact cellD x2 | exact cellS (cellS (cellS (x05) hn0) hn0) hn0 | exact cellS (cellS (cellS (x15) hn0) hn0) hn0 | exact cellS (cellS (cellS (x25) hn0) hn0) hn0 | exact cellS (cellS (cellS (cellS (cellS (cellS (x05) hn0) hn0) hn0) hn1) hn1) hn1 | exact cellS (cellS (cellS (cellS (cellS (cellS (x15) hn0) hn0) hn0) hn1) hn1) hn1 | exact cellS (cellS (cellS (cellS (cellS (cellS (x25) hn0) hn0) hn0) hn1) hn1) hn1))))
      ((go_at_call 45; (with_reducible refine (l1Wrong_any w4.drew _ _ _ _ _ _ hR4d (by omega) _ _ _ hv4.drew hl2).mono ?_); rintro e w5 ⟨v5, h5, p5, rfl, hv5, hR5, hp5, hg5⟩; (have hv5' := hv5); (obtain ⟨Z0, k0, d0, Z1, k1, d1, Z2, k2, d2, rfl, _⟩ := hv5'.open_); (have hv45 := hv4.drew.kept_low hg5 hrbl); (have B5 := B4.drew.trans (below_row hg5 (by omega) (by omega))); (obtain ⟨x05, x15, x25, _⟩ := (X4.drew.kept hg5 (by omega)).cells); (obtain ⟨y05, y15, y25, f05, f15, f25⟩ := (Y04.drew.kept hg5 (by omega)).cells); (obtain ⟨u05, u15, u25, g05, g15, g25⟩ := (Y14.drew.kept hg5 (by first | omega | (simp; omega))).cells)))
    rename_i hHeld
    clear hHeld
    have z5 := hg5.size
    have F1 := hv45.set6 (b := w.heap.size) (by omega) (.slice A0 n0 c0) (.slice A1_ m1 c1_) (.slice A2 m2 c2) (.slice Z0 k0 d0) (.slice Z1 k1 d1) (.slice Z2 k2 d2)
    have F2 := hv5.set6 (b := w.heap.size) (by omega) (.slice A0 n0 c0) (.slice A1_ m1 c1_) (.slice A2 m2 c2) (.slice Z0 k0 d0) (.slice Z1 k1 d1) (.slice Z2 k2 d2)
    have F3 := below_set6 B5 (.slice A0 n0 c0) (.slice A1_ m1 c1_) (.slice A2 m2 c2) (.slice Z0 k0 d0) (.slice Z1 k1 d1) (.slice Z2 k2 d2)
    clear hv45 hv5 B5
    go_wp2_with fail
    refine bodyPost_ret (v := .tuple #[.agg #[.slice A0 n0 c0, .slice A1_ m1 c1_, .slice A2 m2 c2], .agg #[.slice Z0 k0 d0, .slice Z1 k1 d1, .slice Z2 k2 d2]]) ?_ rfl ⟨_, h2, _, h5, rfl, F1, F2, F3⟩
    simp [results, Try.results18, go_sem, y05, y15, y25, u05, u15, u25]
end Go.Proofs.Ytpimndfafibgeaa
