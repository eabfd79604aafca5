/- spec.DrawMoveCells: a heap, and a list of as many numbers, whatever they are. -/
import Derived.Test.YtgooohapdjgmpaaMixT
namespace Go.Proofs.Ytgooohapdjgmpaa
open Go.RowKit

/-- A heap and a row of at most eight numbers come back, and nothing that was there has turned. -/
def DrawnMv (w : World) (e : Ending) (w' : World) : Prop :=
  ∃ v h A' n' c' xs, e = .returned (.tuple #[v, .slice A' n' c']) ∧ Hv w' w.heap.size v h ∧ Hid (List.length (α := Int) xs = n') ∧ n' ≤ 8 ∧ Row w' w.heap.size (.slice A' n' c') xs ∧ Below w.heap.size w w'
theorem made_row {w3 : World} {lo b : Nat} (hb : lo ≤ b) {v0 v1 v2 u : Value} {xs : List Int} (r : Row w3 (b + 1) u xs) : Row (((w3.setCell ⟨b, 0, none⟩ v0).setCell ⟨b, 1, none⟩ v1).setCell ⟨b, 2, none⟩ v2) lo u xs := by
  have k : u.ownBlock ≠ some b := fun e => by have := (r.lt _ e).1; omega
  exact (((r.other k _).other k _).other k _).mono (by omega)
theorem lit3m (w : World) (x y z : Int) : Row (w.alloc (.cells #[.int .i64 x, .int .i64 y, .int .i64 z] 3)) 0 (.slice (some ⟨w.heap.size, 0, none⟩) 3 3) [x, y, z] := lit3 w x y z
theorem Blk3.keptRd {w w' : World} {rb b : Nat} {x y z : Value} {t : TypeId} (h : Blk3 w b x y z t) (hg : w.grownBy w' (some rb)) (hb : b ≠ rb) : Blk3 w' b x y z t := h.kept hg hb

set_option maxRecDepth 100000 in
set_option maxHeartbeats 2000000 in
theorem drawMoveCells_any (w : World) (A : Option Addr) (n c : Nat) (h : Inp w A n c) :
    Calls Try.prog 21 #[.slice A n c] w (DrawnMv w) := by
  have h0 := inp_alloc h (.cells #[.slice none 0 0, .slice none 0 0, .slice none 0 0] 25)
  have Y0 := Blk3.new w (.slice none 0 0) (.slice none 0 0) (.slice none 0 0) 25
  go_enter Try.func21, Try.ntmps21
  go_wp2_with fail
  refine (l13Open_any _ _ _ _ h0).mono ?_; rintro e w1 ⟨rb, A1, n1, c1, rfl, hR1, hb1⟩
  have hB := hR1.2.2.1
  simp at hB
  have Y1 := Y0.below hb1
  have z1 := hb1.size
  simp at z1
  have B1 : Below w.heap.size w w1 := ((Below.refl _ _).alloc (Nat.le_refl _) _).trans (hb1.mono (by simp))
  clear h0 Y0 hb1
  go_wp2_with fail
  refine (l1Draw_any _ _ _ _ _ _ _ hR1 (by omega)).mono ?_; rintro e w2 ⟨v2, hp, p2, rfl, hv2, hl2, hR2, hp2, hg2⟩
  obtain ⟨A0, n0, c0, A3, m1, c3, A2, m2, c2, rfl, ⟨r0, r1, r2⟩, ⟨l0, l1, l2⟩, _, _, a01, a02, a12⟩ := hv2.open_
  have hn8 : 1 ≤ n0 ∧ n0 ≤ 8 := by have := l0.out; omega
  have hrb2 := hR2.lt
  have z2 := hg2.size
  have Y2 := (Blk3.keptRd Y1 hg2 (by omega)).alloc (.cells #[.slice A0 n0 c0, .slice A3 m1 c3, .slice A2 m2 c2] 25)
  have X2 := Blk3.new w2 (.slice A0 n0 c0) (.slice A3 m1 c3) (.slice A2 m2 c2) 25
  have R0 := hR2.alloc (.cells #[.slice A0 n0 c0, .slice A3 m1 c3, .slice A2 m2 c2] 25)
  have G2 := grown_alloc hg2 (.cells #[.slice A0 n0 c0, .slice A3 m1 c3, .slice A2 m2 c2] 25)
  have G0 : w2.grownBy (w2.alloc (.cells #[.slice A0 n0 c0, .slice A3 m1 c3, .slice A2 m2 c2] 25)) (some rb) := grown_alloc (World.grownBy.refl w2 _) _
  have hrb1 := hR1.lt
  clear hv2 Y1 hR1 hR2 hg2 hl2 l1 l2 l0
  obtain ⟨x0, x1, x2, _⟩ := X2.cells
  go_wp2_with fail
  refine (l10Mix_any _ _ _ _ _ _ _ R0 (by omega) n0 hn8.2).mono ?_; rintro e w3 ⟨AM, cM, xs, p3, rfl, hl, RM, hR3, hp3, hg3⟩
  have z3 := hg3.size
  simp at z3 RM
  have X3 := Blk3.keptRd X2 hg3 (by omega)
  have Y3 := Blk3.keptRd Y2 hg3 (by omega)
  have G3 := grown_trans G2 hg3
  have H3 := grown_trans G0 hg3
  clear X2 Y2 G2 G0 R0 hg3 x0 x1 x2
  go_wp2_with fail
  refine (pick_any _ _ _ _ _ _ _ hR3 10 (by omega) (by omega) (by omega)).mono ?_; rintro e w4 ⟨x, rfl, hx, hR4, hO4⟩
  have z4 := hO4.1.size
  have X4 := Blk3.keptRd X3 hO4.1 (by omega)
  have Y4 := Blk3.keptRd Y3 hO4.1 (by omega)
  have G4 := grown_trans G3 hO4.1
  have H4 := grown_trans H3 hO4.1
  have RW := Row.keptRd RM hO4.1 (by omega)
  clear X3 Y3 G3 H3 hR3 RM hO4
  generalize hbx : w2.heap.size = bx at *
  have hnr : bx ≠ rb := by omega
  have hny : w.heap.size ≠ rb := by omega
  by_cases t0 : x = 0
  · subst t0
    have u1 : 1 ≤ (n0 : Int) := by omega
    have u2 : (n0 : Int) ≤ 1048576 := by omega
    have v1 : p3 + 1 ≤ 1048576 := by omega
    have v2 : p3 + 1 + 1 ≤ 1048576 := by omega
    have hrb4 : rb < w4.heap.size := hR4.lt
    have hbx4 : bx < w4.heap.size := X4.lt
    obtain ⟨g, _, rfl, hg1, hgw, _⟩ := RW.get (k := 0) (by rw [hl.out]; omega)
    have hgr : rb < bx + 1 := by omega
    have hgx : g ≠ bx := by omega
    obtain ⟨x0, x1, x2, _⟩ := X4.cells
    clear x1 x2
    go_wp2_with fail
    refine (pick_any _ _ _ _ _ _ _ hR4 (n0 : Int) u1 u2 v1).mono ?_; rintro e w5 ⟨xv, rfl, hxv, hR5, hO5⟩
    have hxn : xv < n0 := by omega
    have X5 := (Blk3.keptRd (by exact X4) hO5.1 hnr).alloc (.cells #[.int .i64 0, .int .i64 8, .int .i64 (-1)] 3)
    have Y5 := (Blk3.keptRd (by exact Y4) hO5.1 hny).alloc (.cells #[.int .i64 0, .int .i64 8, .int .i64 (-1)] 3)
    have RW5 := (Row.keptRd (by exact RW) hO5.1 hgr).alloc (.cells #[.int .i64 0, .int .i64 8, .int .i64 (-1)] 3)
    have G5 := grown_alloc (grown_trans G4 hO5.1) (.cells #[.int .i64 0, .int .i64 8, .int .i64 (-1)] 3)
    have H5 := grown_alloc (grown_trans H4 hO5.1) (.cells #[.int .i64 0, .int .i64 8, .int .i64 (-1)] 3)
    clear x0 hO5
    go_wp2_with fail
    refine (num_any _ _ _ _ _ _ _ (hR5.alloc (.cells #[.int .i64 0, .int .i64 8, .int .i64 (-1)] 3)) v2 w5.heap.size 3 3 [0, 8, -1] 0 (lit3 w5 0 8 (-1)) (len3 _ _ _) (by decide) (by decide) (Nat.ne_of_gt hR5.lt)).mono ?_; rintro e w6 ⟨yv, _, rfl, hR6, hO6⟩
    have X6 := Blk3.keptRd (by exact X5) hO6.1 hnr
    have Y6 := Blk3.keptRd (by exact Y5) hO6.1 hny
    have RW6 := Row.keptRd (by exact RW5) hO6.1 hgr
    have G6 := grown_trans G5 hO6.1
    have H6 := grown_trans H5 hO6.1
    obtain ⟨g', _, e', _, hg2, _, hc6, hf6⟩ := RW6.get (k := xv) (by rw [hl.out]; exact hxn)
    cases e'
    clear RW5 X5 Y5 G5 H5 hR5 hO6 hR6
    have RW7 := RW6.set_ xv yv
    have X7 := X6.other (p := ⟨g, xv, none⟩) (by simp; omega) (.int .i64 yv)
    have Y7 := Y6.other (p := ⟨g, xv, none⟩) (by simp; omega) (.int .i64 yv)
    have G7 := grown_set (p := ⟨g, xv, none⟩) G6 (.inr (by simp; omega)) (.int .i64 yv)
    have H7 := grown_set (p := ⟨g, xv, none⟩) H6 (.inr (by simp; omega)) (.int .i64 yv)
    have hl7 : Hid ((xs.set xv yv).length = n0) := by unfold Hid; rw [List.length_set]; exact hl.out
    clear RW6 X6 Y6 G6 H6
    have q0' := Row.keptRd r0 H7 (by omega)
    have q1' := Row.keptRd r1 H7 (by omega)
    have q2' := Row.keptRd r2 H7 (by omega)
    have B3 : Below w.heap.size w (w6.setCell ⟨g, xv, none⟩ (.int .i64 yv)) := B1.trans (below_row G7 (by omega) (by omega))
    obtain ⟨x0, x1, x2, _⟩ := X7.cells
    obtain ⟨y0, y1, y2, f0, f1, f2⟩ := Y7.cells
    have lX := X7.lt
    obtain ⟨hH, hBf⟩ := made_done (h := hp) (b := w.heap.size) (Nat.le_refl _) (q0'.mono (by omega)) (q1'.mono (by omega)) (q2'.mono (by omega)) a01 a02 a12 B3
    have HR := made_row (lo := w.heap.size) (b := w.heap.size) (v0 := .slice A0 n0 c0) (v1 := .slice A3 m1 c3) (v2 := .slice A2 m2 c2) (Nat.le_refl _) (RW7.mono (by omega))
    clear r0 r1 r2 q0' q1' q2' RW7
    go_wp2_with fail
    refine bodyPost_ret (v := .tuple #[.agg #[.slice A0 n0 c0, .slice A3 m1 c3, .slice A2 m2 c2], .slice (some ⟨g, 0, none⟩) n0 cM]) ?_ rfl ⟨_, hp, _, _, _, _, rfl, hH, hl7, hn8.2, HR, hBf⟩
    simp [results, Try.results21, go_sem, y0, y1, y2]
  · have q0 : ((x : Int) == 0) = false := by simp; omega
    have q0' := Row.keptRd r0 H4 (by omega)
    have q1' := Row.keptRd r1 H4 (by omega)
    have q2' := Row.keptRd r2 H4 (by omega)
    have B3 : Below w.heap.size w w4 := B1.trans (below_row G4 (by omega) (by omega))
    obtain ⟨x0, x1, x2, _⟩ := X4.cells
    obtain ⟨y0, y1, y2, f0, f1, f2⟩ := Y4.cells
    have lX := X4.lt
    obtain ⟨hH, hBf⟩ := made_done (h := hp) (b := w.heap.size) (Nat.le_refl _) (q0'.mono (by omega)) (q1'.mono (by omega)) (q2'.mono (by omega)) a01 a02 a12 B3
    have HR := made_row (lo := w.heap.size) (b := w.heap.size) (v0 := .slice A0 n0 c0) (v1 := .slice A3 m1 c3) (v2 := .slice A2 m2 c2) (Nat.le_refl _) (RW.mono (by omega))
    clear r0 r1 r2 q0' q1' q2' RW
    go_wp2_with fail
    refine bodyPost_ret (v := .tuple #[.agg #[.slice A0 n0 c0, .slice A3 m1 c3, .slice A2 m2 c2], .slice AM n0 cM]) ?_ rfl ⟨_, hp, _, _, _, _, rfl, hH, hl, hn8.2, HR, hBf⟩
    simp [results, Try.results21, go_sem, y0, y1, y2]
end Go.Proofs.Ytgooohapdjgmpaa
