import Derived.Test.YtdifplakkepnkaaGcs
import Derived.Test.YtdifplakkepnkaaStos
import Derived.Test.YtdifplakkepnkaaIStos
import Derived.Test.YtdifplakkepnkaaSCols
import Derived.Test.YtdifplakkepnkaaICols
import Derived.Test.YtdifplakkepnkaaHpA
import Derived.Test.YtdifplakkepnkaaSp3
import Derived.Test.YtdifplakkepnkaaCopys
import Derived.OrdersHeld
import Derived.Deep.RegionHeld3
import Derived.Test.YtdifplakkepnkaaShades
/- GcValid of spec and of impl. -/
namespace Go.Proofs.Ytdifplakkepnkaa
open Go.RowKit

theorem gcB_store {C : Cp} (G : Gp) (h : stoB C = false) : gcB C G = false := by unfold gcB; rw [h]; rfl
theorem gcB_color {C : Cp} {p a : Int} {cc : List Int} (h : cvB ⟨C.h, cc⟩ = false) : gcB C ⟨p, cc, a⟩ = false := by unfold gcB; rw [h]; simp
theorem gcB_phase {C : Cp} {p a : Int} {cc : List Int} (h1 : stoB C = true) (h2 : cvB ⟨C.h, cc⟩ = true) : gcB C ⟨p, cc, a⟩ = phB p a C.h.t.length C.h.l.length := by unfold gcB; rw [h1, h2]; rfl
theorem ph0 (a : Int) (nr nc : Nat) : phB 0 a nr nc = (a == 0) := by
  rw [Bool.eq_iff_iff, phB_iff, beq_iff_eq]; omega
theorem ph2 (a : Int) (nr nc : Nat) : phB 2 a nr nc = (a == 0) := by
  rw [Bool.eq_iff_iff, phB_iff, beq_iff_eq]; omega
theorem ph1 (a : Int) (nr nc : Nat) : phB 1 a nr nc = plB a nr := by
  rw [Bool.eq_iff_iff, phB_iff]; unfold plB; simp
theorem ph3 (a : Int) (nr nc : Nat) : phB 3 a nr nc = plB a nc := by
  rw [Bool.eq_iff_iff, phB_iff]; unfold plB; simp
theorem ph_neg {p a : Int} {nr nc : Nat} (h : a < 0) : phB p a nr nc = false := by
  rw [Bool.eq_false_iff]; intro h9; rw [phB_iff] at h9; omega
theorem ph_else {p a : Int} {nr nc : Nat} (h0 : p ≠ 0) (h1 : p ≠ 1) (h2 : p ≠ 2) (h3 : p ≠ 3) : phB p a nr nc = false := by
  rw [Bool.eq_false_iff]; intro h9; rw [phB_iff] at h9; omega
theorem pl_lt {a : Int} {n : Nat} (h : 0 ≤ a) : plB a n = decide (a < n) := by
  rw [Bool.eq_iff_iff, decide_eq_true_iff]; unfold plB; simp [h]
theorem colB_store {C : Cp} {cc : List Int} {n : Nat} (h1 : stoB C = true) (hn : C.h.l.length = n) {m : Nat} (hm : cc.length = m) : (cc.all colB && decide (m = n)) = cvB ⟨C.h, cc⟩ := by
  unfold cvB; simp only [(stoB_parts h1).1, hn, hm, Bool.true_and, Bool.and_comm]

set_option maxRecDepth 100000 in
set_option maxHeartbeats 2000000 in
theorem specGcValid_any (w : World) (lo : Nat) (vs vg : Value) (C : Cp) (G : Gp) (h : CGv w lo vs vg C G) : Calls Try.prog 60 #[vs, vg] w (RetB w (gcB C G)) := by
  obtain ⟨A0, n0, c0, A1, n1, c1, A2, n2, c2, A3, n3, c3, A4, n4, c4, p, cc, a, rfl, rfl, rfl, hv, hk, ⟨r0, r1, r2, r3, r4⟩, ⟨l0, l1, l2, l3, l4⟩, ⟨m0, m1, m2, m3, m4⟩⟩ := h.open_
  have X := (Blk4.new w (.slice A0 n0 c0) (.slice A1 n1 c1) (.slice A2 n2 c2) (.slice A3 n3 c3) 27).alloc (.cells #[.int .i64 p, .slice A4 n4 c4, .int .i64 a] 32)
  have Y := Blk3.new_at (w := w.alloc (.cells #[.slice A0 n0 c0, .slice A1 n1 c1, .slice A2 n2 c2, .slice A3 n3 c3] 27)) (b := w.heap.size + 1) (by simp) (.int .i64 p) (.slice A4 n4 c4) (.int .i64 a) 32
  have VV := (hv.alloc (.cells #[.slice A0 n0 c0, .slice A1 n1 c1, .slice A2 n2 c2, .slice A3 n3 c3] 27)).alloc (.cells #[.int .i64 p, .slice A4 n4 c4, .int .i64 a] 32)
  have KK := (hk.alloc (.cells #[.slice A0 n0 c0, .slice A1 n1 c1, .slice A2 n2 c2, .slice A3 n3 c3] 27)).alloc (.cells #[.int .i64 p, .slice A4 n4 c4, .int .i64 a] 32)
  have R4 := (r4.alloc (.cells #[.slice A0 n0 c0, .slice A1 n1 c1, .slice A2 n2 c2, .slice A3 n3 c3] 27)).alloc (.cells #[.int .i64 p, .slice A4 n4 c4, .int .i64 a] 32)
  have BB : Below w.heap.size w ((w.alloc (.cells #[.slice A0 n0 c0, .slice A1 n1 c1, .slice A2 n2 c2, .slice A3 n3 c3] 27)).alloc (.cells #[.int .i64 p, .slice A4 n4 c4, .int .i64 a] 32)) := ((Below.refl _ _).alloc (Nat.le_refl _) _).alloc (by simp) _
  clear hv hk r0 r1 r2 r3 r4 h
  generalize hW : (w.alloc (.cells #[.slice A0 n0 c0, .slice A1 n1 c1, .slice A2 n2 c2, .slice A3 n3 c3] 27)).alloc (.cells #[.int .i64 p, .slice A4 n4 c4, .int .i64 a] 32) = W at X Y VV KK R4 BB
  obtain ⟨i0, i1, i2, i3, _⟩ := X.cells
  obtain ⟨j0, j1, j2, _⟩ := Y.cells
  have V := specStoreValid_any _ _ _ _ VV
  have V2 := fun w1 h9 => specColoredValid_any w1 lo (.agg #[.slice A0 n0 c0, .slice A1 n1 c1, .slice A2 n2 c2, .slice A4 n4 c4]) ⟨C.h, cc⟩ h9
  rcases ev : stoB C
  · rw [ev] at V
    have hf : Hid (gcB C ⟨p, cc, a⟩ = false) := gcB_store _ ev
    clear ev V2 KK R4 Y
    go_enter Try.func60, Try.ntmps60
    go_wp2_with fail
    try rw [hW]
    refine V.mono ?_; rintro e w1 ⟨rfl, hb1⟩
    go_wp2_with fail
    go_ret
    exact ⟨ret_bool hf.out.symm, BB.trans (hb1.mono BB.size)⟩
  rw [ev] at V
  rcases e2 : cvB ⟨C.h, cc⟩
  · simp only [e2] at V2
    have hf : Hid (gcB C ⟨p, cc, a⟩ = false) := gcB_color e2
    clear ev e2 R4
    go_enter Try.func60, Try.ntmps60
    go_wp2_with fail
    try rw [hW]
    refine V.mono ?_; rintro e w1 ⟨rfl, hb1⟩
    obtain ⟨x0, x1, x2, x3, _⟩ := (X.below hb1).cells
    obtain ⟨y0, y1, y2, _⟩ := (Y.below hb1).cells
    have B1 := BB.trans (hb1.mono BB.size)
    go_wp2_with fail
    refine (V2 _ (KK.below hb1)).mono ?_; rintro e w2 ⟨rfl, hb2⟩
    go_wp2_with fail
    go_ret
    exact ⟨ret_bool hf.out.symm, B1.trans (hb2.mono B1.size)⟩
  simp only [e2] at V2
  have hf : Hid (gcB C ⟨p, cc, a⟩ = phB p a n2 n0) := by unfold Hid; rw [gcB_phase ev e2, l2.out, l0.out]
  clear ev e2 R4
  rcases Int.lt_or_le a 0 with ha | ha
  · have hg : Hid (phB p a n2 n0 = false) := ph_neg ha
    go_enter Try.func60, Try.ntmps60
    go_wp2_with fail
    try rw [hW]
    refine V.mono ?_; rintro e w1 ⟨rfl, hb1⟩
    obtain ⟨x0, x1, x2, x3, _⟩ := (X.below hb1).cells
    obtain ⟨y0, y1, y2, _⟩ := (Y.below hb1).cells
    have B1 := BB.trans (hb1.mono BB.size)
    go_wp2_with fail
    refine (V2 _ (KK.below hb1)).mono ?_; rintro e w2 ⟨rfl, hb2⟩
    obtain ⟨z0, z1, z2, z3, _⟩ := ((X.below hb1).below hb2).cells
    obtain ⟨u0, u1, u2, _⟩ := ((Y.below hb1).below hb2).cells
    have B2 := B1.trans (hb2.mono B1.size)
    go_wp2_with fail
    go_ret
    exact ⟨ret_bool (hf.out.trans hg.out).symm, B2⟩
  have ha9 : ¬ (a < 0) := by omega
  by_cases p0 : p = 0
  · subst p0
    have hg : Hid (phB 0 a n2 n0 = (a == 0)) := ph0 _ _ _
    go_enter Try.func60, Try.ntmps60
    go_wp2_with fail
    try rw [hW]
    refine V.mono ?_; rintro e w1 ⟨rfl, hb1⟩
    obtain ⟨x0, x1, x2, x3, _⟩ := (X.below hb1).cells
    obtain ⟨y0, y1, y2, _⟩ := (Y.below hb1).cells
    have B1 := BB.trans (hb1.mono BB.size)
    go_wp2_with fail
    refine (V2 _ (KK.below hb1)).mono ?_; rintro e w2 ⟨rfl, hb2⟩
    obtain ⟨z0, z1, z2, z3, _⟩ := ((X.below hb1).below hb2).cells
    obtain ⟨u0, u1, u2, _⟩ := ((Y.below hb1).below hb2).cells
    have B2 := B1.trans (hb2.mono B1.size)
    go_wp2_with fail
    go_ret
    exact ⟨ret_bool (hf.out.trans hg.out).symm, B2⟩
  by_cases p2 : p = 2
  · subst p2
    have hg : Hid (phB 2 a n2 n0 = (a == 0)) := ph2 _ _ _
    go_enter Try.func60, Try.ntmps60
    go_wp2_with fail
    try rw [hW]
    refine V.mono ?_; rintro e w1 ⟨rfl, hb1⟩
    obtain ⟨x0, x1, x2, x3, _⟩ := (X.below hb1).cells
    obtain ⟨y0, y1, y2, _⟩ := (Y.below hb1).cells
    have B1 := BB.trans (hb1.mono BB.size)
    go_wp2_with fail
    refine (V2 _ (KK.below hb1)).mono ?_; rintro e w2 ⟨rfl, hb2⟩
    obtain ⟨z0, z1, z2, z3, _⟩ := ((X.below hb1).below hb2).cells
    obtain ⟨u0, u1, u2, _⟩ := ((Y.below hb1).below hb2).cells
    have B2 := B1.trans (hb2.mono B1.size)
    go_wp2_with fail
    go_ret
    exact ⟨ret_bool (hf.out.trans hg.out).symm, B2⟩
  by_cases p1 : p = 1
  · subst p1
    have hg : Hid (phB 1 a n2 n0 = decide (a < n2)) := (ph1 _ _ _).trans (pl_lt ha)
    go_enter Try.func60, Try.ntmps60
    go_wp2_with fail
    try rw [hW]
    refine V.mono ?_; rintro e w1 ⟨rfl, hb1⟩
    obtain ⟨x0, x1, x2, x3, _⟩ := (X.below hb1).cells
    obtain ⟨y0, y1, y2, _⟩ := (Y.below hb1).cells
    have B1 := BB.trans (hb1.mono BB.size)
    go_wp2_with fail
    refine (V2 _ (KK.below hb1)).mono ?_; rintro e w2 ⟨rfl, hb2⟩
    obtain ⟨z0, z1, z2, z3, _⟩ := ((X.below hb1).below hb2).cells
    obtain ⟨u0, u1, u2, _⟩ := ((Y.below hb1).below hb2).cells
    have B2 := B1.trans (hb2.mono B1.size)
    go_wp2_with fail
    go_ret
    exact ⟨ret_bool (hf.out.trans hg.out).symm, B2⟩
  by_cases p3 : p = 3
  · subst p3
    have hg : Hid (phB 3 a n2 n0 = decide (a < n0)) := (ph3 _ _ _).trans (pl_lt ha)
    go_enter Try.func60, Try.ntmps60
    go_wp2_with fail
    try rw [hW]
    refine V.mono ?_; rintro e w1 ⟨rfl, hb1⟩
    obtain ⟨x0, x1, x2, x3, _⟩ := (X.below hb1).cells
    obtain ⟨y0, y1, y2, _⟩ := (Y.below hb1).cells
    have B1 := BB.trans (hb1.mono BB.size)
    go_wp2_with fail
    refine (V2 _ (KK.below hb1)).mono ?_; rintro e w2 ⟨rfl, hb2⟩
    obtain ⟨z0, z1, z2, z3, _⟩ := ((X.below hb1).below hb2).cells
    obtain ⟨u0, u1, u2, _⟩ := ((Y.below hb1).below hb2).cells
    have B2 := B1.trans (hb2.mono B1.size)
    go_wp2_with fail
    go_ret
    exact ⟨ret_bool (hf.out.trans hg.out).symm, B2⟩
  · have hg : Hid (phB p a n2 n0 = false) := ph_else p0 p1 p2 p3
    have q0 : (p == 0) = false := by rw [beq_eq_false_iff_ne]; exact p0
    have q1 : (p == 1) = false := by rw [beq_eq_false_iff_ne]; exact p1
    have q2 : (p == 2) = false := by rw [beq_eq_false_iff_ne]; exact p2
    have q3 : (p == 3) = false := by rw [beq_eq_false_iff_ne]; exact p3
    go_enter Try.func60, Try.ntmps60
    go_wp2_with fail
    try rw [hW]
    refine V.mono ?_; rintro e w1 ⟨rfl, hb1⟩
    obtain ⟨x0, x1, x2, x3, _⟩ := (X.below hb1).cells
    obtain ⟨y0, y1, y2, _⟩ := (Y.below hb1).cells
    have B1 := BB.trans (hb1.mono BB.size)
    go_wp2_with fail
    refine (V2 _ (KK.below hb1)).mono ?_; rintro e w2 ⟨rfl, hb2⟩
    obtain ⟨z0, z1, z2, z3, _⟩ := ((X.below hb1).below hb2).cells
    obtain ⟨u0, u1, u2, _⟩ := ((Y.below hb1).below hb2).cells
    have B2 := B1.trans (hb2.mono B1.size)
    go_wp2_with fail
    go_ret
    exact ⟨ret_bool (hf.out.trans hg.out).symm, B2⟩

set_option maxRecDepth 100000 in
set_option maxHeartbeats 2000000 in
theorem implGcValid_any (w : World) (lo : Nat) (vs vg : Value) (C : Cp) (G : Gp) (h : CGv w lo vs vg C G) : Calls Try.prog 40 #[vs, vg] w (RetB w (gcB C G)) := by
  obtain ⟨A0, n0, c0, A1, n1, c1, A2, n2, c2, A3, n3, c3, A4, n4, c4, p, cc, a, rfl, rfl, rfl, hv, hk, ⟨r0, r1, r2, r3, r4⟩, ⟨l0, l1, l2, l3, l4⟩, ⟨m0, m1, m2, m3, m4⟩⟩ := h.open_
  have X := (Blk4.new w (.slice A0 n0 c0) (.slice A1 n1 c1) (.slice A2 n2 c2) (.slice A3 n3 c3) 27).alloc (.cells #[.int .i64 p, .slice A4 n4 c4, .int .i64 a] 32)
  have Y := Blk3.new_at (w := w.alloc (.cells #[.slice A0 n0 c0, .slice A1 n1 c1, .slice A2 n2 c2, .slice A3 n3 c3] 27)) (b := w.heap.size + 1) (by simp) (.int .i64 p) (.slice A4 n4 c4) (.int .i64 a) 32
  have VV := (hv.alloc (.cells #[.slice A0 n0 c0, .slice A1 n1 c1, .slice A2 n2 c2, .slice A3 n3 c3] 27)).alloc (.cells #[.int .i64 p, .slice A4 n4 c4, .int .i64 a] 32)
  have KK := (hk.alloc (.cells #[.slice A0 n0 c0, .slice A1 n1 c1, .slice A2 n2 c2, .slice A3 n3 c3] 27)).alloc (.cells #[.int .i64 p, .slice A4 n4 c4, .int .i64 a] 32)
  have R4 := (r4.alloc (.cells #[.slice A0 n0 c0, .slice A1 n1 c1, .slice A2 n2 c2, .slice A3 n3 c3] 27)).alloc (.cells #[.int .i64 p, .slice A4 n4 c4, .int .i64 a] 32)
  have BB : Below w.heap.size w ((w.alloc (.cells #[.slice A0 n0 c0, .slice A1 n1 c1, .slice A2 n2 c2, .slice A3 n3 c3] 27)).alloc (.cells #[.int .i64 p, .slice A4 n4 c4, .int .i64 a] 32)) := ((Below.refl _ _).alloc (Nat.le_refl _) _).alloc (by simp) _
  clear hv hk r0 r1 r2 r3 r4 h
  generalize hW : (w.alloc (.cells #[.slice A0 n0 c0, .slice A1 n1 c1, .slice A2 n2 c2, .slice A3 n3 c3] 27)).alloc (.cells #[.int .i64 p, .slice A4 n4 c4, .int .i64 a] 32) = W at X Y VV KK R4 BB
  obtain ⟨i0, i1, i2, i3, _⟩ := X.cells
  obtain ⟨j0, j1, j2, _⟩ := Y.cells
  have V := implStoreValid_any _ _ _ _ VV
  have V2 := fun w1 h9 => colorsValid_any w1 lo A4 n4 c4 cc h9 l4.out m4 n0
  rcases ev : stoB C
  · rw [ev] at V
    have hf : Hid (gcB C ⟨p, cc, a⟩ = false) := gcB_store _ ev
    clear ev V2 KK R4 Y
    go_enter Try.func40, Try.ntmps40
    go_wp2_with fail
    try rw [hW]
    refine V.mono ?_; rintro e w1 ⟨rfl, hb1⟩
    go_wp2_with fail
    go_ret
    exact ⟨ret_bool hf.out.symm, BB.trans (hb1.mono BB.size)⟩
  rw [ev] at V
  simp only [colB_store ev l0.out l4.out] at V2
  rcases e2 : cvB ⟨C.h, cc⟩
  · simp only [e2] at V2
    have hf : Hid (gcB C ⟨p, cc, a⟩ = false) := gcB_color e2
    clear ev e2 KK
    go_enter Try.func40, Try.ntmps40
    go_wp2_with fail
    try rw [hW]
    refine V.mono ?_; rintro e w1 ⟨rfl, hb1⟩
    obtain ⟨x0, x1, x2, x3, _⟩ := (X.below hb1).cells
    obtain ⟨y0, y1, y2, _⟩ := (Y.below hb1).cells
    have B1 := BB.trans (hb1.mono BB.size)
    go_wp2_with fail
    refine (V2 _ (R4.below hb1)).mono ?_; rintro e w' ⟨rfl, rfl⟩
    go_wp2_with fail
    go_ret
    exact ⟨ret_bool hf.out.symm, B1⟩
  simp only [e2] at V2
  have h40 : n4 = n0 := by have h9 := (cvB_parts e2).2.1; simp only at h9; have := l4.out; have := l0.out; omega
  have hf : Hid (gcB C ⟨p, cc, a⟩ = phB p a n2 n4) := by unfold Hid; rw [gcB_phase ev e2, l2.out, l0.out, h40]
  have h40' := Lib.hid h40
  clear ev e2 KK h40
  by_cases p0 : p = 0
  · subst p0
    have hg : Hid (phB 0 a n2 n4 = (a == 0)) := ph0 _ _ _
    go_enter Try.func40, Try.ntmps40
    go_wp2_with fail
    try rw [hW]
    refine V.mono ?_; rintro e w1 ⟨rfl, hb1⟩
    obtain ⟨x0, x1, x2, x3, _⟩ := (X.below hb1).cells
    obtain ⟨y0, y1, y2, _⟩ := (Y.below hb1).cells
    have B1 := BB.trans (hb1.mono BB.size)
    go_wp2_with fail
    refine (V2 _ (R4.below hb1)).mono ?_; rintro e w' ⟨rfl, rfl⟩
    go_wp2_with fail
    go_ret
    exact ⟨ret_bool (hf.out.trans hg.out).symm, B1⟩
  by_cases p2 : p = 2
  · subst p2
    have hg : Hid (phB 2 a n2 n4 = (a == 0)) := ph2 _ _ _
    go_enter Try.func40, Try.ntmps40
    go_wp2_with fail
    try rw [hW]
    refine V.mono ?_; rintro e w1 ⟨rfl, hb1⟩
    obtain ⟨x0, x1, x2, x3, _⟩ := (X.below hb1).cells
    obtain ⟨y0, y1, y2, _⟩ := (Y.below hb1).cells
    have B1 := BB.trans (hb1.mono BB.size)
    go_wp2_with fail
    refine (V2 _ (R4.below hb1)).mono ?_; rintro e w' ⟨rfl, rfl⟩
    go_wp2_with fail
    go_ret
    exact ⟨ret_bool (hf.out.trans hg.out).symm, B1⟩
  by_cases p1 : p = 1
  · subst p1
    have hg : Hid (phB 1 a n2 n4 = plB a n2) := ph1 _ _ _
    go_enter Try.func40, Try.ntmps40
    go_wp2_with fail
    try rw [hW]
    refine V.mono ?_; rintro e w1 ⟨rfl, hb1⟩
    obtain ⟨x0, x1, x2, x3, _⟩ := (X.below hb1).cells
    obtain ⟨y0, y1, y2, _⟩ := (Y.below hb1).cells
    have B1 := BB.trans (hb1.mono BB.size)
    go_wp2_with fail
    refine (V2 _ (R4.below hb1)).mono ?_; rintro e w' ⟨rfl, rfl⟩
    go_wp2_with fail
    refine (hasPlace_any _ _ _ _ _).mono ?_; rintro e w' ⟨rfl, rfl⟩
    go_wp2_with fail
    go_ret
    exact ⟨ret_bool (hf.out.trans hg.out).symm, B1⟩
  by_cases p3 : p = 3
  · subst p3
    have hg : Hid (phB 3 a n2 n4 = plB a n4) := ph3 _ _ _
    go_enter Try.func40, Try.ntmps40
    go_wp2_with fail
    try rw [hW]
    refine V.mono ?_; rintro e w1 ⟨rfl, hb1⟩
    obtain ⟨x0, x1, x2, x3, _⟩ := (X.below hb1).cells
    obtain ⟨y0, y1, y2, _⟩ := (Y.below hb1).cells
    have B1 := BB.trans (hb1.mono BB.size)
    go_wp2_with fail
    refine (V2 _ (R4.below hb1)).mono ?_; rintro e w' ⟨rfl, rfl⟩
    go_wp2_with fail
    refine (hasPlace_any _ _ _ _ _).mono ?_; rintro e w' ⟨rfl, rfl⟩
    go_wp2_with fail
    go_ret
    exact ⟨ret_bool (hf.out.trans hg.out).symm, B1⟩
  · have hg : Hid (phB p a n2 n4 = false) := ph_else p0 p1 p2 p3
    have q0 : (p == 0) = false := by rw [beq_eq_false_iff_ne]; exact p0
    have q1 : (p == 1) = false := by rw [beq_eq_false_iff_ne]; exact p1
    have q2 : (p == 2) = false := by rw [beq_eq_false_iff_ne]; exact p2
    have q3 : (p == 3) = false := by rw [beq_eq_false_iff_ne]; exact p3
    go_enter Try.func40, Try.ntmps40
    go_wp2_with fail
    try rw [hW]
    refine V.mono ?_; rintro e w1 ⟨rfl, hb1⟩
    obtain ⟨x0, x1, x2, x3, _⟩ := (X.below hb1).cells
    obtain ⟨y0, y1, y2, _⟩ := (Y.below hb1).cells
    have B1 := BB.trans (hb1.mono BB.size)
    go_wp2_with fail
    refine (V2 _ (R4.below hb1)).mono ?_; rintro e w' ⟨rfl, rfl⟩
    go_wp2_with fail
    go_ret
    exact ⟨ret_bool (hf.out.trans hg.out).symm, B1⟩
end Go.Proofs.Ytdifplakkepnkaa

/- Collectors of spec and of impl: equality, copies, new ones. -/
namespace Go.Proofs.Ytdifplakkepnkaa
open Go.RowKit

/-- A collector that was stored into a result. -/
theorem g_done {w w3 : World} {lo b : Nat} {r : Value} {G : Gp} (hr : Row w3 lo r G.c) (hlo : w.heap.size ≤ lo) (hne : r.ownBlock ≠ some b) (hb : w.heap.size ≤ b) (hB : Below w.heap.size w w3) (x y z : Value) :
    Gv (((w3.setCell ⟨b, 0, none⟩ x).setCell ⟨b, 1, none⟩ y).setCell ⟨b, 2, none⟩ z) w.heap.size (.agg #[.int .i64 G.p, r, .int .i64 G.a]) G ∧ Below w.heap.size w (((w3.setCell ⟨b, 0, none⟩ x).setCell ⟨b, 1, none⟩ y).setCell ⟨b, 2, none⟩ z) :=
  ⟨⟨_, rfl, (((hr.other (a := ⟨b, 0, none⟩) hne x).other (a := ⟨b, 1, none⟩) hne y).other (a := ⟨b, 2, none⟩) hne z).mono hlo⟩, ((hB.setCell (p := ⟨b, 0, none⟩) hb x).setCell (p := ⟨b, 1, none⟩) hb y).setCell (p := ⟨b, 2, none⟩) hb z⟩
theorem own_ne {w : World} {lo b : Nat} {v : Value} {xs : List Int} (h : Row w lo v xs) (hb : b < lo) : v.ownBlock ≠ some b := fun e => by have := (h.lt _ e).1; omega
theorem own_new {w : World} {lo b : Nat} {v : Value} {xs : List Int} (h : Row w lo v xs) (hb : w.heap.size ≤ b) : v.ownBlock ≠ some b := fun e => by have := (h.lt _ e).2; omega
theorem sameG_eq {p a p' a' : Int} {cc cc' : List Int} : sameG ⟨p, cc, a⟩ ⟨p', cc', a'⟩ = (decide (p = p') && decide (cc = cc') && decide (a = a')) := by
  unfold sameG; simp [Bool.decide_and, Bool.and_assoc]

set_option maxRecDepth 100000 in
set_option maxHeartbeats 2000000 in
theorem implGcSame_any (w : World) (lo lo' : Nat) (v v' : Value) (G G' : Gp) (hg : Gv w lo v G) (hg' : Gv w lo' v' G') : Calls Try.prog 38 #[v, v'] w (RetB w (sameG G G')) := by
  obtain ⟨p, cc, a⟩ := G
  obtain ⟨p', cc', a'⟩ := G'
  obtain ⟨A, n, c, rfl, r, l, m, _⟩ := hg.open_
  obtain ⟨A', n', c', rfl, r', l', m', _⟩ := hg'.open_
  dsimp only at r l r' l' ⊢
  have X := (Blk3.new w (.int .i64 p) (.slice A n c) (.int .i64 a) 32).alloc (.cells #[.int .i64 p', .slice A' n' c', .int .i64 a'] 32)
  have Y := Blk3.new_at (w := w.alloc (.cells #[.int .i64 p, .slice A n c, .int .i64 a] 32)) (b := w.heap.size + 1) (by simp) (.int .i64 p') (.slice A' n' c') (.int .i64 a') 32
  have R := (r.alloc (.cells #[.int .i64 p, .slice A n c, .int .i64 a] 32)).alloc (.cells #[.int .i64 p', .slice A' n' c', .int .i64 a'] 32)
  have R' := (r'.alloc (.cells #[.int .i64 p, .slice A n c, .int .i64 a] 32)).alloc (.cells #[.int .i64 p', .slice A' n' c', .int .i64 a'] 32)
  have BB : Below w.heap.size w ((w.alloc (.cells #[.int .i64 p, .slice A n c, .int .i64 a] 32)).alloc (.cells #[.int .i64 p', .slice A' n' c', .int .i64 a'] 32)) := ((Below.refl _ _).alloc (Nat.le_refl _) _).alloc (by simp) _
  clear hg hg' r r'
  generalize hW : (w.alloc (.cells #[.int .i64 p, .slice A n c, .int .i64 a] 32)).alloc (.cells #[.int .i64 p', .slice A' n' c', .int .i64 a'] 32) = W at X Y R R' BB
  obtain ⟨x0, x1, x2, _⟩ := X.cells
  obtain ⟨y0, y1, y2, _⟩ := Y.cells
  have E := slicesEqual_any W lo lo' A A' n c n' c' cc cc' R l.out m R' l'.out m'
  clear R R' X Y l l'
  by_cases hp : p = p'
  · subst hp
    rcases ec : decide (cc = cc')
    · simp only [ec] at E
      have hf : Hid (sameG ⟨p, cc, a⟩ ⟨p, cc', a'⟩ = false) := by unfold Hid; rw [sameG_eq, ec]; simp
      clear ec
      go_enter Try.func38, Try.ntmps38
      go_wp2_with fail
      try rw [hW]
      refine E.mono ?_; rintro e w1 ⟨rfl, nq, rfl⟩
      have c0 := cellDN x0 nq
      have c1 := cellDN x1 nq
      have c2 := cellDN x2 nq
      have d0 := cellDN y0 nq
      have d1 := cellDN y1 nq
      have d2 := cellDN y2 nq
      have B1 := below_drewN BB nq
      go_wp2_with fail
      go_ret
      exact ⟨ret_bool hf.out.symm, B1⟩
    · simp only [ec] at E
      have hf : Hid (sameG ⟨p, cc, a⟩ ⟨p, cc', a'⟩ = (a == a')) := by unfold Hid; rw [sameG_eq, ec]; rw [Bool.eq_iff_iff]; simp
      clear ec
      go_enter Try.func38, Try.ntmps38
      go_wp2_with fail
      try rw [hW]
      refine E.mono ?_; rintro e w1 ⟨rfl, nq, rfl⟩
      have c0 := cellDN x0 nq
      have c1 := cellDN x1 nq
      have c2 := cellDN x2 nq
      have d0 := cellDN y0 nq
      have d1 := cellDN y1 nq
      have d2 := cellDN y2 nq
      have B1 := below_drewN BB nq
      go_wp2_with fail
      go_ret
      exact ⟨ret_bool hf.out.symm, B1⟩
  · have hf : Hid (sameG ⟨p, cc, a⟩ ⟨p', cc', a'⟩ = false) := by unfold Hid; rw [sameG_eq, decide_eq_false hp]; simp
    have qp : (p == p') = false := by rw [beq_eq_false_iff_ne]; exact hp
    go_enter Try.func38, Try.ntmps38
    go_wp2_with fail
    try rw [hW]
    go_ret
    exact ⟨ret_bool hf.out.symm, BB⟩

set_option maxRecDepth 100000 in
set_option maxHeartbeats 2000000 in
theorem specGcSame_any (w : World) (lo lo' : Nat) (v v' : Value) (G G' : Gp) (hg : Gv w lo v G) (hg' : Gv w lo' v' G') : Calls Try.prog 63 #[v, v'] w (RetB w (sameG G G')) := by
  obtain ⟨p, cc, a⟩ := G
  obtain ⟨p', cc', a'⟩ := G'
  obtain ⟨A, n, c, rfl, r, l, m, _⟩ := hg.open_
  obtain ⟨A', n', c', rfl, r', l', m', _⟩ := hg'.open_
  dsimp only at r l r' l' ⊢
  have X := (Blk3.new w (.int .i64 p) (.slice A n c) (.int .i64 a) 32).alloc (.cells #[.int .i64 p', .slice A' n' c', .int .i64 a'] 32)
  have Y := Blk3.new_at (w := w.alloc (.cells #[.int .i64 p, .slice A n c, .int .i64 a] 32)) (b := w.heap.size + 1) (by simp) (.int .i64 p') (.slice A' n' c') (.int .i64 a') 32
  have R := (r.alloc (.cells #[.int .i64 p, .slice A n c, .int .i64 a] 32)).alloc (.cells #[.int .i64 p', .slice A' n' c', .int .i64 a'] 32)
  have R' := (r'.alloc (.cells #[.int .i64 p, .slice A n c, .int .i64 a] 32)).alloc (.cells #[.int .i64 p', .slice A' n' c', .int .i64 a'] 32)
  have BB : Below w.heap.size w ((w.alloc (.cells #[.int .i64 p, .slice A n c, .int .i64 a] 32)).alloc (.cells #[.int .i64 p', .slice A' n' c', .int .i64 a'] 32)) := ((Below.refl _ _).alloc (Nat.le_refl _) _).alloc (by simp) _
  clear hg hg' r r'
  generalize hW : (w.alloc (.cells #[.int .i64 p, .slice A n c, .int .i64 a] 32)).alloc (.cells #[.int .i64 p', .slice A' n' c', .int .i64 a'] 32) = W at X Y R R' BB
  obtain ⟨x0, x1, x2, _⟩ := X.cells
  obtain ⟨y0, y1, y2, _⟩ := Y.cells
  have E := l1Ints_any W lo lo' A A' n c n' c' cc cc' R l.out m R' l'.out m'
  clear R R' X Y l l'
  by_cases hp : p = p'
  · subst hp
    by_cases ha : a = a'
    · subst ha
      have hf : Hid (sameG ⟨p, cc, a⟩ ⟨p, cc', a⟩ = decide (cc = cc')) := by unfold Hid; rw [sameG_eq]; rw [Bool.eq_iff_iff]; simp
      have qa : (a == a) = true := by simp
      go_enter Try.func63, Try.ntmps63
      go_wp2_with fail
      try rw [hW]
      refine E.mono ?_; rintro e w1 ⟨rfl, nq, rfl⟩
      have c0 := cellDN x0 nq
      have c1 := cellDN x1 nq
      have c2 := cellDN x2 nq
      have d0 := cellDN y0 nq
      have d1 := cellDN y1 nq
      have d2 := cellDN y2 nq
      have B1 := below_drewN BB nq
      go_wp2_with fail
      go_ret
      exact ⟨ret_bool hf.out.symm, B1⟩
    · have hf : Hid (sameG ⟨p, cc, a⟩ ⟨p, cc', a'⟩ = false) := by unfold Hid; rw [sameG_eq, decide_eq_false ha]; simp
      have qa : (a == a') = false := by rw [beq_eq_false_iff_ne]; exact ha
      go_enter Try.func63, Try.ntmps63
      go_wp2_with fail
      try rw [hW]
      go_ret
      exact ⟨ret_bool hf.out.symm, BB⟩
  · have hf : Hid (sameG ⟨p, cc, a⟩ ⟨p', cc', a'⟩ = false) := by unfold Hid; rw [sameG_eq, decide_eq_false hp]; simp
    have qp : (p == p') = false := by rw [beq_eq_false_iff_ne]; exact hp
    go_enter Try.func63, Try.ntmps63
    go_wp2_with fail
    try rw [hW]
    go_ret
    exact ⟨ret_bool hf.out.symm, BB⟩

set_option maxRecDepth 100000 in
set_option maxHeartbeats 2000000 in
theorem implNewGc_any (w : World) (lo : Nat) (v : Value) (C : Cp) (hv : Cv w lo v C) : Calls Try.prog 33 #[v] w (OptGv w (newG C)) := by
  have hvo := hv
  obtain ⟨A0, n0, c0, A1, n1, c1, A2, n2, c2, A3, n3, c3, rfl, _, _, ⟨l0, l1, l2, l3⟩, _⟩ := hvo.open_
  have X := (Blk4.new w (.slice A0 n0 c0) (.slice A1 n1 c1) (.slice A2 n2 c2) (.slice A3 n3 c3) 27).alloc (.cells #[.int .i64 0, .slice none 0 0, .int .i64 0] 32)
  have Y := Blk3.new_at (w := w.alloc (.cells #[.slice A0 n0 c0, .slice A1 n1 c1, .slice A2 n2 c2, .slice A3 n3 c3] 27)) (b := w.heap.size + 1) (by simp) (.int .i64 0) (.slice none 0 0) (.int .i64 0) 32
  have VV := (hv.alloc (.cells #[.slice A0 n0 c0, .slice A1 n1 c1, .slice A2 n2 c2, .slice A3 n3 c3] 27)).alloc (.cells #[.int .i64 0, .slice none 0 0, .int .i64 0] 32)
  have BB : Below w.heap.size w ((w.alloc (.cells #[.slice A0 n0 c0, .slice A1 n1 c1, .slice A2 n2 c2, .slice A3 n3 c3] 27)).alloc (.cells #[.int .i64 0, .slice none 0 0, .int .i64 0] 32)) := ((Below.refl _ _).alloc (Nat.le_refl _) _).alloc (by simp) _
  have sz : ((w.alloc (.cells #[.slice A0 n0 c0, .slice A1 n1 c1, .slice A2 n2 c2, .slice A3 n3 c3] 27)).alloc (.cells #[.int .i64 0, .slice none 0 0, .int .i64 0] 32)).heap.size = w.heap.size + 2 := by simp
  go_enter Try.func33, Try.ntmps33
  go_wp2_with fail
  generalize (w.alloc (.cells #[.slice A0 n0 c0, .slice A1 n1 c1, .slice A2 n2 c2, .slice A3 n3 c3] 27)).alloc (.cells #[.int .i64 0, .slice none 0 0, .int .i64 0] 32) = W at X Y VV BB sz ⊢
  have V := implStoreValid_any _ _ _ _ VV
  rcases ev : stoB C
  · rw [ev] at V
    have hf : Hid (newG C = none) := by unfold Hid newG; rw [ev]; simp
    clear ev
    go_wp2_with fail
    refine V.mono ?_; rintro e w1 ⟨rfl, hb1⟩
    obtain ⟨y0, y1, y2, f0, f1, f2⟩ := (Y.below hb1).cells
    obtain ⟨hZ, hB⟩ := g_done (w := w) (G := Gp.zero) (b := w.heap.size + 1) (Row.nil w1 w.heap.size) (Nat.le_refl _) (by simp [Value.ownBlock]) (by omega) (BB.trans (hb1.mono (by omega))) (.int .i64 0) (.slice none 0 0) (.int .i64 0)
    go_wp2_with fail
    rw [hf.out]
    refine bodyPost_ret (v := .tuple #[.agg #[.int .i64 0, .slice none 0 0, .int .i64 0], .bool false]) ?_ rfl ⟨_, rfl, hZ, hB⟩
    simp [results, Try.results33, go_sem, y0, y1, y2]
  · rw [ev] at V
    have hf : Hid (newG C = some ⟨0, List.replicate n0 0, 0⟩) := by unfold Hid newG; rw [if_pos ev, l0.out]
    have h1n := hvB_len (stoB_parts ev).1
    have u0 : n0 ≤ 8 := by have := l0.out; omega
    have u1 : 1 ≤ n0 := by have := l0.out; omega
    clear ev
    go_wp2_with fail
    refine V.mono ?_; rintro e w1 ⟨rfl, hb1⟩
    have B1 := BB.trans (hb1.mono (by omega))
    obtain ⟨x0, x1, x2, x3, _⟩ := (X.below hb1).cells
    have Y1 := Y.below hb1
    have z1 := hb1.size
    go_wp2_with fail
    refine (whiteColors_any w1 n0 u1 u0).mono ?_; rintro e w2 ⟨B3, e3, rfl, r3n, hb2⟩
    simp only [List.length_replicate] at r3n
    obtain ⟨y0, y1, y2, f0, f1, f2⟩ := (Y1.below hb2).cells
    obtain ⟨hZ, hB⟩ := g_done (w := w) (G := ⟨0, List.replicate n0 0, 0⟩) (b := w.heap.size + 1) r3n (by omega) (own_ne r3n (by omega)) (by omega) (B1.trans (hb2.mono B1.size)) (.int .i64 0) (.slice B3 n0 e3) (.int .i64 0)
    go_wp2_with fail
    rw [hf.out]
    refine bodyPost_ret (v := .tuple #[.agg #[.int .i64 0, .slice B3 n0 e3, .int .i64 0], .bool true]) ?_ rfl ⟨_, rfl, hZ, hB⟩
    simp [results, Try.results33, go_sem, y0, y1, y2]

set_option maxRecDepth 100000 in
set_option maxHeartbeats 2000000 in
theorem specNewGc_any (w : World) (lo : Nat) (v : Value) (C : Cp) (hv : Cv w lo v C) : Calls Try.prog 35 #[v] w (OptGv w (newG C)) := by
  have hvo := hv
  obtain ⟨A0, n0, c0, A1, n1, c1, A2, n2, c2, A3, n3, c3, rfl, _, _, ⟨l0, l1, l2, l3⟩, _⟩ := hvo.open_
  have X := (Blk4.new w (.slice A0 n0 c0) (.slice A1 n1 c1) (.slice A2 n2 c2) (.slice A3 n3 c3) 27).alloc (.cells #[.int .i64 0, .slice none 0 0, .int .i64 0] 32)
  have Y := Blk3.new_at (w := w.alloc (.cells #[.slice A0 n0 c0, .slice A1 n1 c1, .slice A2 n2 c2, .slice A3 n3 c3] 27)) (b := w.heap.size + 1) (by simp) (.int .i64 0) (.slice none 0 0) (.int .i64 0) 32
  have VV := (hv.alloc (.cells #[.slice A0 n0 c0, .slice A1 n1 c1, .slice A2 n2 c2, .slice A3 n3 c3] 27)).alloc (.cells #[.int .i64 0, .slice none 0 0, .int .i64 0] 32)
  have BB : Below w.heap.size w ((w.alloc (.cells #[.slice A0 n0 c0, .slice A1 n1 c1, .slice A2 n2 c2, .slice A3 n3 c3] 27)).alloc (.cells #[.int .i64 0, .slice none 0 0, .int .i64 0] 32)) := ((Below.refl _ _).alloc (Nat.le_refl _) _).alloc (by simp) _
  have sz : ((w.alloc (.cells #[.slice A0 n0 c0, .slice A1 n1 c1, .slice A2 n2 c2, .slice A3 n3 c3] 27)).alloc (.cells #[.int .i64 0, .slice none 0 0, .int .i64 0] 32)).heap.size = w.heap.size + 2 := by simp
  go_enter Try.func35, Try.ntmps35
  go_wp2_with fail
  generalize (w.alloc (.cells #[.slice A0 n0 c0, .slice A1 n1 c1, .slice A2 n2 c2, .slice A3 n3 c3] 27)).alloc (.cells #[.int .i64 0, .slice none 0 0, .int .i64 0] 32) = W at X Y VV BB sz ⊢
  have V := specStoreValid_any _ _ _ _ VV
  rcases ev : stoB C
  · rw [ev] at V
    have hf : Hid (newG C = none) := by unfold Hid newG; rw [ev]; simp
    clear ev
    go_wp2_with fail
    refine V.mono ?_; rintro e w1 ⟨rfl, hb1⟩
    obtain ⟨y0, y1, y2, f0, f1, f2⟩ := (Y.below hb1).cells
    obtain ⟨hZ, hB⟩ := g_done (w := w) (G := Gp.zero) (b := w.heap.size + 1) (Row.nil w1 w.heap.size) (Nat.le_refl _) (by simp [Value.ownBlock]) (by omega) (BB.trans (hb1.mono (by omega))) (.int .i64 0) (.slice none 0 0) (.int .i64 0)
    go_wp2_with fail
    rw [hf.out]
    refine bodyPost_ret (v := .tuple #[.agg #[.int .i64 0, .slice none 0 0, .int .i64 0], .bool false]) ?_ rfl ⟨_, rfl, hZ, hB⟩
    simp [results, Try.results35, go_sem, y0, y1, y2]
  · rw [ev] at V
    have hf : Hid (newG C = some ⟨0, List.replicate n0 0, 0⟩) := by unfold Hid newG; rw [if_pos ev, l0.out]
    have h1n := hvB_len (stoB_parts ev).1
    have u0 : n0 ≤ 8 := by have := l0.out; omega
    have u1 : 1 ≤ n0 := by have := l0.out; omega
    clear ev
    go_wp2_with fail
    refine V.mono ?_; rintro e w1 ⟨rfl, hb1⟩
    have B1 := BB.trans (hb1.mono (by omega))
    obtain ⟨x0, x1, x2, x3, _⟩ := (X.below hb1).cells
    have Y1 := Y.below hb1
    have z1 := hb1.size
    have hmk : ∀ W, (Instr.makeSlice 23 (.int .i64 (n0 : Int)) (.int .i64 (n0 : Int))).run Try.prog W = .ok (.slice (some ⟨W.heap.size, 0, none⟩) n0 n0) (W.alloc (.cells (madeCells #[.int .i64 0] n0) 3)) := fun W => run_make_row' 23 3 (.int .i64 0) 8 Try.underlying23 Try.infoInt rfl .i64 .i64 n0 (by omega) (by omega) W
    have RM := rowMade w1 w1.heap.size n0 (Nat.le_refl _) (by omega)
    obtain ⟨y0, y1, y2, f0, f1, f2⟩ := (Y1.alloc (.cells (madeCells #[.int .i64 0] n0) 3)).cells
    obtain ⟨hZ, hB⟩ := g_done (w := w) (G := ⟨0, List.replicate n0 0, 0⟩) (b := w.heap.size + 1) RM (by omega) (own_ne RM (by omega)) (by omega) (B1.alloc B1.size (.cells (madeCells #[.int .i64 0] n0) 3)) (.int .i64 0) (.slice (some ⟨w1.heap.size, 0, none⟩) n0 n0) (.int .i64 0)
    go_wp2_with fail
    rw [hf.out]
    refine bodyPost_ret (v := .tuple #[.agg #[.int .i64 0, .slice (some ⟨w1.heap.size, 0, none⟩) n0 n0, .int .i64 0], .bool true]) ?_ rfl ⟨_, rfl, hZ, hB⟩
    simp [results, Try.results35, go_sem, y0, y1, y2]
end Go.Proofs.Ytdifplakkepnkaa

/- Copies of collectors, of spec and of impl. -/
namespace Go.Proofs.Ytdifplakkepnkaa
open Go.RowKit

theorem cellF3g {w : World} {a : Addr} {u : Value} {b : Nat} (h : w.cell? a = some u) (hne : b ≠ a.block) (v0 v1 v2 : Value) : (((w.setCell ⟨b, 0, none⟩ v0).setCell ⟨b, 1, none⟩ v1).setCell ⟨b, 2, none⟩ v2).cell? a = some u := by
  rw [World.cell?_setCell_far _ _ _ _ hne, World.cell?_setCell_far _ _ _ _ hne, World.cell?_setCell_far _ _ _ _ hne]; exact h
def isMk (G : Gp) : Bool := decide (G.p = 1 ∨ G.p = 2)

set_option maxRecDepth 100000 in
set_option maxHeartbeats 2000000 in
theorem copyOfGc_any (w : World) (lo : Nat) (v : Value) (G : Gp) (hg : Gv w lo v G) (hb : G.c.length ≤ 1048576) : Calls Try.prog 77 #[v] w (NewGv w G) := by
  obtain ⟨p, cc, a⟩ := G
  obtain ⟨A, n, c, rfl, r, l, m, _⟩ := hg.open_
  dsimp only at r l hb ⊢
  have X := (Blk3.new w (.int .i64 p) (.slice A n c) (.int .i64 a) 32).alloc (.cells #[.int .i64 0, .slice none 0 0, .int .i64 0] 32)
  have Y := Blk3.new_at (w := w.alloc (.cells #[.int .i64 p, .slice A n c, .int .i64 a] 32)) (b := w.heap.size + 1) (by simp) (.int .i64 0) (.slice none 0 0) (.int .i64 0) 32
  have R := (r.alloc (.cells #[.int .i64 p, .slice A n c, .int .i64 a] 32)).alloc (.cells #[.int .i64 0, .slice none 0 0, .int .i64 0] 32)
  have BB : Below w.heap.size w ((w.alloc (.cells #[.int .i64 p, .slice A n c, .int .i64 a] 32)).alloc (.cells #[.int .i64 0, .slice none 0 0, .int .i64 0] 32)) := ((Below.refl _ _).alloc (Nat.le_refl _) _).alloc (by simp) _
  have sz : ((w.alloc (.cells #[.int .i64 p, .slice A n c, .int .i64 a] 32)).alloc (.cells #[.int .i64 0, .slice none 0 0, .int .i64 0] 32)).heap.size = w.heap.size + 2 := by simp
  have hnb : w.heap.size + 1 ≠ w.heap.size := by omega
  have y3 : n ≤ 1048576 := by have := l.out; omega
  go_enter Try.func77, Try.ntmps77
  go_wp2_with fail
  generalize (w.alloc (.cells #[.int .i64 p, .slice A n c, .int .i64 a] 32)).alloc (.cells #[.int .i64 0, .slice none 0 0, .int .i64 0] 32) = W at X Y R BB sz ⊢
  obtain ⟨x0, x1, x2, _⟩ := X.cells
  go_region_held3 (fun w' => w'.cell? ⟨w.heap.size, 0, none⟩ = some (.int .i64 p) ∧ w'.cell? ⟨w.heap.size, 1, none⟩ = some (.slice A n c) ∧ w'.cell? ⟨w.heap.size, 2, none⟩ = some (.int .i64 a))
    (((try dsimp only); (repeat' apply And.intro) <;> (with_reducible (first | exact cellF3g s0 hnb _ _ _ | exact cellF3g s1 hnb _ _ _ | exact cellF3g s2 hnb _ _ _ | exact s0 | exact s1 | exact s2 | exact cellD x0 | exact cellD x1 | exact cellD x2 | exact x0 | exact x1 | exact x2)) <;> done))
    (first | (go_at_call 110; (with_reducible refine (copyOfInts_any W.drew lo A n c cc R.drew l.out y3).mono ?_); rintro e w2 ⟨B3, e3, rfl, r3n, hb2⟩; (have X2 := (Blk3.drew X).below hb2); (obtain ⟨s0, s1, s2, _⟩ := X2.cells); (have Y2 := (Blk3.drew Y).below hb2); (obtain ⟨q0, q1, q2, k0, k1, k2⟩ := Y2.cells)))
  rename_i hHeld
  clear hHeld
  have r3m : Row w2 W.heap.size (.slice B3 cc.length e3) cc := r3n
  have hb3 : Below W.heap.size W w2 := (Below.refl W.heap.size W).drew.trans (hb2.mono (Nat.le_refl _))
  obtain ⟨hH, hB⟩ := g_done (w := w) (G := ⟨p, cc, a⟩) (b := w.heap.size + 1) r3m (by omega) (own_ne r3m (by omega)) (by omega) (BB.trans (hb3.mono (by omega))) (.int .i64 p) (.slice B3 cc.length e3) (.int .i64 a)
  clear s0 s1 s2 x0 x1 x2
  go_wp2_with fail
  refine bodyPost_ret (v := .agg #[.int .i64 p, .slice B3 cc.length e3, .int .i64 a]) ?_ rfl ⟨_, rfl, hH, hB⟩
  simp [results, Try.results77, go_sem, q0, q1, q2]

set_option maxRecDepth 100000 in
set_option maxHeartbeats 3200000 in
theorem l6Copy_any (w : World) (lo : Nat) (v : Value) (G : Gp) (hg : Gv w lo v G) (hp : 0 < G.c.length) (hb : G.c.length ≤ 1048576) : Calls Try.prog 119 #[v] w (NewGv w G) := by
  obtain ⟨p, cc, a⟩ := G
  obtain ⟨A, n, c, rfl, r, l, m, _⟩ := hg.open_
  dsimp only at r l hb hp ⊢
  obtain ⟨g3, rfl, _, _⟩ := r.at_ (k := 0) hp
  obtain ⟨i0, hi, hz0, hz1, hz2⟩ := info_parts Try.infoInt
  have y3 : n = cc.length := l.out.symm
  have E3 : (cc.map iv).length = n * 1 := by simp; omega
  have M3 : 0 + n ≤ maxLen := by unfold maxLen; omega
  have u3a : 0 < n := by omega
  have u3b : n ≤ 1048576 := by omega
  have L3 : Hid (0 + n = cc.length) := by unfold Hid; omega
  have X := (Blk3.new w (.int .i64 p) (.slice (some ⟨g3, 0, none⟩) n c) (.int .i64 a) 32).alloc (.cells #[.int .i64 0, .slice none 0 0, .int .i64 0] 32)
  have Y := Blk3.new_at (w := w.alloc (.cells #[.int .i64 p, .slice (some ⟨g3, 0, none⟩) n c, .int .i64 a] 32)) (b := w.heap.size + 1) (by simp) (.int .i64 0) (.slice none 0 0) (.int .i64 0) 32
  have R := (r.alloc (.cells #[.int .i64 p, .slice (some ⟨g3, 0, none⟩) n c, .int .i64 a] 32)).alloc (.cells #[.int .i64 0, .slice none 0 0, .int .i64 0] 32)
  have BB : Below w.heap.size w ((w.alloc (.cells #[.int .i64 p, .slice (some ⟨g3, 0, none⟩) n c, .int .i64 a] 32)).alloc (.cells #[.int .i64 0, .slice none 0 0, .int .i64 0] 32)) := ((Below.refl _ _).alloc (Nat.le_refl _) _).alloc (by simp) _
  have sz : ((w.alloc (.cells #[.int .i64 p, .slice (some ⟨g3, 0, none⟩) n c, .int .i64 a] 32)).alloc (.cells #[.int .i64 0, .slice none 0 0, .int .i64 0] 32)).heap.size = w.heap.size + 2 := by simp
  have hnb : w.heap.size + 1 ≠ w.heap.size := by omega
  clear hg r l hp hb y3
  go_enter Try.func119, Try.ntmps119
  go_wp2_with fail
  generalize (w.alloc (.cells #[.int .i64 p, .slice (some ⟨g3, 0, none⟩) n c, .int .i64 a] 32)).alloc (.cells #[.int .i64 0, .slice none 0 0, .int .i64 0] 32) = W at X Y R BB sz ⊢
  obtain ⟨x0, x1, x2, _⟩ := X.cells
  go_region_held3 (fun w' => w'.cell? ⟨w.heap.size, 0, none⟩ = some (.int .i64 p) ∧ w'.cell? ⟨w.heap.size, 1, none⟩ = some (.slice (some ⟨g3, 0, none⟩) n c) ∧ w'.cell? ⟨w.heap.size, 2, none⟩ = some (.int .i64 a))
    (((try dsimp only); (repeat' apply And.intro) <;> (with_reducible (first | exact cellF3g s0 hnb _ _ _ | exact cellF3g s1 hnb _ _ _ | exact cellF3g s2 hnb _ _ _ | exact s0 | exact s1 | exact s2 | exact x0 | exact x1 | exact x2 | exact cellD x0 | exact cellD x1 | exact cellD x2 | exact cellA x0 _ | exact cellA x1 _ | exact cellA x2 _ | exact cellD (cellA x0 _) | exact cellD (cellA x1 _) | exact cellD (cellA x2 _) | exact cellA (cellD x0) _ | exact cellA (cellD x1) _ | exact cellA (cellD x2) _)) <;> done))
    (first | (refine step_append_grows rfl (.tmp 5) (.tmp 7) 23 rfl 3 i0 (.int .i64 0) 1 8 Try.underlying23 hi hz0 hz1 hz2 rfl (by decide) _ 0 0 [] (by rfl) (fun _ => ⟨rfl, rfl⟩) rfl (fun _ _ j u hj => nil_get hj) ⟨g3, 0, none⟩ n c (cc.map iv) (by rfl) E3 ?_ (ints_oneCell _ _) (by omega) (by omega) (by omega) ?_; (exact Row.cellsV (lo := lo) (n := n) (c := c) (xs := cc) (by repeat (with_reducible (first | refine Row.drew ?_ | refine Row.alloc ?_ _ | exact R)))); intro vr w2 hown hgr; obtain ⟨A3', c3', rfl, hr, hb2⟩ := after_append (xs := cc) hown hgr L3.out; have X2 : Blk3 w2 w.heap.size (.int .i64 p) (.slice (some ⟨g3, 0, none⟩) n c) (.int .i64 a) 32 := (by repeat (with_reducible (first | exact X | refine Blk3.drew ?_ | refine Blk3.alloc ?_ _ | refine Blk3.below ?_ hb2))); obtain ⟨s0, s1, s2, _⟩ := X2.cells; have Y2 : Blk3 w2 (w.heap.size + 1) (.int .i64 0) (.slice none 0 0) (.int .i64 0) 32 := (by repeat (with_reducible (first | exact Y | refine Blk3.drew ?_ | refine Blk3.alloc ?_ _ | refine Blk3.below ?_ hb2))); obtain ⟨q0, q1, q2, k0, k1, k2⟩ := Y2.cells))
  all_goals
    rename_i hHeld
    clear hHeld
    have B2' : Below W.heap.size W w2 := Below.trans (by repeat (with_reducible (first | exact Below.refl _ _ | refine Below.drew ?_ | refine Below.alloc ?_ (by first | omega | (simp <;> omega)) _))) (hb2.mono (by first | omega | (simp <;> omega)))
    have hr' : Row w2 (w.heap.size + 2) (.slice A3' cc.length c3') cc := hr.mono (by first | omega | (simp <;> omega))
    obtain ⟨hH, hB⟩ := g_done (w := w) (G := ⟨p, cc, a⟩) (b := w.heap.size + 1) hr' (by omega) (own_ne hr' (by omega)) (by omega) (BB.trans (B2'.mono (by omega))) (.int .i64 p) (.slice A3' cc.length c3') (.int .i64 a)
    clear s0 s1 s2 x0 x1 x2
    go_wp2_with fail
    refine bodyPost_ret (v := .agg #[.int .i64 p, .slice A3' cc.length c3', .int .i64 a]) ?_ rfl ⟨_, rfl, hH, hB⟩
    simp [results, Try.results119, go_sem, q0, q1, q2]

set_option maxRecDepth 100000 in
set_option maxHeartbeats 2000000 in
theorem isMarking_any (w : World) (lo : Nat) (v : Value) (G : Gp) (hg : Gv w lo v G) : Calls Try.prog 97 #[v] w (RetB w (isMk G)) := by
  obtain ⟨p, cc, a⟩ := G
  obtain ⟨A, n, c, rfl, r, l, m, _⟩ := hg.open_
  dsimp only at r l ⊢
  have X := Blk3.new w (.int .i64 p) (.slice A n c) (.int .i64 a) 32
  have BB : Below w.heap.size w (w.alloc (.cells #[.int .i64 p, .slice A n c, .int .i64 a] 32)) := (Below.refl _ _).alloc (Nat.le_refl _) _
  obtain ⟨x0, x1, x2, _⟩ := X.cells
  by_cases p1 : p = 1
  · subst p1
    have hf : Hid (isMk ⟨1, cc, a⟩ = true) := by unfold Hid isMk; simp
    go_enter Try.func97, Try.ntmps97
    go_wp2_with fail
    go_ret
    exact ⟨ret_bool hf.out.symm, BB⟩
  · have q1 : (p == 1) = false := by rw [beq_eq_false_iff_ne]; exact p1
    have hf : Hid (isMk ⟨p, cc, a⟩ = (p == 2)) := by unfold Hid isMk; rw [Bool.eq_iff_iff]; simp [p1]
    go_enter Try.func97, Try.ntmps97
    go_wp2_with fail
    go_ret
    exact ⟨ret_bool hf.out.symm, BB⟩
end Go.Proofs.Ytdifplakkepnkaa

/- SweptCell of spec and of impl. -/
namespace Go.Proofs.Ytdifplakkepnkaa
open Go.RowKit

theorem sw_not3 {C : Cp} {p a : Int} {cc : List Int} (h : p ≠ 3) : swI C ⟨p, cc, a⟩ = -1 := by unfold swI; rw [if_neg]; rintro ⟨h9, _⟩; exact h h9
theorem sw_color {C : Cp} {p : Int} {k : Nat} {cc : List Int} {x : Int} (hx : cc[k]? = some x) (h : x ≠ 0) : swI C ⟨p, cc, (k : Int)⟩ = -1 := by
  unfold swI; rw [if_neg]; rintro ⟨_, h9, _⟩; simp at h9; rw [hx] at h9; exact h (Option.some.inj h9)
theorem sw_free {C : Cp} {p : Int} {k : Nat} {cc : List Int} (h : (k : Int) ∈ C.c) : swI C ⟨p, cc, (k : Int)⟩ = -1 := by
  unfold swI; rw [if_neg]; rintro ⟨_, _, h9⟩; exact h9 h
theorem sw_is {C : Cp} {k : Nat} {cc : List Int} (hx : cc[k]? = some 0) (h : (k : Int) ∉ C.c) : swI C ⟨3, cc, (k : Int)⟩ = (k : Int) := by
  unfold swI; rw [if_pos ⟨rfl, by simpa using hx, h⟩]

end Go.Proofs.Ytdifplakkepnkaa

/- l6Next, l6Root and l6Mark of spec. -/
namespace Go.Proofs.Ytdifplakkepnkaa
open Go.RowKit

theorem rootW_at' {xs ts : List Int} {k : Nat} {x : Int} (hx : ts[k]? = some x) (hw : wtB xs x = true) (hb : ∀ j y, j < k → ts[j]? = some y → wtB xs y = false) : rootW xs ts = some x := by
  unfold rootW
  obtain ⟨hk, e⟩ := List.getElem?_eq_some_iff.1 hx
  rw [List.find?_eq_some_iff_getElem]
  refine ⟨hw, k, hk, e, fun j hj => ?_⟩
  rw [hb j _ hj (List.getElem?_eq_getElem (by omega))]; rfl
theorem rootW_no' {xs ts : List Int} (hb : ∀ j y, j < ts.length → ts[j]? = some y → wtB xs y = false) : rootW xs ts = none := by
  unfold rootW
  rw [List.find?_eq_none]
  intro x hx hw
  obtain ⟨j, hj, e⟩ := List.getElem_of_mem hx
  rw [hb j x hj (by rw [List.getElem?_eq_getElem hj, e])] at hw
  cases hw

/-- The first root that points to a white cell, or none. -/
def RootPost (w : World) (cc ts : List Int) (e : Ending) (w' : World) : Prop := ((∃ (k : Nat) (x : Int), e = .returned (.int .i64 (k : Int)) ∧ ts[k]? = some x ∧ rootW cc ts = some x) ∨ (e = .returned (.int .i64 (-1)) ∧ rootW cc ts = none)) ∧ Below w.heap.size w w'

theorem field_color (v0 v1 v2 v3 : Value) (w : World) : (Instr.field 104 (.agg #[v0, v1, v2, v3]) 1).run Try.prog w = .ok v3 w := by kernel_rfl
/-- What marking leaves: the collector's variable, and the result. -/
theorem mark_done {w w3 : World} {lo g4 n4 c4 : Nat} {xs : List Int} (row : Row w3 lo (.slice (some ⟨g4, 0, none⟩) n4 c4) xs) (gr : w.grownBy w3 (some g4)) (h4 : g4 < w.heap.size) (o : Nat) (s x y z : Value) :
    Row ((((w3.setCell ⟨w.heap.size + 1, o, none⟩ s).setCell ⟨w.heap.size + 1 + 1, 0, none⟩ x).setCell ⟨w.heap.size + 1 + 1, 1, none⟩ y).setCell ⟨w.heap.size + 1 + 1, 2, none⟩ z) lo (.slice (some ⟨g4, 0, none⟩) n4 c4) xs ∧
    w.grownBy ((((w3.setCell ⟨w.heap.size + 1, o, none⟩ s).setCell ⟨w.heap.size + 1 + 1, 0, none⟩ x).setCell ⟨w.heap.size + 1 + 1, 1, none⟩ y).setCell ⟨w.heap.size + 1 + 1, 2, none⟩ z) (some g4) := by
  have own : ∀ b, w.heap.size ≤ b → (Value.slice (some ⟨g4, 0, none⟩) n4 c4).ownBlock ≠ some b := fun b hb e => by have := Option.some.inj e; simp only at this; omega
  exact ⟨(((row.other (a := ⟨w.heap.size + 1, o, none⟩) (own _ (by simp)) s).other (a := ⟨w.heap.size + 1 + 1, 0, none⟩) (own _ (by show _ ≤ w.heap.size + 1 + 1; omega)) x).other (a := ⟨w.heap.size + 1 + 1, 1, none⟩) (own _ (by show _ ≤ w.heap.size + 1 + 1; omega)) y).other (a := ⟨w.heap.size + 1 + 1, 2, none⟩) (own _ (by show _ ≤ w.heap.size + 1 + 1; omega)) z,
    grown_set (grown_set (grown_set (grown_set gr (p := ⟨w.heap.size + 1, o, none⟩) (.inr (by simp)) s) (p := ⟨w.heap.size + 1 + 1, 0, none⟩) (.inr (by show _ ≤ w.heap.size + 1 + 1; omega)) x) (p := ⟨w.heap.size + 1 + 1, 1, none⟩) (.inr (by show _ ≤ w.heap.size + 1 + 1; omega)) y) (p := ⟨w.heap.size + 1 + 1, 2, none⟩) (.inr (by show _ ≤ w.heap.size + 1 + 1; omega)) z⟩
theorem cell_keptS {w w' : World} {g : Nat} {a : Addr} {u : Value} (h : w.cell? a = some u) (hg : w.grownBy w' (some g)) (hl : a.block < w.heap.size) (hne : a.block ≠ g) : w'.cell? a = some u := by
  unfold World.cell? at h ⊢
  rw [hg.block a.block hl (fun e => hne (Option.some.inj e))]; exact h
theorem cell_other {w : World} {a p : Addr} {u : Value} (h : w.cell? a = some u) (hne : p.block ≠ a.block) (v : Value) : (w.setCell p v).cell? a = some u := by
  rw [World.cell?_setCell_far _ _ _ _ hne]; exact h
theorem Cv.lastS {w : World} {lo : Nat} {v0 v1 v2 v3 : Value} {C : Cp} (h : Cv w lo (.agg #[v0, v1, v2, v3]) C) : Row w lo v3 C.c := by
  obtain ⟨_, _, _, _, e, _, h, _⟩ := h
  cases e
  exact h

end Go.Proofs.Ytdifplakkepnkaa

