import Derived.Test.YtfoimicbmkiigaaGreatGcs
import Derived.Test.YtfoimicbmkiigaaGreatStos
import Derived.Test.YtfoimicbmkiigaaGreatIStos
import Derived.Test.YtfoimicbmkiigaaGreatSCols
import Derived.Test.YtfoimicbmkiigaaGreatICols
import Derived.Test.YtfoimicbmkiigaaGreatHpA
import Derived.Test.YtfoimicbmkiigaaGreatSp3
import Derived.Test.YtfoimicbmkiigaaGreatCopys
import Derived.OrdersHeld
import Derived.Deep.RegionHeld3
import Derived.Test.YtfoimicbmkiigaaGreatShades
/- GcValid of spec and of impl. -/
namespace Go.Proofs.YtfoimicbmkiigaaGreat
open Go.RowKit

theorem gcB_store {C : Cp} (G : Gp) (h : stoB C = false) : gcB C G = false := by unfold gcB; rw [h]; rfl
theorem gcB_color {C : Cp} {p a : Int} {cc : List Int} (h : cvB ⟨C.h, cc⟩ = false) : gcB C ⟨p, cc, a⟩ = false := by unfold gcB; rw [h]; simp
theorem gcB_phase {C : Cp} {p a : Int} {cc : List Int} (h1 : stoB C = true) (h2 : cvB ⟨C.h, cc⟩ = true) : gcB C ⟨p, cc, a⟩ = phB p a C.h.t.length C.h.l.length := by unfold gcB; rw [h1, h2]; rfl
theorem ph0 (a : Int) (nr nc : Nat) : phB 0 a nr nc = (a == 0) := by
  rw [Bool.eq_iff_iff, phB_iff, beq_iff_eq]; omega
theorem ph2 (a : Int) (nr nc : Nat) : phB 2 a nr nc = (a == 0) := by
  rw [Bool.eq_iff_iff, phB_iff, beq_iff_eq]; omega
theorem ph1 (a : Int) (nr nc : Nat) : phB 1 a nr nc = plB a nr := by
  rw [Bool.eq_iff_iff, phB_iff]; unfold plB; simp
theorem ph3 (a : Int) (nr nc : Nat) : phB 3 a nr nc = plB a nc := by
  rw [Bool.eq_iff_iff, phB_iff]; unfold plB; simp
theorem ph_neg {p a : Int} {nr nc : Nat} (h : a < 0) : phB p a nr nc = false := by
  rw [Bool.eq_false_iff]; intro h9; rw [phB_iff] at h9; omega
theorem ph_else {p a : Int} {nr nc : Nat} (h0 : p ≠ 0) (h1 : p ≠ 1) (h2 : p ≠ 2) (h3 : p ≠ 3) : phB p a nr nc = false := by
  rw [Bool.eq_false_iff]; intro h9; rw [phB_iff] at h9; omega
theorem pl_lt {a : Int} {n : Nat} (h : 0 ≤ a) : plB a n = decide (a < n) := by
  rw [Bool.eq_iff_iff, decide_eq_true_iff]; unfold plB; simp [h]
theorem colB_store {C : Cp} {cc : List Int} {n : Nat} (h1 : stoB C = true) (hn : C.h.l.length = n) {m : Nat} (hm : cc.length = m) : (cc.all colB && decide (m = n)) = cvB ⟨C.h, cc⟩ := by
  unfold cvB; simp only [(stoB_parts h1).1, hn, hm, Bool.true_and, Bool.and_comm]

set_option maxRecDepth 100000 in
set_option maxHeartbeats 2000000 in
theorem specGcValid_any (w : World) (lo : Nat) (vs vg : Value) (C : Cp) (G : Gp) (h : CGv w lo vs vg C G) : Calls Tryz.prog 79 #[vs, vg] w (RetB w (gcB C G)) := by
  obtain ⟨A0, n0, c0, A1, n1, c1, A2, n2, c2, A3, n3, c3, A4, n4, c4, p, cc, a, rfl, rfl, rfl, hv, hk, ⟨r0, r1, r2, r3, r4⟩, ⟨l0, l1, l2, l3, l4⟩, ⟨m0, m1, m2, m3, m4⟩⟩ := h.open_
  have X := (Blk4.new w (.slice A0 n0 c0) (.slice A1 n1 c1) (.slice A2 n2 c2) (.slice A3 n3 c3) 27).alloc (.cells #[.int .i64 p, .slice A4 n4 c4, .int .i64 a] 29)
  have Y := Blk3.new_at (w := w.alloc (.cells #[.slice A0 n0 c0, .slice A1 n1 c1, .slice A2 n2 c2, .slice A3 n3 c3] 27)) (b := w.heap.size + 1) (by simp) (.int .i64 p) (.slice A4 n4 c4) (.int .i64 a) 29
  have VV := (hv.alloc (.cells #[.slice A0 n0 c0, .slice A1 n1 c1, .slice A2 n2 c2, .slice A3 n3 c3] 27)).alloc (.cells #[.int .i64 p, .slice A4 n4 c4, .int .i64 a] 29)
  have KK := (hk.alloc (.cells #[.slice A0 n0 c0, .slice A1 n1 c1, .slice A2 n2 c2, .slice A3 n3 c3] 27)).alloc (.cells #[.int .i64 p, .slice A4 n4 c4, .int .i64 a] 29)
  have R4 := (r4.alloc (.cells #[.slice A0 n0 c0, .slice A1 n1 c1, .slice A2 n2 c2, .slice A3 n3 c3] 27)).alloc (.cells #[.int .i64 p, .slice A4 n4 c4, .int .i64 a] 29)
  have BB : Below w.heap.size w ((w.alloc (.cells #[.slice A0 n0 c0, .slice A1 n1 c1, .slice A2 n2 c2, .slice A3 n3 c3] 27)).alloc (.cells #[.int .i64 p, .slice A4 n4 c4, .int .i64 a] 29)) := ((Below.refl _ _).alloc (Nat.le_refl _) _).alloc (by simp) _
  clear hv hk r0 r1 r2 r3 r4 h
  generalize hW : (w.alloc (.cells #[.slice A0 n0 c0, .slice A1 n1 c1, .slice A2 n2 c2, .slice A3 n3 c3] 27)).alloc (.cells #[.int .i64 p, .slice A4 n4 c4, .int .i64 a] 29) = W at X Y VV KK R4 BB
  obtain ⟨i0, i1, i2, i3, _⟩ := X.cells
  obtain ⟨j0, j1, j2, _⟩ := Y.cells
  have V := specStoreValid_any _ _ _ _ VV
  have V2 := fun w1 h9 => specColoredValid_any w1 lo (.agg #[.slice A0 n0 c0, .slice A1 n1 c1, .slice A2 n2 c2, .slice A4 n4 c4]) ⟨C.h, cc⟩ h9
  rcases ev : stoB C
  · rw [ev] at V
    have hf : Hid (gcB C ⟨p, cc, a⟩ = false) := gcB_store _ ev
    clear ev V2 KK R4 Y
    go_enter Tryz.func79, Tryz.ntmps79
    go_wp2_with fail
    try rw [hW]
    refine V.mono ?_; rintro e w1 ⟨rfl, hb1⟩
    go_wp2_with fail
    go_ret
    exact ⟨ret_bool hf.out.symm, BB.trans (hb1.mono BB.size)⟩
  rw [ev] at V
  rcases e2 : cvB ⟨C.h, cc⟩
  · simp only [e2] at V2
    have hf : Hid (gcB C ⟨p, cc, a⟩ = false) := gcB_color e2
    clear ev e2 R4
    go_enter Tryz.func79, Tryz.ntmps79
    go_wp2_with fail
    try rw [hW]
    refine V.mono ?_; rintro e w1 ⟨rfl, hb1⟩
    obtain ⟨x0, x1, x2, x3, _⟩ := (X.below hb1).cells
    obtain ⟨y0, y1, y2, _⟩ := (Y.below hb1).cells
    have B1 := BB.trans (hb1.mono BB.size)
    go_wp2_with fail
    refine (V2 _ (KK.below hb1)).mono ?_; rintro e w2 ⟨rfl, hb2⟩
    go_wp2_with fail
    go_ret
    exact ⟨ret_bool hf.out.symm, B1.trans (hb2.mono B1.size)⟩
  simp only [e2] at V2
  have hf : Hid (gcB C ⟨p, cc, a⟩ = phB p a n2 n0) := by unfold Hid; rw [gcB_phase ev e2, l2.out, l0.out]
  clear ev e2 R4
  rcases Int.lt_or_le a 0 with ha | ha
  · have hg : Hid (phB p a n2 n0 = false) := ph_neg ha
    go_enter Tryz.func79, Tryz.ntmps79
    go_wp2_with fail
    try rw [hW]
    refine V.mono ?_; rintro e w1 ⟨rfl, hb1⟩
    obtain ⟨x0, x1, x2, x3, _⟩ := (X.below hb1).cells
    obtain ⟨y0, y1, y2, _⟩ := (Y.below hb1).cells
    have B1 := BB.trans (hb1.mono BB.size)
    go_wp2_with fail
    refine (V2 _ (KK.below hb1)).mono ?_; rintro e w2 ⟨rfl, hb2⟩
    obtain ⟨z0, z1, z2, z3, _⟩ := ((X.below hb1).below hb2).cells
    obtain ⟨u0, u1, u2, _⟩ := ((Y.below hb1).below hb2).cells
    have B2 := B1.trans (hb2.mono B1.size)
    go_wp2_with fail
    go_ret
    exact ⟨ret_bool (hf.out.trans hg.out).symm, B2⟩
  have ha9 : ¬ (a < 0) := by omega
  by_cases p0 : p = 0
  · subst p0
    have hg : Hid (phB 0 a n2 n0 = (a == 0)) := ph0 _ _ _
    go_enter Tryz.func79, Tryz.ntmps79
    go_wp2_with fail
    try rw [hW]
    refine V.mono ?_; rintro e w1 ⟨rfl, hb1⟩
    obtain ⟨x0, x1, x2, x3, _⟩ := (X.below hb1).cells
    obtain ⟨y0, y1, y2, _⟩ := (Y.below hb1).cells
    have B1 := BB.trans (hb1.mono BB.size)
    go_wp2_with fail
    refine (V2 _ (KK.below hb1)).mono ?_; rintro e w2 ⟨rfl, hb2⟩
    obtain ⟨z0, z1, z2, z3, _⟩ := ((X.below hb1).below hb2).cells
    obtain ⟨u0, u1, u2, _⟩ := ((Y.below hb1).below hb2).cells
    have B2 := B1.trans (hb2.mono B1.size)
    go_wp2_with fail
    go_ret
    exact ⟨ret_bool (hf.out.trans hg.out).symm, B2⟩
  by_cases p2 : p = 2
  · subst p2
    have hg : Hid (phB 2 a n2 n0 = (a == 0)) := ph2 _ _ _
    go_enter Tryz.func79, Tryz.ntmps79
    go_wp2_with fail
    try rw [hW]
    refine V.mono ?_; rintro e w1 ⟨rfl, hb1⟩
    obtain ⟨x0, x1, x2, x3, _⟩ := (X.below hb1).cells
    obtain ⟨y0, y1, y2, _⟩ := (Y.below hb1).cells
    have B1 := BB.trans (hb1.mono BB.size)
    go_wp2_with fail
    refine (V2 _ (KK.below hb1)).mono ?_; rintro e w2 ⟨rfl, hb2⟩
    obtain ⟨z0, z1, z2, z3, _⟩ := ((X.below hb1).below hb2).cells
    obtain ⟨u0, u1, u2, _⟩ := ((Y.below hb1).below hb2).cells
    have B2 := B1.trans (hb2.mono B1.size)
    go_wp2_with fail
    go_ret
    exact ⟨ret_bool (hf.out.trans hg.out).symm, B2⟩
  by_cases p1 : p = 1
  · subst p1
    have hg : Hid (phB 1 a n2 n0 = decide (a < n2)) := (ph1 _ _ _).trans (pl_lt ha)
    go_enter Tryz.func79, Tryz.ntmps79
    go_wp2_with fail
    try rw [hW]
    refine V.mono ?_; rintro e w1 ⟨rfl, hb1⟩
    obtain ⟨x0, x1, x2, x3, _⟩ := (X.below hb1).cells
    obtain ⟨y0, y1, y2, _⟩ := (Y.below hb1).cells
    have B1 := BB.trans (hb1.mono BB.size)
    go_wp2_with fail
    refine (V2 _ (KK.below hb1)).mono ?_; rintro e w2 ⟨rfl, hb2⟩
    obtain ⟨z0, z1, z2, z3, _⟩ := ((X.below hb1).below hb2).cells
    obtain ⟨u0, u1, u2, _⟩ := ((Y.below hb1).below hb2).cells
    have B2 := B1.trans (hb2.mono B1.size)
    go_wp2_with fail
    go_ret
    exact ⟨ret_bool (hf.out.trans hg.out).symm, B2⟩
  by_cases p3 : p = 3
  · subst p3
    have hg : Hid (phB 3 a n2 n0 = decide (a < n0)) := (ph3 _ _ _).trans (pl_lt ha)
    go_enter Tryz.func79, Tryz.ntmps79
    go_wp2_with fail
    try rw [hW]
    refine V.mono ?_; rintro e w1 ⟨rfl, hb1⟩
    obtain ⟨x0, x1, x2, x3, _⟩ := (X.below hb1).cells
    obtain ⟨y0, y1, y2, _⟩ := (Y.below hb1).cells
    have B1 := BB.trans (hb1.mono BB.size)
    go_wp2_with fail
    refine (V2 _ (KK.below hb1)).mono ?_; rintro e w2 ⟨rfl, hb2⟩
    obtain ⟨z0, z1, z2, z3, _⟩ := ((X.below hb1).below hb2).cells
    obtain ⟨u0, u1, u2, _⟩ := ((Y.below hb1).below hb2).cells
    have B2 := B1.trans (hb2.mono B1.size)
    go_wp2_with fail
    go_ret
    exact ⟨ret_bool (hf.out.trans hg.out).symm, B2⟩
  · have hg : Hid (phB p a n2 n0 = false) := ph_else p0 p1 p2 p3
    have q0 : (p == 0) = false := by rw [beq_eq_false_iff_ne]; exact p0
    have q1 : (p == 1) = false := by rw [beq_eq_false_iff_ne]; exact p1
    have q2 : (p == 2) = false := by rw [beq_eq_false_iff_ne]; exact p2
    have q3 : (p == 3) = false := by rw [beq_eq_false_iff_ne]; exact p3
    go_enter Tryz.func79, Tryz.ntmps79
    go_wp2_with fail
    try rw [hW]
    refine V.mono ?_; rintro e w1 ⟨rfl, hb1⟩
    obtain ⟨x0, x1, x2, x3, _⟩ := (X.below hb1).cells
    obtain ⟨y0, y1, y2, _⟩ := (Y.below hb1).cells
    have B1 := BB.trans (hb1.mono BB.size)
    go_wp2_with fail
    refine (V2 _ (KK.below hb1)).mono ?_; rintro e w2 ⟨rfl, hb2⟩
    obtain ⟨z0, z1, z2, z3, _⟩ := ((X.below hb1).below hb2).cells
    obtain ⟨u0, u1, u2, _⟩ := ((Y.below hb1).below hb2).cells
    have B2 := B1.trans (hb2.mono B1.size)
    go_wp2_with fail
    go_ret
    exact ⟨ret_bool (hf.out.trans hg.out).symm, B2⟩

set_option maxRecDepth 100000 in
set_option maxHeartbeats 2000000 in
theorem implGcValid_any (w : World) (lo : Nat) (vs vg : Value) (C : Cp) (G : Gp) (h : CGv w lo vs vg C G) : Calls Tryz.prog 43 #[vs, vg] w (RetB w (gcB C G)) := by
  obtain ⟨A0, n0, c0, A1, n1, c1, A2, n2, c2, A3, n3, c3, A4, n4, c4, p, cc, a, rfl, rfl, rfl, hv, hk, ⟨r0, r1, r2, r3, r4⟩, ⟨l0, l1, l2, l3, l4⟩, ⟨m0, m1, m2, m3, m4⟩⟩ := h.open_
  have X := (Blk4.new w (.slice A0 n0 c0) (.slice A1 n1 c1) (.slice A2 n2 c2) (.slice A3 n3 c3) 27).alloc (.cells #[.int .i64 p, .slice A4 n4 c4, .int .i64 a] 29)
  have Y := Blk3.new_at (w := w.alloc (.cells #[.slice A0 n0 c0, .slice A1 n1 c1, .slice A2 n2 c2, .slice A3 n3 c3] 27)) (b := w.heap.size + 1) (by simp) (.int .i64 p) (.slice A4 n4 c4) (.int .i64 a) 29
  have VV := (hv.alloc (.cells #[.slice A0 n0 c0, .slice A1 n1 c1, .slice A2 n2 c2, .slice A3 n3 c3] 27)).alloc (.cells #[.int .i64 p, .slice A4 n4 c4, .int .i64 a] 29)
  have KK := (hk.alloc (.cells #[.slice A0 n0 c0, .slice A1 n1 c1, .slice A2 n2 c2, .slice A3 n3 c3] 27)).alloc (.cells #[.int .i64 p, .slice A4 n4 c4, .int .i64 a] 29)
  have R4 := (r4.alloc (.cells #[.slice A0 n0 c0, .slice A1 n1 c1, .slice A2 n2 c2, .slice A3 n3 c3] 27)).alloc (.cells #[.int .i64 p, .slice A4 n4 c4, .int .i64 a] 29)
  have BB : Below w.heap.size w ((w.alloc (.cells #[.slice A0 n0 c0, .slice A1 n1 c1, .slice A2 n2 c2, .slice A3 n3 c3] 27)).alloc (.cells #[.int .i64 p, .slice A4 n4 c4, .int .i64 a] 29)) := ((Below.refl _ _).alloc (Nat.le_refl _) _).alloc (by simp) _
  clear hv hk r0 r1 r2 r3 r4 h
  generalize hW : (w.alloc (.cells #[.slice A0 n0 c0, .slice A1 n1 c1, .slice A2 n2 c2, .slice A3 n3 c3] 27)).alloc (.cells #[.int .i64 p, .slice A4 n4 c4, .int .i64 a] 29) = W at X Y VV KK R4 BB
  obtain ⟨i0, i1, i2, i3, _⟩ := X.cells
  obtain ⟨j0, j1, j2, _⟩ := Y.cells
  have V := implStoreValid_any _ _ _ _ VV
  have V2 := fun w1 h9 => colorsValid_any w1 lo A4 n4 c4 cc h9 l4.out m4 n0
  rcases ev : stoB C
  · rw [ev] at V
    have hf : Hid (gcB C ⟨p, cc, a⟩ = false) := gcB_store _ ev
    clear ev V2 KK R4 Y
    go_enter Tryz.func43, Tryz.ntmps43
    go_wp2_with fail
    try rw [hW]
    refine V.mono ?_; rintro e w1 ⟨rfl, hb1⟩
    go_wp2_with fail
    go_ret
    exact ⟨ret_bool hf.out.symm, BB.trans (hb1.mono BB.size)⟩
  rw [ev] at V
  simp only [colB_store ev l0.out l4.out] at V2
  rcases e2 : cvB ⟨C.h, cc⟩
  · simp only [e2] at V2
    have hf : Hid (gcB C ⟨p, cc, a⟩ = false) := gcB_color e2
    clear ev e2 KK
    go_enter Tryz.func43, Tryz.ntmps43
    go_wp2_with fail
    try rw [hW]
    refine V.mono ?_; rintro e w1 ⟨rfl, hb1⟩
    obtain ⟨x0, x1, x2, x3, _⟩ := (X.below hb1).cells
    obtain ⟨y0, y1, y2, _⟩ := (Y.below hb1).cells
    have B1 := BB.trans (hb1.mono BB.size)
    go_wp2_with fail
    refine (V2 _ (R4.below hb1)).mono ?_; rintro e w' ⟨rfl, rfl⟩
    go_wp2_with fail
    go_ret
    exact ⟨ret_bool hf.out.symm, B1⟩
  simp only [e2] at V2
  have h40 : n4 = n0 := by have h9 := (cvB_parts e2).2.1; simp only at h9; have := l4.out; have := l0.out; omega
  have hf : Hid (gcB C ⟨p, cc, a⟩ = phB p a n2 n4) := by unfold Hid; rw [gcB_phase ev e2, l2.out, l0.out, h40]
  have h40' := Lib.hid h40
  clear ev e2 KK h40
  by_cases p0 : p = 0
  · subst p0
    have hg : Hid (phB 0 a n2 n4 = (a == 0)) := ph0 _ _ _
    go_enter Tryz.func43, Tryz.ntmps43
    go_wp2_with fail
    try rw [hW]
    refine V.mono ?_; rintro e w1 ⟨rfl, hb1⟩
    obtain ⟨x0, x1, x2, x3, _⟩ := (X.below hb1).cells
    obtain ⟨y0, y1, y2, _⟩ := (Y.below hb1).cells
    have B1 := BB.trans (hb1.mono BB.size)
    go_wp2_with fail
    refine (V2 _ (R4.below hb1)).mono ?_; rintro e w' ⟨rfl, rfl⟩
    go_wp2_with fail
    go_ret
    exact ⟨ret_bool (hf.out.trans hg.out).symm, B1⟩
  by_cases p2 : p = 2
  · subst p2
    have hg : Hid (phB 2 a n2 n4 = (a == 0)) := ph2 _ _ _
    go_enter Tryz.func43, Tryz.ntmps43
    go_wp2_with fail
    try rw [hW]
    refine V.mono ?_; rintro e w1 ⟨rfl, hb1⟩
    obtain ⟨x0, x1, x2, x3, _⟩ := (X.below hb1).cells
    obtain ⟨y0, y1, y2, _⟩ := (Y.below hb1).cells
    have B1 := BB.trans (hb1.mono BB.size)
    go_wp2_with fail
    refine (V2 _ (R4.below hb1)).mono ?_; rintro e w' ⟨rfl, rfl⟩
    go_wp2_with fail
    go_ret
    exact ⟨ret_bool (hf.out.trans hg.out).symm, B1⟩
  by_cases p1 : p = 1
  · subst p1
    have hg : Hid (phB 1 a n2 n4 = plB a n2) := ph1 _ _ _
    go_enter Tryz.func43, Tryz.ntmps43
    go_wp2_with fail
    try rw [hW]
    refine V.mono ?_; rintro e w1 ⟨rfl, hb1⟩
    obtain ⟨x0, x1, x2, x3, _⟩ := (X.below hb1).cells
    obtain ⟨y0, y1, y2, _⟩ := (Y.below hb1).cells
    have B1 := BB.trans (hb1.mono BB.size)
    go_wp2_with fail
    refine (V2 _ (R4.below hb1)).mono ?_; rintro e w' ⟨rfl, rfl⟩
    go_wp2_with fail
    refine (hasPlace_any _ _ _ _ _).mono ?_; rintro e w' ⟨rfl, rfl⟩
    go_wp2_with fail
    go_ret
    exact ⟨ret_bool (hf.out.trans hg.out).symm, B1⟩
  by_cases p3 : p = 3
  · subst p3
    have hg : Hid (phB 3 a n2 n4 = plB a n4) := ph3 _ _ _
    go_enter Tryz.func43, Tryz.ntmps43
    go_wp2_with fail
    try rw [hW]
    refine V.mono ?_; rintro e w1 ⟨rfl, hb1⟩
    obtain ⟨x0, x1, x2, x3, _⟩ := (X.below hb1).cells
    obtain ⟨y0, y1, y2, _⟩ := (Y.below hb1).cells
    have B1 := BB.trans (hb1.mono BB.size)
    go_wp2_with fail
    refine (V2 _ (R4.below hb1)).mono ?_; rintro e w' ⟨rfl, rfl⟩
    go_wp2_with fail
    refine (hasPlace_any _ _ _ _ _).mono ?_; rintro e w' ⟨rfl, rfl⟩
    go_wp2_with fail
    go_ret
    exact ⟨ret_bool (hf.out.trans hg.out).symm, B1⟩
  · have hg : Hid (phB p a n2 n4 = false) := ph_else p0 p1 p2 p3
    have q0 : (p == 0) = false := by rw [beq_eq_false_iff_ne]; exact p0
    have q1 : (p == 1) = false := by rw [beq_eq_false_iff_ne]; exact p1
    have q2 : (p == 2) = false := by rw [beq_eq_false_iff_ne]; exact p2
    have q3 : (p == 3) = false := by rw [beq_eq_false_iff_ne]; exact p3
    go_enter Tryz.func43, Tryz.ntmps43
    go_wp2_with fail
    try rw [hW]
    refine V.mono ?_; rintro e w1 ⟨rfl, hb1⟩
    obtain ⟨x0, x1, x2, x3, _⟩ := (X.below hb1).cells
    obtain ⟨y0, y1, y2, _⟩ := (Y.below hb1).cells
    have B1 := BB.trans (hb1.mono BB.size)
    go_wp2_with fail
    refine (V2 _ (R4.below hb1)).mono ?_; rintro e w' ⟨rfl, rfl⟩
    go_wp2_with fail
    go_ret
    exact ⟨ret_bool (hf.out.trans hg.out).symm, B1⟩
end Go.Proofs.YtfoimicbmkiigaaGreat

/- Collectors of spec and of impl: equality, copies, new ones. -/
namespace Go.Proofs.YtfoimicbmkiigaaGreat
open Go.RowKit

/-- A collector that was stored into a result. -/
theorem g_done {w w3 : World} {lo b : Nat} {r : Value} {G : Gp} (hr : Row w3 lo r G.c) (hlo : w.heap.size ≤ lo) (hne : r.ownBlock ≠ some b) (hb : w.heap.size ≤ b) (hB : Below w.heap.size w w3) (x y z : Value) :
    Gv (((w3.setCell ⟨b, 0, none⟩ x).setCell ⟨b, 1, none⟩ y).setCell ⟨b, 2, none⟩ z) w.heap.size (.agg #[.int .i64 G.p, r, .int .i64 G.a]) G ∧ Below w.heap.size w (((w3.setCell ⟨b, 0, none⟩ x).setCell ⟨b, 1, none⟩ y).setCell ⟨b, 2, none⟩ z) :=
  ⟨⟨_, rfl, (((hr.other (a := ⟨b, 0, none⟩) hne x).other (a := ⟨b, 1, none⟩) hne y).other (a := ⟨b, 2, none⟩) hne z).mono hlo⟩, ((hB.setCell (p := ⟨b, 0, none⟩) hb x).setCell (p := ⟨b, 1, none⟩) hb y).setCell (p := ⟨b, 2, none⟩) hb z⟩
theorem own_ne {w : World} {lo b : Nat} {v : Value} {xs : List Int} (h : Row w lo v xs) (hb : b < lo) : v.ownBlock ≠ some b := fun e => by have := (h.lt _ e).1; omega
theorem own_new {w : World} {lo b : Nat} {v : Value} {xs : List Int} (h : Row w lo v xs) (hb : w.heap.size ≤ b) : v.ownBlock ≠ some b := fun e => by have := (h.lt _ e).2; omega
theorem sameG_eq {p a p' a' : Int} {cc cc' : List Int} : sameG ⟨p, cc, a⟩ ⟨p', cc', a'⟩ = (decide (p = p') && decide (cc = cc') && decide (a = a')) := by
  unfold sameG; simp [Bool.decide_and, Bool.and_assoc]

set_option maxRecDepth 100000 in
set_option maxHeartbeats 2000000 in
theorem implGcSame_any (w : World) (lo lo' : Nat) (v v' : Value) (G G' : Gp) (hg : Gv w lo v G) (hg' : Gv w lo' v' G') : Calls Tryz.prog 21 #[v, v'] w (RetB w (sameG G G')) := by
  obtain ⟨p, cc, a⟩ := G
  obtain ⟨p', cc', a'⟩ := G'
  obtain ⟨A, n, c, rfl, r, l, m, _⟩ := hg.open_
  obtain ⟨A', n', c', rfl, r', l', m', _⟩ := hg'.open_
  dsimp only at r l r' l' ⊢
  have X := (Blk3.new w (.int .i64 p) (.slice A n c) (.int .i64 a) 29).alloc (.cells #[.int .i64 p', .slice A' n' c', .int .i64 a'] 29)
  have Y := Blk3.new_at (w := w.alloc (.cells #[.int .i64 p, .slice A n c, .int .i64 a] 29)) (b := w.heap.size + 1) (by simp) (.int .i64 p') (.slice A' n' c') (.int .i64 a') 29
  have R := (r.alloc (.cells #[.int .i64 p, .slice A n c, .int .i64 a] 29)).alloc (.cells #[.int .i64 p', .slice A' n' c', .int .i64 a'] 29)
  have R' := (r'.alloc (.cells #[.int .i64 p, .slice A n c, .int .i64 a] 29)).alloc (.cells #[.int .i64 p', .slice A' n' c', .int .i64 a'] 29)
  have BB : Below w.heap.size w ((w.alloc (.cells #[.int .i64 p, .slice A n c, .int .i64 a] 29)).alloc (.cells #[.int .i64 p', .slice A' n' c', .int .i64 a'] 29)) := ((Below.refl _ _).alloc (Nat.le_refl _) _).alloc (by simp) _
  clear hg hg' r r'
  generalize hW : (w.alloc (.cells #[.int .i64 p, .slice A n c, .int .i64 a] 29)).alloc (.cells #[.int .i64 p', .slice A' n' c', .int .i64 a'] 29) = W at X Y R R' BB
  obtain ⟨x0, x1, x2, _⟩ := X.cells
  obtain ⟨y0, y1, y2, _⟩ := Y.cells
  have E := slicesEqual_any W lo lo' A A' n c n' c' cc cc' R l.out m R' l'.out m'
  clear R R' X Y l l'
  by_cases hp : p = p'
  · subst hp
    rcases ec : decide (cc = cc')
    · simp only [ec] at E
      have hf : Hid (sameG ⟨p, cc, a⟩ ⟨p, cc', a'⟩ = false) := by unfold Hid; rw [sameG_eq, ec]; simp
      clear ec
      go_enter Tryz.func21, Tryz.ntmps21
      go_wp2_with fail
      try rw [hW]
      refine E.mono ?_; rintro e w1 ⟨rfl, nq, rfl⟩
      have c0 := cellDN x0 nq
      have c1 := cellDN x1 nq
      have c2 := cellDN x2 nq
      have d0 := cellDN y0 nq
      have d1 := cellDN y1 nq
      have d2 := cellDN y2 nq
      have B1 := below_drewN BB nq
      go_wp2_with fail
      go_ret
      exact ⟨ret_bool hf.out.symm, B1⟩
    · simp only [ec] at E
      have hf : Hid (sameG ⟨p, cc, a⟩ ⟨p, cc', a'⟩ = (a == a')) := by unfold Hid; rw [sameG_eq, ec]; rw [Bool.eq_iff_iff]; simp
      clear ec
      go_enter Tryz.func21, Tryz.ntmps21
      go_wp2_with fail
      try rw [hW]
      refine E.mono ?_; rintro e w1 ⟨rfl, nq, rfl⟩
      have c0 := cellDN x0 nq
      have c1 := cellDN x1 nq
      have c2 := cellDN x2 nq
      have d0 := cellDN y0 nq
      have d1 := cellDN y1 nq
      have d2 := cellDN y2 nq
      have B1 := below_drewN BB nq
      go_wp2_with fail
      go_ret
      exact ⟨ret_bool hf.out.symm, B1⟩
  · have hf : Hid (sameG ⟨p, cc, a⟩ ⟨p', cc', a'⟩ = false) := by unfold Hid; rw [sameG_eq, decide_eq_false hp]; simp
    have qp : (p == p') = false := by rw [beq_eq_false_iff_ne]; exact hp
    go_enter Tryz.func21, Tryz.ntmps21
    go_wp2_with fail
    try rw [hW]
    go_ret
    exact ⟨ret_bool hf.out.symm, BB⟩

set_option maxRecDepth 100000 in
set_option maxHeartbeats 2000000 in
theorem specNewGc_any (w : World) (lo : Nat) (v : Value) (C : Cp) (hv : Cv w lo v C) : Calls Tryz.prog 147 #[v] w (OptGv w (newG C)) := by
  have hvo := hv
  obtain ⟨A0, n0, c0, A1, n1, c1, A2, n2, c2, A3, n3, c3, rfl, _, _, ⟨l0, l1, l2, l3⟩, _⟩ := hvo.open_
  have X := (Blk4.new w (.slice A0 n0 c0) (.slice A1 n1 c1) (.slice A2 n2 c2) (.slice A3 n3 c3) 27).alloc (.cells #[.int .i64 0, .slice none 0 0, .int .i64 0] 29)
  have Y := Blk3.new_at (w := w.alloc (.cells #[.slice A0 n0 c0, .slice A1 n1 c1, .slice A2 n2 c2, .slice A3 n3 c3] 27)) (b := w.heap.size + 1) (by simp) (.int .i64 0) (.slice none 0 0) (.int .i64 0) 29
  have VV := (hv.alloc (.cells #[.slice A0 n0 c0, .slice A1 n1 c1, .slice A2 n2 c2, .slice A3 n3 c3] 27)).alloc (.cells #[.int .i64 0, .slice none 0 0, .int .i64 0] 29)
  have BB : Below w.heap.size w ((w.alloc (.cells #[.slice A0 n0 c0, .slice A1 n1 c1, .slice A2 n2 c2, .slice A3 n3 c3] 27)).alloc (.cells #[.int .i64 0, .slice none 0 0, .int .i64 0] 29)) := ((Below.refl _ _).alloc (Nat.le_refl _) _).alloc (by simp) _
  have sz : ((w.alloc (.cells #[.slice A0 n0 c0, .slice A1 n1 c1, .slice A2 n2 c2, .slice A3 n3 c3] 27)).alloc (.cells #[.int .i64 0, .slice none 0 0, .int .i64 0] 29)).heap.size = w.heap.size + 2 := by simp
  go_enter Tryz.func147, Tryz.ntmps147
  go_wp2_with fail
  generalize (w.alloc (.cells #[.slice A0 n0 c0, .slice A1 n1 c1, .slice A2 n2 c2, .slice A3 n3 c3] 27)).alloc (.cells #[.int .i64 0, .slice none 0 0, .int .i64 0] 29) = W at X Y VV BB sz ⊢
  have V := specStoreValid_any _ _ _ _ VV
  rcases ev : stoB C
  · rw [ev] at V
    have hf : Hid (newG C = none) := by unfold Hid newG; rw [ev]; simp
    clear ev
    go_wp2_with fail
    refine V.mono ?_; rintro e w1 ⟨rfl, hb1⟩
    obtain ⟨y0, y1, y2, f0, f1, f2⟩ := (Y.below hb1).cells
    obtain ⟨hZ, hB⟩ := g_done (w := w) (G := Gp.zero) (b := w.heap.size + 1) (Row.nil w1 w.heap.size) (Nat.le_refl _) (by simp [Value.ownBlock]) (by omega) (BB.trans (hb1.mono (by omega))) (.int .i64 0) (.slice none 0 0) (.int .i64 0)
    go_wp2_with fail
    rw [hf.out]
    refine bodyPost_ret (v := .tuple #[.agg #[.int .i64 0, .slice none 0 0, .int .i64 0], .bool false]) ?_ rfl ⟨_, rfl, hZ, hB⟩
    simp [results, Tryz.results147, go_sem, y0, y1, y2]
  · rw [ev] at V
    have hf : Hid (newG C = some ⟨0, List.replicate n0 0, 0⟩) := by unfold Hid newG; rw [if_pos ev, l0.out]
    have h1n := hvB_len (stoB_parts ev).1
    have u0 : n0 ≤ 8 := by have := l0.out; omega
    have u1 : 1 ≤ n0 := by have := l0.out; omega
    clear ev
    go_wp2_with fail
    refine V.mono ?_; rintro e w1 ⟨rfl, hb1⟩
    have B1 := BB.trans (hb1.mono (by omega))
    obtain ⟨x0, x1, x2, x3, _⟩ := (X.below hb1).cells
    have Y1 := Y.below hb1
    have z1 := hb1.size
    have hmk : ∀ W, (Instr.makeSlice 23 (.int .i64 (n0 : Int)) (.int .i64 (n0 : Int))).run Tryz.prog W = .ok (.slice (some ⟨W.heap.size, 0, none⟩) n0 n0) (W.alloc (.cells (madeCells #[.int .i64 0] n0) 3)) := fun W => run_make_row' 23 3 (.int .i64 0) 8 Tryz.underlying23 Tryz.infoInt rfl .i64 .i64 n0 (by omega) (by omega) W
    have RM := rowMade w1 w1.heap.size n0 (Nat.le_refl _) (by omega)
    obtain ⟨y0, y1, y2, f0, f1, f2⟩ := (Y1.alloc (.cells (madeCells #[.int .i64 0] n0) 3)).cells
    obtain ⟨hZ, hB⟩ := g_done (w := w) (G := ⟨0, List.replicate n0 0, 0⟩) (b := w.heap.size + 1) RM (by omega) (own_ne RM (by omega)) (by omega) (B1.alloc B1.size (.cells (madeCells #[.int .i64 0] n0) 3)) (.int .i64 0) (.slice (some ⟨w1.heap.size, 0, none⟩) n0 n0) (.int .i64 0)
    go_wp2_with fail
    rw [hf.out]
    refine bodyPost_ret (v := .tuple #[.agg #[.int .i64 0, .slice (some ⟨w1.heap.size, 0, none⟩) n0 n0, .int .i64 0], .bool true]) ?_ rfl ⟨_, rfl, hZ, hB⟩
    simp [results, Tryz.results147, go_sem, y0, y1, y2]
end Go.Proofs.YtfoimicbmkiigaaGreat

/- Copies of collectors, of spec and of impl. -/
namespace Go.Proofs.YtfoimicbmkiigaaGreat
open Go.RowKit

theorem cellF3g {w : World} {a : Addr} {u : Value} {b : Nat} (h : w.cell? a = some u) (hne : b ≠ a.block) (v0 v1 v2 : Value) : (((w.setCell ⟨b, 0, none⟩ v0).setCell ⟨b, 1, none⟩ v1).setCell ⟨b, 2, none⟩ v2).cell? a = some u := by
  rw [World.cell?_setCell_far _ _ _ _ hne, World.cell?_setCell_far _ _ _ _ hne, World.cell?_setCell_far _ _ _ _ hne]; exact h
def isMk (G : Gp) : Bool := decide (G.p = 1 ∨ G.p = 2)

set_option maxRecDepth 100000 in
set_option maxHeartbeats 2000000 in
theorem copyOfGc_any (w : World) (lo : Nat) (v : Value) (G : Gp) (hg : Gv w lo v G) (hb : G.c.length ≤ 1048576) : Calls Tryz.prog 74 #[v] w (NewGv w G) := by
  obtain ⟨p, cc, a⟩ := G
  obtain ⟨A, n, c, rfl, r, l, m, _⟩ := hg.open_
  dsimp only at r l hb ⊢
  have X := (Blk3.new w (.int .i64 p) (.slice A n c) (.int .i64 a) 29).alloc (.cells #[.int .i64 0, .slice none 0 0, .int .i64 0] 29)
  have Y := Blk3.new_at (w := w.alloc (.cells #[.int .i64 p, .slice A n c, .int .i64 a] 29)) (b := w.heap.size + 1) (by simp) (.int .i64 0) (.slice none 0 0) (.int .i64 0) 29
  have R := (r.alloc (.cells #[.int .i64 p, .slice A n c, .int .i64 a] 29)).alloc (.cells #[.int .i64 0, .slice none 0 0, .int .i64 0] 29)
  have BB : Below w.heap.size w ((w.alloc (.cells #[.int .i64 p, .slice A n c, .int .i64 a] 29)).alloc (.cells #[.int .i64 0, .slice none 0 0, .int .i64 0] 29)) := ((Below.refl _ _).alloc (Nat.le_refl _) _).alloc (by simp) _
  have sz : ((w.alloc (.cells #[.int .i64 p, .slice A n c, .int .i64 a] 29)).alloc (.cells #[.int .i64 0, .slice none 0 0, .int .i64 0] 29)).heap.size = w.heap.size + 2 := by simp
  have hnb : w.heap.size + 1 ≠ w.heap.size := by omega
  have y3 : n ≤ 1048576 := by have := l.out; omega
  go_enter Tryz.func74, Tryz.ntmps74
  go_wp2_with fail
  generalize (w.alloc (.cells #[.int .i64 p, .slice A n c, .int .i64 a] 29)).alloc (.cells #[.int .i64 0, .slice none 0 0, .int .i64 0] 29) = W at X Y R BB sz ⊢
  obtain ⟨x0, x1, x2, _⟩ := X.cells
  go_region_held3 (fun w' => w'.cell? ⟨w.heap.size, 0, none⟩ = some (.int .i64 p) ∧ w'.cell? ⟨w.heap.size, 1, none⟩ = some (.slice A n c) ∧ w'.cell? ⟨w.heap.size, 2, none⟩ = some (.int .i64 a))
    (((try dsimp only); (repeat' apply And.intro) <;> (with_reducible (first | exact cellF3g s0 hnb _ _ _ | exact cellF3g s1 hnb _ _ _ | exact cellF3g s2 hnb _ _ _ | exact s0 | exact s1 | exact s2 | exact cellD x0 | exact cellD x1 | exact cellD x2 | exact x0 | exact x1 | exact x2)) <;> done))
    (first | (go_at_call 88; (with_reducible refine (copyOfInts_any W.drew lo A n c cc R.drew l.out y3).mono ?_); rintro e w2 ⟨B3, e3, rfl, r3n, hb2⟩; (have X2 := (Blk3.drew X).below hb2); (obtain ⟨s0, s1, s2, _⟩ := X2.cells); (have Y2 := (Blk3.drew Y).below hb2); (obtain ⟨q0, q1, q2, k0, k1, k2⟩ := Y2.cells)))
  rename_i hHeld
  clear hHeld
  have r3m : Row w2 W.heap.size (.slice B3 cc.length e3) cc := r3n
  have hb3 : Below W.heap.size W w2 := (Below.refl W.heap.size W).drew.trans (hb2.mono (Nat.le_refl _))
  obtain ⟨hH, hB⟩ := g_done (w := w) (G := ⟨p, cc, a⟩) (b := w.heap.size + 1) r3m (by omega) (own_ne r3m (by omega)) (by omega) (BB.trans (hb3.mono (by omega))) (.int .i64 p) (.slice B3 cc.length e3) (.int .i64 a)
  clear s0 s1 s2 x0 x1 x2
  go_wp2_with fail
  refine bodyPost_ret (v := .agg #[.int .i64 p, .slice B3 cc.length e3, .int .i64 a]) ?_ rfl ⟨_, rfl, hH, hB⟩
  simp [results, Tryz.results74, go_sem, q0, q1, q2]

set_option maxRecDepth 100000 in
set_option maxHeartbeats 3200000 in
theorem l6Copy_any (w : World) (lo : Nat) (v : Value) (G : Gp) (hg : Gv w lo v G) (hp : 0 < G.c.length) (hb : G.c.length ≤ 1048576) : Calls Tryz.prog 120 #[v] w (NewGv w G) := by
  obtain ⟨p, cc, a⟩ := G
  obtain ⟨A, n, c, rfl, r, l, m, _⟩ := hg.open_
  dsimp only at r l hb hp ⊢
  obtain ⟨g3, rfl, _, _⟩ := r.at_ (k := 0) hp
  obtain ⟨i0, hi, hz0, hz1, hz2⟩ := info_parts Tryz.infoInt
  have y3 : n = cc.length := l.out.symm
  have E3 : (cc.map iv).length = n * 1 := by simp; omega
  have M3 : 0 + n ≤ maxLen := by unfold maxLen; omega
  have u3a : 0 < n := by omega
  have u3b : n ≤ 1048576 := by omega
  have L3 : Hid (0 + n = cc.length) := by unfold Hid; omega
  have X := (Blk3.new w (.int .i64 p) (.slice (some ⟨g3, 0, none⟩) n c) (.int .i64 a) 29).alloc (.cells #[.int .i64 0, .slice none 0 0, .int .i64 0] 29)
  have Y := Blk3.new_at (w := w.alloc (.cells #[.int .i64 p, .slice (some ⟨g3, 0, none⟩) n c, .int .i64 a] 29)) (b := w.heap.size + 1) (by simp) (.int .i64 0) (.slice none 0 0) (.int .i64 0) 29
  have R := (r.alloc (.cells #[.int .i64 p, .slice (some ⟨g3, 0, none⟩) n c, .int .i64 a] 29)).alloc (.cells #[.int .i64 0, .slice none 0 0, .int .i64 0] 29)
  have BB : Below w.heap.size w ((w.alloc (.cells #[.int .i64 p, .slice (some ⟨g3, 0, none⟩) n c, .int .i64 a] 29)).alloc (.cells #[.int .i64 0, .slice none 0 0, .int .i64 0] 29)) := ((Below.refl _ _).alloc (Nat.le_refl _) _).alloc (by simp) _
  have sz : ((w.alloc (.cells #[.int .i64 p, .slice (some ⟨g3, 0, none⟩) n c, .int .i64 a] 29)).alloc (.cells #[.int .i64 0, .slice none 0 0, .int .i64 0] 29)).heap.size = w.heap.size + 2 := by simp
  have hnb : w.heap.size + 1 ≠ w.heap.size := by omega
  clear hg r l hp hb y3
  go_enter Tryz.func120, Tryz.ntmps120
  go_wp2_with fail
  generalize (w.alloc (.cells #[.int .i64 p, .slice (some ⟨g3, 0, none⟩) n c, .int .i64 a] 29)).alloc (.cells #[.int .i64 0, .slice none 0 0, .int .i64 0] 29) = W at X Y R BB sz ⊢
  obtain ⟨x0, x1, x2, _⟩ := X.cells
  go_region_held3 (fun w' => w'.cell? ⟨w.heap.size, 0, none⟩ = some (.int .i64 p) ∧ w'.cell? ⟨w.heap.size, 1, none⟩ = some (.slice (some ⟨g3, 0, none⟩) n c) ∧ w'.cell? ⟨w.heap.size, 2, none⟩ = some (.int .i64 a))
    (((try dsimp only); (repeat' apply And.intro) <;> (with_reducible (first | exact cellF3g s0 hnb _ _ _ | exact cellF3g s1 hnb _ _ _ | exact cellF3g s2 hnb _ _ _ | exact s0 | exact s1 | exact s2 | exact x0 | exact x1 | exact x2 | exact cellD x0 | exact cellD x1 | exact cellD x2 | exact cellA x0 _ | exact cellA x1 _ | exact cellA x2 _ | exact cellD (cellA x0 _) | exact cellD (cellA x1 _) | exact cellD (cellA x2 _) | exact cellA (cellD x0) _ | exact cellA (cellD x1) _ | exact cellA (cellD x2) _)) <;> done))
    (first | (refine step_append_grows rfl (.tmp 5) (.tmp 7) 23 rfl 3 i0 (.int .i64 0) 1 8 Tryz.underlying23 hi hz0 hz1 hz2 rfl (by decide) _ 0 0 [] (by rfl) (fun _ => ⟨rfl, rfl⟩) rfl (fun _ _ j u hj => nil_get hj) ⟨g3, 0, none⟩ n c (cc.map iv) (by rfl) E3 ?_ (ints_oneCell _ _) (by omega) (by omega) (by omega) ?_; (exact Row.cellsV (lo := lo) (n := n) (c := c) (xs := cc) (by repeat (with_reducible (first | refine Row.drew ?_ | refine Row.alloc ?_ _ | exact R)))); intro vr w2 hown hgr; obtain ⟨A3', c3', rfl, hr, hb2⟩ := after_append (xs := cc) hown hgr L3.out; have X2 : Blk3 w2 w.heap.size (.int .i64 p) (.slice (some ⟨g3, 0, none⟩) n c) (.int .i64 a) 29 := (by repeat (with_reducible (first | exact X | refine Blk3.drew ?_ | refine Blk3.alloc ?_ _ | refine Blk3.below ?_ hb2))); obtain ⟨s0, s1, s2, _⟩ := X2.cells; have Y2 : Blk3 w2 (w.heap.size + 1) (.int .i64 0) (.slice none 0 0) (.int .i64 0) 29 := (by repeat (with_reducible (first | exact Y | refine Blk3.drew ?_ | refine Blk3.alloc ?_ _ | refine Blk3.below ?_ hb2))); obtain ⟨q0, q1, q2, k0, k1, k2⟩ := Y2.cells))
  all_goals
    rename_i hHeld
    clear hHeld
    have B2' : Below W.heap.size W w2 := Below.trans (by repeat (with_reducible (first | exact Below.refl _ _ | refine Below.drew ?_ | refine Below.alloc ?_ (by first | omega | (simp <;> omega)) _))) (hb2.mono (by first | omega | (simp <;> omega)))
    have hr' : Row w2 (w.heap.size + 2) (.slice A3' cc.length c3') cc := hr.mono (by first | omega | (simp <;> omega))
    obtain ⟨hH, hB⟩ := g_done (w := w) (G := ⟨p, cc, a⟩) (b := w.heap.size + 1) hr' (by omega) (own_ne hr' (by omega)) (by omega) (BB.trans (B2'.mono (by omega))) (.int .i64 p) (.slice A3' cc.length c3') (.int .i64 a)
    clear s0 s1 s2 x0 x1 x2
    go_wp2_with fail
    refine bodyPost_ret (v := .agg #[.int .i64 p, .slice A3' cc.length c3', .int .i64 a]) ?_ rfl ⟨_, rfl, hH, hB⟩
    simp [results, Tryz.results120, go_sem, q0, q1, q2]

set_option maxRecDepth 100000 in
set_option maxHeartbeats 2000000 in
theorem isMarking_any (w : World) (lo : Nat) (v : Value) (G : Gp) (hg : Gv w lo v G) : Calls Tryz.prog 77 #[v] w (RetB w (isMk G)) := by
  obtain ⟨p, cc, a⟩ := G
  obtain ⟨A, n, c, rfl, r, l, m, _⟩ := hg.open_
  dsimp only at r l ⊢
  have X := Blk3.new w (.int .i64 p) (.slice A n c) (.int .i64 a) 29
  have BB : Below w.heap.size w (w.alloc (.cells #[.int .i64 p, .slice A n c, .int .i64 a] 29)) := (Below.refl _ _).alloc (Nat.le_refl _) _
  obtain ⟨x0, x1, x2, _⟩ := X.cells
  by_cases p1 : p = 1
  · subst p1
    have hf : Hid (isMk ⟨1, cc, a⟩ = true) := by unfold Hid isMk; simp
    go_enter Tryz.func77, Tryz.ntmps77
    go_wp2_with fail
    go_ret
    exact ⟨ret_bool hf.out.symm, BB⟩
  · have q1 : (p == 1) = false := by rw [beq_eq_false_iff_ne]; exact p1
    have hf : Hid (isMk ⟨p, cc, a⟩ = (p == 2)) := by unfold Hid isMk; rw [Bool.eq_iff_iff]; simp [p1]
    go_enter Tryz.func77, Tryz.ntmps77
    go_wp2_with fail
    go_ret
    exact ⟨ret_bool hf.out.symm, BB⟩
end Go.Proofs.YtfoimicbmkiigaaGreat

/- SweptCell of spec and of impl. -/
namespace Go.Proofs.YtfoimicbmkiigaaGreat
open Go.RowKit

theorem sw_not3 {C : Cp} {p a : Int} {cc : List Int} (h : p ≠ 3) : swI C ⟨p, cc, a⟩ = -1 := by unfold swI; rw [if_neg]; rintro ⟨h9, _⟩; exact h h9
theorem sw_color {C : Cp} {p : Int} {k : Nat} {cc : List Int} {x : Int} (hx : cc[k]? = some x) (h : x ≠ 0) : swI C ⟨p, cc, (k : Int)⟩ = -1 := by
  unfold swI; rw [if_neg]; rintro ⟨_, h9, _⟩; simp at h9; rw [hx] at h9; exact h (Option.some.inj h9)
theorem sw_free {C : Cp} {p : Int} {k : Nat} {cc : List Int} (h : (k : Int) ∈ C.c) : swI C ⟨p, cc, (k : Int)⟩ = -1 := by
  unfold swI; rw [if_neg]; rintro ⟨_, _, h9⟩; exact h9 h
theorem sw_is {C : Cp} {k : Nat} {cc : List Int} (hx : cc[k]? = some 0) (h : (k : Int) ∉ C.c) : swI C ⟨3, cc, (k : Int)⟩ = (k : Int) := by
  unfold swI; rw [if_pos ⟨rfl, by simpa using hx, h⟩]

set_option maxRecDepth 100000 in
set_option maxHeartbeats 2000000 in
theorem l6Swept_any (w : World) (lo : Nat) (vs vg : Value) (C : Cp) (G : Gp) (h : CGv w lo vs vg C G) (hg : gcB C G = true) : Calls Tryz.prog 96 #[vs, vg] w (RetI w (swI C G)) := by
  obtain ⟨A0, n0, c0, A1, n1, c1, A2, n2, c2, A3, n3, c3, A4, n4, c4, p, cc, a, rfl, rfl, rfl, hv, hk, ⟨r0, r1, r2, r3, r4⟩, ⟨l0, l1, l2, l3, l4⟩, ⟨m0, m1, m2, m3, m4⟩⟩ := h.open_
  have X := (Blk4.new w (.slice A0 n0 c0) (.slice A1 n1 c1) (.slice A2 n2 c2) (.slice A3 n3 c3) 27).alloc (.cells #[.int .i64 p, .slice A4 n4 c4, .int .i64 a] 29)
  have Y := Blk3.new_at (w := w.alloc (.cells #[.slice A0 n0 c0, .slice A1 n1 c1, .slice A2 n2 c2, .slice A3 n3 c3] 27)) (b := w.heap.size + 1) (by simp) (.int .i64 p) (.slice A4 n4 c4) (.int .i64 a) 29
  have HH := (h.alloc (.cells #[.slice A0 n0 c0, .slice A1 n1 c1, .slice A2 n2 c2, .slice A3 n3 c3] 27)).alloc (.cells #[.int .i64 p, .slice A4 n4 c4, .int .i64 a] 29)
  have VV := (hv.alloc (.cells #[.slice A0 n0 c0, .slice A1 n1 c1, .slice A2 n2 c2, .slice A3 n3 c3] 27)).alloc (.cells #[.int .i64 p, .slice A4 n4 c4, .int .i64 a] 29)
  have R4 := (r4.alloc (.cells #[.slice A0 n0 c0, .slice A1 n1 c1, .slice A2 n2 c2, .slice A3 n3 c3] 27)).alloc (.cells #[.int .i64 p, .slice A4 n4 c4, .int .i64 a] 29)
  have R3 := (r3.alloc (.cells #[.slice A0 n0 c0, .slice A1 n1 c1, .slice A2 n2 c2, .slice A3 n3 c3] 27)).alloc (.cells #[.int .i64 p, .slice A4 n4 c4, .int .i64 a] 29)
  have BB : Below w.heap.size w ((w.alloc (.cells #[.slice A0 n0 c0, .slice A1 n1 c1, .slice A2 n2 c2, .slice A3 n3 c3] 27)).alloc (.cells #[.int .i64 p, .slice A4 n4 c4, .int .i64 a] 29)) := ((Below.refl _ _).alloc (Nat.le_refl _) _).alloc (by simp) _
  clear hv hk r0 r1 r2 r3 r4 h
  generalize hW : (w.alloc (.cells #[.slice A0 n0 c0, .slice A1 n1 c1, .slice A2 n2 c2, .slice A3 n3 c3] 27)).alloc (.cells #[.int .i64 p, .slice A4 n4 c4, .int .i64 a] 29) = W at X Y VV HH R4 R3 BB
  obtain ⟨i0, i1, i2, i3, _⟩ := X.cells
  obtain ⟨j0, j1, j2, _⟩ := Y.cells
  by_cases p3 : p = 3
  · subst p3
    have hp := phB_iff.1 (gcB_iff.1 hg).2.2
    have z1 := (gcB_sizes hg).1
    dsimp only at hp z1
    have l49 := l4.out
    have l09 := l0.out
    obtain ⟨k, rfl⟩ := Int.eq_ofNat_of_zero_le (show 0 ≤ a by omega)
    have hk4 : k < n4 := by omega
    have hki : (k : Int) < (n4 : Int) := by omega
    obtain ⟨g4, x, rfl, _, _, hx, hcx, _⟩ := R4.get (k := k) (by omega)
    clear hp z1 l49 l09 hg
    by_cases hx0 : x = 0
    · subst hx0
      by_cases hf : (k : Int) ∈ C.c
      · have hs : Hid (swI C ⟨3, cc, (k : Int)⟩ = -1) := sw_free hf
        have I := fun W h9 => l4At_in W lo A3 n3 c3 C.c h9 l3 m3 (k : Int) hf
        clear hf hx
        go_enter Tryz.func96, Tryz.ntmps96
        go_wp2_with fail
        try rw [hW]
        refine (I _ R3).mono ?_; rintro e w2 ⟨⟨j, rfl⟩, nq, rfl⟩
        have B1 := below_drewN BB nq
        go_wp2_with fail
        go_ret
        exact ⟨ret_int hs.out.symm, B1⟩
      · have hs : Hid (swI C ⟨3, cc, (k : Int)⟩ = (k : Int)) := sw_is hx.out hf
        have I := fun W h9 => l4At_not W lo A3 n3 c3 C.c h9 l3 m3 (k : Int) hf
        clear hf hx
        go_enter Tryz.func96, Tryz.ntmps96
        go_wp2_with fail
        try rw [hW]
        refine (I _ R3).mono ?_; rintro e w2 ⟨rfl, nq, rfl⟩
        have B1 := below_drewN BB nq
        have d2 := cellDN j2 nq
        go_wp2_with fail
        go_ret
        exact ⟨ret_int hs.out.symm, B1⟩
    · have hs : Hid (swI C ⟨3, cc, (k : Int)⟩ = -1) := sw_color hx.out hx0
      have qx : (x == 0) = false := by rw [beq_eq_false_iff_ne]; exact hx0
      go_enter Tryz.func96, Tryz.ntmps96
      go_wp2_with fail
      go_ret
      try rw [hW]
      exact ⟨ret_int hs.out.symm, BB⟩
  · have hs : Hid (swI C ⟨p, cc, a⟩ = -1) := sw_not3 p3
    have q3 : (p == 3) = false := by rw [beq_eq_false_iff_ne]; exact p3
    go_enter Tryz.func96, Tryz.ntmps96
    go_wp2_with fail
    go_ret
    try rw [hW]
    exact ⟨ret_int hs.out.symm, BB⟩

set_option maxRecDepth 100000 in
set_option maxHeartbeats 2000000 in
theorem implSwept_any (w : World) (lo : Nat) (vs vg : Value) (C : Cp) (G : Gp) (h : CGv w lo vs vg C G) : Calls Tryz.prog 19 #[vs, vg] w (RetI w (swO C G)) := by
  obtain ⟨A0, n0, c0, A1, n1, c1, A2, n2, c2, A3, n3, c3, A4, n4, c4, p, cc, a, rfl, rfl, rfl, hv, hk, ⟨r0, r1, r2, r3, r4⟩, ⟨l0, l1, l2, l3, l4⟩, ⟨m0, m1, m2, m3, m4⟩⟩ := h.open_
  have X := (Blk4.new w (.slice A0 n0 c0) (.slice A1 n1 c1) (.slice A2 n2 c2) (.slice A3 n3 c3) 27).alloc (.cells #[.int .i64 p, .slice A4 n4 c4, .int .i64 a] 29)
  have Y := Blk3.new_at (w := w.alloc (.cells #[.slice A0 n0 c0, .slice A1 n1 c1, .slice A2 n2 c2, .slice A3 n3 c3] 27)) (b := w.heap.size + 1) (by simp) (.int .i64 p) (.slice A4 n4 c4) (.int .i64 a) 29
  have HH := (h.alloc (.cells #[.slice A0 n0 c0, .slice A1 n1 c1, .slice A2 n2 c2, .slice A3 n3 c3] 27)).alloc (.cells #[.int .i64 p, .slice A4 n4 c4, .int .i64 a] 29)
  have VV := (hv.alloc (.cells #[.slice A0 n0 c0, .slice A1 n1 c1, .slice A2 n2 c2, .slice A3 n3 c3] 27)).alloc (.cells #[.int .i64 p, .slice A4 n4 c4, .int .i64 a] 29)
  have R4 := (r4.alloc (.cells #[.slice A0 n0 c0, .slice A1 n1 c1, .slice A2 n2 c2, .slice A3 n3 c3] 27)).alloc (.cells #[.int .i64 p, .slice A4 n4 c4, .int .i64 a] 29)
  have R3 := (r3.alloc (.cells #[.slice A0 n0 c0, .slice A1 n1 c1, .slice A2 n2 c2, .slice A3 n3 c3] 27)).alloc (.cells #[.int .i64 p, .slice A4 n4 c4, .int .i64 a] 29)
  have BB : Below w.heap.size w ((w.alloc (.cells #[.slice A0 n0 c0, .slice A1 n1 c1, .slice A2 n2 c2, .slice A3 n3 c3] 27)).alloc (.cells #[.int .i64 p, .slice A4 n4 c4, .int .i64 a] 29)) := ((Below.refl _ _).alloc (Nat.le_refl _) _).alloc (by simp) _
  clear hv hk r0 r1 r2 r3 r4 h
  generalize hW : (w.alloc (.cells #[.slice A0 n0 c0, .slice A1 n1 c1, .slice A2 n2 c2, .slice A3 n3 c3] 27)).alloc (.cells #[.int .i64 p, .slice A4 n4 c4, .int .i64 a] 29) = W at X Y VV HH R4 R3 BB
  obtain ⟨i0, i1, i2, i3, _⟩ := X.cells
  obtain ⟨j0, j1, j2, _⟩ := Y.cells
  have V := implGcValid_any _ _ _ _ _ _ HH
  rcases ev : gcB C ⟨p, cc, a⟩
  · rw [ev] at V
    have hs : Hid (swO C ⟨p, cc, a⟩ = -1) := by unfold Hid swO; rw [ev]; simp
    clear ev
    go_enter Tryz.func19, Tryz.ntmps19
    go_wp2_with fail
    try rw [hW]
    refine V.mono ?_; rintro e w1 ⟨rfl, hb1⟩
    have B1 := BB.trans (hb1.mono BB.size)
    obtain ⟨x0, x1, x2, x3, _⟩ := (X.below hb1).cells
    obtain ⟨y0, y1, y2, _⟩ := (Y.below hb1).cells
    go_wp2_with fail
    go_ret
    exact ⟨ret_int hs.out.symm, B1⟩
  rw [ev] at V
  have hs : Hid (swO C ⟨p, cc, a⟩ = swI C ⟨p, cc, a⟩) := by unfold Hid swO; rw [if_pos ev]
  have hC := (gcB_iff.1 ev).1
  by_cases p3 : p = 3
  · subst p3
    have hp := phB_iff.1 (gcB_iff.1 ev).2.2
    have z1 := (gcB_sizes ev).1
    dsimp only at hp z1
    have l49 := l4.out
    have l09 := l0.out
    obtain ⟨k, rfl⟩ := Int.eq_ofNat_of_zero_le (show 0 ≤ a by omega)
    have hk4 : k < n4 := by omega
    have hki : (k : Int) < (n4 : Int) := by omega
    obtain ⟨g4, x, rfl, _, _, hx, _, _⟩ := R4.get (k := k) (by omega)
    have Q4 := fun w1 (hb : Below W.heap.size W w1) => (Row.below R4 hb).get (k := k) (by omega)
    clear hp z1 l49 l09 ev
    by_cases hx0 : x = 0
    · subst hx0
      have hFr : Hid (isFreeB C (k : Int) = decide ((k : Int) ∈ C.c)) := by unfold Hid isFreeB; rw [hC]; rfl
      have I := fun w1 h9 => implIsFree_any w1 lo (.agg #[.slice A0 n0 c0, .slice A1 n1 c1, .slice A2 n2 c2, .slice A3 n3 c3]) C h9 (k : Int)
      simp only [hFr.out] at I
      by_cases hf : (k : Int) ∈ C.c
      · have hs2 : Hid (swI C ⟨3, cc, (k : Int)⟩ = -1) := sw_free hf
        simp only [decide_eq_true hf] at I
        clear hf
        go_enter Tryz.func19, Tryz.ntmps19
        go_wp2_with fail
        try rw [hW]
        refine V.mono ?_; rintro e w1 ⟨rfl, hb1⟩
        have B1 := BB.trans (hb1.mono BB.size)
        obtain ⟨x0, x1, x2, x3, _⟩ := (X.below hb1).cells
        obtain ⟨y0, y1, y2, _⟩ := (Y.below hb1).cells
        obtain ⟨_, x', e9, _, _, hx', hcx, _⟩ := Q4 _ hb1
        cases e9
        obtain rfl : x' = 0 := by have a1 := hx.out; have a2 := hx'.out; rw [a1] at a2; exact (Option.some.inj a2).symm
        clear hx hx'
        go_wp2_with fail
        refine (I _ (VV.below hb1)).mono ?_; rintro e w2 ⟨rfl, hb2⟩
        go_wp2_with fail
        go_ret
        exact ⟨ret_int (hs.out.trans hs2.out).symm, B1.trans (hb2.mono B1.size)⟩
      · have hs2 : Hid (swI C ⟨3, cc, (k : Int)⟩ = (k : Int)) := sw_is hx.out hf
        simp only [decide_eq_false hf] at I
        clear hf
        go_enter Tryz.func19, Tryz.ntmps19
        go_wp2_with fail
        try rw [hW]
        refine V.mono ?_; rintro e w1 ⟨rfl, hb1⟩
        have B1 := BB.trans (hb1.mono BB.size)
        obtain ⟨x0, x1, x2, x3, _⟩ := (X.below hb1).cells
        obtain ⟨y0, y1, y2, _⟩ := (Y.below hb1).cells
        obtain ⟨_, x', e9, _, _, hx', hcx, _⟩ := Q4 _ hb1
        cases e9
        obtain rfl : x' = 0 := by have a1 := hx.out; have a2 := hx'.out; rw [a1] at a2; exact (Option.some.inj a2).symm
        clear hx hx'
        go_wp2_with fail
        refine (I _ (VV.below hb1)).mono ?_; rintro e w2 ⟨rfl, hb2⟩
        obtain ⟨u0, u1, u2, _⟩ := ((Y.below hb1).below hb2).cells
        have B2 := B1.trans (hb2.mono B1.size)
        go_wp2_with fail
        go_ret
        exact ⟨ret_int (hs.out.trans hs2.out).symm, B2⟩
    · have hs2 : Hid (swI C ⟨3, cc, (k : Int)⟩ = -1) := sw_color hx.out hx0
      go_enter Tryz.func19, Tryz.ntmps19
      go_wp2_with fail
      try rw [hW]
      refine V.mono ?_; rintro e w1 ⟨rfl, hb1⟩
      have B1 := BB.trans (hb1.mono BB.size)
      obtain ⟨x0, x1, x2, x3, _⟩ := (X.below hb1).cells
      obtain ⟨y0, y1, y2, _⟩ := (Y.below hb1).cells
      obtain ⟨_, x', e9, _, _, hx', hcx, _⟩ := Q4 _ hb1
      cases e9
      obtain rfl : x' = x := by have a1 := hx.out; have a2 := hx'.out; rw [a1] at a2; exact (Option.some.inj a2).symm
      have qx : (x' == 0) = false := by rw [beq_eq_false_iff_ne]; exact hx0
      have qx2 : (x' != 0) = true := by simp [bne, qx]
      clear hx hx'
      go_wp2_with fail
      go_ret
      exact ⟨ret_int (hs.out.trans hs2.out).symm, B1⟩
  · have hs2 : Hid (swI C ⟨p, cc, a⟩ = -1) := sw_not3 p3
    have q3 : (p == 3) = false := by rw [beq_eq_false_iff_ne]; exact p3
    have q32 : (p != 3) = true := by simp [bne, q3]
    go_enter Tryz.func19, Tryz.ntmps19
    go_wp2_with fail
    try rw [hW]
    refine V.mono ?_; rintro e w1 ⟨rfl, hb1⟩
    have B1 := BB.trans (hb1.mono BB.size)
    obtain ⟨x0, x1, x2, x3, _⟩ := (X.below hb1).cells
    obtain ⟨y0, y1, y2, _⟩ := (Y.below hb1).cells
    go_wp2_with fail
    go_ret
    exact ⟨ret_int (hs.out.trans hs2.out).symm, B1⟩
end Go.Proofs.YtfoimicbmkiigaaGreat

/- l6Next, l6Root and l6Mark of spec. -/
namespace Go.Proofs.YtfoimicbmkiigaaGreat
open Go.RowKit

theorem rootW_at' {xs ts : List Int} {k : Nat} {x : Int} (hx : ts[k]? = some x) (hw : wtB xs x = true) (hb : ∀ j y, j < k → ts[j]? = some y → wtB xs y = false) : rootW xs ts = some x := by
  unfold rootW
  obtain ⟨hk, e⟩ := List.getElem?_eq_some_iff.1 hx
  rw [List.find?_eq_some_iff_getElem]
  refine ⟨hw, k, hk, e, fun j hj => ?_⟩
  rw [hb j _ hj (List.getElem?_eq_getElem (by omega))]; rfl
theorem rootW_no' {xs ts : List Int} (hb : ∀ j y, j < ts.length → ts[j]? = some y → wtB xs y = false) : rootW xs ts = none := by
  unfold rootW
  rw [List.find?_eq_none]
  intro x hx hw
  obtain ⟨j, hj, e⟩ := List.getElem_of_mem hx
  rw [hb j x hj (by rw [List.getElem?_eq_getElem hj, e])] at hw
  cases hw

set_option maxRecDepth 100000 in
set_option maxHeartbeats 2000000 in
theorem l6Next_any (w : World) (p : Int) (cc : List Int) (A : Option Addr) (m c : Nat) (k n : Nat) (q : Int) (hk : k < n) (hn : n < 100) :
    Calls Tryz.prog 135 #[.agg #[.int .i64 p, .slice A m c, .int .i64 (k : Int)], .int .i64 (n : Int), .int .i64 q] w fun e w' => e = .returned (.agg #[.int .i64 (nextG p cc (k : Int) n q).p, .slice A m c, .int .i64 (nextG p cc (k : Int) n q).a]) ∧ Below w.heap.size w w' := by
  have X := (Blk3.new w (.int .i64 p) (.slice A m c) (.int .i64 (k : Int)) 29).alloc (.cells #[.int .i64 0, .slice none 0 0, .int .i64 0] 29)
  have Y := Blk3.new_at (w := w.alloc (.cells #[.int .i64 p, .slice A m c, .int .i64 (k : Int)] 29)) (b := w.heap.size + 1) (by simp) (.int .i64 0) (.slice none 0 0) (.int .i64 0) 29
  have BB : Below w.heap.size w ((w.alloc (.cells #[.int .i64 p, .slice A m c, .int .i64 (k : Int)] 29)).alloc (.cells #[.int .i64 0, .slice none 0 0, .int .i64 0] 29)) := ((Below.refl _ _).alloc (Nat.le_refl _) _).alloc (by simp) _
  have w1 : IntKind.i64.wrap ((k : Int) + 1) = (k : Int) + 1 := IntWalk.i64_in _ (by omega)
  generalize hW : (w.alloc (.cells #[.int .i64 p, .slice A m c, .int .i64 (k : Int)] 29)).alloc (.cells #[.int .i64 0, .slice none 0 0, .int .i64 0] 29) = W at X Y BB
  obtain ⟨x0, x1, x2, e0, e1, e2⟩ := X.cells
  have X1 := X.set2 (.int .i64 ((k : Int) + 1))
  obtain ⟨y0, y1, y2, f0, f1, f2⟩ := X1.cells
  by_cases hl : k + 1 = n
  · have hN : Hid (nextG p cc (k : Int) n q = ⟨q, cc, 0⟩) := by unfold Hid nextG; rw [if_neg (by omega)]
    have hq1 : ((k : Int) + 1 == (n : Int)) = true := by rw [beq_iff_eq]; omega
    have X2 := X1.set2 (.int .i64 0)
    have X3 := X2.set0 (.int .i64 q)
    have Y1 := ((Y.other (p := ⟨w.heap.size, 2, none⟩) (by simp) (.int .i64 ((k : Int) + 1))).other (p := ⟨w.heap.size, 2, none⟩) (by simp) (.int .i64 0)).other (p := ⟨w.heap.size, 0, none⟩) (by simp) (.int .i64 q)
    have B1 := ((BB.setCell (p := ⟨w.heap.size, 2, none⟩) (Nat.le_refl _) (.int .i64 ((k : Int) + 1))).setCell (p := ⟨w.heap.size, 2, none⟩) (Nat.le_refl _) (.int .i64 0)).setCell (p := ⟨w.heap.size, 0, none⟩) (Nat.le_refl _) (.int .i64 q)
    obtain ⟨z0, z1, z2, g0, g1, g2⟩ := X2.cells
    obtain ⟨u0, u1, u2, h0, h1, h2⟩ := X3.cells
    obtain ⟨v0, v1, v2, k0, k1, k2⟩ := Y1.cells
    have B2 := ((B1.setCell (p := ⟨w.heap.size + 1, 0, none⟩) (by simp) (.int .i64 q)).setCell (p := ⟨w.heap.size + 1, 1, none⟩) (by simp) (.slice A m c)).setCell (p := ⟨w.heap.size + 1, 2, none⟩) (by simp) (.int .i64 0)
    clear hl X X1 X2 X3 Y Y1 BB B1
    go_enter Tryz.func135, Tryz.ntmps135
    go_wp2_with fail
    (try rw [hW])
    rw [hN.out]
    refine bodyPost_ret (v := .agg #[.int .i64 q, .slice A m c, .int .i64 0]) ?_ rfl ⟨rfl, B2⟩
    simp [results, Tryz.results135, go_sem, v0, v1, v2]
  · have hN : Hid (nextG p cc (k : Int) n q = ⟨p, cc, (k : Int) + 1⟩) := by unfold Hid nextG; rw [if_pos (by omega)]
    have hq1 : ((k : Int) + 1 == (n : Int)) = false := by rw [beq_eq_false_iff_ne]; omega
    have Y1 := Y.other (p := ⟨w.heap.size, 2, none⟩) (by simp) (.int .i64 ((k : Int) + 1))
    have B1 := BB.setCell (p := ⟨w.heap.size, 2, none⟩) (Nat.le_refl _) (.int .i64 ((k : Int) + 1))
    obtain ⟨v0, v1, v2, k0, k1, k2⟩ := Y1.cells
    have B2 := ((B1.setCell (p := ⟨w.heap.size + 1, 0, none⟩) (by simp) (.int .i64 p)).setCell (p := ⟨w.heap.size + 1, 1, none⟩) (by simp) (.slice A m c)).setCell (p := ⟨w.heap.size + 1, 2, none⟩) (by simp) (.int .i64 ((k : Int) + 1))
    clear hl X X1 Y Y1 BB B1
    go_enter Tryz.func135, Tryz.ntmps135
    go_wp2_with fail
    (try rw [hW])
    rw [hN.out]
    refine bodyPost_ret (v := .agg #[.int .i64 p, .slice A m c, .int .i64 ((k : Int) + 1)]) ?_ rfl ⟨rfl, B2⟩
    simp [results, Tryz.results135, go_sem, v0, v1, v2]

/-- The first root that points to a white cell, or none. -/
def RootPost (w : World) (cc ts : List Int) (e : Ending) (w' : World) : Prop := ((∃ (k : Nat) (x : Int), e = .returned (.int .i64 (k : Int)) ∧ ts[k]? = some x ∧ rootW cc ts = some x) ∨ (e = .returned (.int .i64 (-1)) ∧ rootW cc ts = none)) ∧ Below w.heap.size w w'

set_option maxRecDepth 100000 in
set_option maxHeartbeats 2000000 in
theorem l6Root_any (w : World) (lo : Nat) (vs vg : Value) (C : Cp) (G : Gp) (h : CGv w lo vs vg C G) (hg : gcB C G = true) :
    Calls Tryz.prog 156 #[vs, vg] w (RootPost w G.c C.h.t) := by
  obtain ⟨A0, n0, c0, A1, n1, c1, A2, n2, c2, A3, n3, c3, A4, n4, c4, p, cc, a, rfl, rfl, rfl, hv, hk, ⟨r0, r1, r2, r3, r4⟩, ⟨l0, l1, l2, l3, l4⟩, ⟨m0, m1, m2, m3, m4⟩⟩ := h.open_
  have X := (Blk4.new w (.slice A0 n0 c0) (.slice A1 n1 c1) (.slice A2 n2 c2) (.slice A3 n3 c3) 27).alloc (.cells #[.int .i64 p, .slice A4 n4 c4, .int .i64 a] 29)
  have Y := Blk3.new_at (w := w.alloc (.cells #[.slice A0 n0 c0, .slice A1 n1 c1, .slice A2 n2 c2, .slice A3 n3 c3] 27)) (b := w.heap.size + 1) (by simp) (.int .i64 p) (.slice A4 n4 c4) (.int .i64 a) 29
  have R2 := (r2.alloc (.cells #[.slice A0 n0 c0, .slice A1 n1 c1, .slice A2 n2 c2, .slice A3 n3 c3] 27)).alloc (.cells #[.int .i64 p, .slice A4 n4 c4, .int .i64 a] 29)
  have R4 := (r4.alloc (.cells #[.slice A0 n0 c0, .slice A1 n1 c1, .slice A2 n2 c2, .slice A3 n3 c3] 27)).alloc (.cells #[.int .i64 p, .slice A4 n4 c4, .int .i64 a] 29)
  have BB : Below w.heap.size w ((w.alloc (.cells #[.slice A0 n0 c0, .slice A1 n1 c1, .slice A2 n2 c2, .slice A3 n3 c3] 27)).alloc (.cells #[.int .i64 p, .slice A4 n4 c4, .int .i64 a] 29)) := ((Below.refl _ _).alloc (Nat.le_refl _) _).alloc (by simp) _
  obtain ⟨q1, ⟨q2, q3⟩, q4, q5, q6⟩ := gcB_sizes hg
  have hvh : hvB C.h = true := (stoB_parts (gcB_iff.1 hg).1).1
  dsimp only at q1 q2 q3 q4 q5 q6
  have l09 := l0.out
  have l29 := l2.out
  have l49 := l4.out
  have hrt : Hid (∀ x ∈ C.h.t, -1 ≤ x ∧ x < n4) := fun x hx => by have := (hv_range hvh).2.2 x hx; omega
  clear hv hk r0 r1 r2 r3 r4 h hg hvh q1 q2 q3 q4 q5 q6 l09
  go_enter Tryz.func156, Tryz.ntmps156
  go_wp2_with fail
  generalize (w.alloc (.cells #[.slice A0 n0 c0, .slice A1 n1 c1, .slice A2 n2 c2, .slice A3 n3 c3] 27)).alloc (.cells #[.int .i64 p, .slice A4 n4 c4, .int .i64 a] 29) = W at X Y R2 R4 BB ⊢
  obtain ⟨x0, x1, x2, x3, _⟩ := X.cells
  obtain ⟨y0, y1, y2, _⟩ := Y.cells
  go_loop [5] (fun i => ∃ k : Nat, k ≤ n2 ∧ i = .int .i64 k ∧ Hid (∀ j y, j < k → C.h.t[j]? = some y → wtB cc y = false)) (fun i => n2 - (intOf i).toNat)
  case atStart => exact ⟨0, Nat.zero_le _, rfl, fun j y hj => absurd hj (Nat.not_lt_zero _)⟩
  case round =>
    obtain ⟨k, hk, rfl, hno⟩ := hrel
    by_cases hlt : k < n2
    · obtain ⟨g2, y, rfl, _, _, hy, hcy, _⟩ := R2.get (k := k) (by omega)
      obtain ⟨hy1, hy2⟩ := hrt.out y (List.mem_of_getElem? hy.out)
      have hki : (k : Int) < (n2 : Int) := by omega
      have step : wtB cc y = false → Hid (∀ j y, j < k + 1 → C.h.t[j]? = some y → wtB cc y = false) := fun ew j z hj hz => by
        rcases Nat.lt_succ_iff_lt_or_eq.1 hj with h9 | rfl
        · exact hno.out j z h9 hz
        · rw [hy.out] at hz; cases hz; exact ew
      rcases Int.lt_or_le y 0 with hneg | hpos
      · obtain rfl : y = -1 := by omega
        have hno' := step (by unfold wtB; simp)
        clear hy hno step
        go_wp2_with fail
        go_round
        case rel => exact ⟨k + 1, by omega, by go_num, hno'⟩
        case measure => simp [intOf]; omega
      · obtain ⟨j, rfl⟩ := Int.eq_ofNat_of_zero_le hpos
        have hj4 : j < n4 := by omega
        have hji : (j : Int) < (n4 : Int) := by omega
        have hne : ((j : Int) != -1) = true := by simp only [bne, Bool.not_eq_true', beq_eq_false_iff_ne]; omega
        obtain ⟨g4, z, rfl, _, _, hz, hcz, _⟩ := R4.get (k := j) (by omega)
        by_cases hz0 : z = 0
        · subst hz0
          have hR := Lib.hid (rootW_at' hy.out (show wtB cc (j : Int) = true by unfold wtB; simp; exact hz.out) hno.out)
          have hyo := Lib.hid hy.out
          clear hy hno step hz
          go_wp2_with fail
          go_ret
          unfold RootPost
          exact ⟨.inl ⟨k, (j : Int), rfl, hyo.out, hR.out⟩, BB⟩
        · have hzb : (z == 0) = false := by rw [beq_eq_false_iff_ne]; exact hz0
          have hno' := step (by unfold wtB; simp; rw [hz.out]; simpa using hz0)
          clear hy hno step hz
          go_wp2_with fail
          go_round
          case rel => exact ⟨k + 1, by omega, by go_num, hno'⟩
          case measure => simp [intOf]; omega
    · obtain rfl : k = n2 := by omega
      have hR := Lib.hid (rootW_no' (xs := cc) (ts := C.h.t) (fun j y hj hy => hno.out j y (by omega) hy))
      clear hno
      go_wp2_with fail
      go_ret
      unfold RootPost
      exact ⟨.inr ⟨rfl, hR.out⟩, BB⟩

theorem field_color (v0 v1 v2 v3 : Value) (w : World) : (Instr.field 156 (.agg #[v0, v1, v2, v3]) 1).run Tryz.prog w = .ok v3 w := by kernel_rfl
/-- What marking leaves: the collector's variable, and the result. -/
theorem mark_done {w w3 : World} {lo g4 n4 c4 : Nat} {xs : List Int} (row : Row w3 lo (.slice (some ⟨g4, 0, none⟩) n4 c4) xs) (gr : w.grownBy w3 (some g4)) (h4 : g4 < w.heap.size) (o : Nat) (s x y z : Value) :
    Row ((((w3.setCell ⟨w.heap.size + 1, o, none⟩ s).setCell ⟨w.heap.size + 1 + 1, 0, none⟩ x).setCell ⟨w.heap.size + 1 + 1, 1, none⟩ y).setCell ⟨w.heap.size + 1 + 1, 2, none⟩ z) lo (.slice (some ⟨g4, 0, none⟩) n4 c4) xs ∧
    w.grownBy ((((w3.setCell ⟨w.heap.size + 1, o, none⟩ s).setCell ⟨w.heap.size + 1 + 1, 0, none⟩ x).setCell ⟨w.heap.size + 1 + 1, 1, none⟩ y).setCell ⟨w.heap.size + 1 + 1, 2, none⟩ z) (some g4) := by
  have own : ∀ b, w.heap.size ≤ b → (Value.slice (some ⟨g4, 0, none⟩) n4 c4).ownBlock ≠ some b := fun b hb e => by have := Option.some.inj e; simp only at this; omega
  exact ⟨(((row.other (a := ⟨w.heap.size + 1, o, none⟩) (own _ (by simp)) s).other (a := ⟨w.heap.size + 1 + 1, 0, none⟩) (own _ (by show _ ≤ w.heap.size + 1 + 1; omega)) x).other (a := ⟨w.heap.size + 1 + 1, 1, none⟩) (own _ (by show _ ≤ w.heap.size + 1 + 1; omega)) y).other (a := ⟨w.heap.size + 1 + 1, 2, none⟩) (own _ (by show _ ≤ w.heap.size + 1 + 1; omega)) z,
    grown_set (grown_set (grown_set (grown_set gr (p := ⟨w.heap.size + 1, o, none⟩) (.inr (by simp)) s) (p := ⟨w.heap.size + 1 + 1, 0, none⟩) (.inr (by show _ ≤ w.heap.size + 1 + 1; omega)) x) (p := ⟨w.heap.size + 1 + 1, 1, none⟩) (.inr (by show _ ≤ w.heap.size + 1 + 1; omega)) y) (p := ⟨w.heap.size + 1 + 1, 2, none⟩) (.inr (by show _ ≤ w.heap.size + 1 + 1; omega)) z⟩
theorem cell_keptS {w w' : World} {g : Nat} {a : Addr} {u : Value} (h : w.cell? a = some u) (hg : w.grownBy w' (some g)) (hl : a.block < w.heap.size) (hne : a.block ≠ g) : w'.cell? a = some u := by
  unfold World.cell? at h ⊢
  rw [hg.block a.block hl (fun e => hne (Option.some.inj e))]; exact h
theorem cell_other {w : World} {a p : Addr} {u : Value} (h : w.cell? a = some u) (hne : p.block ≠ a.block) (v : Value) : (w.setCell p v).cell? a = some u := by
  rw [World.cell?_setCell_far _ _ _ _ hne]; exact h
theorem Cv.lastS {w : World} {lo : Nat} {v0 v1 v2 v3 : Value} {C : Cp} (h : Cv w lo (.agg #[v0, v1, v2, v3]) C) : Row w lo v3 C.c := by
  obtain ⟨_, _, _, _, e, _, h, _⟩ := h
  cases e
  exact h

set_option maxRecDepth 100000 in
set_option maxHeartbeats 4000000 in
theorem l6Mark_any (w : World) (lo : Nat) (vs : Value) (A4 : Option Addr) (n4 c4 : Nat) (C : Cp) (cc : List Int) (h : CGv w lo vs (.agg #[.int .i64 2, .slice A4 n4 c4, .int .i64 0]) C ⟨2, cc, 0⟩) (hg : gcB C ⟨2, cc, 0⟩ = true) :
    Calls Tryz.prog 136 #[vs, .agg #[.int .i64 2, .slice A4 n4 c4, .int .i64 0]] w fun e w' => e = .returned (.agg #[.int .i64 (markG C cc).p, .slice A4 n4 c4, .int .i64 0]) ∧ Row w' lo (.slice A4 n4 c4) (markG C cc).c ∧ w.grownBy w' (Value.slice A4 n4 c4).ownBlock := by
  obtain ⟨A0, n0, c0, A1, n1, c1, A2, n2, c2, A3, n3, c3, A9, n9, c9, p, cc9, a, e9, rfl, e8, hv, hk, ⟨r0, r1, r2, r3, r4⟩, ⟨l0, l1, l2, l3, l4⟩, ⟨m0, m1, m2, m3, m4⟩⟩ := h.open_
  cases e9
  cases e8
  obtain ⟨q1, ⟨q2, q3⟩, q4, q5, q6⟩ := gcB_sizes hg
  have hvh : hvB C.h = true := (stoB_parts (gcB_iff.1 hg).1).1
  have hcv := (gcB_iff.1 hg).2.1
  dsimp only at q1 q2 q3 q4 q5 q6
  have l09 := l0.out
  have l29 := l2.out
  have l49 := l4.out
  obtain ⟨g4, rfl, hg4l, hg4, _⟩ := r4.at_ (k := 0) (by omega)
  have lt2 : ∀ g, (Value.slice A2 n2 c2).ownBlock = some g → g < w.heap.size := fun g e => (r2.lt g e).2
  have FC := fun W => field_color (.slice A0 n0 c0) (.slice A1 n1 c1) (.slice A2 n2 c2) (.slice (some ⟨g4, 0, none⟩) n4 c4) W
  have X := (((Blk4.new w (.slice A0 n0 c0) (.slice A1 n1 c1) (.slice A2 n2 c2) (.slice A3 n3 c3) 27).alloc (.cells #[.int .i64 2, .slice (some ⟨g4, 0, none⟩) n4 c4, .int .i64 0] 29)).alloc (.cells #[.int .i64 0, .slice none 0 0, .int .i64 0] 29)).alloc (.cells #[.slice A0 n0 c0, .slice A1 n1 c1, .slice A2 n2 c2, .slice (some ⟨g4, 0, none⟩) n4 c4] 156)
  have Y := ((Blk3.new_at (w := w.alloc (.cells #[.slice A0 n0 c0, .slice A1 n1 c1, .slice A2 n2 c2, .slice A3 n3 c3] 27)) (b := w.heap.size + 1) (by simp) (.int .i64 2) (.slice (some ⟨g4, 0, none⟩) n4 c4) (.int .i64 0) 29).alloc (.cells #[.int .i64 0, .slice none 0 0, .int .i64 0] 29)).alloc (.cells #[.slice A0 n0 c0, .slice A1 n1 c1, .slice A2 n2 c2, .slice (some ⟨g4, 0, none⟩) n4 c4] 156)
  have Z := (Blk3.new_at (w := (w.alloc (.cells #[.slice A0 n0 c0, .slice A1 n1 c1, .slice A2 n2 c2, .slice A3 n3 c3] 27)).alloc (.cells #[.int .i64 2, .slice (some ⟨g4, 0, none⟩) n4 c4, .int .i64 0] 29)) (b := w.heap.size + 1 + 1) (by simp) (.int .i64 0) (.slice none 0 0) (.int .i64 0) 29).alloc (.cells #[.slice A0 n0 c0, .slice A1 n1 c1, .slice A2 n2 c2, .slice (some ⟨g4, 0, none⟩) n4 c4] 156)
  have U := Blk4.new_at (w := ((w.alloc (.cells #[.slice A0 n0 c0, .slice A1 n1 c1, .slice A2 n2 c2, .slice A3 n3 c3] 27)).alloc (.cells #[.int .i64 2, .slice (some ⟨g4, 0, none⟩) n4 c4, .int .i64 0] 29)).alloc (.cells #[.int .i64 0, .slice none 0 0, .int .i64 0] 29)) (b := w.heap.size + 1 + 1 + 1) (by simp) (.slice A0 n0 c0) (.slice A1 n1 c1) (.slice A2 n2 c2) (.slice (some ⟨g4, 0, none⟩) n4 c4) 156
  have HH := (((h.alloc (.cells #[.slice A0 n0 c0, .slice A1 n1 c1, .slice A2 n2 c2, .slice A3 n3 c3] 27)).alloc (.cells #[.int .i64 2, .slice (some ⟨g4, 0, none⟩) n4 c4, .int .i64 0] 29)).alloc (.cells #[.int .i64 0, .slice none 0 0, .int .i64 0] 29)).alloc (.cells #[.slice A0 n0 c0, .slice A1 n1 c1, .slice A2 n2 c2, .slice (some ⟨g4, 0, none⟩) n4 c4] 156)
  have KK := (((hk.alloc (.cells #[.slice A0 n0 c0, .slice A1 n1 c1, .slice A2 n2 c2, .slice A3 n3 c3] 27)).alloc (.cells #[.int .i64 2, .slice (some ⟨g4, 0, none⟩) n4 c4, .int .i64 0] 29)).alloc (.cells #[.int .i64 0, .slice none 0 0, .int .i64 0] 29)).alloc (.cells #[.slice A0 n0 c0, .slice A1 n1 c1, .slice A2 n2 c2, .slice (some ⟨g4, 0, none⟩) n4 c4] 156)
  have R2 := (((r2.alloc (.cells #[.slice A0 n0 c0, .slice A1 n1 c1, .slice A2 n2 c2, .slice A3 n3 c3] 27)).alloc (.cells #[.int .i64 2, .slice (some ⟨g4, 0, none⟩) n4 c4, .int .i64 0] 29)).alloc (.cells #[.int .i64 0, .slice none 0 0, .int .i64 0] 29)).alloc (.cells #[.slice A0 n0 c0, .slice A1 n1 c1, .slice A2 n2 c2, .slice (some ⟨g4, 0, none⟩) n4 c4] 156)
  have R4 := (((r4.alloc (.cells #[.slice A0 n0 c0, .slice A1 n1 c1, .slice A2 n2 c2, .slice A3 n3 c3] 27)).alloc (.cells #[.int .i64 2, .slice (some ⟨g4, 0, none⟩) n4 c4, .int .i64 0] 29)).alloc (.cells #[.int .i64 0, .slice none 0 0, .int .i64 0] 29)).alloc (.cells #[.slice A0 n0 c0, .slice A1 n1 c1, .slice A2 n2 c2, .slice (some ⟨g4, 0, none⟩) n4 c4] 156)
  have G4 : w.grownBy ((((w.alloc (.cells #[.slice A0 n0 c0, .slice A1 n1 c1, .slice A2 n2 c2, .slice A3 n3 c3] 27)).alloc (.cells #[.int .i64 2, .slice (some ⟨g4, 0, none⟩) n4 c4, .int .i64 0] 29)).alloc (.cells #[.int .i64 0, .slice none 0 0, .int .i64 0] 29)).alloc (.cells #[.slice A0 n0 c0, .slice A1 n1 c1, .slice A2 n2 c2, .slice (some ⟨g4, 0, none⟩) n4 c4] 156)) (some g4) := grown_alloc (grown_alloc (grown_alloc (grown_alloc ⟨rfl, rfl, rfl, Nat.le_refl _, fun _ _ _ => rfl⟩ _) _) _) _
  have sz : ((((w.alloc (.cells #[.slice A0 n0 c0, .slice A1 n1 c1, .slice A2 n2 c2, .slice A3 n3 c3] 27)).alloc (.cells #[.int .i64 2, .slice (some ⟨g4, 0, none⟩) n4 c4, .int .i64 0] 29)).alloc (.cells #[.int .i64 0, .slice none 0 0, .int .i64 0] 29)).alloc (.cells #[.slice A0 n0 c0, .slice A1 n1 c1, .slice A2 n2 c2, .slice (some ⟨g4, 0, none⟩) n4 c4] 156)).heap.size = w.heap.size + 4 := by simp
  have ng0 : w.heap.size ≠ g4 := by omega
  have ng1 : w.heap.size + 1 ≠ g4 := by omega
  have ng2 : w.heap.size + 1 + 1 ≠ g4 := by omega
  have ap2 : Apart (.slice A2 n2 c2) (.slice (some ⟨g4, 0, none⟩) n4 c4) := by
    obtain ⟨_, _, _, _, _, e, e', _, _, a0, a1, a2, _⟩ := h
    cases e; cases e'; exact a2
  have P0 : Blk4 (((w.alloc (.cells #[.slice A0 n0 c0, .slice A1 n1 c1, .slice A2 n2 c2, .slice A3 n3 c3] 27)).alloc (.cells #[.int .i64 2, .slice (some ⟨g4, 0, none⟩) n4 c4, .int .i64 0] 29)).alloc (.cells #[.int .i64 0, .slice none 0 0, .int .i64 0] 29)) w.heap.size _ _ _ _ _ := ((Blk4.new w (.slice A0 n0 c0) (.slice A1 n1 c1) (.slice A2 n2 c2) (.slice A3 n3 c3) 27).alloc (.cells #[.int .i64 2, .slice (some ⟨g4, 0, none⟩) n4 c4, .int .i64 0] 29)).alloc (.cells #[.int .i64 0, .slice none 0 0, .int .i64 0] 29)
  have P1 : Blk3 (((w.alloc (.cells #[.slice A0 n0 c0, .slice A1 n1 c1, .slice A2 n2 c2, .slice A3 n3 c3] 27)).alloc (.cells #[.int .i64 2, .slice (some ⟨g4, 0, none⟩) n4 c4, .int .i64 0] 29)).alloc (.cells #[.int .i64 0, .slice none 0 0, .int .i64 0] 29)) (w.heap.size + 1) _ _ _ _ := (Blk3.new_at (w := w.alloc (.cells #[.slice A0 n0 c0, .slice A1 n1 c1, .slice A2 n2 c2, .slice A3 n3 c3] 27)) (b := w.heap.size + 1) (by simp) (.int .i64 2) (.slice (some ⟨g4, 0, none⟩) n4 c4) (.int .i64 0) 29).alloc (.cells #[.int .i64 0, .slice none 0 0, .int .i64 0] 29)
  obtain ⟨i0, i1, i2, i3, _⟩ := P0.cells
  obtain ⟨j0, j1, j2, _⟩ := P1.cells
  go_enter Tryz.func136, Tryz.ntmps136
  go_wp2_with fail
  generalize ((((w.alloc (.cells #[.slice A0 n0 c0, .slice A1 n1 c1, .slice A2 n2 c2, .slice A3 n3 c3] 27)).alloc (.cells #[.int .i64 2, .slice (some ⟨g4, 0, none⟩) n4 c4, .int .i64 0] 29)).alloc (.cells #[.int .i64 0, .slice none 0 0, .int .i64 0] 29)).alloc (.cells #[.slice A0 n0 c0, .slice A1 n1 c1, .slice A2 n2 c2, .slice (some ⟨g4, 0, none⟩) n4 c4] 156)) = W at X Y Z U HH KK R2 R4 G4 sz ⊢
  clear i0 i1 i2 i3 j0 j1 j2 P0 P1 h hv hk r0 r1 r2 r3 r4
  obtain ⟨u0, u1, u2, u3, _⟩ := U.cells
  have L1 := l3First_any W lo _ ⟨C.h, cc⟩ KK 1
  rcases first_cases cc 1 with h1 | ⟨j, h1, hj, hj1⟩
  · simp only [h1] at L1
    have RT := fun W h9 => l6Root_any W lo (.agg #[.slice A0 n0 c0, .slice A1 n1 c1, .slice A2 n2 c2, .slice A3 n3 c3]) (.agg #[.int .i64 2, .slice (some ⟨g4, 0, none⟩) n4 c4, .int .i64 0]) C ⟨2, cc, 0⟩ h9 hg
    dsimp only at RT
    have h1' := Lib.hid h1
    clear h1
    go_wp2_with fail
    refine L1.mono ?_; rintro e w1 ⟨rfl, hb1⟩
    obtain ⟨x0, x1, x2, x3, _⟩ := (X.below hb1).cells
    obtain ⟨y0, y1, y2, _⟩ := (Y.below hb1).cells
    have z1 := hb1.size
    go_wp2_with fail
    refine (RT _ (HH.below hb1)).mono ?_; rintro e w2 ⟨hrr, hb2⟩
    have X2 := (X.below hb1).below hb2
    have Y2 := (Y.below hb1).below hb2
    have Z2 := (Z.below hb1).below hb2
    have S2 := (R2.below hb1).below hb2
    have S4 := (R4.below hb1).below hb2
    have G2 := grown_of (grown_of G4 hb1) hb2
    have z2 := hb2.size
    clear X Y Z U HH KK R2 R4 hb1 hb2 u0 u1 u2 u3 x0 x1 x2 x3 y0 y1 y2 L1 RT G4
    obtain ⟨x0, x1, x2, x3, _⟩ := X2.cells
    obtain ⟨y0, y1, y2, f0, f1, f2⟩ := Y2.cells
    rcases hrr with ⟨k, x, rfl, hx, hR⟩ | ⟨rfl, hR⟩
    · have hM : Hid (markG C cc = ⟨2, shade cc x, 0⟩) := by unfold Hid markG; rw [if_pos h1'.out, hR]
      have hk2 : k < n2 := by have := (List.getElem?_eq_some_iff.1 hx).1; omega
      have hki : (k : Int) < (n2 : Int) := by omega
      obtain ⟨gt, x', rfl, _, hgt, hx', hcx, _⟩ := S2.get (k := k) (by omega)
      obtain rfl : x' = x := by have := hx'.out; rw [hx] at this; exact (Option.some.inj this).symm
      have hx1 := (hv_range hvh).2.2 x' (List.mem_of_getElem? hx)
      have K := fun W h9 => shade_any W lo g4 n4 c4 cc h9 l49 x' hx1.1 (by omega)
      have ngt : gt ≠ g4 := fun h => ap2 gt rfl (by rw [h]; rfl)
      have hgtw : gt < w.heap.size := lt2 gt rfl
      have ngt1 : w.heap.size + 1 ≠ gt := by omega
      clear h1' hR hx hx' hg
      go_wp2_with fail
      go_region_held3 (fun w' => w'.cell? ⟨w.heap.size + 1, 1, none⟩ = some (.slice (some ⟨g4, 0, none⟩) n4 c4) ∧ w'.cell? ⟨w.heap.size, 2, none⟩ = some (.slice (some ⟨gt, 0, none⟩) n2 c2) ∧ w'.cell? ⟨gt, k, none⟩ = some (.int .i64 x'))
        (((try dsimp only); (repeat' apply And.intro) <;> (with_reducible (first | exact b1 | exact d2 | exact cell_other hcx3 ngt1 _ | exact a1 | exact e2 | exact hcx3 | exact y1 | exact x2 | exact hcx | exact cellD y1 | exact cellD x2 | exact cellD hcx)) <;> done))
        (first | (go_at_call 129; (with_reducible refine (K w2.drew S4.drew).mono ?_); rintro e w3 ⟨rfl, hrow0, hO0⟩; (have hrow : Row w3 lo (.slice (some ⟨g4, 0, none⟩) n4 c4) (shade cc x') := hrow0); (have hO : w2.grownBy w3 (some g4) := ⟨hO0.1.os, hO0.1.tape, hO0.1.output, hO0.1.size, hO0.1.block⟩); (have X3 := X2.kept hO ng0); (have Y3 := Y2.kept hO ng1); (have Z3 := Z2.kept hO ng2); (have Y4 := Y3.set1 (.slice (some ⟨g4, 0, none⟩) n4 c4)); (have X4 := X3.other (p := ⟨w.heap.size + 1, 1, none⟩) (by simp) (.slice (some ⟨g4, 0, none⟩) n4 c4)); (have Z4 := Z3.other (p := ⟨w.heap.size + 1, 1, none⟩) (by simp) (.slice (some ⟨g4, 0, none⟩) n4 c4)); (obtain ⟨a0, a1, a2, aa0, aa1, aa2⟩ := Y3.cells); (obtain ⟨b0, b1, b2, _⟩ := Y4.cells); (obtain ⟨e0, e1, e2, e3, _⟩ := X3.cells); (obtain ⟨d0, d1, d2, d3, _⟩ := X4.cells); (have hcx3 := cell_keptS hcx hO hgt ngt)))
      try (rename_i hHeld; clear hHeld)
      have G3 := grown_trans G2 hO
      clear a0 a1 a2 aa0 aa1 aa2 b0 b1 b2 e0 e1 e2 e3 d0 d1 d2 d3 hcx3 hcx x0 x1 x2 x3 y0 y1 y2 f0 f1 f2
      obtain ⟨hRow, hGr⟩ := mark_done (w := w) hrow G3 hg4 1 (.slice (some ⟨g4, 0, none⟩) n4 c4) (.int .i64 2) (.slice (some ⟨g4, 0, none⟩) n4 c4) (.int .i64 0)
      obtain ⟨y0, y1, y2, f0, f1, f2⟩ := Y4.cells
      obtain ⟨z0, z1, z2, h0, h1, h2⟩ := Z4.cells
      go_wp2_with fail
      rw [hM.out]
      refine bodyPost_ret (v := .agg #[.int .i64 2, .slice (some ⟨g4, 0, none⟩) n4 c4, .int .i64 0]) ?_ rfl ⟨rfl, hRow, hGr⟩
      simp [results, Tryz.results136, go_sem, z0, z1, z2]
    · have hM : Hid (markG C cc = ⟨3, cc, 0⟩) := by unfold Hid markG; rw [if_pos h1'.out, hR]
      clear h1' hR hg
      have Y3 := Y2.set0 (.int .i64 3)
      have Z3 := Z2.other (p := ⟨w.heap.size + 1, 0, none⟩) (by simp) (.int .i64 3)
      obtain ⟨b0, b1, b2, bb0, bb1, bb2⟩ := Y3.cells
      obtain ⟨hRow, hGr⟩ := mark_done (w := w) S4 G2 hg4 0 (.int .i64 3) (.int .i64 3) (.slice (some ⟨g4, 0, none⟩) n4 c4) (.int .i64 0)
      obtain ⟨y0, y1, y2, f0, f1, f2⟩ := Y3.cells
      obtain ⟨z0, z1, z2, h0, h1, h2⟩ := Z3.cells
      go_wp2_with fail
      rw [hM.out]
      refine bodyPost_ret (v := .agg #[.int .i64 3, .slice (some ⟨g4, 0, none⟩) n4 c4, .int .i64 0]) ?_ rfl ⟨rfl, hRow, hGr⟩
      simp [results, Tryz.results136, go_sem, z0, z1, z2]
  · simp only [h1] at L1
    have hM : Hid (markG C cc = ⟨2, blackC C.h cc j, 0⟩) := by unfold Hid markG; rw [if_neg (by rw [h1]; omega), h1]; simp
    have K := fun W h9 => l3Black_any W lo A0 A1 A2 n0 c0 n1 c1 n2 c2 g4 n4 c4 ⟨C.h, cc⟩ h9 hcv j hj
    have q0 : ((j : Int) ≥ 0) := by omega
    clear h1 hg
    go_wp2_with fail
    refine L1.mono ?_; rintro e w1 ⟨rfl, hb1⟩
    obtain ⟨u0, u1, u2, u3, _⟩ := (U.below hb1).cells
    have z1 := hb1.size
    have G1 := grown_of G4 hb1
    go_wp2_with fail
    refine (K _ (KK.below hb1)).mono ?_; rintro e w2 ⟨rfl, hCv, hO⟩
    have hrow := (Cv.lastS hCv)
    have Y2 := (Y.below hb1).kept hO ng1
    have Z2 := (Z.below hb1).kept hO ng2
    have G2 := grown_trans G1 hO
    obtain ⟨y0, y1, y2, f0, f1, f2⟩ := Y2.cells
    have Y3 := Y2.set1 (.slice (some ⟨g4, 0, none⟩) n4 c4)
    have Z3 := Z2.other (p := ⟨w.heap.size + 1, 1, none⟩) (by simp) (.slice (some ⟨g4, 0, none⟩) n4 c4)
    obtain ⟨b0, b1, b2, bb0, bb1, bb2⟩ := Y3.cells
    clear u0 u1 u2 u3
    obtain ⟨hRow, hGr⟩ := mark_done (w := w) hrow G2 hg4 1 (.slice (some ⟨g4, 0, none⟩) n4 c4) (.int .i64 2) (.slice (some ⟨g4, 0, none⟩) n4 c4) (.int .i64 0)
    obtain ⟨y0, y1, y2, f0, f1, f2⟩ := Y3.cells
    obtain ⟨z0, z1, z2, h0, h1, h2⟩ := Z3.cells
    go_wp2_with fail
    rw [hM.out]
    refine bodyPost_ret (v := .agg #[.int .i64 2, .slice (some ⟨g4, 0, none⟩) n4 c4, .int .i64 0]) ?_ rfl ⟨rfl, hRow, hGr⟩
    simp [results, Tryz.results136, go_sem, z0, z1, z2]
end Go.Proofs.YtfoimicbmkiigaaGreat

