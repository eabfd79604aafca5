import Derived.Test.YtdealoclkajliaaGcs
import Derived.Test.YtdealoclkajliaaStos
import Derived.Test.YtdealoclkajliaaIStos
import Derived.Test.YtdealoclkajliaaSCols
import Derived.Test.YtdealoclkajliaaICols
import Derived.Test.YtdealoclkajliaaSrcL
/- GcValid of spec and of impl. -/
namespace Go.Proofs.Ytdealoclkajliaa
open Go.RowKit

theorem gcB_store {C : Cp} (G : Gp) (h : stoB C = false) : gcB C G = false := by unfold gcB; rw [h]; rfl
theorem gcB_color {C : Cp} {p a : Int} {cc : List Int} (h : cvB ⟨C.h, cc⟩ = false) : gcB C ⟨p, cc, a⟩ = false := by unfold gcB; rw [h]; simp
theorem gcB_phase {C : Cp} {p a : Int} {cc : List Int} (h1 : stoB C = true) (h2 : cvB ⟨C.h, cc⟩ = true) : gcB C ⟨p, cc, a⟩ = phB p a C.h.t.length C.h.l.length := by unfold gcB; rw [h1, h2]; rfl
theorem ph0 (a : Int) (nr nc : Nat) : phB 0 a nr nc = (a == 0) := by
  rw [Bool.eq_iff_iff, phB_iff, beq_iff_eq]; omega
theorem ph2 (a : Int) (nr nc : Nat) : phB 2 a nr nc = (a == 0) := by
  rw [Bool.eq_iff_iff, phB_iff, beq_iff_eq]; omega
theorem ph1 (a : Int) (nr nc : Nat) : phB 1 a nr nc = plB a nr := by
  rw [Bool.eq_iff_iff, phB_iff]; unfold plB; simp
theorem ph3 (a : Int) (nr nc : Nat) : phB 3 a nr nc = plB a nc := by
  rw [Bool.eq_iff_iff, phB_iff]; unfold plB; simp
theorem ph_neg {p a : Int} {nr nc : Nat} (h : a < 0) : phB p a nr nc = false := by
  rw [Bool.eq_false_iff]; intro h9; rw [phB_iff] at h9; omega
theorem ph_else {p a : Int} {nr nc : Nat} (h0 : p ≠ 0) (h1 : p ≠ 1) (h2 : p ≠ 2) (h3 : p ≠ 3) : phB p a nr nc = false := by
  rw [Bool.eq_false_iff]; intro h9; rw [phB_iff] at h9; omega
theorem pl_lt {a : Int} {n : Nat} (h : 0 ≤ a) : plB a n = decide (a < n) := by
  rw [Bool.eq_iff_iff, decide_eq_true_iff]; unfold plB; simp [h]
theorem colB_store {C : Cp} {cc : List Int} {n : Nat} (h1 : stoB C = true) (hn : C.h.l.length = n) {m : Nat} (hm : cc.length = m) : (cc.all colB && decide (m = n)) = cvB ⟨C.h, cc⟩ := by
  unfold cvB; simp only [(stoB_parts h1).1, hn, hm, Bool.true_and, Bool.and_comm]

set_option maxRecDepth 100000 in
set_option maxHeartbeats 2000000 in
theorem specGcValid_any (w : World) (lo : Nat) (vs vg : Value) (C : Cp) (G : Gp) (h : CGv w lo vs vg C G) : Calls Try.prog 21 #[vs, vg] w (RetB w (gcB C G)) := by
  obtain ⟨A0, n0, c0, A1, n1, c1, A2, n2, c2, A3, n3, c3, A4, n4, c4, p, cc, a, rfl, rfl, rfl, hv, hk, ⟨r0, r1, r2, r3, r4⟩, ⟨l0, l1, l2, l3, l4⟩, ⟨m0, m1, m2, m3, m4⟩⟩ := h.open_
  have X := (Blk4.new w (.slice A0 n0 c0) (.slice A1 n1 c1) (.slice A2 n2 c2) (.slice A3 n3 c3) 34).alloc (.cells #[.int .i64 p, .slice A4 n4 c4, .int .i64 a] 29)
  have Y := Blk3.new_at (w := w.alloc (.cells #[.slice A0 n0 c0, .slice A1 n1 c1, .slice A2 n2 c2, .slice A3 n3 c3] 34)) (b := w.heap.size + 1) (by simp) (.int .i64 p) (.slice A4 n4 c4) (.int .i64 a) 29
  have VV := (hv.alloc (.cells #[.slice A0 n0 c0, .slice A1 n1 c1, .slice A2 n2 c2, .slice A3 n3 c3] 34)).alloc (.cells #[.int .i64 p, .slice A4 n4 c4, .int .i64 a] 29)
  have KK := (hk.alloc (.cells #[.slice A0 n0 c0, .slice A1 n1 c1, .slice A2 n2 c2, .slice A3 n3 c3] 34)).alloc (.cells #[.int .i64 p, .slice A4 n4 c4, .int .i64 a] 29)
  have R4 := (r4.alloc (.cells #[.slice A0 n0 c0, .slice A1 n1 c1, .slice A2 n2 c2, .slice A3 n3 c3] 34)).alloc (.cells #[.int .i64 p, .slice A4 n4 c4, .int .i64 a] 29)
  have BB : Below w.heap.size w ((w.alloc (.cells #[.slice A0 n0 c0, .slice A1 n1 c1, .slice A2 n2 c2, .slice A3 n3 c3] 34)).alloc (.cells #[.int .i64 p, .slice A4 n4 c4, .int .i64 a] 29)) := ((Below.refl _ _).alloc (Nat.le_refl _) _).alloc (by simp) _
  clear hv hk r0 r1 r2 r3 r4 h
  generalize hW : (w.alloc (.cells #[.slice A0 n0 c0, .slice A1 n1 c1, .slice A2 n2 c2, .slice A3 n3 c3] 34)).alloc (.cells #[.int .i64 p, .slice A4 n4 c4, .int .i64 a] 29) = W at X Y VV KK R4 BB
  obtain ⟨i0, i1, i2, i3, _⟩ := X.cells
  obtain ⟨j0, j1, j2, _⟩ := Y.cells
  have V := specStoreValid_any _ _ _ _ VV
  have V2 := fun w1 h9 => specColoredValid_any w1 lo (.agg #[.slice A0 n0 c0, .slice A1 n1 c1, .slice A2 n2 c2, .slice A4 n4 c4]) ⟨C.h, cc⟩ h9
  rcases ev : stoB C
  · rw [ev] at V
    have hf : Hid (gcB C ⟨p, cc, a⟩ = false) := gcB_store _ ev
    clear ev V2 KK R4 Y
    go_enter Try.func21, Try.ntmps21
    go_wp2_with fail
    try rw [hW]
    refine V.mono ?_; rintro e w1 ⟨rfl, hb1⟩
    go_wp2_with fail
    go_ret
    exact ⟨ret_bool hf.out.symm, BB.trans (hb1.mono BB.size)⟩
  rw [ev] at V
  rcases e2 : cvB ⟨C.h, cc⟩
  · simp only [e2] at V2
    have hf : Hid (gcB C ⟨p, cc, a⟩ = false) := gcB_color e2
    clear ev e2 R4
    go_enter Try.func21, Try.ntmps21
    go_wp2_with fail
    try rw [hW]
    refine V.mono ?_; rintro e w1 ⟨rfl, hb1⟩
    obtain ⟨x0, x1, x2, x3, _⟩ := (X.below hb1).cells
    obtain ⟨y0, y1, y2, _⟩ := (Y.below hb1).cells
    have B1 := BB.trans (hb1.mono BB.size)
    go_wp2_with fail
    refine (V2 _ (KK.below hb1)).mono ?_; rintro e w2 ⟨rfl, hb2⟩
    go_wp2_with fail
    go_ret
    exact ⟨ret_bool hf.out.symm, B1.trans (hb2.mono B1.size)⟩
  simp only [e2] at V2
  have hf : Hid (gcB C ⟨p, cc, a⟩ = phB p a n2 n0) := by unfold Hid; rw [gcB_phase ev e2, l2.out, l0.out]
  clear ev e2 R4
  rcases Int.lt_or_le a 0 with ha | ha
  · have hg : Hid (phB p a n2 n0 = false) := ph_neg ha
    go_enter Try.func21, Try.ntmps21
    go_wp2_with fail
    try rw [hW]
    refine V.mono ?_; rintro e w1 ⟨rfl, hb1⟩
    obtain ⟨x0, x1, x2, x3, _⟩ := (X.below hb1).cells
    obtain ⟨y0, y1, y2, _⟩ := (Y.below hb1).cells
    have B1 := BB.trans (hb1.mono BB.size)
    go_wp2_with fail
    refine (V2 _ (KK.below hb1)).mono ?_; rintro e w2 ⟨rfl, hb2⟩
    obtain ⟨z0, z1, z2, z3, _⟩ := ((X.below hb1).below hb2).cells
    obtain ⟨u0, u1, u2, _⟩ := ((Y.below hb1).below hb2).cells
    have B2 := B1.trans (hb2.mono B1.size)
    go_wp2_with fail
    go_ret
    exact ⟨ret_bool (hf.out.trans hg.out).symm, B2⟩
  have ha9 : ¬ (a < 0) := by omega
  by_cases p0 : p = 0
  · subst p0
    have hg : Hid (phB 0 a n2 n0 = (a == 0)) := ph0 _ _ _
    go_enter Try.func21, Try.ntmps21
    go_wp2_with fail
    try rw [hW]
    refine V.mono ?_; rintro e w1 ⟨rfl, hb1⟩
    obtain ⟨x0, x1, x2, x3, _⟩ := (X.below hb1).cells
    obtain ⟨y0, y1, y2, _⟩ := (Y.below hb1).cells
    have B1 := BB.trans (hb1.mono BB.size)
    go_wp2_with fail
    refine (V2 _ (KK.below hb1)).mono ?_; rintro e w2 ⟨rfl, hb2⟩
    obtain ⟨z0, z1, z2, z3, _⟩ := ((X.below hb1).below hb2).cells
    obtain ⟨u0, u1, u2, _⟩ := ((Y.below hb1).below hb2).cells
    have B2 := B1.trans (hb2.mono B1.size)
    go_wp2_with fail
    go_ret
    exact ⟨ret_bool (hf.out.trans hg.out).symm, B2⟩
  by_cases p2 : p = 2
  · subst p2
    have hg : Hid (phB 2 a n2 n0 = (a == 0)) := ph2 _ _ _
    go_enter Try.func21, Try.ntmps21
    go_wp2_with fail
    try rw [hW]
    refine V.mono ?_; rintro e w1 ⟨rfl, hb1⟩
    obtain ⟨x0, x1, x2, x3, _⟩ := (X.below hb1).cells
    obtain ⟨y0, y1, y2, _⟩ := (Y.below hb1).cells
    have B1 := BB.trans (hb1.mono BB.size)
    go_wp2_with fail
    refine (V2 _ (KK.below hb1)).mono ?_; rintro e w2 ⟨rfl, hb2⟩
    obtain ⟨z0, z1, z2, z3, _⟩ := ((X.below hb1).below hb2).cells
    obtain ⟨u0, u1, u2, _⟩ := ((Y.below hb1).below hb2).cells
    have B2 := B1.trans (hb2.mono B1.size)
    go_wp2_with fail
    go_ret
    exact ⟨ret_bool (hf.out.trans hg.out).symm, B2⟩
  by_cases p1 : p = 1
  · subst p1
    have hg : Hid (phB 1 a n2 n0 = decide (a < n2)) := (ph1 _ _ _).trans (pl_lt ha)
    go_enter Try.func21, Try.ntmps21
    go_wp2_with fail
    try rw [hW]
    refine V.mono ?_; rintro e w1 ⟨rfl, hb1⟩
    obtain ⟨x0, x1, x2, x3, _⟩ := (X.below hb1).cells
    obtain ⟨y0, y1, y2, _⟩ := (Y.below hb1).cells
    have B1 := BB.trans (hb1.mono BB.size)
    go_wp2_with fail
    refine (V2 _ (KK.below hb1)).mono ?_; rintro e w2 ⟨rfl, hb2⟩
    obtain ⟨z0, z1, z2, z3, _⟩ := ((X.below hb1).below hb2).cells
    obtain ⟨u0, u1, u2, _⟩ := ((Y.below hb1).below hb2).cells
    have B2 := B1.trans (hb2.mono B1.size)
    go_wp2_with fail
    go_ret
    exact ⟨ret_bool (hf.out.trans hg.out).symm, B2⟩
  by_cases p3 : p = 3
  · subst p3
    have hg : Hid (phB 3 a n2 n0 = decide (a < n0)) := (ph3 _ _ _).trans (pl_lt ha)
    go_enter Try.func21, Try.ntmps21
    go_wp2_with fail
    try rw [hW]
    refine V.mono ?_; rintro e w1 ⟨rfl, hb1⟩
    obtain ⟨x0, x1, x2, x3, _⟩ := (X.below hb1).cells
    obtain ⟨y0, y1, y2, _⟩ := (Y.below hb1).cells
    have B1 := BB.trans (hb1.mono BB.size)
    go_wp2_with fail
    refine (V2 _ (KK.below hb1)).mono ?_; rintro e w2 ⟨rfl, hb2⟩
    obtain ⟨z0, z1, z2, z3, _⟩ := ((X.below hb1).below hb2).cells
    obtain ⟨u0, u1, u2, _⟩ := ((Y.below hb1).below hb2).cells
    have B2 := B1.trans (hb2.mono B1.size)
    go_wp2_with fail
    go_ret
    exact ⟨ret_bool (hf.out.trans hg.out).symm, B2⟩
  · have hg : Hid (phB p a n2 n0 = false) := ph_else p0 p1 p2 p3
    have q0 : (p == 0) = false := by rw [beq_eq_false_iff_ne]; exact p0
    have q1 : (p == 1) = false := by rw [beq_eq_false_iff_ne]; exact p1
    have q2 : (p == 2) = false := by rw [beq_eq_false_iff_ne]; exact p2
    have q3 : (p == 3) = false := by rw [beq_eq_false_iff_ne]; exact p3
    go_enter Try.func21, Try.ntmps21
    go_wp2_with fail
    try rw [hW]
    refine V.mono ?_; rintro e w1 ⟨rfl, hb1⟩
    obtain ⟨x0, x1, x2, x3, _⟩ := (X.below hb1).cells
    obtain ⟨y0, y1, y2, _⟩ := (Y.below hb1).cells
    have B1 := BB.trans (hb1.mono BB.size)
    go_wp2_with fail
    refine (V2 _ (KK.below hb1)).mono ?_; rintro e w2 ⟨rfl, hb2⟩
    obtain ⟨z0, z1, z2, z3, _⟩ := ((X.below hb1).below hb2).cells
    obtain ⟨u0, u1, u2, _⟩ := ((Y.below hb1).below hb2).cells
    have B2 := B1.trans (hb2.mono B1.size)
    go_wp2_with fail
    go_ret
    exact ⟨ret_bool (hf.out.trans hg.out).symm, B2⟩

set_option maxRecDepth 100000 in
set_option maxHeartbeats 2000000 in
theorem implGcValid_any (w : World) (lo : Nat) (vs vg : Value) (C : Cp) (G : Gp) (h : CGv w lo vs vg C G) : Calls Try.prog 23 #[vs, vg] w (RetB w (gcB C G)) := by
  obtain ⟨A0, n0, c0, A1, n1, c1, A2, n2, c2, A3, n3, c3, A4, n4, c4, p, cc, a, rfl, rfl, rfl, hv, hk, ⟨r0, r1, r2, r3, r4⟩, ⟨l0, l1, l2, l3, l4⟩, ⟨m0, m1, m2, m3, m4⟩⟩ := h.open_
  have X := (Blk4.new w (.slice A0 n0 c0) (.slice A1 n1 c1) (.slice A2 n2 c2) (.slice A3 n3 c3) 34).alloc (.cells #[.int .i64 p, .slice A4 n4 c4, .int .i64 a] 29)
  have Y := Blk3.new_at (w := w.alloc (.cells #[.slice A0 n0 c0, .slice A1 n1 c1, .slice A2 n2 c2, .slice A3 n3 c3] 34)) (b := w.heap.size + 1) (by simp) (.int .i64 p) (.slice A4 n4 c4) (.int .i64 a) 29
  have VV := (hv.alloc (.cells #[.slice A0 n0 c0, .slice A1 n1 c1, .slice A2 n2 c2, .slice A3 n3 c3] 34)).alloc (.cells #[.int .i64 p, .slice A4 n4 c4, .int .i64 a] 29)
  have KK := (hk.alloc (.cells #[.slice A0 n0 c0, .slice A1 n1 c1, .slice A2 n2 c2, .slice A3 n3 c3] 34)).alloc (.cells #[.int .i64 p, .slice A4 n4 c4, .int .i64 a] 29)
  have R4 := (r4.alloc (.cells #[.slice A0 n0 c0, .slice A1 n1 c1, .slice A2 n2 c2, .slice A3 n3 c3] 34)).alloc (.cells #[.int .i64 p, .slice A4 n4 c4, .int .i64 a] 29)
  have BB : Below w.heap.size w ((w.alloc (.cells #[.slice A0 n0 c0, .slice A1 n1 c1, .slice A2 n2 c2, .slice A3 n3 c3] 34)).alloc (.cells #[.int .i64 p, .slice A4 n4 c4, .int .i64 a] 29)) := ((Below.refl _ _).alloc (Nat.le_refl _) _).alloc (by simp) _
  clear hv hk r0 r1 r2 r3 r4 h
  generalize hW : (w.alloc (.cells #[.slice A0 n0 c0, .slice A1 n1 c1, .slice A2 n2 c2, .slice A3 n3 c3] 34)).alloc (.cells #[.int .i64 p, .slice A4 n4 c4, .int .i64 a] 29) = W at X Y VV KK R4 BB
  obtain ⟨i0, i1, i2, i3, _⟩ := X.cells
  obtain ⟨j0, j1, j2, _⟩ := Y.cells
  have V := implStoreValid_any _ _ _ _ VV
  have V2 := fun w1 h9 => colorsValid_any w1 lo A4 n4 c4 cc h9 l4.out m4 n0
  rcases ev : stoB C
  · rw [ev] at V
    have hf : Hid (gcB C ⟨p, cc, a⟩ = false) := gcB_store _ ev
    clear ev V2 KK R4 Y
    go_enter Try.func23, Try.ntmps23
    go_wp2_with fail
    try rw [hW]
    refine V.mono ?_; rintro e w1 ⟨rfl, hb1⟩
    go_wp2_with fail
    go_ret
    exact ⟨ret_bool hf.out.symm, BB.trans (hb1.mono BB.size)⟩
  rw [ev] at V
  simp only [colB_store ev l0.out l4.out] at V2
  rcases e2 : cvB ⟨C.h, cc⟩
  · simp only [e2] at V2
    have hf : Hid (gcB C ⟨p, cc, a⟩ = false) := gcB_color e2
    clear ev e2 KK
    go_enter Try.func23, Try.ntmps23
    go_wp2_with fail
    try rw [hW]
    refine V.mono ?_; rintro e w1 ⟨rfl, hb1⟩
    obtain ⟨x0, x1, x2, x3, _⟩ := (X.below hb1).cells
    obtain ⟨y0, y1, y2, _⟩ := (Y.below hb1).cells
    have B1 := BB.trans (hb1.mono BB.size)
    go_wp2_with fail
    refine (V2 _ (R4.below hb1)).mono ?_; rintro e w' ⟨rfl, rfl⟩
    go_wp2_with fail
    go_ret
    exact ⟨ret_bool hf.out.symm, B1⟩
  simp only [e2] at V2
  have h40 : n4 = n0 := by have h9 := (cvB_parts e2).2.1; simp only at h9; have := l4.out; have := l0.out; omega
  have hf : Hid (gcB C ⟨p, cc, a⟩ = phB p a n2 n4) := by unfold Hid; rw [gcB_phase ev e2, l2.out, l0.out, h40]
  have h40' := Lib.hid h40
  clear ev e2 KK h40
  by_cases p0 : p = 0
  · subst p0
    have hg : Hid (phB 0 a n2 n4 = (a == 0)) := ph0 _ _ _
    go_enter Try.func23, Try.ntmps23
    go_wp2_with fail
    try rw [hW]
    refine V.mono ?_; rintro e w1 ⟨rfl, hb1⟩
    obtain ⟨x0, x1, x2, x3, _⟩ := (X.below hb1).cells
    obtain ⟨y0, y1, y2, _⟩ := (Y.below hb1).cells
    have B1 := BB.trans (hb1.mono BB.size)
    go_wp2_with fail
    refine (V2 _ (R4.below hb1)).mono ?_; rintro e w' ⟨rfl, rfl⟩
    go_wp2_with fail
    go_ret
    exact ⟨ret_bool (hf.out.trans hg.out).symm, B1⟩
  by_cases p2 : p = 2
  · subst p2
    have hg : Hid (phB 2 a n2 n4 = (a == 0)) := ph2 _ _ _
    go_enter Try.func23, Try.ntmps23
    go_wp2_with fail
    try rw [hW]
    refine V.mono ?_; rintro e w1 ⟨rfl, hb1⟩
    obtain ⟨x0, x1, x2, x3, _⟩ := (X.below hb1).cells
    obtain ⟨y0, y1, y2, _⟩ := (Y.below hb1).cells
    have B1 := BB.trans (hb1.mono BB.size)
    go_wp2_with fail
    refine (V2 _ (R4.below hb1)).mono ?_; rintro e w' ⟨rfl, rfl⟩
    go_wp2_with fail
    go_ret
    exact ⟨ret_bool (hf.out.trans hg.out).symm, B1⟩
  by_cases p1 : p = 1
  · subst p1
    have hg : Hid (phB 1 a n2 n4 = plB a n2) := ph1 _ _ _
    go_enter Try.func23, Try.ntmps23
    go_wp2_with fail
    try rw [hW]
    refine V.mono ?_; rintro e w1 ⟨rfl, hb1⟩
    obtain ⟨x0, x1, x2, x3, _⟩ := (X.below hb1).cells
    obtain ⟨y0, y1, y2, _⟩ := (Y.below hb1).cells
    have B1 := BB.trans (hb1.mono BB.size)
    go_wp2_with fail
    refine (V2 _ (R4.below hb1)).mono ?_; rintro e w' ⟨rfl, rfl⟩
    go_wp2_with fail
    refine (hasPlace_any _ _ _ _ _).mono ?_; rintro e w' ⟨rfl, rfl⟩
    go_wp2_with fail
    go_ret
    exact ⟨ret_bool (hf.out.trans hg.out).symm, B1⟩
  by_cases p3 : p = 3
  · subst p3
    have hg : Hid (phB 3 a n2 n4 = plB a n4) := ph3 _ _ _
    go_enter Try.func23, Try.ntmps23
    go_wp2_with fail
    try rw [hW]
    refine V.mono ?_; rintro e w1 ⟨rfl, hb1⟩
    obtain ⟨x0, x1, x2, x3, _⟩ := (X.below hb1).cells
    obtain ⟨y0, y1, y2, _⟩ := (Y.below hb1).cells
    have B1 := BB.trans (hb1.mono BB.size)
    go_wp2_with fail
    refine (V2 _ (R4.below hb1)).mono ?_; rintro e w' ⟨rfl, rfl⟩
    go_wp2_with fail
    refine (hasPlace_any _ _ _ _ _).mono ?_; rintro e w' ⟨rfl, rfl⟩
    go_wp2_with fail
    go_ret
    exact ⟨ret_bool (hf.out.trans hg.out).symm, B1⟩
  · have hg : Hid (phB p a n2 n4 = false) := ph_else p0 p1 p2 p3
    have q0 : (p == 0) = false := by rw [beq_eq_false_iff_ne]; exact p0
    have q1 : (p == 1) = false := by rw [beq_eq_false_iff_ne]; exact p1
    have q2 : (p == 2) = false := by rw [beq_eq_false_iff_ne]; exact p2
    have q3 : (p == 3) = false := by rw [beq_eq_false_iff_ne]; exact p3
    go_enter Try.func23, Try.ntmps23
    go_wp2_with fail
    try rw [hW]
    refine V.mono ?_; rintro e w1 ⟨rfl, hb1⟩
    obtain ⟨x0, x1, x2, x3, _⟩ := (X.below hb1).cells
    obtain ⟨y0, y1, y2, _⟩ := (Y.below hb1).cells
    have B1 := BB.trans (hb1.mono BB.size)
    go_wp2_with fail
    refine (V2 _ (R4.below hb1)).mono ?_; rintro e w' ⟨rfl, rfl⟩
    go_wp2_with fail
    go_ret
    exact ⟨ret_bool (hf.out.trans hg.out).symm, B1⟩
end Go.Proofs.Ytdealoclkajliaa

/- SweptCell of spec and of impl. -/
namespace Go.Proofs.Ytdealoclkajliaa
open Go.RowKit

theorem sw_not3 {C : Cp} {p a : Int} {cc : List Int} (h : p ≠ 3) : swI C ⟨p, cc, a⟩ = -1 := by unfold swI; rw [if_neg]; rintro ⟨h9, _⟩; exact h h9
theorem sw_color {C : Cp} {p : Int} {k : Nat} {cc : List Int} {x : Int} (hx : cc[k]? = some x) (h : x ≠ 0) : swI C ⟨p, cc, (k : Int)⟩ = -1 := by
  unfold swI; rw [if_neg]; rintro ⟨_, h9, _⟩; simp at h9; rw [hx] at h9; exact h (Option.some.inj h9)
theorem sw_free {C : Cp} {p : Int} {k : Nat} {cc : List Int} (h : (k : Int) ∈ C.c) : swI C ⟨p, cc, (k : Int)⟩ = -1 := by
  unfold swI; rw [if_neg]; rintro ⟨_, _, h9⟩; exact h9 h
theorem sw_is {C : Cp} {k : Nat} {cc : List Int} (hx : cc[k]? = some 0) (h : (k : Int) ∉ C.c) : swI C ⟨3, cc, (k : Int)⟩ = (k : Int) := by
  unfold swI; rw [if_pos ⟨rfl, by simpa using hx, h⟩]

set_option maxRecDepth 100000 in
set_option maxHeartbeats 2000000 in
theorem l6Swept_any (w : World) (lo : Nat) (vs vg : Value) (C : Cp) (G : Gp) (h : CGv w lo vs vg C G) (hg : gcB C G = true) : Calls Try.prog 54 #[vs, vg] w (RetI w (swI C G)) := by
  obtain ⟨A0, n0, c0, A1, n1, c1, A2, n2, c2, A3, n3, c3, A4, n4, c4, p, cc, a, rfl, rfl, rfl, hv, hk, ⟨r0, r1, r2, r3, r4⟩, ⟨l0, l1, l2, l3, l4⟩, ⟨m0, m1, m2, m3, m4⟩⟩ := h.open_
  have X := (Blk4.new w (.slice A0 n0 c0) (.slice A1 n1 c1) (.slice A2 n2 c2) (.slice A3 n3 c3) 34).alloc (.cells #[.int .i64 p, .slice A4 n4 c4, .int .i64 a] 29)
  have Y := Blk3.new_at (w := w.alloc (.cells #[.slice A0 n0 c0, .slice A1 n1 c1, .slice A2 n2 c2, .slice A3 n3 c3] 34)) (b := w.heap.size + 1) (by simp) (.int .i64 p) (.slice A4 n4 c4) (.int .i64 a) 29
  have HH := (h.alloc (.cells #[.slice A0 n0 c0, .slice A1 n1 c1, .slice A2 n2 c2, .slice A3 n3 c3] 34)).alloc (.cells #[.int .i64 p, .slice A4 n4 c4, .int .i64 a] 29)
  have VV := (hv.alloc (.cells #[.slice A0 n0 c0, .slice A1 n1 c1, .slice A2 n2 c2, .slice A3 n3 c3] 34)).alloc (.cells #[.int .i64 p, .slice A4 n4 c4, .int .i64 a] 29)
  have R4 := (r4.alloc (.cells #[.slice A0 n0 c0, .slice A1 n1 c1, .slice A2 n2 c2, .slice A3 n3 c3] 34)).alloc (.cells #[.int .i64 p, .slice A4 n4 c4, .int .i64 a] 29)
  have R3 := (r3.alloc (.cells #[.slice A0 n0 c0, .slice A1 n1 c1, .slice A2 n2 c2, .slice A3 n3 c3] 34)).alloc (.cells #[.int .i64 p, .slice A4 n4 c4, .int .i64 a] 29)
  have BB : Below w.heap.size w ((w.alloc (.cells #[.slice A0 n0 c0, .slice A1 n1 c1, .slice A2 n2 c2, .slice A3 n3 c3] 34)).alloc (.cells #[.int .i64 p, .slice A4 n4 c4, .int .i64 a] 29)) := ((Below.refl _ _).alloc (Nat.le_refl _) _).alloc (by simp) _
  clear hv hk r0 r1 r2 r3 r4 h
  generalize hW : (w.alloc (.cells #[.slice A0 n0 c0, .slice A1 n1 c1, .slice A2 n2 c2, .slice A3 n3 c3] 34)).alloc (.cells #[.int .i64 p, .slice A4 n4 c4, .int .i64 a] 29) = W at X Y VV HH R4 R3 BB
  obtain ⟨i0, i1, i2, i3, _⟩ := X.cells
  obtain ⟨j0, j1, j2, _⟩ := Y.cells
  by_cases p3 : p = 3
  · subst p3
    have hp := phB_iff.1 (gcB_iff.1 hg).2.2
    have z1 := (gcB_sizes hg).1
    dsimp only at hp z1
    have l49 := l4.out
    have l09 := l0.out
    obtain ⟨k, rfl⟩ := Int.eq_ofNat_of_zero_le (show 0 ≤ a by omega)
    have hk4 : k < n4 := by omega
    have hki : (k : Int) < (n4 : Int) := by omega
    obtain ⟨g4, x, rfl, _, _, hx, hcx, _⟩ := R4.get (k := k) (by omega)
    clear hp z1 l49 l09 hg
    by_cases hx0 : x = 0
    · subst hx0
      by_cases hf : (k : Int) ∈ C.c
      · have hs : Hid (swI C ⟨3, cc, (k : Int)⟩ = -1) := sw_free hf
        have I := fun W h9 => l4At_in W lo A3 n3 c3 C.c h9 l3 m3 (k : Int) hf
        clear hf hx
        go_enter Try.func54, Try.ntmps54
        go_wp2_with fail
        try rw [hW]
        refine (I _ R3).mono ?_; rintro e w2 ⟨⟨j, rfl⟩, nq, rfl⟩
        have B1 := below_drewN BB nq
        go_wp2_with fail
        go_ret
        exact ⟨ret_int hs.out.symm, B1⟩
      · have hs : Hid (swI C ⟨3, cc, (k : Int)⟩ = (k : Int)) := sw_is hx.out hf
        have I := fun W h9 => l4At_not W lo A3 n3 c3 C.c h9 l3 m3 (k : Int) hf
        clear hf hx
        go_enter Try.func54, Try.ntmps54
        go_wp2_with fail
        try rw [hW]
        refine (I _ R3).mono ?_; rintro e w2 ⟨rfl, nq, rfl⟩
        have B1 := below_drewN BB nq
        have d2 := cellDN j2 nq
        go_wp2_with fail
        go_ret
        exact ⟨ret_int hs.out.symm, B1⟩
    · have hs : Hid (swI C ⟨3, cc, (k : Int)⟩ = -1) := sw_color hx.out hx0
      have qx : (x == 0) = false := by rw [beq_eq_false_iff_ne]; exact hx0
      go_enter Try.func54, Try.ntmps54
      go_wp2_with fail
      go_ret
      try rw [hW]
      exact ⟨ret_int hs.out.symm, BB⟩
  · have hs : Hid (swI C ⟨p, cc, a⟩ = -1) := sw_not3 p3
    have q3 : (p == 3) = false := by rw [beq_eq_false_iff_ne]; exact p3
    go_enter Try.func54, Try.ntmps54
    go_wp2_with fail
    go_ret
    try rw [hW]
    exact ⟨ret_int hs.out.symm, BB⟩

set_option maxRecDepth 100000 in
set_option maxHeartbeats 2000000 in
theorem specSwept_any (w : World) (lo : Nat) (vs vg : Value) (C : Cp) (G : Gp) (h : CGv w lo vs vg C G) : Calls Try.prog 26 #[vs, vg] w (RetI w (swO C G)) := by
  obtain ⟨A0, n0, c0, A1, n1, c1, A2, n2, c2, A3, n3, c3, A4, n4, c4, p, cc, a, rfl, rfl, rfl, hv, hk, ⟨r0, r1, r2, r3, r4⟩, ⟨l0, l1, l2, l3, l4⟩, ⟨m0, m1, m2, m3, m4⟩⟩ := h.open_
  have X := (Blk4.new w (.slice A0 n0 c0) (.slice A1 n1 c1) (.slice A2 n2 c2) (.slice A3 n3 c3) 34).alloc (.cells #[.int .i64 p, .slice A4 n4 c4, .int .i64 a] 29)
  have Y := Blk3.new_at (w := w.alloc (.cells #[.slice A0 n0 c0, .slice A1 n1 c1, .slice A2 n2 c2, .slice A3 n3 c3] 34)) (b := w.heap.size + 1) (by simp) (.int .i64 p) (.slice A4 n4 c4) (.int .i64 a) 29
  have HH := (h.alloc (.cells #[.slice A0 n0 c0, .slice A1 n1 c1, .slice A2 n2 c2, .slice A3 n3 c3] 34)).alloc (.cells #[.int .i64 p, .slice A4 n4 c4, .int .i64 a] 29)
  have VV := (hv.alloc (.cells #[.slice A0 n0 c0, .slice A1 n1 c1, .slice A2 n2 c2, .slice A3 n3 c3] 34)).alloc (.cells #[.int .i64 p, .slice A4 n4 c4, .int .i64 a] 29)
  have R4 := (r4.alloc (.cells #[.slice A0 n0 c0, .slice A1 n1 c1, .slice A2 n2 c2, .slice A3 n3 c3] 34)).alloc (.cells #[.int .i64 p, .slice A4 n4 c4, .int .i64 a] 29)
  have R3 := (r3.alloc (.cells #[.slice A0 n0 c0, .slice A1 n1 c1, .slice A2 n2 c2, .slice A3 n3 c3] 34)).alloc (.cells #[.int .i64 p, .slice A4 n4 c4, .int .i64 a] 29)
  have BB : Below w.heap.size w ((w.alloc (.cells #[.slice A0 n0 c0, .slice A1 n1 c1, .slice A2 n2 c2, .slice A3 n3 c3] 34)).alloc (.cells #[.int .i64 p, .slice A4 n4 c4, .int .i64 a] 29)) := ((Below.refl _ _).alloc (Nat.le_refl _) _).alloc (by simp) _
  clear hv hk r0 r1 r2 r3 r4 h
  generalize hW : (w.alloc (.cells #[.slice A0 n0 c0, .slice A1 n1 c1, .slice A2 n2 c2, .slice A3 n3 c3] 34)).alloc (.cells #[.int .i64 p, .slice A4 n4 c4, .int .i64 a] 29) = W at X Y VV HH R4 R3 BB
  obtain ⟨i0, i1, i2, i3, _⟩ := X.cells
  obtain ⟨j0, j1, j2, _⟩ := Y.cells
  have V := specGcValid_any _ _ _ _ _ _ HH
  rcases ev : gcB C ⟨p, cc, a⟩
  · rw [ev] at V
    have hs : Hid (swO C ⟨p, cc, a⟩ = -1) := by unfold Hid swO; rw [ev]; simp
    clear ev
    go_enter Try.func26, Try.ntmps26
    go_wp2_with fail
    try rw [hW]
    refine V.mono ?_; rintro e w1 ⟨rfl, hb1⟩
    go_wp2_with fail
    go_ret
    exact ⟨ret_int hs.out.symm, BB.trans (hb1.mono BB.size)⟩
  · rw [ev] at V
    have hs : Hid (swO C ⟨p, cc, a⟩ = swI C ⟨p, cc, a⟩) := by unfold Hid swO; rw [if_pos ev]
    have S := fun w1 h9 => l6Swept_any w1 lo (.agg #[.slice A0 n0 c0, .slice A1 n1 c1, .slice A2 n2 c2, .slice A3 n3 c3]) (.agg #[.int .i64 p, .slice A4 n4 c4, .int .i64 a]) C ⟨p, cc, a⟩ h9 ev
    clear ev
    go_enter Try.func26, Try.ntmps26
    go_wp2_with fail
    try rw [hW]
    refine V.mono ?_; rintro e w1 ⟨rfl, hb1⟩
    have B1 := BB.trans (hb1.mono BB.size)
    obtain ⟨x0, x1, x2, x3, _⟩ := (X.below hb1).cells
    obtain ⟨y0, y1, y2, _⟩ := (Y.below hb1).cells
    go_wp2_with fail
    refine (S _ (HH.below hb1)).mono ?_; rintro e w2 ⟨rfl, hb2⟩
    go_wp2_with fail
    go_ret
    exact ⟨ret_int hs.out.symm, B1.trans (hb2.mono B1.size)⟩

set_option maxRecDepth 100000 in
set_option maxHeartbeats 2000000 in
theorem implSwept_any (w : World) (lo : Nat) (vs vg : Value) (C : Cp) (G : Gp) (h : CGv w lo vs vg C G) : Calls Try.prog 27 #[vs, vg] w (RetI w (swO C G)) := by
  obtain ⟨A0, n0, c0, A1, n1, c1, A2, n2, c2, A3, n3, c3, A4, n4, c4, p, cc, a, rfl, rfl, rfl, hv, hk, ⟨r0, r1, r2, r3, r4⟩, ⟨l0, l1, l2, l3, l4⟩, ⟨m0, m1, m2, m3, m4⟩⟩ := h.open_
  have X := (Blk4.new w (.slice A0 n0 c0) (.slice A1 n1 c1) (.slice A2 n2 c2) (.slice A3 n3 c3) 34).alloc (.cells #[.int .i64 p, .slice A4 n4 c4, .int .i64 a] 29)
  have Y := Blk3.new_at (w := w.alloc (.cells #[.slice A0 n0 c0, .slice A1 n1 c1, .slice A2 n2 c2, .slice A3 n3 c3] 34)) (b := w.heap.size + 1) (by simp) (.int .i64 p) (.slice A4 n4 c4) (.int .i64 a) 29
  have HH := (h.alloc (.cells #[.slice A0 n0 c0, .slice A1 n1 c1, .slice A2 n2 c2, .slice A3 n3 c3] 34)).alloc (.cells #[.int .i64 p, .slice A4 n4 c4, .int .i64 a] 29)
  have VV := (hv.alloc (.cells #[.slice A0 n0 c0, .slice A1 n1 c1, .slice A2 n2 c2, .slice A3 n3 c3] 34)).alloc (.cells #[.int .i64 p, .slice A4 n4 c4, .int .i64 a] 29)
  have R4 := (r4.alloc (.cells #[.slice A0 n0 c0, .slice A1 n1 c1, .slice A2 n2 c2, .slice A3 n3 c3] 34)).alloc (.cells #[.int .i64 p, .slice A4 n4 c4, .int .i64 a] 29)
  have R3 := (r3.alloc (.cells #[.slice A0 n0 c0, .slice A1 n1 c1, .slice A2 n2 c2, .slice A3 n3 c3] 34)).alloc (.cells #[.int .i64 p, .slice A4 n4 c4, .int .i64 a] 29)
  have BB : Below w.heap.size w ((w.alloc (.cells #[.slice A0 n0 c0, .slice A1 n1 c1, .slice A2 n2 c2, .slice A3 n3 c3] 34)).alloc (.cells #[.int .i64 p, .slice A4 n4 c4, .int .i64 a] 29)) := ((Below.refl _ _).alloc (Nat.le_refl _) _).alloc (by simp) _
  clear hv hk r0 r1 r2 r3 r4 h
  generalize hW : (w.alloc (.cells #[.slice A0 n0 c0, .slice A1 n1 c1, .slice A2 n2 c2, .slice A3 n3 c3] 34)).alloc (.cells #[.int .i64 p, .slice A4 n4 c4, .int .i64 a] 29) = W at X Y VV HH R4 R3 BB
  obtain ⟨i0, i1, i2, i3, _⟩ := X.cells
  obtain ⟨j0, j1, j2, _⟩ := Y.cells
  have V := implGcValid_any _ _ _ _ _ _ HH
  rcases ev : gcB C ⟨p, cc, a⟩
  · rw [ev] at V
    have hs : Hid (swO C ⟨p, cc, a⟩ = -1) := by unfold Hid swO; rw [ev]; simp
    clear ev
    go_enter Try.func27, Try.ntmps27
    go_wp2_with fail
    try rw [hW]
    refine V.mono ?_; rintro e w1 ⟨rfl, hb1⟩
    have B1 := BB.trans (hb1.mono BB.size)
    obtain ⟨x0, x1, x2, x3, _⟩ := (X.below hb1).cells
    obtain ⟨y0, y1, y2, _⟩ := (Y.below hb1).cells
    go_wp2_with fail
    go_ret
    exact ⟨ret_int hs.out.symm, B1⟩
  rw [ev] at V
  have hs : Hid (swO C ⟨p, cc, a⟩ = swI C ⟨p, cc, a⟩) := by unfold Hid swO; rw [if_pos ev]
  have hC := (gcB_iff.1 ev).1
  by_cases p3 : p = 3
  · subst p3
    have hp := phB_iff.1 (gcB_iff.1 ev).2.2
    have z1 := (gcB_sizes ev).1
    dsimp only at hp z1
    have l49 := l4.out
    have l09 := l0.out
    obtain ⟨k, rfl⟩ := Int.eq_ofNat_of_zero_le (show 0 ≤ a by omega)
    have hk4 : k < n4 := by omega
    have hki : (k : Int) < (n4 : Int) := by omega
    obtain ⟨g4, x, rfl, _, _, hx, _, _⟩ := R4.get (k := k) (by omega)
    have Q4 := fun w1 (hb : Below W.heap.size W w1) => (Row.below R4 hb).get (k := k) (by omega)
    clear hp z1 l49 l09 ev
    by_cases hx0 : x = 0
    · subst hx0
      have hFr : Hid (isFreeB C (k : Int) = decide ((k : Int) ∈ C.c)) := by unfold Hid isFreeB; rw [hC]; rfl
      have I := fun w1 h9 => implIsFree_any w1 lo (.agg #[.slice A0 n0 c0, .slice A1 n1 c1, .slice A2 n2 c2, .slice A3 n3 c3]) C h9 (k : Int)
      simp only [hFr.out] at I
      by_cases hf : (k : Int) ∈ C.c
      · have hs2 : Hid (swI C ⟨3, cc, (k : Int)⟩ = -1) := sw_free hf
        simp only [decide_eq_true hf] at I
        clear hf
        go_enter Try.func27, Try.ntmps27
        go_wp2_with fail
        try rw [hW]
        refine V.mono ?_; rintro e w1 ⟨rfl, hb1⟩
        have B1 := BB.trans (hb1.mono BB.size)
        obtain ⟨x0, x1, x2, x3, _⟩ := (X.below hb1).cells
        obtain ⟨y0, y1, y2, _⟩ := (Y.below hb1).cells
        obtain ⟨_, x', e9, _, _, hx', hcx, _⟩ := Q4 _ hb1
        cases e9
        obtain rfl : x' = 0 := by have a1 := hx.out; have a2 := hx'.out; rw [a1] at a2; exact (Option.some.inj a2).symm
        clear hx hx'
        go_wp2_with fail
        refine (I _ (VV.below hb1)).mono ?_; rintro e w2 ⟨rfl, hb2⟩
        go_wp2_with fail
        go_ret
        exact ⟨ret_int (hs.out.trans hs2.out).symm, B1.trans (hb2.mono B1.size)⟩
      · have hs2 : Hid (swI C ⟨3, cc, (k : Int)⟩ = (k : Int)) := sw_is hx.out hf
        simp only [decide_eq_false hf] at I
        clear hf
        go_enter Try.func27, Try.ntmps27
        go_wp2_with fail
        try rw [hW]
        refine V.mono ?_; rintro e w1 ⟨rfl, hb1⟩
        have B1 := BB.trans (hb1.mono BB.size)
        obtain ⟨x0, x1, x2, x3, _⟩ := (X.below hb1).cells
        obtain ⟨y0, y1, y2, _⟩ := (Y.below hb1).cells
        obtain ⟨_, x', e9, _, _, hx', hcx, _⟩ := Q4 _ hb1
        cases e9
        obtain rfl : x' = 0 := by have a1 := hx.out; have a2 := hx'.out; rw [a1] at a2; exact (Option.some.inj a2).symm
        clear hx hx'
        go_wp2_with fail
        refine (I _ (VV.below hb1)).mono ?_; rintro e w2 ⟨rfl, hb2⟩
        obtain ⟨u0, u1, u2, _⟩ := ((Y.below hb1).below hb2).cells
        have B2 := B1.trans (hb2.mono B1.size)
        go_wp2_with fail
        go_ret
        exact ⟨ret_int (hs.out.trans hs2.out).symm, B2⟩
    · have hs2 : Hid (swI C ⟨3, cc, (k : Int)⟩ = -1) := sw_color hx.out hx0
      go_enter Try.func27, Try.ntmps27
      go_wp2_with fail
      try rw [hW]
      refine V.mono ?_; rintro e w1 ⟨rfl, hb1⟩
      have B1 := BB.trans (hb1.mono BB.size)
      obtain ⟨x0, x1, x2, x3, _⟩ := (X.below hb1).cells
      obtain ⟨y0, y1, y2, _⟩ := (Y.below hb1).cells
      obtain ⟨_, x', e9, _, _, hx', hcx, _⟩ := Q4 _ hb1
      cases e9
      obtain rfl : x' = x := by have a1 := hx.out; have a2 := hx'.out; rw [a1] at a2; exact (Option.some.inj a2).symm
      have qx : (x' == 0) = false := by rw [beq_eq_false_iff_ne]; exact hx0
      have qx2 : (x' != 0) = true := by simp [bne, qx]
      clear hx hx'
      go_wp2_with fail
      go_ret
      exact ⟨ret_int (hs.out.trans hs2.out).symm, B1⟩
  · have hs2 : Hid (swI C ⟨p, cc, a⟩ = -1) := sw_not3 p3
    have q3 : (p == 3) = false := by rw [beq_eq_false_iff_ne]; exact p3
    have q32 : (p != 3) = true := by simp [bne, q3]
    go_enter Try.func27, Try.ntmps27
    go_wp2_with fail
    try rw [hW]
    refine V.mono ?_; rintro e w1 ⟨rfl, hb1⟩
    have B1 := BB.trans (hb1.mono BB.size)
    obtain ⟨x0, x1, x2, x3, _⟩ := (X.below hb1).cells
    obtain ⟨y0, y1, y2, _⟩ := (Y.below hb1).cells
    go_wp2_with fail
    go_ret
    exact ⟨ret_int (hs.out.trans hs2.out).symm, B1⟩
end Go.Proofs.Ytdealoclkajliaa

