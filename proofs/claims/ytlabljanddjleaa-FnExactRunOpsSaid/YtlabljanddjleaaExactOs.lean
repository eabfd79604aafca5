import Derived.Test.YtlabljanddjleaaExacts
import Derived.Test.YtlabljanddjleaaSFree
import Derived.Test.YtlabljanddjleaaSNewS
import Derived.Test.YtlabljanddjleaaOp
import Derived.Test.YtlabljanddjleaaSDoH
import Derived.Test.YtlabljanddjleaaSPopH
import Derived.Deep.CutRange
import Derived.Test.YtlabljanddjleaaExactR
import Derived.Test.YtlabljanddjleaaOps
/- The helpers of the exact laws over colored heaps: szColored, toColored, eqColored, markColored, heldColored. -/
namespace Go.Proofs.Ytlabljanddjleaa
open Go.RowKit

set_option maxHeartbeats 1000000 in
theorem szColored_any (w : World) (A0 A1 A2 A3 : Option Addr) (n0 c0 n1 c1 n2 c2 n3 c3 : Nat) (left : Int) (h0 : 0 ≤ left) (h1 : left ≤ 1048576) (b0 : n0 ≤ 9223372036854775807) (b1 : n1 ≤ 9223372036854775807) (b2 : n2 ≤ 9223372036854775807) (b3 : n3 ≤ 9223372036854775807) :
    Calls Try.prog 11 #[.agg #[.slice A0 n0 c0, .slice A1 n1 c1, .slice A2 n2 c2, .slice A3 n3 c3], .int .i64 left] w (RetI w (szV (n0 + n1 + n2 + n3) left)) := by
  have fin : Below w.heap.size w (w.alloc (.cells #[.slice A0 n0 c0, .slice A1 n1 c1, .slice A2 n2 c2, .slice A3 n3 c3] 32)) := (Below.refl _ _).alloc (Nat.le_refl _) _
  have S := szHeap_any (w.alloc (.cells #[.slice A0 n0 c0, .slice A1 n1 c1, .slice A2 n2 c2, .slice A3 n3 c3] 32)) A0 A1 A2 n0 c0 n1 c1 n2 c2 left h0 h1 b0 b1 b2
  have X := Blk4.new w (.slice A0 n0 c0) (.slice A1 n1 c1) (.slice A2 n2 c2) (.slice A3 n3 c3) 32
  by_cases e : ((n0 + n1 + n2 : Nat) : Int) ≤ left
  · have f : szV (n0 + n1 + n2) left = left - ((n0 + n1 + n2 : Nat) : Int) := by unfold szV; rw [if_pos e]
    rw [f] at S
    have u0 : 0 ≤ left - ((n0 + n1 + n2 : Nat) : Int) := by omega
    have u1 : left - ((n0 + n1 + n2 : Nat) : Int) ≤ 1048576 := by omega
    have hT : Hid (szV (n0 + n1 + n2 + n3) left = szV n3 (left - ((n0 + n1 + n2 : Nat) : Int))) := by
      unfold Hid szV; by_cases h9 : (n3 : Int) ≤ left - ((n0 + n1 + n2 : Nat) : Int)
      · rw [if_pos h9, if_pos (by omega)]; omega
      · rw [if_neg h9, if_neg (by omega)]
    clear f e
    generalize left - ((n0 + n1 + n2 : Nat) : Int) = lf at *
    have g0 : ¬ (lf < 0) := by omega
    have S3 := fun W => szIntS_any W A3 n3 c3 lf u0 u1 b3
    by_cases e3 : (n3 : Int) ≤ lf
    · have f3 : szV n3 lf = lf - n3 := by unfold szV; rw [if_pos e3]
      rw [f3] at S3 hT
      have g1 : ¬ (lf - n3 < 0) := by omega
      clear f3 e3
      go_enter Try.func11, Try.ntmps11
      go_wp2_with fail
      refine S.mono ?_; rintro e w1 ⟨rfl, hb1⟩
      obtain ⟨x0, x1, x2, x3, _⟩ := (Blk4.below (by exact X) hb1).cells
      have B1 := fin.trans (hb1.mono (by simp))
      clear S X
      go_wp2_with fail
      refine (S3 _).mono ?_; rintro e w' ⟨rfl, rfl⟩
      go_wp2_with fail
      go_ret
      exact ⟨ret_int hT.out.symm, B1⟩
    · have f3 : szV n3 lf = -1 := by unfold szV; rw [if_neg e3]
      rw [f3] at S3 hT
      clear f3 e3
      go_enter Try.func11, Try.ntmps11
      go_wp2_with fail
      refine S.mono ?_; rintro e w1 ⟨rfl, hb1⟩
      obtain ⟨x0, x1, x2, x3, _⟩ := (Blk4.below (by exact X) hb1).cells
      have B1 := fin.trans (hb1.mono (by simp))
      clear S X
      go_wp2_with fail
      refine (S3 _).mono ?_; rintro e w' ⟨rfl, rfl⟩
      go_wp2_with fail
      go_ret
      exact ⟨ret_int hT.out.symm, B1⟩
  · have f : szV (n0 + n1 + n2) left = -1 := by unfold szV; rw [if_neg e]
    rw [f] at S
    have hT : Hid (szV (n0 + n1 + n2 + n3) left = -1) := by unfold Hid szV; rw [if_neg (by omega)]
    clear f e
    go_enter Try.func11, Try.ntmps11
    go_wp2_with fail
    refine S.mono ?_; rintro e w1 ⟨rfl, hb1⟩
    have B1 := fin.trans (hb1.mono (by simp))
    go_wp2_with fail
    go_ret
    exact ⟨ret_int hT.out.symm, B1⟩

/-- A colored heap that is an argument. -/
def CArg (w : World) (B : Nat) (v : Value) (C : Cp) : Prop :=
  ∃ A0 c0 A1 c1 A2 c2 A3 c3, v = .agg #[.slice A0 C.h.l.length c0, .slice A1 C.h.r.length c1, .slice A2 C.h.t.length c2, .slice A3 C.c.length c3] ∧ Ints w B A0 C.h.l.length C.h.l ∧ Ints w B A1 C.h.r.length C.h.r ∧ Ints w B A2 C.h.t.length C.h.t ∧ Ints w B A3 C.c.length C.c
theorem CArg.below {w w' : World} {B : Nat} {v : Value} {C : Cp} (hv : CArg w B v C) (hb : Below B w w') : CArg w' B v C := by
  obtain ⟨A0, c0, A1, c1, A2, c2, A3, c3, rfl, h0, h1, h2, h3⟩ := hv
  exact ⟨A0, c0, A1, c1, A2, c2, A3, c3, rfl, h0.below hb, h1.below hb, h2.below hb, h3.below hb⟩
theorem CArg.alloc {w : World} {B : Nat} {v : Value} {C : Cp} (hv : CArg w B v C) (hB : B ≤ w.heap.size) (o : Obj) : CArg (w.alloc o) B v C := hv.below ((Below.refl _ _).alloc hB _)
theorem CArg.drew {w : World} {B : Nat} {v : Value} {C : Cp} (hv : CArg w B v C) : CArg w.drew B v C := hv
/-- .. and that its rows are not longer than a row can be. -/
def CIn (w : World) (v : Value) (C : Cp) : Prop := CArg w w.heap.size v C ∧ (C.h.l.length ≤ 9223372036854775807 ∧ C.h.r.length ≤ 9223372036854775807 ∧ C.h.t.length ≤ 9223372036854775807 ∧ C.c.length ≤ 9223372036854775807)

/-- The heap part of a variable was stored. -/
theorem Blk4.set012 {w : World} {b : Nat} {x y z u : Value} {t : TypeId} (h : Blk4 w b x y z u t) (x' y' z' : Value) : Blk4 (((w.setCell ⟨b, 0, none⟩ x').setCell ⟨b, 1, none⟩ y').setCell ⟨b, 2, none⟩ z') b x' y' z' u t := by
  unfold Blk4 at h ⊢; simp [World.setCell, Array.getElem?_modify, h]
theorem Hv.low3 {w : World} {lo b : Nat} {v : Value} {h : Hp} (hv : Hv w lo v h) (hb : b < lo) (x y z : Value) : Hv (((w.setCell ⟨b, 0, none⟩ x).setCell ⟨b, 1, none⟩ y).setCell ⟨b, 2, none⟩ z) lo v h :=
  ((hv.low_set (p := ⟨b, 0, none⟩) hb x).low_set (p := ⟨b, 1, none⟩) hb y).low_set (p := ⟨b, 2, none⟩) hb z
theorem size3 (w : World) (b : Nat) (x y z : Value) : (((w.setCell ⟨b, 0, none⟩ x).setCell ⟨b, 1, none⟩ y).setCell ⟨b, 2, none⟩ z).heap.size = w.heap.size := by simp [World.setCell]

set_option maxRecDepth 100000 in
set_option maxHeartbeats 2000000 in
theorem toColored_any (w : World) (B : Nat) (hBw : B ≤ w.heap.size) (v : Value) (C : Cp) (hv : CArg w B v C) (b0 : C.h.l.length ≤ 1048576) (b1 : C.h.r.length ≤ 1048576) (b2 : C.h.t.length ≤ 1048576) (b3 : C.c.length ≤ 1048576) :
    Calls Try.prog 13 #[v] w (NewCv w C) := by
  obtain ⟨A0, c0, A1, c1, A2, c2, A3, c3, rfl, h0, h1, h2, h3⟩ := hv
  have X := ((Blk4.new w (.slice A0 C.h.l.length c0) (.slice A1 C.h.r.length c1) (.slice A2 C.h.t.length c2) (.slice A3 C.c.length c3) 32).alloc (.cells #[.slice none 0 0, .slice none 0 0, .slice none 0 0, .slice none 0 0] 36)).alloc (.cells #[.slice none 0 0, .slice none 0 0, .slice none 0 0, .slice none 0 0] 36)
  have Y := (Blk4.new_at (w := w.alloc (.cells #[.slice A0 C.h.l.length c0, .slice A1 C.h.r.length c1, .slice A2 C.h.t.length c2, .slice A3 C.c.length c3] 32)) (b := w.heap.size + 1) (by simp) (.slice none 0 0) (.slice none 0 0) (.slice none 0 0) (.slice none 0 0) 36).alloc (.cells #[.slice none 0 0, .slice none 0 0, .slice none 0 0, .slice none 0 0] 36)
  have Z := Blk4.new_at (w := (w.alloc (.cells #[.slice A0 C.h.l.length c0, .slice A1 C.h.r.length c1, .slice A2 C.h.t.length c2, .slice A3 C.c.length c3] 32)).alloc (.cells #[.slice none 0 0, .slice none 0 0, .slice none 0 0, .slice none 0 0] 36)) (b := w.heap.size + 2) (by simp) (.slice none 0 0) (.slice none 0 0) (.slice none 0 0) (.slice none 0 0) 36
  have fin : Below w.heap.size w (((w.alloc (.cells #[.slice A0 C.h.l.length c0, .slice A1 C.h.r.length c1, .slice A2 C.h.t.length c2, .slice A3 C.c.length c3] 32)).alloc (.cells #[.slice none 0 0, .slice none 0 0, .slice none 0 0, .slice none 0 0] 36)).alloc (.cells #[.slice none 0 0, .slice none 0 0, .slice none 0 0, .slice none 0 0] 36)) := (((Below.refl _ _).alloc (Nat.le_refl _) _).alloc (by simp) _).alloc (by simp <;> omega) _
  have sz : (((w.alloc (.cells #[.slice A0 C.h.l.length c0, .slice A1 C.h.r.length c1, .slice A2 C.h.t.length c2, .slice A3 C.c.length c3] 32)).alloc (.cells #[.slice none 0 0, .slice none 0 0, .slice none 0 0, .slice none 0 0] 36)).alloc (.cells #[.slice none 0 0, .slice none 0 0, .slice none 0 0, .slice none 0 0] 36)).heap.size = w.heap.size + 3 := by simp
  have HA : HArg (((w.alloc (.cells #[.slice A0 C.h.l.length c0, .slice A1 C.h.r.length c1, .slice A2 C.h.t.length c2, .slice A3 C.c.length c3] 32)).alloc (.cells #[.slice none 0 0, .slice none 0 0, .slice none 0 0, .slice none 0 0] 36)).alloc (.cells #[.slice none 0 0, .slice none 0 0, .slice none 0 0, .slice none 0 0] 36)) w.heap.size (.agg #[.slice A0 C.h.l.length c0, .slice A1 C.h.r.length c1, .slice A2 C.h.t.length c2]) C.h := ⟨_, _, _, _, _, _, rfl, (h0.below (fin.mono hBw)).mono hBw, (h1.below (fin.mono hBw)).mono hBw, (h2.below (fin.mono hBw)).mono hBw⟩
  have i3 := (h3.below (fin.mono hBw)).mono hBw
  clear h0 h1 h2 h3
  go_enter Try.func13, Try.ntmps13
  go_wp2_with fail
  generalize ((w.alloc (.cells #[.slice A0 C.h.l.length c0, .slice A1 C.h.r.length c1, .slice A2 C.h.t.length c2, .slice A3 C.c.length c3] 32)).alloc (.cells #[.slice none 0 0, .slice none 0 0, .slice none 0 0, .slice none 0 0] 36)).alloc (.cells #[.slice none 0 0, .slice none 0 0, .slice none 0 0, .slice none 0 0] 36) = W at X Y Z fin sz HA i3 ⊢
  obtain ⟨x0, x1, x2, x3, _⟩ := X.cells
  obtain ⟨q0, q1, q2, q3, k0, k1, k2, k3⟩ := Z.cells
  generalize hl0 : C.h.l.length = n0 at *
  generalize hl1 : C.h.r.length = n1 at *
  generalize hl2 : C.h.t.length = n2 at *
  generalize hl3 : C.c.length = n3 at *
  have L3 := Lib.hid hl3
  have T0 := toHeap_any W w.heap.size fin.size _ C.h HA (by omega) (by omega) (by omega)
  clear hl0 hl1 hl2 hl3
  go_wp2_with fail
  refine T0.mono ?_; rintro e w1 ⟨vv, rfl, HN, hb1⟩
  have HNo := HN
  obtain ⟨B0, u0, e0, B1, u1, e1, B2, u2, e2, rfl, _⟩ := HNo.open_
  have z1 := hb1.size
  have fin1 := fin.trans (hb1.mono (by omega))
  have X1 := ((((X.below hb1).other (p := ⟨w.heap.size + 2, 0, none⟩) (by simp) (.slice B0 u0 e0)).other (p := ⟨w.heap.size + 2, 1, none⟩) (by simp) (.slice B1 u1 e1)).other (p := ⟨w.heap.size + 2, 2, none⟩) (by simp) (.slice B2 u2 e2))
  have Y1 := ((((Y.below hb1).other (p := ⟨w.heap.size + 2, 0, none⟩) (by simp) (.slice B0 u0 e0)).other (p := ⟨w.heap.size + 2, 1, none⟩) (by simp) (.slice B1 u1 e1)).other (p := ⟨w.heap.size + 2, 2, none⟩) (by simp) (.slice B2 u2 e2))
  have Z0 := Z.below hb1
  have Z1 := Z0.set012 (.slice B0 u0 e0) (.slice B1 u1 e1) (.slice B2 u2 e2)
  have HN1 := HN.low3 (b := w.heap.size + 2) (by omega) (.slice B0 u0 e0) (.slice B1 u1 e1) (.slice B2 u2 e2)
  have bs : Below w.heap.size w1 (((w1.setCell ⟨w.heap.size + 2, 0, none⟩ (.slice B0 u0 e0)).setCell ⟨w.heap.size + 2, 1, none⟩ (.slice B1 u1 e1)).setCell ⟨w.heap.size + 2, 2, none⟩ (.slice B2 u2 e2)) := (((Below.refl _ _).setCell (by simp) _).setCell (by simp) _).setCell (by simp) _
  have s1 := size3 w1 (w.heap.size + 2) (.slice B0 u0 e0) (.slice B1 u1 e1) (.slice B2 u2 e2)
  have j3 := ((i3.below (hb1.mono (by omega))).below bs)
  have fin2 := fin1.trans bs
  obtain ⟨p0, p1, p2, p3, _⟩ := (X.below hb1).cells
  obtain ⟨r0, r1, r2, r3, m0, m1, m2, m3⟩ := Z0.cells
  go_wp2_with fail
  generalize ((w1.setCell ⟨w.heap.size + 2, 0, none⟩ (.slice B0 u0 e0)).setCell ⟨w.heap.size + 2, 1, none⟩ (.slice B1 u1 e1)).setCell ⟨w.heap.size + 2, 2, none⟩ (.slice B2 u2 e2) = W1 at X1 Y1 Z1 HN1 j3 fin2 s1 bs ⊢
  obtain ⟨t0, t1, t2, t3, _⟩ := X1.cells
  have T1 := toIntS_any W1 A3 n3 c3 C.c (j3.mono (by omega)) b3
  clear X Y Z Z0 x0 x1 x2 x3 q0 q1 q2 q3 k0 k1 k2 k3 p0 p1 p2 p3 r0 r1 r2 r3 m0 m1 m2 m3 T0
  go_wp2_with fail
  refine T1.mono ?_; rintro e w2 ⟨B3, e3, rfl, r3n, hb2⟩
  have Y2 := (Y1.below hb2).other (p := ⟨w.heap.size + 2, 3, none⟩) (by simp) (.slice B3 C.c.length e3)
  have Z2 := Z1.below hb2
  have Z3 := Z2.set3 (.slice B3 C.c.length e3)
  have HN2 := (HN1.below hb2).low_set (p := ⟨w.heap.size + 2, 3, none⟩) (by simp; omega) (.slice B3 C.c.length e3)
  have R3 := (r3n.other (a := ⟨w.heap.size + 2, 3, none⟩) (fun e => by have := (r3n.lt _ e).1; simp at this; omega) (.slice B3 C.c.length e3)).mono (lo' := w.heap.size + 2) (by omega)
  have fin3 := (fin2.trans (hb2.mono (by omega))).setCell (p := ⟨w.heap.size + 2, 3, none⟩) (by simp) (.slice B3 C.c.length e3)
  have ap : ∀ (v : Value) (xs : List Int), Row w1 W.heap.size v xs → Apart v (.slice B3 C.c.length e3) := fun v xs r j e e' => by
    have h1 := (r.lt j e).2
    have h2 := (r3n.lt j e').1
    omega
  obtain ⟨_, _, _, ev, H0, H1, H2, _⟩ := HN
  cases ev
  obtain ⟨hH, hB⟩ := copyC_done (w := w) (C := C) (HN2.mono (by omega)) R3 ⟨ap _ _ H0, ap _ _ H1, ap _ _ H2⟩ fin3
  obtain ⟨y0, y1, y2, y3, f0, f1, f2, f3⟩ := Y2.cells
  obtain ⟨r0, r1, r2, r3, m0, m1, m2, m3⟩ := Z2.cells
  obtain ⟨q0, q1, q2, q3, _⟩ := Z3.cells
  clear X1 Y1 Z1 Z2 Z3 HN1 HN2 T1
  go_wp2_with fail
  refine bodyPost_ret (v := .agg #[.slice B0 u0 e0, .slice B1 u1 e1, .slice B2 u2 e2, .slice B3 C.c.length e3]) ?_ rfl ⟨_, rfl, hH, hB⟩
  simp [results, Try.results13, go_sem, y0, y1, y2, y3]

set_option maxHeartbeats 1000000 in
theorem eqColored_any (w : World) (lo lo' : Nat) (v v' : Value) (a b : Cp) (hv : Cv w lo v a) (hv' : Cv w lo' v' b) : Calls Try.prog 15 #[v, v'] w (RetB w (sameC a b)) := by
  obtain ⟨A0, n0, c0, A1, n1, c1, A2, n2, c2, A3, n3, c3, rfl, hh, ⟨_, _, _, r3⟩, ⟨_, _, _, l3⟩, ⟨_, _, _, m3⟩, _⟩ := hv.open_
  obtain ⟨A0', n0', c0', A1', n1', c1', A2', n2', c2', A3', n3', c3', rfl, hh', ⟨_, _, _, r3'⟩, ⟨_, _, _, l3'⟩, ⟨_, _, _, m3'⟩, _⟩ := hv'.open_
  have X0 := (Blk4.new w (.slice A0 n0 c0) (.slice A1 n1 c1) (.slice A2 n2 c2) (.slice A3 n3 c3) 36).alloc (.cells #[.slice A0' n0' c0', .slice A1' n1' c1', .slice A2' n2' c2', .slice A3' n3' c3'] 36)
  have Y0 := Blk4.new_at (w := w.alloc (.cells #[.slice A0 n0 c0, .slice A1 n1 c1, .slice A2 n2 c2, .slice A3 n3 c3] 36)) (b := w.heap.size + 1) (by simp) (.slice A0' n0' c0') (.slice A1' n1' c1') (.slice A2' n2' c2') (.slice A3' n3' c3') 36
  have H := (hh.alloc (.cells #[.slice A0 n0 c0, .slice A1 n1 c1, .slice A2 n2 c2, .slice A3 n3 c3] 36)).alloc (.cells #[.slice A0' n0' c0', .slice A1' n1' c1', .slice A2' n2' c2', .slice A3' n3' c3'] 36)
  have H' := (hh'.alloc (.cells #[.slice A0 n0 c0, .slice A1 n1 c1, .slice A2 n2 c2, .slice A3 n3 c3] 36)).alloc (.cells #[.slice A0' n0' c0', .slice A1' n1' c1', .slice A2' n2' c2', .slice A3' n3' c3'] 36)
  have R := (r3.alloc (.cells #[.slice A0 n0 c0, .slice A1 n1 c1, .slice A2 n2 c2, .slice A3 n3 c3] 36)).alloc (.cells #[.slice A0' n0' c0', .slice A1' n1' c1', .slice A2' n2' c2', .slice A3' n3' c3'] 36)
  have R' := (r3'.alloc (.cells #[.slice A0 n0 c0, .slice A1 n1 c1, .slice A2 n2 c2, .slice A3 n3 c3] 36)).alloc (.cells #[.slice A0' n0' c0', .slice A1' n1' c1', .slice A2' n2' c2', .slice A3' n3' c3'] 36)
  have fin : Below w.heap.size w ((w.alloc (.cells #[.slice A0 n0 c0, .slice A1 n1 c1, .slice A2 n2 c2, .slice A3 n3 c3] 36)).alloc (.cells #[.slice A0' n0' c0', .slice A1' n1' c1', .slice A2' n2' c2', .slice A3' n3' c3'] 36)) := ((Below.refl _ _).alloc (Nat.le_refl _) _).alloc (by simp) _
  have S := eqHeap_any _ _ _ _ _ _ _ H H'
  go_enter Try.func15, Try.ntmps15
  go_wp2_with fail
  generalize (w.alloc (.cells #[.slice A0 n0 c0, .slice A1 n1 c1, .slice A2 n2 c2, .slice A3 n3 c3] 36)).alloc (.cells #[.slice A0' n0' c0', .slice A1' n1' c1', .slice A2' n2' c2', .slice A3' n3' c3'] 36) = W at X0 Y0 H H' R R' fin S ⊢
  rcases es : sameB a.h b.h
  · rw [es] at S
    have hf : Hid (sameC a b = false) := by unfold Hid sameC; rw [es]; rfl
    clear es
    refine S.mono ?_; rintro e w1 ⟨rfl, hb1⟩
    go_wp2_with fail
    go_ret
    exact ⟨ret_bool hf.out.symm, fin.trans (hb1.mono fin.size)⟩
  · rw [es] at S
    have hf : Hid (sameC a b = decide (a.c = b.c)) := by unfold Hid sameC; rw [es]; rfl
    clear es
    refine S.mono ?_; rintro e w1 ⟨rfl, hb1⟩
    obtain ⟨x0, x1, x2, x3, _⟩ := (X0.below hb1).cells
    obtain ⟨y0, y1, y2, y3, _⟩ := (Y0.below hb1).cells
    have E := eqIntS_any w1 _ _ _ _ _ _ _ _ _ _ (R.below hb1) l3.out m3 (R'.below hb1) l3'.out m3'
    have B1 := fin.trans (hb1.mono fin.size)
    clear S H H' X0 Y0 R R'
    rcases eq : decide (a.c = b.c)
    all_goals
      rw [eq] at E hf
      clear eq
      go_wp2_with fail
      refine E.mono ?_; rintro e w2 ⟨rfl, q0, rfl⟩
      go_wp2_with fail
      go_ret
      exact ⟨ret_bool hf.out.symm, below_drewN B1 _⟩
theorem eqColored_same (w : World) (lo lo' : Nat) (v v' : Value) (a : Cp) (hv : Cv w lo v a) (hv' : Cv w lo' v' a) : Calls Try.prog 15 #[v, v'] w (RetB w true) := by
  have E := eqColored_any w lo lo' v v' a a hv hv'
  rwa [sameC_self] at E

def markC (k : Nat) (C : Cp) : Cp := ⟨markH k C.h, seqI (k + sizeH C.h) C.c.length⟩
def sizeC (C : Cp) : Nat := sizeH C.h + C.c.length
/-- Block b is none of the colored heap's own. -/
def NotC (v : Value) (b : Nat) : Prop := ∀ v0 v1 v2 v3, v = .agg #[v0, v1, v2, v3] → some b ≠ v0.ownBlock ∧ some b ≠ v1.ownBlock ∧ some b ≠ v2.ownBlock ∧ some b ≠ v3.ownBlock
/-- A colored heap was marked: the number is N; below lo, and in every block that is not its own, nothing has turned. -/
def MarkedC (w : World) (lo k : Nat) (N : Int) (v : Value) (C : Cp) (e : Ending) (w' : World) : Prop :=
  e = .returned (.int .i64 N) ∧ Cv w' lo v (markC k C) ∧ Below lo w w' ∧ ∀ b, b < w.heap.size → NotC v b → w'.heap[b]? = w.heap[b]?

set_option maxRecDepth 100000 in
set_option maxHeartbeats 1000000 in
theorem markColored_any (w : World) (lo : Nat) (v : Value) (C : Cp) (hv : Cv w lo v C) (hlo : lo ≤ w.heap.size) (b0 : C.h.l.length ≤ 1048576) (b1 : C.h.r.length ≤ 1048576) (b2 : C.h.t.length ≤ 1048576) (b3 : C.c.length ≤ 1048576) :
    Calls Try.prog 16 #[v, .int .i64 1] w (MarkedC w lo 1 ((1 + sizeC C : Nat) : Int) v C) := by
  obtain ⟨A0, n0, c0, A1, n1, c1, A2, n2, c2, A3, n3, c3, rfl, hh, ⟨r0, r1, r2, r3⟩, ⟨l0, l1, l2, l3⟩, _, a, ⟨a03, a13, a23⟩⟩ := hv.open_
  have X := Blk4.new w (.slice A0 n0 c0) (.slice A1 n1 c1) (.slice A2 n2 c2) (.slice A3 n3 c3) 36
  have H := hh.alloc (.cells #[.slice A0 n0 c0, .slice A1 n1 c1, .slice A2 n2 c2, .slice A3 n3 c3] 36)
  have R := r3.alloc (.cells #[.slice A0 n0 c0, .slice A1 n1 c1, .slice A2 n2 c2, .slice A3 n3 c3] 36)
  have S : sizeH C.h ≤ 3145728 := by unfold sizeH; omega
  have u3 : n3 ≤ 1048576 := by have := l3.out; omega
  have M := markHeap_any (w.alloc (.cells #[.slice A0 n0 c0, .slice A1 n1 c1, .slice A2 n2 c2, .slice A3 n3 c3] 36)) lo _ C.h H (by simp; omega) b0 b1 b2 1 (by omega)
  have nx : NotIn (.agg #[.slice A0 n0 c0, .slice A1 n1 c1, .slice A2 n2 c2]) w.heap.size := fun v0 v1 v2 e => by cases e; exact ⟨r0.notown (Nat.le_refl _), r1.notown (Nat.le_refl _), r2.notown (Nat.le_refl _)⟩
  have hin : ∀ b, (Value.slice A3 n3 c3).ownBlock = some b → NotIn (.agg #[.slice A0 n0 c0, .slice A1 n1 c1, .slice A2 n2 c2]) b := fun b e v0 v1 v2 e' => by
    cases e'; exact ⟨fun h9 => a03 b h9.symm e, fun h9 => a13 b h9.symm e, fun h9 => a23 b h9.symm e⟩
  go_enter Try.func16, Try.ntmps16
  go_wp2_with fail
  refine M.mono ?_; rintro e w1 ⟨rfl, H1, hb1, fr1⟩
  have X1 : Blk4 w1 w.heap.size (.slice A0 n0 c0) (.slice A1 n1 c1) (.slice A2 n2 c2) (.slice A3 n3 c3) 36 := (fr1 _ X.lt nx).trans X
  have R1 := R.keptNot fr1 hin
  have z1 := hb1.size
  have K := markIntS_any _ _ _ _ _ _ R1 l3.out u3 (1 + sizeH C.h) (by omega)
  obtain ⟨x0, x1, x2, x3, _⟩ := X1.cells
  clear M X
  go_wp2_with fail
  refine K.mono ?_; rintro e w2 ⟨rfl, Q3, g2, z2⟩
  have L2 := R1.belowLo (by simp at z1; omega) g2
  obtain ⟨_, _, _, ev, P0, P1, P2, _⟩ := H1
  cases ev
  have K0 := P0.kept g2 (apart_row a03.symm)
  have K1 := P1.kept g2 (apart_row a13.symm)
  have K2 := P2.kept g2 (apart_row a23.symm)
  go_wp2_with fail
  go_ret
  refine ⟨ret_int (by unfold sizeC; rw [l3.out]; omega), ⟨_, _, _, _, rfl, ⟨_, _, _, rfl, K0, K1, K2, a⟩, ?_, a03, a13, a23⟩, (((Below.refl _ _).alloc hlo _).trans hb1).trans L2, fun b hb hn => ?_⟩
  · unfold markC; rw [l3.out]; exact Q3
  · obtain ⟨nb0, nb1, nb2, nb3⟩ := hn _ _ _ _ rfl
    rw [g2.block b (by simp at z1; omega) nb3, fr1 b (by simp; omega) (fun v0 v1 v2 e => by cases e; exact ⟨nb0, nb1, nb2⟩)]
    exact Below.heap_alloc w _ b hb

set_option maxHeartbeats 1000000 in
theorem heldColored_any (w : World) (lo : Nat) (v : Value) (C : Cp) (hv : Cv w lo v (markC 1 C)) (b0 : C.h.l.length ≤ 1048576) (b1 : C.h.r.length ≤ 1048576) (b2 : C.h.t.length ≤ 1048576) (b3 : C.c.length ≤ 1048576) :
    Calls Try.prog 17 #[v, .int .i64 1] w (RetI w ((1 + sizeC C : Nat) : Int)) := by
  obtain ⟨A0, n0, c0, A1, n1, c1, A2, n2, c2, A3, n3, c3, rfl, hh, ⟨_, _, _, r3⟩, ⟨_, _, _, l3⟩, _⟩ := hv.open_
  have e3 : C.c.length = n3 := by have := l3.out; unfold markC at this; simpa [seqI_len] using this
  have X := Blk4.new w (.slice A0 n0 c0) (.slice A1 n1 c1) (.slice A2 n2 c2) (.slice A3 n3 c3) 36
  have H := hh.alloc (.cells #[.slice A0 n0 c0, .slice A1 n1 c1, .slice A2 n2 c2, .slice A3 n3 c3] 36)
  have R := r3.alloc (.cells #[.slice A0 n0 c0, .slice A1 n1 c1, .slice A2 n2 c2, .slice A3 n3 c3] 36)
  have fin : Below w.heap.size w (w.alloc (.cells #[.slice A0 n0 c0, .slice A1 n1 c1, .slice A2 n2 c2, .slice A3 n3 c3] 36)) := (Below.refl _ _).alloc (Nat.le_refl _) _
  have S : sizeH C.h ≤ 3145728 := by unfold sizeH; omega
  have M := heldHeap_any (w.alloc (.cells #[.slice A0 n0 c0, .slice A1 n1 c1, .slice A2 n2 c2, .slice A3 n3 c3] 36)) lo _ C.h 1 H b0 b1 b2 (by omega)
  have HS : Hid (((1 + sizeC C : Nat) : Int) = ((1 + sizeH C.h + n3 : Nat) : Int)) := by unfold Hid sizeC; omega
  go_enter Try.func17, Try.ntmps17
  go_wp2_with fail
  refine M.mono ?_; rintro e w1 ⟨rfl, hb1⟩
  obtain ⟨x0, x1, x2, x3, _⟩ := (Blk4.below (by exact X) hb1).cells
  have K := heldIntS_any w1 _ _ _ _ _ (Row.below (by exact R) hb1) l3.out (by omega) (1 + sizeH C.h) (by omega)
  have f3 : heldR (1 + sizeH C.h) (markC 1 C).c = ((1 + sizeH C.h + n3 : Nat) : Int) := by unfold heldR markC; simp [seqI_len, e3]
  rw [f3] at K
  have B1 := fin.trans (hb1.mono (by simp))
  clear M X f3
  go_wp2_with fail
  refine K.mono ?_; rintro e w' ⟨rfl, rfl⟩
  go_wp2_with fail
  go_ret
  exact ⟨ret_int (by rw [HS.out]; first | rfl | (simp) | omega), B1⟩

theorem markC1 (C : Cp) (b0 : C.h.l.length ≤ 1048576) (b1 : C.h.r.length ≤ 1048576) (b2 : C.h.t.length ≤ 1048576) (b3 : C.c.length ≤ 1048576) :
    ∃ N : Int, ¬ (N < 0) ∧ (N != N) = false ∧
      (∀ (w : World) (lo : Nat) (v : Value), Cv w lo v C → lo ≤ w.heap.size → Calls Try.prog 16 #[v, .int .i64 1] w (MarkedC w lo 1 N v C)) ∧
      (∀ (w : World) (lo : Nat) (v : Value), Cv w lo v (markC 1 C) → Calls Try.prog 17 #[v, .int .i64 1] w (RetI w N)) :=
  ⟨((1 + sizeC C : Nat) : Int), by omega, by simp, fun w lo v hv hlo => markColored_any w lo v C hv hlo b0 b1 b2 b3, fun w lo v hv => heldColored_any w lo v C hv b0 b1 b2 b3⟩
theorem notC_new {W : World} {lo b : Nat} {u : Value} {C : Cp} (hu : Cv W lo u C) (hb : W.heap.size ≤ b) : NotC u b := by
  obtain ⟨u0, u1, u2, u3, rfl, ⟨_, _, _, e', r0, r1, r2, _⟩, r3, _⟩ := hu
  cases e'
  intro v0 v1 v2 v3 e
  cases e
  exact ⟨r0.notown hb, r1.notown hb, r2.notown hb, r3.notown hb⟩
theorem notC_old {W : World} {lo b : Nat} {u : Value} {C : Cp} (hu : Cv W lo u C) (hb : b < lo) : NotC u b := by
  obtain ⟨u0, u1, u2, u3, rfl, ⟨_, _, _, e', r0, r1, r2, _⟩, r3, _⟩ := hu
  cases e'
  intro v0 v1 v2 v3 e
  cases e
  exact ⟨fun e => by have := (r0.lt _ e.symm).1; omega, fun e => by have := (r1.lt _ e.symm).1; omega, fun e => by have := (r2.lt _ e.symm).1; omega, fun e => by have := (r3.lt _ e.symm).1; omega⟩
theorem Row.keptC {w w' : World} {lo : Nat} {v u : Value} {xs : List Int} (hv : Row w lo v xs) (fr : ∀ b, b < w.heap.size → NotC u b → w'.heap[b]? = w.heap[b]?) (hn : ∀ b, v.ownBlock = some b → NotC u b) : Row w' lo v xs := by
  refine ⟨hv.1, ?_⟩
  rcases hv.2 with h2 | ⟨g, cap, cur, rfl, hg, hh, r⟩
  · exact .inl h2
  · exact .inr ⟨g, cap, cur, rfl, hg, by rw [fr g (hv.lt g rfl).2 (hn g rfl)]; exact hh, r⟩
theorem Cv.keptC {w w' : World} {lo : Nat} {v u : Value} {C : Cp} (hv : Cv w lo v C) (fr : ∀ b, b < w.heap.size → NotC u b → w'.heap[b]? = w.heap[b]?) (hn : ∀ b, lo ≤ b → b < w.heap.size → NotC u b) : Cv w' lo v C := by
  obtain ⟨v0, v1, v2, v3, rfl, ⟨_, _, _, e', r0, r1, r2, a⟩, r3, b⟩ := hv
  cases e'
  exact ⟨v0, v1, v2, v3, rfl, ⟨_, _, _, rfl, r0.keptC fr fun b e => hn b (r0.lt b e).1 (r0.lt b e).2, r1.keptC fr fun b e => hn b (r1.lt b e).1 (r1.lt b e).2, r2.keptC fr fun b e => hn b (r2.lt b e).1 (r2.lt b e).2, a⟩, r3.keptC fr fun b e => hn b (r3.lt b e).1 (r3.lt b e).2, b⟩
/-- The same for a colored heap that is older than what is marked. -/
theorem Cv.keptFar {w w' : World} {lo B : Nat} {v : Value} {C : Cp} (hv : Cv w lo v C) (hb : Below B w w') {W : World} (hW : Cv W lo v C) (hs : W.heap.size ≤ B) : Cv w' lo v C := by
  obtain ⟨v0, v1, v2, v3, rfl, ⟨_, _, _, e', r0, r1, r2, a⟩, r3, b⟩ := hv
  cases e'
  obtain ⟨u0, u1, u2, u3, e, ⟨_, _, _, e2, q0, q1, q2, _⟩, q3, _⟩ := hW
  cases e
  cases e2
  exact ⟨v0, v1, v2, v3, rfl, ⟨_, _, _, rfl, r0.far hb fun k e => by have := (q0.lt k e).2; omega, r1.far hb fun k e => by have := (q1.lt k e).2; omega, r2.far hb fun k e => by have := (q2.lt k e).2; omega, a⟩, r3.far hb fun k e => by have := (q3.lt k e).2; omega, b⟩
/-- .. and for a colored heap that is older than a heap that is marked. -/
theorem Cv.keptN {w w' : World} {lo : Nat} {v u : Value} {C : Cp} (hv : Cv w lo v C) (fr : ∀ b, b < w.heap.size → NotIn u b → w'.heap[b]? = w.heap[b]?) (hn : ∀ b, lo ≤ b → b < w.heap.size → NotIn u b) : Cv w' lo v C := by
  obtain ⟨v0, v1, v2, v3, rfl, ⟨_, _, _, e', r0, r1, r2, a⟩, r3, b⟩ := hv
  cases e'
  exact ⟨v0, v1, v2, v3, rfl, ⟨_, _, _, rfl, r0.keptNot fr fun b e => hn b (r0.lt b e).1 (r0.lt b e).2, r1.keptNot fr fun b e => hn b (r1.lt b e).1 (r1.lt b e).2, r2.keptNot fr fun b e => hn b (r2.lt b e).1 (r2.lt b e).2, a⟩, r3.keptNot fr fun b e => hn b (r3.lt b e).1 (r3.lt b e).2, b⟩
theorem Blk4.drew {w : World} {b : Nat} {x y z q : Value} {t : TypeId} (h : Blk4 w b x y z q t) : Blk4 w.drew b x y z q t := h
theorem Blk4.frame {w w' : World} {b : Nat} {x y z q u : Value} {t : TypeId} (h : Blk4 w b x y z q t) (fr : ∀ b, b < w.heap.size → NotC u b → w'.heap[b]? = w.heap[b]?) (hn : NotC u b) : Blk4 w' b x y z q t := (fr b h.lt hn).trans h
theorem Blk3.frameC {w w' : World} {b : Nat} {x y z u : Value} {t : TypeId} (h : Blk3 w b x y z t) (fr : ∀ b, b < w.heap.size → NotC u b → w'.heap[b]? = w.heap[b]?) (hn : NotC u b) : Blk3 w' b x y z t := (fr b h.lt hn).trans h
theorem Blk4.frameH {w w' : World} {b : Nat} {x y z q u : Value} {t : TypeId} (h : Blk4 w b x y z q t) (fr : ∀ b, b < w.heap.size → NotIn u b → w'.heap[b]? = w.heap[b]?) (hn : NotIn u b) : Blk4 w' b x y z q t := (fr b h.lt hn).trans h

/-- Colored heaps that come back are short. -/
def ShortC (C : Cp) : Prop := C.h.l.length ≤ 1048576 ∧ C.h.r.length ≤ 1048576 ∧ C.h.t.length ≤ 1048576 ∧ C.c.length ≤ 1048576
theorem stoB_short {C : Cp} (h : stoB C = true) : ShortC C := by
  obtain ⟨h1, h2, _⟩ := stoB_parts h
  have := hvB_len h1
  exact ⟨by omega, by omega, by omega, by omega⟩
theorem zeroC_short : ShortC Cp.zero := by simp [ShortC, Cp.zero, Hp.zero]
theorem allocC_short (C : Cp) (k : Int) : ShortC (allocC C k) := by
  unfold allocC
  split
  · rename_i h
    obtain ⟨a, b, c, d⟩ := stoB_short (allocB_iff.1 h).1
    exact ⟨a, b, by simpa using c, by show C.c.tail.length ≤ _; rw [List.length_tail]; omega⟩
  · exact zeroC_short
theorem clearC_short {C : Cp} (cs : List Int) (h : stoB C = true) (hc : cs.length ≤ 8) : ShortC (clearC C cs) := by
  obtain ⟨a, b, c, d⟩ := stoB_short h
  obtain ⟨h1, h2, _⟩ := stoB_parts h
  have := hvB_len h1
  exact ⟨by show (clrN C.h.l cs C.h.l.length).length ≤ _; rw [clrN_len]; exact a, by show (clrN C.h.r cs C.h.l.length).length ≤ _; rw [clrN_len]; exact b, c, by show (C.c ++ cs).length ≤ _; rw [List.length_append]; omega⟩
theorem leak_len (C : Cp) : (leakL C).length ≤ 8 := by
  unfold leakL; split
  · exact Nat.le_trans (leakN_len _ _ _) (garb_len C.h)
  · simp
theorem collectO_short (C : Cp) : ShortC ((collectO C).getD Cp.zero) := by
  unfold collectO
  split
  · rename_i h; exact clearC_short _ h (leak_len C)
  · exact zeroC_short
theorem freeO_short (C : Cp) (x : Int) : ShortC ((freeO C x).getD Cp.zero) := by
  unfold freeO
  split
  · rename_i h; exact clearC_short _ (leak_sto h) (by simp)
  · exact zeroC_short
theorem newSO_short (c r : Int) : ShortC ((newSO c r).getD Cp.zero) := by
  unfold newSO
  split
  · rename_i h
    simp only [szB, decide_eq_true_eq] at h
    exact ⟨by simp; omega, by simp; omega, by simp; omega, by simp [nums]; omega⟩
  · exact zeroC_short
theorem Blk4.keptR {w w' : World} {b : Nat} {x y z u : Value} {t : TypeId} {row : Option Nat} (h : Blk4 w b x y z u t) (hg : w.grownBy w' row) (hb : some b ≠ row) : Blk4 w' b x y z u t := (hg.block b h.lt hb).trans h
/-- A colored heap and a Bool come back. -/
def OptC (w : World) (ok : Bool) (C : Cp) (e : Ending) (w' : World) : Prop := ∃ v, e = .returned (.tuple #[v, .bool ok]) ∧ Cv w' w.heap.size v C ∧ Below w.heap.size w w'
theorem optC_of {P : Program} {f : FuncId} {args : Array Value} {w : World} {o : Option Cp} (h : Calls P f args w (OptCv w o)) : Calls P f args w (OptC w o.isSome (o.getD Cp.zero)) := h

end Go.Proofs.Ytlabljanddjleaa

/- The helpers of the exact laws over operations: toOp; what a region with a result's variable leaves. -/
namespace Go.Proofs.Ytlabljanddjleaa
open Go.RowKit

set_option maxRecDepth 100000 in
set_option maxHeartbeats 1000000 in
theorem toOp_any (w : World) (o : Opv) : Calls Try.prog 9 #[opV o] w fun e w' => e = .returned (opV o) ∧ Below w.heap.size w w' := by
  obtain ⟨k, a, b⟩ := o
  show Calls Try.prog 9 #[.agg #[.int .i64 k, .int .i64 a, .int .i64 b]] w _
  have Q := (Blk3.new_at (w := w.alloc (.cells #[.int .i64 k, .int .i64 a, .int .i64 b] 23)) (b := w.heap.size + 1) (by simp) (.int .i64 k) (.int .i64 a) (.int .i64 b) 25).alloc (.cells #[.int .i64 k, .int .i64 a, .int .i64 b] 25)
  have B0 : Below w.heap.size w (((w.alloc (.cells #[.int .i64 k, .int .i64 a, .int .i64 b] 23)).alloc (.cells #[.int .i64 k, .int .i64 a, .int .i64 b] 25)).alloc (.cells #[.int .i64 k, .int .i64 a, .int .i64 b] 25)) := (((Below.refl _ w).alloc (Nat.le_refl _) _).alloc (by simp) _).alloc (by simp; omega) _
  obtain ⟨q0, q1, q2, _⟩ := Q.cells
  go_enter Try.func9, Try.ntmps9
  go_wp2_with fail
  refine bodyPost_ret (v := .agg #[.int .i64 k, .int .i64 a, .int .i64 b]) ?_ rfl ⟨rfl, B0⟩
  simp [results, Try.results9, go_sem, q0, q1, q2]
theorem Blk3.drewO {w : World} {b : Nat} {x y z : Value} {t : TypeId} (h : Blk3 w b x y z t) : Blk3 w.drew b x y z t := h
theorem Blk4.drewO {w : World} {b : Nat} {x y z q : Value} {t : TypeId} (h : Blk4 w b x y z q t) : Blk4 w.drew b x y z q t := h
theorem Blk4.far4O {w : World} {b c : Nat} {x y z u : Value} {t : TypeId} (h : Blk4 w b x y z u t) (hne : c ≠ b) (u0 u1 u2 u3 : Value) : Blk4 ((((w.setCell ⟨c, 0, none⟩ u0).setCell ⟨c, 1, none⟩ u1).setCell ⟨c, 2, none⟩ u2).setCell ⟨c, 3, none⟩ u3) b x y z u t := h.far4 hne.symm u0 u1 u2 u3
theorem Blk3.far4O {w : World} {b c : Nat} {x y z : Value} {t : TypeId} (h : Blk3 w b x y z t) (hne : c ≠ b) (u0 u1 u2 u3 : Value) : Blk3 ((((w.setCell ⟨c, 0, none⟩ u0).setCell ⟨c, 1, none⟩ u1).setCell ⟨c, 2, none⟩ u2).setCell ⟨c, 3, none⟩ u3) b x y z t :=
  (((h.other (p := ⟨c, 0, none⟩) hne.symm u0).other (p := ⟨c, 1, none⟩) hne.symm u1).other (p := ⟨c, 2, none⟩) hne.symm u2).other (p := ⟨c, 3, none⟩) hne.symm u3
/-- A store came back into a variable of its own. -/
def GotS (W0 : World) (D : Cp) (x : Int) (b : Bool) (p e1 e2 : Value) (w' : World) : Prop :=
  ∃ (bk : Nat) (v0 v1 v2 v3 : Value), p = .pointer (some ⟨bk, 0, none⟩) ∧ e1 = .int .i64 x ∧ e2 = .bool b ∧ Blk4 w' bk v0 v1 v2 v3 36 ∧ Cv w' W0.heap.size (.agg #[v0, v1, v2, v3]) D ∧ NotC (.agg #[v0, v1, v2, v3]) bk ∧ W0.heap.size ≤ bk ∧ Below W0.heap.size W0 w'
theorem notC_of {v0 v1 v2 v3 : Value} {b : Nat} (h : v0.ownBlock ≠ some b ∧ v1.ownBlock ≠ some b ∧ v2.ownBlock ≠ some b ∧ v3.ownBlock ≠ some b) : NotC (.agg #[v0, v1, v2, v3]) b := by
  intro u0 u1 u2 u3 e
  cases e
  exact ⟨fun e => h.1 e.symm, fun e => h.2.1 e.symm, fun e => h.2.2.1 e.symm, fun e => h.2.2.2 e.symm⟩
theorem got_new {W0 w' : World} {lo : Nat} {v0 v1 v2 v3 : Value} {D : Cp} {x : Int} {b : Bool} (hN : Cv w' lo (.agg #[v0, v1, v2, v3]) D) (hl : W0.heap.size ≤ lo) (hB : Below W0.heap.size W0 w') :
    GotS W0 D x b (.pointer (some ⟨w'.heap.size, 0, none⟩)) (.int .i64 x) (.bool b) (w'.alloc (.cells #[v0, v1, v2, v3] 36)) :=
  ⟨_, _, _, _, _, rfl, rfl, rfl, Blk4.new _ _ _ _ _ _, (hN.alloc _).mono hl, notC_of (hN.ownLt w'.heap.size (.inr (Nat.le_refl _))), hB.size, hB.alloc hB.size _⟩
theorem got_set {W0 w' : World} {lo zb : Nat} {v0 v1 v2 v3 u0 u1 u2 u3 : Value} {D : Cp} {x : Int} {b : Bool} (hZ : Blk4 w' zb u0 u1 u2 u3 36) (hN : Cv w' lo (.agg #[v0, v1, v2, v3]) D) (hz : W0.heap.size ≤ zb) (hl : zb < lo) (hB : Below W0.heap.size W0 w') :
    GotS W0 D x b (.pointer (some ⟨zb, 0, none⟩)) (.int .i64 x) (.bool b) ((((w'.setCell ⟨zb, 0, none⟩ v0).setCell ⟨zb, 1, none⟩ v1).setCell ⟨zb, 2, none⟩ v2).setCell ⟨zb, 3, none⟩ v3) :=
  ⟨_, _, _, _, _, rfl, rfl, rfl, hZ.set4R _ _ _ _, (hN.set4O (hN.ownLt zb (.inl hl)) _ _ _ _).mono (by omega), notC_of (hN.ownLt zb (.inl hl)), hz, below_set4 hB hz _ _ _ _⟩
end Go.Proofs.Ytlabljanddjleaa

/- The helpers of the exact laws over programs: szOpS, toOpS, eqOpS, markOpS. -/
namespace Go.Proofs.Ytlabljanddjleaa
open Go.RowKit

theorem infoOpP : (Try.prog.info? 25).map (fun i => (i.zero, i.size, i.bytes)) = some (some (.agg #[.int .i64 0, .int .i64 0, .int .i64 0]), 3, 24) := by kernel_rfl
/-- The operations of an argument: they lie somewhere below B. -/
def OIn (w : World) (B : Nat) (A : Option Addr) (n : Nat) (os : List Opv) : Prop :=
  os.length = n ∧ (n = 0 ∨ ∃ b off, A = some ⟨b, off, none⟩ ∧ b < B ∧ ∀ k, k < n → w.cell? ⟨b, off + k * 3, none⟩ = some (.int .i64 (os.getD k Opv.zero).k) ∧ w.cell? ⟨b, off + k * 3 + 1, none⟩ = some (.int .i64 (os.getD k Opv.zero).a) ∧ w.cell? ⟨b, off + k * 3 + 2, none⟩ = some (.int .i64 (os.getD k Opv.zero).b))
theorem OIn.below {w w' : World} {B : Nat} {A : Option Addr} {n : Nat} {os : List Opv} (h : OIn w B A n os) (hb : Below B w w') : OIn w' B A n os := by
  refine ⟨h.1, ?_⟩
  rcases h.2 with h | ⟨b, off, e, hlt, hc⟩
  · exact .inl h
  · exact .inr ⟨b, off, e, hlt, fun k hk => ⟨(hb.cell (p := ⟨b, off + k * 3, none⟩) hlt).trans (hc k hk).1, (hb.cell (p := ⟨b, off + k * 3 + 1, none⟩) hlt).trans (hc k hk).2.1, (hb.cell (p := ⟨b, off + k * 3 + 2, none⟩) hlt).trans (hc k hk).2.2⟩⟩
theorem OIn.get {w : World} {B : Nat} {A : Option Addr} {n : Nat} {os : List Opv} (h : OIn w B A n os) {k : Nat} (hk : k < n) :
    ∃ b off o, A = some ⟨b, off, none⟩ ∧ b < B ∧ Hid (os[k]? = some o) ∧ w.cell? ⟨b, off + k * 3, none⟩ = some (.int .i64 o.k) ∧ w.cell? ⟨b, off + k * 3 + 1, none⟩ = some (.int .i64 o.a) ∧ w.cell? ⟨b, off + k * 3 + 2, none⟩ = some (.int .i64 o.b) := by
  rcases h.2 with h0 | ⟨b, off, e, hlt, hc⟩
  · omega
  · have hkl : k < os.length := by have := h.1; omega
    exact ⟨b, off, os.getD k Opv.zero, e, hlt, by unfold Hid; simp [List.getD, List.getElem?_eq_getElem hkl], (hc k hk).1, (hc k hk).2.1, (hc k hk).2.2⟩

theorem ovs_rep (n : Nat) : ovs (List.replicate n Opv.zero) = List.replicate (n * 3) (.int .i64 0) := by
  induction n with
  | zero => rfl
  | succ n ih => rw [List.replicate_succ, ovs_cons, ih, Nat.succ_mul, show n * 3 + 3 = (n * 3) + 1 + 1 + 1 from rfl, List.replicate_succ, List.replicate_succ, List.replicate_succ]; rfl
theorem mc_op (n : Nat) : (madeCells #[Value.int .i64 0, .int .i64 0, .int .i64 0] (n * 3)).toList = ovs (List.replicate n Opv.zero) := by
  rw [ovs_rep]
  apply List.ext_getElem?
  intro j
  by_cases hj : j < n * 3
  · have : j % 3 = 0 ∨ j % 3 = 1 ∨ j % 3 = 2 := by omega
    rcases this with e | e | e <;> simp [madeCells, hj, e]
  · simp [madeCells, hj]
theorem ovs_set : ∀ (os : List Opv) (k : Nat) (o : Opv), k < os.length → (((ovs os).set (k * 3) (.int .i64 o.k)).set (k * 3 + 1) (.int .i64 o.a)).set (k * 3 + 2) (.int .i64 o.b) = ovs (os.set k o)
  | [], _, _, h => by simp at h
  | p :: os, 0, o, _ => by simp [ovs_cons]
  | p :: os, k + 1, o, h => by
    have ih := ovs_set os k o (by simp at h; omega)
    rw [List.set_cons_succ, ovs_cons, ovs_cons, ← ih, show (k + 1) * 3 = k * 3 + 1 + 1 + 1 by omega]
    simp only [List.set_cons_succ, show k * 3 + 1 + 1 + 1 + 1 = k * 3 + 1 + 1 + 1 + 1 from rfl, show k * 3 + 1 + 1 + 1 + 2 = k * 3 + 2 + 1 + 1 + 1 by omega]
theorem ORow.set3 {w : World} {lo g n c : Nat} {os : List Opv} (h : ORow w lo (.slice (some ⟨g, 0, none⟩) n c) os) {k : Nat} (hk : k < os.length) (o : Opv) :
    ORow (((w.setCell ⟨g, k * 3, none⟩ (.int .i64 o.k)).setCell ⟨g, k * 3 + 1, none⟩ (.int .i64 o.a)).setCell ⟨g, k * 3 + 2, none⟩ (.int .i64 o.b)) lo (.slice (some ⟨g, 0, none⟩) n c) (os.set k o) ∧ w.grownBy (((w.setCell ⟨g, k * 3, none⟩ (.int .i64 o.k)).setCell ⟨g, k * 3 + 1, none⟩ (.int .i64 o.a)).setCell ⟨g, k * 3 + 2, none⟩ (.int .i64 o.b)) (some g) := by
  obtain ⟨A, c', e, _, _⟩ := h.form
  cases e
  unfold ORow at *
  have h1 := World.ownsRow.stored h (k * 3) (.int .i64 o.k)
  have h2 := World.ownsRow.stored h1.1 (k * 3 + 1) (.int .i64 o.a)
  have h3 := World.ownsRow.stored h2.1 (k * 3 + 2) (.int .i64 o.b)
  rw [ovs_set _ _ _ hk] at h3
  refine ⟨by simpa using h3.1, ?_⟩
  exact ⟨rfl, rfl, rfl, by simp, fun i hi hne => ((h3.2.block i (by simpa using hi) hne).trans (h2.2.block i (by simpa using hi) hne)).trans (h1.2.block i hi hne)⟩
theorem ORow.frozen {w : World} {lo g n c : Nat} {os : List Opv} (h : ORow w lo (.slice (some ⟨g, 0, none⟩) n c) os) (j : Nat) : w.frozen? ⟨g, j, none⟩ = false := by
  obtain ⟨A, c', e, _, _⟩ := h.form
  cases e
  exact World.ownsRow.frozenAt h j
theorem take_snocO {os : List Opv} {k : Nat} {o : Opv} (hx : os[k]? = some o) : os.take (k + 1) = os.take k ++ [o] := by rw [List.take_add_one, hx]; rfl
theorem eq_takeO {xs ys : List Opv} {k : Nat} {x : Opv} (hx : xs[k]? = some x) (hy : ys[k]? = some x) (h : xs.take k = ys.take k) : xs.take (k + 1) = ys.take (k + 1) := by
  rw [take_snocO hx, take_snocO hy, h]
theorem set_rowO {xs : List Opv} {k n : Nat} {x : Opv} (hk : k < n) (hn : xs.length = n) (hx : xs[k]? = some x) :
    (xs.take k ++ List.replicate (n - k) Opv.zero).set k x = xs.take (k + 1) ++ List.replicate (n - (k + 1)) Opv.zero := by
  have hl : (xs.take k).length = k := by simp; omega
  rw [List.set_append, if_neg (by omega), hl, Nat.sub_self, show n - k = (n - (k + 1)) + 1 from by omega, List.replicate_succ, List.set_cons_zero, take_snocO hx]
  simp
instance : DecidableEq Opv := fun a b => if h : a.k = b.k ∧ a.a = b.a ∧ a.b = b.b then isTrue (by cases a; cases b; simp at h; simp [h]) else isFalse (by rintro rfl; simp at h)

set_option maxHeartbeats 400000 in
theorem szOpS_any (w : World) (A : Option Addr) (n c : Nat) (left : Int) (h0 : 0 ≤ left) (h1 : left ≤ 1048576) (hn : n ≤ 9223372036854775807) :
    Calls Try.prog 18 #[.slice A n c, .int .i64 left] w fun e w' => e = .returned (.int .i64 (szV n left)) ∧ w = w' := by
  have hw : IntKind.i64.wrap (left - n) = left - n := IntWalk.i64_in _ (by omega)
  by_cases hle : (n : Int) ≤ left
  · have hneg : ¬ (left - n < 0) := by omega
    have hf : Hid (szV n left = left - n) := by unfold Hid szV; rw [if_pos hle]
    go_enter Try.func18, Try.ntmps18
    go_wp2_with fail
    go_ret
    exact ⟨ret_int hf.out.symm, rfl⟩
  · have hneg : left - n < 0 := by omega
    have hf : Hid (szV n left = -1) := by unfold Hid szV; rw [if_neg hle]
    go_enter Try.func18, Try.ntmps18
    go_wp2_with fail
    go_ret
    exact ⟨ret_int hf.out.symm, rfl⟩

/-- A new row of operations comes back. -/
def NewORow (w : World) (os : List Opv) (e : Ending) (w' : World) : Prop := ∃ A c, e = .returned (.slice A os.length c) ∧ ORow w' w.heap.size (.slice A os.length c) os ∧ Below w.heap.size w w'

set_option maxRecDepth 100000 in
set_option maxHeartbeats 1000000 in
theorem toOpS_any (w : World) (A : Option Addr) (n c : Nat) (os : List Opv) (h : OIn w w.heap.size A n os) (hm : n ≤ 1048576) :
    Calls Try.prog 20 #[.slice A n c] w (NewORow w os) := by
  obtain ⟨i0, hi, hz0, hz1, hz2⟩ := info_parts infoOpP
  have TO := fun W o => toOp_any W o
  go_enter Try.func20, Try.ntmps20
  go_wp2_with (at_make; refine wpList_make_full _ rfl _ _ 46 rfl w.heap.size 25 i0 (.agg #[.int .i64 0, .int .i64 0, .int .i64 0]) 3 Try.underlying46 hi hz0 hz1 _ _ _ _ n rfl rfl rfl rfl ?b2 ?b3 (Nat.le_refl _) ?_)
  case b2 => rw [hz2]; omega
  case b3 => unfold maxLen; omega
  intro w0 hown0 hgrow0
  rw [mc_op] at hown0
  have hrow0 : ORow w0 w.heap.size (.slice (some ⟨w.heap.size, 0, none⟩) n n) (List.replicate n Opv.zero) := by unfold ORow; simpa using hown0
  have hb0 : Below w.heap.size w w0 := (Below.refl _ _).grown hgrow0 (Nat.le_refl _) (fun k h => by cases h)
  have hn := h.1
  clear hown0 hgrow0 hz0 hz1 hz2
  go_wp2_with fail
  go_loopw [4] (fun i wr => ∃ k : Nat, k ≤ n ∧ i = .int .i64 k ∧ ORow wr w.heap.size (.slice (some ⟨w.heap.size, 0, none⟩) n n) (os.take k ++ List.replicate (n - k) Opv.zero) ∧ Below w.heap.size w wr) (fun i _ => n - (intOf i).toNat)
  case atStart => exact ⟨0, Nat.zero_le _, rfl, by simpa using hrow0, hb0⟩
  case round =>
    obtain ⟨k, hk, rfl, hrow, hb⟩ := hrel
    by_cases hlt : k < n
    · have hrl : (os.take k ++ List.replicate (n - k) Opv.zero).length = n := by simp; omega
      obtain ⟨b, off, ⟨ok, oa, oq⟩, rfl, hbB, hy, o0, o1, o2⟩ := (h.below hb).get hlt
      simp only at o0 o1 o2
      have hlti : (k : Int) < (n : Int) := by omega
      have hset := Lib.hid (set_rowO hlt hn hy.out)
      have T := fun W => TO W ⟨ok, oa, oq⟩
      clear hrow0 hy TO hb0
      go_wp2_with fail
      refine (T _).mono ?_; rintro e w4 ⟨rfl, hb4⟩
      have R4 := hrow.below hb4
      have B4 := hb.trans (hb4.mono hb.size)
      clear hrow
      obtain ⟨g, ⟨zk, za, zq⟩, e, _, _, _, z0, z1, z2⟩ := R4.get (k := k) (by rw [hrl]; exact hlt)
      cases e
      simp only at z0 z1 z2
      have f0 := R4.frozen (k * 3)
      have f1 := R4.frozen (k * 3 + 1)
      have f2 := R4.frozen (k * 3 + 2)
      have R5 := (R4.set3 (k := k) (by rw [hrl]; exact hlt) ⟨ok, oa, oq⟩).1
      have B5 : Below w.heap.size w (((w4.setCell ⟨w.heap.size, k * 3, none⟩ (.int .i64 ok)).setCell ⟨w.heap.size, k * 3 + 1, none⟩ (.int .i64 oa)).setCell ⟨w.heap.size, k * 3 + 2, none⟩ (.int .i64 oq)) := ((B4.setCell (Nat.le_refl _) _).setCell (Nat.le_refl _) _).setCell (Nat.le_refl _) _
      rw [hset.out] at R5
      clear R4 h
      go_wp2_with fail
      go_roundw
      case rel => exact ⟨k + 1, by omega, by go_num, R5, B5⟩
      case measure => simp [intOf]; omega
    · obtain rfl : k = n := by omega
      have hrow' : ORow wr w.heap.size (.slice (some ⟨w.heap.size, 0, none⟩) os.length k) os := by
        have := hrow; rw [List.take_of_length_le (by omega)] at this; simpa [hn] using this
      clear hrow hrow0
      go_wp2_with fail
      go_ret
      exact ⟨some ⟨w.heap.size, 0, none⟩, k, by simp [hn], hrow', hb⟩
set_option maxRecDepth 100000 in
set_option maxHeartbeats 1000000 in
theorem eqOp_any (w : World) (a b : Opv) : Calls Try.prog 50 #[opV a, opV b] w (RetB w (decide (a = b))) := by
  obtain ⟨k, a, q⟩ := a
  obtain ⟨k2, a2, q2⟩ := b
  show Calls Try.prog 50 #[.agg #[.int .i64 k, .int .i64 a, .int .i64 q], .agg #[.int .i64 k2, .int .i64 a2, .int .i64 q2]] w _
  have B0 : Below w.heap.size w ((w.alloc (.cells #[.int .i64 k, .int .i64 a, .int .i64 q] 25)).alloc (.cells #[.int .i64 k2, .int .i64 a2, .int .i64 q2] 25)) := ((Below.refl _ w).alloc (Nat.le_refl _) _).alloc (by simp) _
  obtain ⟨p0, p1, p2, _⟩ := ((Blk3.new w (.int .i64 k) (.int .i64 a) (.int .i64 q) 25).alloc (.cells #[.int .i64 k2, .int .i64 a2, .int .i64 q2] 25)).cells
  obtain ⟨q0, q1, q2', _⟩ := (Blk3.new_at (w := w.alloc (.cells #[.int .i64 k, .int .i64 a, .int .i64 q] 25)) (b := w.heap.size + 1) (by simp) (.int .i64 k2) (.int .i64 a2) (.int .i64 q2) 25).cells
  by_cases e0 : k = k2
  · have x0 : (k != k2) = false := by simpa using e0
    by_cases e1 : a = a2
    · have x1 : (a != a2) = false := by simpa using e1
      by_cases e2 : q = q2
      · have x2 : (q != q2) = false := by simpa using e2
        have Hf : Hid (decide ((⟨k, a, q⟩ : Opv) = ⟨k2, a2, q2⟩) = true) := by unfold Hid; simp [e0, e1, e2]
        clear e0 e1 e2
        go_enter Try.func50, Try.ntmps50
        go_wp2_with fail
        go_ret
        exact ⟨ret_bool Hf.out.symm, B0⟩
      · have x2 : (q != q2) = true := by simpa using e2
        have Hf : Hid (decide ((⟨k, a, q⟩ : Opv) = ⟨k2, a2, q2⟩) = false) := by unfold Hid; simp [e2]
        clear e0 e1 e2
        go_enter Try.func50, Try.ntmps50
        go_wp2_with fail
        go_ret
        exact ⟨ret_bool Hf.out.symm, B0⟩
    · have x1 : (a != a2) = true := by simpa using e1
      have Hf : Hid (decide ((⟨k, a, q⟩ : Opv) = ⟨k2, a2, q2⟩) = false) := by unfold Hid; simp [e1]
      clear e0 e1
      go_enter Try.func50, Try.ntmps50
      go_wp2_with fail
      go_ret
      exact ⟨ret_bool Hf.out.symm, B0⟩
  · have x0 : (k != k2) = true := by simpa using e0
    have Hf : Hid (decide ((⟨k, a, q⟩ : Opv) = ⟨k2, a2, q2⟩) = false) := by unfold Hid; simp [e0]
    clear e0
    go_enter Try.func50, Try.ntmps50
    go_wp2_with fail
    go_ret
    exact ⟨ret_bool Hf.out.symm, B0⟩

set_option maxRecDepth 100000 in
set_option maxHeartbeats 1000000 in
theorem eqOpS_any (w : World) (lo lo' : Nat) (A A' : Option Addr) (n c n' c' : Nat) (xs ys : List Opv) (h : ORow w lo (.slice A n c) xs) (hn : xs.length = n) (hm : n ≤ 9223372036854775807)
    (h' : ORow w lo' (.slice A' n' c') ys) (hn' : ys.length = n') (hm' : n' ≤ 9223372036854775807) :
    Calls Try.prog 22 #[.slice A n c, .slice A' n' c'] w (RetB w (decide (xs = ys))) := by
  have EO := fun W a b => eqOp_any W a b
  by_cases hne : n = n'
  · subst hne
    go_enter Try.func22, Try.ntmps22
    go_wp2_with fail
    go_loopw [5] (fun i wr => ∃ k : Nat, k ≤ n ∧ i = .int .i64 k ∧ Hid (xs.take k = ys.take k) ∧ ORow wr lo (.slice A n c) xs ∧ ORow wr lo' (.slice A' n c') ys ∧ Below w.heap.size w wr) (fun i _ => n - (intOf i).toNat)
    case atStart => exact ⟨0, Nat.zero_le _, rfl, rfl, h, h', Below.refl _ _⟩
    case round =>
      obtain ⟨k, hk, rfl, ht, U3, V3, B3⟩ := hrel
      clear h h'
      by_cases hlt : k < n
      · obtain ⟨g, ⟨ok, oa, oq⟩, rfl, _, hg, hx, o0, o1, o2⟩ := U3.get (k := k) (by omega)
        obtain ⟨g', ⟨zk, za, zq⟩, rfl, _, hg', hy, z0, z1, z2⟩ := V3.get (k := k) (by omega)
        simp only at o0 o1 o2 z0 z1 z2
        have hb1 : (k : Int) < (n : Int) := by omega
        have E := fun W => EO W ⟨ok, oa, oq⟩ ⟨zk, za, zq⟩
        by_cases hxy : (⟨ok, oa, oq⟩ : Opv) = ⟨zk, za, zq⟩
        · have Ht : Hid (xs.take (k + 1) = ys.take (k + 1)) := eq_takeO hx.out (hxy ▸ hy.out) ht.out
          rw [decide_eq_true hxy] at E
          clear ht hx hy EO hxy
          go_wp2_with fail
          go_region_held3 (fun w' => w'.cell? ⟨g, k * 3, none⟩ = some (.int .i64 ok) ∧ w'.cell? ⟨g, k * 3 + 1, none⟩ = some (.int .i64 oa) ∧ w'.cell? ⟨g, k * 3 + 2, none⟩ = some (.int .i64 oq) ∧ w'.cell? ⟨g', k * 3, none⟩ = some (.int .i64 zk) ∧ w'.cell? ⟨g', k * 3 + 1, none⟩ = some (.int .i64 za) ∧ w'.cell? ⟨g', k * 3 + 2, none⟩ = some (.int .i64 zq))
            (((try dsimp only); (repeat' apply And.intro) <;> (with_reducible (first | exact p0 | exact p1 | exact p2 | exact p3 | exact p4 | exact p5 | exact cellD o0 | exact cellD o1 | exact cellD o2 | exact cellD z0 | exact cellD z1 | exact cellD z2 | exact o0 | exact o1 | exact o2 | exact z0 | exact z1 | exact z2))))
            ((go_at_call 50; (with_reducible refine (E _).mono ?_); rintro e w4 ⟨rfl, hb40⟩; (have hb4 : Below wr.heap.size wr w4 := (Below.refl wr.heap.size wr).drew.trans hb40); (have p0 := (hb4.cell (p := ⟨g, k * 3, none⟩) hg).trans o0); (have p1 := (hb4.cell (p := ⟨g, k * 3 + 1, none⟩) hg).trans o1); (have p2 := (hb4.cell (p := ⟨g, k * 3 + 2, none⟩) hg).trans o2); (have p3 := (hb4.cell (p := ⟨g', k * 3, none⟩) hg').trans z0); (have p4 := (hb4.cell (p := ⟨g', k * 3 + 1, none⟩) hg').trans z1); (have p5 := (hb4.cell (p := ⟨g', k * 3 + 2, none⟩) hg').trans z2)))
          rename_i hHeld
          clear hHeld
          have U4 := U3.below hb4
          have V4 := V3.below hb4
          have B4 := B3.trans (hb4.mono B3.size)
          clear U3 V3
          go_wp2_with fail
          go_roundw
          case rel => exact ⟨k + 1, by omega, by go_num, Ht, U4, V4, B4⟩
          case measure => simp [intOf]; omega
        · have Hf : Hid (decide (xs = ys) = false) := by
            unfold Hid; simp only [decide_eq_false_iff_not]; rintro rfl
            have e := hx.out.symm.trans hy.out
            exact hxy (by simpa using e)
          rw [decide_eq_false hxy] at E
          clear ht hx hy EO hxy
          go_wp2_with fail
          go_region_held3 (fun w' => w'.cell? ⟨g, k * 3, none⟩ = some (.int .i64 ok) ∧ w'.cell? ⟨g, k * 3 + 1, none⟩ = some (.int .i64 oa) ∧ w'.cell? ⟨g, k * 3 + 2, none⟩ = some (.int .i64 oq) ∧ w'.cell? ⟨g', k * 3, none⟩ = some (.int .i64 zk) ∧ w'.cell? ⟨g', k * 3 + 1, none⟩ = some (.int .i64 za) ∧ w'.cell? ⟨g', k * 3 + 2, none⟩ = some (.int .i64 zq))
            (((try dsimp only); (repeat' apply And.intro) <;> (with_reducible (first | exact p0 | exact p1 | exact p2 | exact p3 | exact p4 | exact p5 | exact cellD o0 | exact cellD o1 | exact cellD o2 | exact cellD z0 | exact cellD z1 | exact cellD z2 | exact o0 | exact o1 | exact o2 | exact z0 | exact z1 | exact z2))))
            ((go_at_call 50; (with_reducible refine (E _).mono ?_); rintro e w4 ⟨rfl, hb40⟩; (have hb4 : Below wr.heap.size wr w4 := (Below.refl wr.heap.size wr).drew.trans hb40); (have p0 := (hb4.cell (p := ⟨g, k * 3, none⟩) hg).trans o0); (have p1 := (hb4.cell (p := ⟨g, k * 3 + 1, none⟩) hg).trans o1); (have p2 := (hb4.cell (p := ⟨g, k * 3 + 2, none⟩) hg).trans o2); (have p3 := (hb4.cell (p := ⟨g', k * 3, none⟩) hg').trans z0); (have p4 := (hb4.cell (p := ⟨g', k * 3 + 1, none⟩) hg').trans z1); (have p5 := (hb4.cell (p := ⟨g', k * 3 + 2, none⟩) hg').trans z2)))
          rename_i hHeld
          clear hHeld
          have B4 := B3.trans (hb4.mono B3.size)
          go_wp2_with fail
          go_ret
          exact ⟨ret_bool Hf.out.symm, B4⟩
      · obtain rfl : k = n := by omega
        have Hf : Hid (decide (xs = ys) = true) := by
          have := ht.out; rw [List.take_of_length_le (by omega), List.take_of_length_le (by omega)] at this; unfold Hid; simpa using this
        go_wp2_with fail
        go_ret
        exact ⟨ret_bool Hf.out.symm, B3⟩
  · have hne2 : ((n : Int) != (n' : Int)) = true := by simp; omega
    have Hf : Hid (decide (xs = ys) = false) := by
      unfold Hid; simp only [decide_eq_false_iff_not]; rintro rfl; omega
    go_enter Try.func22, Try.ntmps22
    go_wp2_with fail
    go_ret
    exact ⟨ret_bool Hf.out.symm, Below.refl _ _⟩

/-- k, k+1, .. as operations: three numbers each. -/
def seqO (k n : Nat) : List Opv := (List.range n).map fun i => ⟨((k + i * 3 : Nat) : Int), ((k + i * 3 + 1 : Nat) : Int), ((k + i * 3 + 2 : Nat) : Int)⟩
theorem seqO_len (k n : Nat) : (seqO k n).length = n := by simp [seqO]
theorem seqO_succ (k n : Nat) : seqO k (n + 1) = seqO k n ++ [⟨((k + n * 3 : Nat) : Int), ((k + n * 3 + 1 : Nat) : Int), ((k + n * 3 + 2 : Nat) : Int)⟩] := by simp [seqO, List.range_succ]
theorem seqO_set {xs : List Opv} {k j : Nat} (h : j < xs.length) : (seqO k j ++ xs.drop j).set j ⟨((k + j * 3 : Nat) : Int), ((k + j * 3 + 1 : Nat) : Int), ((k + j * 3 + 2 : Nat) : Int)⟩ = seqO k (j + 1) ++ xs.drop (j + 1) := by
  rw [List.set_append, if_neg (by rw [seqO_len]; omega), seqO_len, Nat.sub_self, List.drop_eq_getElem_cons h, List.set_cons_zero, seqO_succ]
  simp

set_option maxRecDepth 100000 in
set_option maxHeartbeats 1000000 in
theorem markOpS_any (w : World) (lo : Nat) (A : Option Addr) (n c : Nat) (os : List Opv) (h : ORow w lo (.slice A n c) os) (hn : os.length = n) (hm : n ≤ 1048576) (k : Nat) (hk : k ≤ 1073741824) :
    Calls Try.prog 23 #[.slice A n c, .int .i64 k] w fun e w' => e = .returned (.int .i64 ((k + n * 3 : Nat) : Int)) ∧ w.grownBy w' (Value.slice A n c).ownBlock ∧ w'.heap.size = w.heap.size := by
  go_enter Try.func23, Try.ntmps23
  go_wp2_with fail
  go_loopw [1, 5] (fun q i wr => ∃ j : Nat, j ≤ n ∧ i = .int .i64 j ∧ q = .int .i64 ((k + j * 3 : Nat) : Int) ∧ ORow wr lo (.slice A n c) (seqO k j ++ os.drop j) ∧ Hid (w.grownBy wr (Value.slice A n c).ownBlock ∧ wr.heap.size = w.heap.size)) (fun _ i _ => n - (intOf i).toNat)
  case atStart => exact ⟨0, Nat.zero_le _, rfl, rfl, h, World.grownBy.refl _ _, rfl⟩
  case round =>
    obtain ⟨j, hj, rfl, rfl, hr, hg⟩ := hrel
    by_cases hlt : j < n
    · have hrl : (seqO k j ++ os.drop j).length = n := by simp [seqO_len]; omega
      obtain ⟨g, ⟨zk, za, zq⟩, rfl, _, _, _, z0, z1, z2⟩ := hr.get (k := j) (by rw [hrl]; exact hlt)
      simp only at z0 z1 z2
      have f0 := hr.frozen (j * 3)
      have f1 := hr.frozen (j * 3 + 1)
      have f2 := hr.frozen (j * 3 + 2)
      obtain ⟨hr', hgr⟩ := hr.set3 (k := j) (by rw [hrl]; exact hlt) ⟨((k + j * 3 : Nat) : Int), ((k + j * 3 + 1 : Nat) : Int), ((k + j * 3 + 2 : Nat) : Int)⟩
      rw [seqO_set (by omega)] at hr'
      have e1 : ((k + j * 3 + 1 : Nat) : Int) = ((k + j * 3 : Nat) : Int) + 1 := by omega
      have e2 : ((k + j * 3 + 2 : Nat) : Int) = ((k + j * 3 : Nat) : Int) + 1 + 1 := by omega
      simp only [e1, e2] at hr' hgr
      have hg' : Hid (w.grownBy ((((wr.setCell ⟨g, j * 3, none⟩ (.int .i64 ((k + j * 3 : Nat) : Int))).setCell ⟨g, j * 3 + 1, none⟩ (.int .i64 (((k + j * 3 : Nat) : Int) + 1))).setCell ⟨g, j * 3 + 2, none⟩ (.int .i64 (((k + j * 3 : Nat) : Int) + 1 + 1)))) (Value.slice (some ⟨g, 0, none⟩) n c).ownBlock ∧ ((((wr.setCell ⟨g, j * 3, none⟩ (.int .i64 ((k + j * 3 : Nat) : Int))).setCell ⟨g, j * 3 + 1, none⟩ (.int .i64 (((k + j * 3 : Nat) : Int) + 1))).setCell ⟨g, j * 3 + 2, none⟩ (.int .i64 (((k + j * 3 : Nat) : Int) + 1 + 1)))).heap.size = w.heap.size) :=
        ⟨⟨hgr.os.trans hg.out.1.os, hgr.tape.trans hg.out.1.tape, hgr.output.trans hg.out.1.output, Nat.le_trans hg.out.1.size hgr.size, fun i hi hne => (hgr.block i (Nat.lt_of_lt_of_le hi hg.out.1.size) hne).trans (hg.out.1.block i hi hne)⟩, by simpa [World.setCell] using hg.out.2⟩
      have eS : (((k + j * 3 : Nat) : Int) + 1 + 1 + 1) = ((k + (j + 1) * 3 : Nat) : Int) := by omega
      have HS := Lib.hid eS
      clear hr hg h eS hgr e1 e2
      generalize hkj : ((k + j * 3 : Nat) : Int) = kj at *
      have hb : 0 ≤ kj ∧ kj ≤ 1077936128 := by omega
      obtain ⟨hb1, hb2⟩ := hb
      have HK := Lib.hid hkj
      clear hkj
      go_wp2_with fail
      go_roundw
      case rel => exact ⟨j + 1, by omega, by go_num, by rw [HS.out], hr', hg'⟩
      case measure => simp [intOf]; omega
    · obtain rfl : j = n := by omega
      clear hr
      go_wp2_with fail
      go_ret
      exact ⟨rfl, hg.out.1, hg.out.2⟩

theorem OIn.alloc {w : World} {B : Nat} {A : Option Addr} {n : Nat} {os : List Opv} (h : OIn w B A n os) (hB : B ≤ w.heap.size) (o : Obj) : OIn (w.alloc o) B A n os := h.below ((Below.refl _ _).alloc hB _)
theorem OIn.drew {w : World} {B : Nat} {A : Option Addr} {n : Nat} {os : List Opv} (h : OIn w B A n os) : OIn w.drew B A n os := h
theorem OIn.up {w : World} {B B' : Nat} {A : Option Addr} {n : Nat} {os : List Opv} (h : OIn w B A n os) (hB : B ≤ B') : OIn w B' A n os := by
  refine ⟨h.1, ?_⟩
  rcases h.2 with h | ⟨b, off, e, hlt, hc⟩
  · exact .inl h
  · exact .inr ⟨b, off, e, by omega, hc⟩
/-- The argument: a slice of operations. -/
def OsIn (w : World) (v : Value) (os : List Opv) : Prop := ∃ A c, v = .slice A os.length c ∧ OIn w w.heap.size A os.length os ∧ os.length ≤ 9223372036854775807
theorem ORow.keptC {w w' : World} {lo : Nat} {v u : Value} {os : List Opv} (hv : ORow w lo v os) (fr : ∀ b, b < w.heap.size → NotC u b → w'.heap[b]? = w.heap[b]?) (hn : ∀ b, v.ownBlock = some b → NotC u b) : ORow w' lo v os := by
  refine ⟨hv.1, ?_⟩
  rcases hv.2 with h2 | ⟨g, cap, cur, rfl, hg, hh, r⟩
  · exact .inl h2
  · exact .inr ⟨g, cap, cur, rfl, hg, by rw [fr g (hv.lt g rfl).2 (hn g rfl)]; exact hh, r⟩
theorem Cv.keptO {w w' W : World} {lo lo2 : Nat} {v u : Value} {C : Cp} {os : List Opv} (hv : Cv w lo v C) (hg : w.grownBy w' u.ownBlock) (hU : ORow W lo2 u os) (hs : W.heap.size ≤ lo) : Cv w' lo v C :=
  Cv.keptC (u := .agg #[u, u, u, u]) hv (fun b hb hn => hg.block b hb (hn u u u u rfl).1) (fun b h1 _ v0 v1 v2 v3 e => by
    cases e
    have : some b ≠ u.ownBlock := fun e => by have := (hU.lt b e.symm).2; omega
    exact ⟨this, this, this, this⟩)
theorem belowRowP {w w' : World} {lo : Nat} {row : Option Nat} (hg : w.grownBy w' row) (hl : lo ≤ w.heap.size) (h : ∀ k, row = some k → lo ≤ k) : Below lo w w' :=
  ⟨hg.os, hg.tape, hg.output, hg.size, fun k hk => hg.block k (by omega) (fun e => by have := h k e.symm; omega)⟩
theorem eqOpS_same (w : World) (lo lo' : Nat) (A A' : Option Addr) (c c' : Nat) (os : List Opv) (hm : os.length ≤ 9223372036854775807) (h : ORow w lo (.slice A os.length c) os) (h' : ORow w lo' (.slice A' os.length c') os) :
    Calls Try.prog 22 #[.slice A os.length c, .slice A' os.length c'] w (RetB w true) := by
  have E := eqOpS_any w lo lo' A A' _ c _ c' os os h rfl hm h' rfl hm
  rwa [decide_eq_true rfl] at E
theorem markOC (C : Cp) (os : List Opv) (b0 : C.h.l.length ≤ 1048576) (b1 : C.h.r.length ≤ 1048576) (b2 : C.h.t.length ≤ 1048576) (b3 : C.c.length ≤ 1048576) (b4 : os.length ≤ 1048576) :
    ∃ N M : Int, ¬ (M < 0) ∧
      (∀ (w : World) (lo : Nat) (v : Value), Cv w lo v C → lo ≤ w.heap.size → Calls Try.prog 16 #[v, .int .i64 1] w (MarkedC w lo 1 N v C)) ∧
      (∀ (w : World) (lo : Nat) (A : Option Addr) (c : Nat), ORow w lo (.slice A os.length c) os → Calls Try.prog 23 #[.slice A os.length c, .int .i64 N] w fun e w' => e = .returned (.int .i64 M) ∧ w.grownBy w' (Value.slice A os.length c).ownBlock ∧ w'.heap.size = w.heap.size) :=
  ⟨((1 + sizeC C : Nat) : Int), ((1 + sizeC C + os.length * 3 : Nat) : Int), by omega, fun w lo v hv hlo => markColored_any w lo v C hv hlo b0 b1 b2 b3, fun w lo A c h => markOpS_any w lo A _ c os h rfl b4 _ (by unfold sizeC sizeH; omega)⟩
theorem op_rootsP {C : Cp} {o : Opv} (h : runB C o = true) : (runC C o).h.t.length = C.h.t.length := by
  unfold runC
  rw [if_pos h]
  split
  · split
    · rename_i ha
      unfold allocC
      rw [if_pos ha]
      simp
    · rfl
  · unfold doC
    repeat' split
    all_goals simp
theorem runs_validP : ∀ (os : List Opv) (C : Cp), stoB C = true → opsB C.h.t.length os = true → stoB (runsC C os).1 = true
  | [], _, h, _ => h
  | o :: os, C, h, ho => by
    have h0 : opB o C.h.t.length = true := opsB_iff.1 ho o (by simp)
    have hrb : runB C o = true := runB_iff.2 ⟨h, h0⟩
    simp only [runsC]
    split
    · exact runs_validP os _ (run_valid hrb) (by rw [op_rootsP hrb]; exact opsB_iff.2 fun p hp => opsB_iff.1 ho p (by simp [hp]))
    · exact h
theorem prog_short (C : Cp) (os : List Opv) : ShortC (progC C os) := by
  unfold progC
  split
  · rename_i h
    obtain ⟨h1, _, h3⟩ := progB_iff.1 h
    exact stoB_short (runs_validP os C h1 h3)
  · exact zeroC_short
end Go.Proofs.Ytlabljanddjleaa

