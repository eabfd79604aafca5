/- The helpers of the exact laws over colored heaps: szColored, toColored, eqColored, markColored, heldColored. -/
import Derived.Test.YtpjdpflghcdkiaaExacts
import Derived.Test.YtpjdpflghcdkiaaSFreeG
import Derived.Test.YtpjdpflghcdkiaaWrgA
namespace Go.Proofs.Ytpjdpflghcdkiaa
open Go.RowKit

set_option maxHeartbeats 1000000 in
theorem szColored_any (w : World) (A0 A1 A2 A3 : Option Addr) (n0 c0 n1 c1 n2 c2 n3 c3 : Nat) (left : Int) (h0 : 0 ≤ left) (h1 : left ≤ 1048576) (b0 : n0 ≤ 9223372036854775807) (b1 : n1 ≤ 9223372036854775807) (b2 : n2 ≤ 9223372036854775807) (b3 : n3 ≤ 9223372036854775807) :
    Calls Try.prog 22 #[.agg #[.slice A0 n0 c0, .slice A1 n1 c1, .slice A2 n2 c2, .slice A3 n3 c3], .int .i64 left] w (RetI w (szV (n0 + n1 + n2 + n3) left)) := by
  have fin : Below w.heap.size w (w.alloc (.cells #[.slice A0 n0 c0, .slice A1 n1 c1, .slice A2 n2 c2, .slice A3 n3 c3] 35)) := (Below.refl _ _).alloc (Nat.le_refl _) _
  have S := szHeap_any (w.alloc (.cells #[.slice A0 n0 c0, .slice A1 n1 c1, .slice A2 n2 c2, .slice A3 n3 c3] 35)) A0 A1 A2 n0 c0 n1 c1 n2 c2 left h0 h1 b0 b1 b2
  have X := Blk4.new w (.slice A0 n0 c0) (.slice A1 n1 c1) (.slice A2 n2 c2) (.slice A3 n3 c3) 35
  by_cases e : ((n0 + n1 + n2 : Nat) : Int) ≤ left
  · have f : szV (n0 + n1 + n2) left = left - ((n0 + n1 + n2 : Nat) : Int) := by unfold szV; rw [if_pos e]
    rw [f] at S
    have u0 : 0 ≤ left - ((n0 + n1 + n2 : Nat) : Int) := by omega
    have u1 : left - ((n0 + n1 + n2 : Nat) : Int) ≤ 1048576 := by omega
    have hT : Hid (szV (n0 + n1 + n2 + n3) left = szV n3 (left - ((n0 + n1 + n2 : Nat) : Int))) := by
      unfold Hid szV; by_cases h9 : (n3 : Int) ≤ left - ((n0 + n1 + n2 : Nat) : Int)
      · rw [if_pos h9, if_pos (by omega)]; omega
      · rw [if_neg h9, if_neg (by omega)]
    clear f e
    generalize left - ((n0 + n1 + n2 : Nat) : Int) = lf at *
    have g0 : ¬ (lf < 0) := by omega
    have S3 := fun W => szIntS_any W A3 n3 c3 lf u0 u1 b3
    by_cases e3 : (n3 : Int) ≤ lf
    · have f3 : szV n3 lf = lf - n3 := by unfold szV; rw [if_pos e3]
      rw [f3] at S3 hT
      have g1 : ¬ (lf - n3 < 0) := by omega
      clear f3 e3
      go_enter Try.func22, Try.ntmps22
      go_wp2_with fail
      refine S.mono ?_; rintro e w1 ⟨rfl, hb1⟩
      obtain ⟨x0, x1, x2, x3, _⟩ := (Blk4.below (by exact X) hb1).cells
      have B1 := fin.trans (hb1.mono (by simp))
      clear S X
      go_wp2_with fail
      refine (S3 _).mono ?_; rintro e w' ⟨rfl, rfl⟩
      go_wp2_with fail
      go_ret
      exact ⟨ret_int hT.out.symm, B1⟩
    · have f3 : szV n3 lf = -1 := by unfold szV; rw [if_neg e3]
      rw [f3] at S3 hT
      clear f3 e3
      go_enter Try.func22, Try.ntmps22
      go_wp2_with fail
      refine S.mono ?_; rintro e w1 ⟨rfl, hb1⟩
      obtain ⟨x0, x1, x2, x3, _⟩ := (Blk4.below (by exact X) hb1).cells
      have B1 := fin.trans (hb1.mono (by simp))
      clear S X
      go_wp2_with fail
      refine (S3 _).mono ?_; rintro e w' ⟨rfl, rfl⟩
      go_wp2_with fail
      go_ret
      exact ⟨ret_int hT.out.symm, B1⟩
  · have f : szV (n0 + n1 + n2) left = -1 := by unfold szV; rw [if_neg e]
    rw [f] at S
    have hT : Hid (szV (n0 + n1 + n2 + n3) left = -1) := by unfold Hid szV; rw [if_neg (by omega)]
    clear f e
    go_enter Try.func22, Try.ntmps22
    go_wp2_with fail
    refine S.mono ?_; rintro e w1 ⟨rfl, hb1⟩
    have B1 := fin.trans (hb1.mono (by simp))
    go_wp2_with fail
    go_ret
    exact ⟨ret_int hT.out.symm, B1⟩

/-- A colored heap that is an argument. -/
def CArg (w : World) (B : Nat) (v : Value) (C : Cp) : Prop :=
  ∃ A0 c0 A1 c1 A2 c2 A3 c3, v = .agg #[.slice A0 C.h.l.length c0, .slice A1 C.h.r.length c1, .slice A2 C.h.t.length c2, .slice A3 C.c.length c3] ∧ Ints w B A0 C.h.l.length C.h.l ∧ Ints w B A1 C.h.r.length C.h.r ∧ Ints w B A2 C.h.t.length C.h.t ∧ Ints w B A3 C.c.length C.c
theorem CArg.below {w w' : World} {B : Nat} {v : Value} {C : Cp} (hv : CArg w B v C) (hb : Below B w w') : CArg w' B v C := by
  obtain ⟨A0, c0, A1, c1, A2, c2, A3, c3, rfl, h0, h1, h2, h3⟩ := hv
  exact ⟨A0, c0, A1, c1, A2, c2, A3, c3, rfl, h0.below hb, h1.below hb, h2.below hb, h3.below hb⟩
theorem CArg.alloc {w : World} {B : Nat} {v : Value} {C : Cp} (hv : CArg w B v C) (hB : B ≤ w.heap.size) (o : Obj) : CArg (w.alloc o) B v C := hv.below ((Below.refl _ _).alloc hB _)
theorem CArg.drew {w : World} {B : Nat} {v : Value} {C : Cp} (hv : CArg w B v C) : CArg w.drew B v C := hv
/-- .. and that its rows are not longer than a row can be. -/
def CIn (w : World) (v : Value) (C : Cp) : Prop := CArg w w.heap.size v C ∧ (C.h.l.length ≤ 9223372036854775807 ∧ C.h.r.length ≤ 9223372036854775807 ∧ C.h.t.length ≤ 9223372036854775807 ∧ C.c.length ≤ 9223372036854775807)

/-- The heap part of a variable was stored. -/
theorem Blk4.set012 {w : World} {b : Nat} {x y z u : Value} {t : TypeId} (h : Blk4 w b x y z u t) (x' y' z' : Value) : Blk4 (((w.setCell ⟨b, 0, none⟩ x').setCell ⟨b, 1, none⟩ y').setCell ⟨b, 2, none⟩ z') b x' y' z' u t := by
  unfold Blk4 at h ⊢; simp [World.setCell, Array.getElem?_modify, h]
theorem Hv.low3 {w : World} {lo b : Nat} {v : Value} {h : Hp} (hv : Hv w lo v h) (hb : b < lo) (x y z : Value) : Hv (((w.setCell ⟨b, 0, none⟩ x).setCell ⟨b, 1, none⟩ y).setCell ⟨b, 2, none⟩ z) lo v h :=
  ((hv.low_set (p := ⟨b, 0, none⟩) hb x).low_set (p := ⟨b, 1, none⟩) hb y).low_set (p := ⟨b, 2, none⟩) hb z
theorem size3 (w : World) (b : Nat) (x y z : Value) : (((w.setCell ⟨b, 0, none⟩ x).setCell ⟨b, 1, none⟩ y).setCell ⟨b, 2, none⟩ z).heap.size = w.heap.size := by simp [World.setCell]

set_option maxRecDepth 100000 in
set_option maxHeartbeats 2000000 in
theorem toColored_any (w : World) (B : Nat) (hBw : B ≤ w.heap.size) (v : Value) (C : Cp) (hv : CArg w B v C) (b0 : C.h.l.length ≤ 1048576) (b1 : C.h.r.length ≤ 1048576) (b2 : C.h.t.length ≤ 1048576) (b3 : C.c.length ≤ 1048576) :
    Calls Try.prog 24 #[v] w (NewCv w C) := by
  obtain ⟨A0, c0, A1, c1, A2, c2, A3, c3, rfl, h0, h1, h2, h3⟩ := hv
  have X := ((Blk4.new w (.slice A0 C.h.l.length c0) (.slice A1 C.h.r.length c1) (.slice A2 C.h.t.length c2) (.slice A3 C.c.length c3) 35).alloc (.cells #[.slice none 0 0, .slice none 0 0, .slice none 0 0, .slice none 0 0] 38)).alloc (.cells #[.slice none 0 0, .slice none 0 0, .slice none 0 0, .slice none 0 0] 38)
  have Y := (Blk4.new_at (w := w.alloc (.cells #[.slice A0 C.h.l.length c0, .slice A1 C.h.r.length c1, .slice A2 C.h.t.length c2, .slice A3 C.c.length c3] 35)) (b := w.heap.size + 1) (by simp) (.slice none 0 0) (.slice none 0 0) (.slice none 0 0) (.slice none 0 0) 38).alloc (.cells #[.slice none 0 0, .slice none 0 0, .slice none 0 0, .slice none 0 0] 38)
  have Z := Blk4.new_at (w := (w.alloc (.cells #[.slice A0 C.h.l.length c0, .slice A1 C.h.r.length c1, .slice A2 C.h.t.length c2, .slice A3 C.c.length c3] 35)).alloc (.cells #[.slice none 0 0, .slice none 0 0, .slice none 0 0, .slice none 0 0] 38)) (b := w.heap.size + 2) (by simp) (.slice none 0 0) (.slice none 0 0) (.slice none 0 0) (.slice none 0 0) 38
  have fin : Below w.heap.size w (((w.alloc (.cells #[.slice A0 C.h.l.length c0, .slice A1 C.h.r.length c1, .slice A2 C.h.t.length c2, .slice A3 C.c.length c3] 35)).alloc (.cells #[.slice none 0 0, .slice none 0 0, .slice none 0 0, .slice none 0 0] 38)).alloc (.cells #[.slice none 0 0, .slice none 0 0, .slice none 0 0, .slice none 0 0] 38)) := (((Below.refl _ _).alloc (Nat.le_refl _) _).alloc (by simp) _).alloc (by simp <;> omega) _
  have sz : (((w.alloc (.cells #[.slice A0 C.h.l.length c0, .slice A1 C.h.r.length c1, .slice A2 C.h.t.length c2, .slice A3 C.c.length c3] 35)).alloc (.cells #[.slice none 0 0, .slice none 0 0, .slice none 0 0, .slice none 0 0] 38)).alloc (.cells #[.slice none 0 0, .slice none 0 0, .slice none 0 0, .slice none 0 0] 38)).heap.size = w.heap.size + 3 := by simp
  have HA : HArg (((w.alloc (.cells #[.slice A0 C.h.l.length c0, .slice A1 C.h.r.length c1, .slice A2 C.h.t.length c2, .slice A3 C.c.length c3] 35)).alloc (.cells #[.slice none 0 0, .slice none 0 0, .slice none 0 0, .slice none 0 0] 38)).alloc (.cells #[.slice none 0 0, .slice none 0 0, .slice none 0 0, .slice none 0 0] 38)) w.heap.size (.agg #[.slice A0 C.h.l.length c0, .slice A1 C.h.r.length c1, .slice A2 C.h.t.length c2]) C.h := ⟨_, _, _, _, _, _, rfl, (h0.below (fin.mono hBw)).mono hBw, (h1.below (fin.mono hBw)).mono hBw, (h2.below (fin.mono hBw)).mono hBw⟩
  have i3 := (h3.below (fin.mono hBw)).mono hBw
  clear h0 h1 h2 h3
  go_enter Try.func24, Try.ntmps24
  go_wp2_with fail
  generalize ((w.alloc (.cells #[.slice A0 C.h.l.length c0, .slice A1 C.h.r.length c1, .slice A2 C.h.t.length c2, .slice A3 C.c.length c3] 35)).alloc (.cells #[.slice none 0 0, .slice none 0 0, .slice none 0 0, .slice none 0 0] 38)).alloc (.cells #[.slice none 0 0, .slice none 0 0, .slice none 0 0, .slice none 0 0] 38) = W at X Y Z fin sz HA i3 ⊢
  obtain ⟨x0, x1, x2, x3, _⟩ := X.cells
  obtain ⟨q0, q1, q2, q3, k0, k1, k2, k3⟩ := Z.cells
  generalize hl0 : C.h.l.length = n0 at *
  generalize hl1 : C.h.r.length = n1 at *
  generalize hl2 : C.h.t.length = n2 at *
  generalize hl3 : C.c.length = n3 at *
  have L3 := Lib.hid hl3
  have T0 := toHeap_any W w.heap.size fin.size _ C.h HA (by omega) (by omega) (by omega)
  clear hl0 hl1 hl2 hl3
  go_wp2_with fail
  refine T0.mono ?_; rintro e w1 ⟨vv, rfl, HN, hb1⟩
  have HNo := HN
  obtain ⟨B0, u0, e0, B1, u1, e1, B2, u2, e2, rfl, _⟩ := HNo.open_
  have z1 := hb1.size
  have fin1 := fin.trans (hb1.mono (by omega))
  have X1 := ((((X.below hb1).other (p := ⟨w.heap.size + 2, 0, none⟩) (by simp) (.slice B0 u0 e0)).other (p := ⟨w.heap.size + 2, 1, none⟩) (by simp) (.slice B1 u1 e1)).other (p := ⟨w.heap.size + 2, 2, none⟩) (by simp) (.slice B2 u2 e2))
  have Y1 := ((((Y.below hb1).other (p := ⟨w.heap.size + 2, 0, none⟩) (by simp) (.slice B0 u0 e0)).other (p := ⟨w.heap.size + 2, 1, none⟩) (by simp) (.slice B1 u1 e1)).other (p := ⟨w.heap.size + 2, 2, none⟩) (by simp) (.slice B2 u2 e2))
  have Z0 := Z.below hb1
  have Z1 := Z0.set012 (.slice B0 u0 e0) (.slice B1 u1 e1) (.slice B2 u2 e2)
  have HN1 := HN.low3 (b := w.heap.size + 2) (by omega) (.slice B0 u0 e0) (.slice B1 u1 e1) (.slice B2 u2 e2)
  have bs : Below w.heap.size w1 (((w1.setCell ⟨w.heap.size + 2, 0, none⟩ (.slice B0 u0 e0)).setCell ⟨w.heap.size + 2, 1, none⟩ (.slice B1 u1 e1)).setCell ⟨w.heap.size + 2, 2, none⟩ (.slice B2 u2 e2)) := (((Below.refl _ _).setCell (by simp) _).setCell (by simp) _).setCell (by simp) _
  have s1 := size3 w1 (w.heap.size + 2) (.slice B0 u0 e0) (.slice B1 u1 e1) (.slice B2 u2 e2)
  have j3 := ((i3.below (hb1.mono (by omega))).below bs)
  have fin2 := fin1.trans bs
  obtain ⟨p0, p1, p2, p3, _⟩ := (X.below hb1).cells
  obtain ⟨r0, r1, r2, r3, m0, m1, m2, m3⟩ := Z0.cells
  go_wp2_with fail
  generalize ((w1.setCell ⟨w.heap.size + 2, 0, none⟩ (.slice B0 u0 e0)).setCell ⟨w.heap.size + 2, 1, none⟩ (.slice B1 u1 e1)).setCell ⟨w.heap.size + 2, 2, none⟩ (.slice B2 u2 e2) = W1 at X1 Y1 Z1 HN1 j3 fin2 s1 bs ⊢
  obtain ⟨t0, t1, t2, t3, _⟩ := X1.cells
  have T1 := toIntS_any W1 A3 n3 c3 C.c (j3.mono (by omega)) b3
  clear X Y Z Z0 x0 x1 x2 x3 q0 q1 q2 q3 k0 k1 k2 k3 p0 p1 p2 p3 r0 r1 r2 r3 m0 m1 m2 m3 T0
  go_wp2_with fail
  refine T1.mono ?_; rintro e w2 ⟨B3, e3, rfl, r3n, hb2⟩
  have Y2 := (Y1.below hb2).other (p := ⟨w.heap.size + 2, 3, none⟩) (by simp) (.slice B3 C.c.length e3)
  have Z2 := Z1.below hb2
  have Z3 := Z2.set3 (.slice B3 C.c.length e3)
  have HN2 := (HN1.below hb2).low_set (p := ⟨w.heap.size + 2, 3, none⟩) (by simp; omega) (.slice B3 C.c.length e3)
  have R3 := (r3n.other (a := ⟨w.heap.size + 2, 3, none⟩) (fun e => by have := (r3n.lt _ e).1; simp at this; omega) (.slice B3 C.c.length e3)).mono (lo' := w.heap.size + 2) (by omega)
  have fin3 := (fin2.trans (hb2.mono (by omega))).setCell (p := ⟨w.heap.size + 2, 3, none⟩) (by simp) (.slice B3 C.c.length e3)
  have ap : ∀ (v : Value) (xs : List Int), Row w1 W.heap.size v xs → Apart v (.slice B3 C.c.length e3) := fun v xs r j e e' => by
    have h1 := (r.lt j e).2
    have h2 := (r3n.lt j e').1
    omega
  obtain ⟨_, _, _, ev, H0, H1, H2, _⟩ := HN
  cases ev
  obtain ⟨hH, hB⟩ := copyC_done (w := w) (C := C) (HN2.mono (by omega)) R3 ⟨ap _ _ H0, ap _ _ H1, ap _ _ H2⟩ fin3
  obtain ⟨y0, y1, y2, y3, f0, f1, f2, f3⟩ := Y2.cells
  obtain ⟨r0, r1, r2, r3, m0, m1, m2, m3⟩ := Z2.cells
  obtain ⟨q0, q1, q2, q3, _⟩ := Z3.cells
  clear X1 Y1 Z1 Z2 Z3 HN1 HN2 T1
  go_wp2_with fail
  refine bodyPost_ret (v := .agg #[.slice B0 u0 e0, .slice B1 u1 e1, .slice B2 u2 e2, .slice B3 C.c.length e3]) ?_ rfl ⟨_, rfl, hH, hB⟩
  simp [results, Try.results24, go_sem, y0, y1, y2, y3]

set_option maxHeartbeats 1000000 in
theorem eqColored_any (w : World) (lo lo' : Nat) (v v' : Value) (a b : Cp) (hv : Cv w lo v a) (hv' : Cv w lo' v' b) : Calls Try.prog 27 #[v, v'] w (RetB w (sameC a b)) := by
  obtain ⟨A0, n0, c0, A1, n1, c1, A2, n2, c2, A3, n3, c3, rfl, hh, ⟨_, _, _, r3⟩, ⟨_, _, _, l3⟩, ⟨_, _, _, m3⟩, _⟩ := hv.open_
  obtain ⟨A0', n0', c0', A1', n1', c1', A2', n2', c2', A3', n3', c3', rfl, hh', ⟨_, _, _, r3'⟩, ⟨_, _, _, l3'⟩, ⟨_, _, _, m3'⟩, _⟩ := hv'.open_
  have X0 := (Blk4.new w (.slice A0 n0 c0) (.slice A1 n1 c1) (.slice A2 n2 c2) (.slice A3 n3 c3) 38).alloc (.cells #[.slice A0' n0' c0', .slice A1' n1' c1', .slice A2' n2' c2', .slice A3' n3' c3'] 38)
  have Y0 := Blk4.new_at (w := w.alloc (.cells #[.slice A0 n0 c0, .slice A1 n1 c1, .slice A2 n2 c2, .slice A3 n3 c3] 38)) (b := w.heap.size + 1) (by simp) (.slice A0' n0' c0') (.slice A1' n1' c1') (.slice A2' n2' c2') (.slice A3' n3' c3') 38
  have H := (hh.alloc (.cells #[.slice A0 n0 c0, .slice A1 n1 c1, .slice A2 n2 c2, .slice A3 n3 c3] 38)).alloc (.cells #[.slice A0' n0' c0', .slice A1' n1' c1', .slice A2' n2' c2', .slice A3' n3' c3'] 38)
  have H' := (hh'.alloc (.cells #[.slice A0 n0 c0, .slice A1 n1 c1, .slice A2 n2 c2, .slice A3 n3 c3] 38)).alloc (.cells #[.slice A0' n0' c0', .slice A1' n1' c1', .slice A2' n2' c2', .slice A3' n3' c3'] 38)
  have R := (r3.alloc (.cells #[.slice A0 n0 c0, .slice A1 n1 c1, .slice A2 n2 c2, .slice A3 n3 c3] 38)).alloc (.cells #[.slice A0' n0' c0', .slice A1' n1' c1', .slice A2' n2' c2', .slice A3' n3' c3'] 38)
  have R' := (r3'.alloc (.cells #[.slice A0 n0 c0, .slice A1 n1 c1, .slice A2 n2 c2, .slice A3 n3 c3] 38)).alloc (.cells #[.slice A0' n0' c0', .slice A1' n1' c1', .slice A2' n2' c2', .slice A3' n3' c3'] 38)
  have fin : Below w.heap.size w ((w.alloc (.cells #[.slice A0 n0 c0, .slice A1 n1 c1, .slice A2 n2 c2, .slice A3 n3 c3] 38)).alloc (.cells #[.slice A0' n0' c0', .slice A1' n1' c1', .slice A2' n2' c2', .slice A3' n3' c3'] 38)) := ((Below.refl _ _).alloc (Nat.le_refl _) _).alloc (by simp) _
  have S := eqHeap_any _ _ _ _ _ _ _ H H'
  go_enter Try.func27, Try.ntmps27
  go_wp2_with fail
  generalize (w.alloc (.cells #[.slice A0 n0 c0, .slice A1 n1 c1, .slice A2 n2 c2, .slice A3 n3 c3] 38)).alloc (.cells #[.slice A0' n0' c0', .slice A1' n1' c1', .slice A2' n2' c2', .slice A3' n3' c3'] 38) = W at X0 Y0 H H' R R' fin S ⊢
  rcases es : sameB a.h b.h
  · rw [es] at S
    have hf : Hid (sameC a b = false) := by unfold Hid sameC; rw [es]; rfl
    clear es
    refine S.mono ?_; rintro e w1 ⟨rfl, hb1⟩
    go_wp2_with fail
    go_ret
    exact ⟨ret_bool hf.out.symm, fin.trans (hb1.mono fin.size)⟩
  · rw [es] at S
    have hf : Hid (sameC a b = decide (a.c = b.c)) := by unfold Hid sameC; rw [es]; rfl
    clear es
    refine S.mono ?_; rintro e w1 ⟨rfl, hb1⟩
    obtain ⟨x0, x1, x2, x3, _⟩ := (X0.below hb1).cells
    obtain ⟨y0, y1, y2, y3, _⟩ := (Y0.below hb1).cells
    have E := eqIntS_any w1 _ _ _ _ _ _ _ _ _ _ (R.below hb1) l3.out m3 (R'.below hb1) l3'.out m3'
    have B1 := fin.trans (hb1.mono fin.size)
    clear S H H' X0 Y0 R R'
    rcases eq : decide (a.c = b.c)
    all_goals
      rw [eq] at E hf
      clear eq
      go_wp2_with fail
      refine E.mono ?_; rintro e w2 ⟨rfl, q0, rfl⟩
      go_wp2_with fail
      go_ret
      exact ⟨ret_bool hf.out.symm, below_drewN B1 _⟩
theorem eqColored_same (w : World) (lo lo' : Nat) (v v' : Value) (a : Cp) (hv : Cv w lo v a) (hv' : Cv w lo' v' a) : Calls Try.prog 27 #[v, v'] w (RetB w true) := by
  have E := eqColored_any w lo lo' v v' a a hv hv'
  rwa [sameC_self] at E

def markC (k : Nat) (C : Cp) : Cp := ⟨markH k C.h, seqI (k + sizeH C.h) C.c.length⟩
def sizeC (C : Cp) : Nat := sizeH C.h + C.c.length
/-- Block b is none of the colored heap's own. -/
def NotC (v : Value) (b : Nat) : Prop := ∀ v0 v1 v2 v3, v = .agg #[v0, v1, v2, v3] → some b ≠ v0.ownBlock ∧ some b ≠ v1.ownBlock ∧ some b ≠ v2.ownBlock ∧ some b ≠ v3.ownBlock
/-- A colored heap was marked: the number is N; below lo, and in every block that is not its own, nothing has turned. -/
def MarkedC (w : World) (lo k : Nat) (N : Int) (v : Value) (C : Cp) (e : Ending) (w' : World) : Prop :=
  e = .returned (.int .i64 N) ∧ Cv w' lo v (markC k C) ∧ Below lo w w' ∧ ∀ b, b < w.heap.size → NotC v b → w'.heap[b]? = w.heap[b]?

set_option maxRecDepth 100000 in
set_option maxHeartbeats 1000000 in
theorem markColored_any (w : World) (lo : Nat) (v : Value) (C : Cp) (hv : Cv w lo v C) (hlo : lo ≤ w.heap.size) (b0 : C.h.l.length ≤ 1048576) (b1 : C.h.r.length ≤ 1048576) (b2 : C.h.t.length ≤ 1048576) (b3 : C.c.length ≤ 1048576) :
    Calls Try.prog 28 #[v, .int .i64 1] w (MarkedC w lo 1 ((1 + sizeC C : Nat) : Int) v C) := by
  obtain ⟨A0, n0, c0, A1, n1, c1, A2, n2, c2, A3, n3, c3, rfl, hh, ⟨r0, r1, r2, r3⟩, ⟨l0, l1, l2, l3⟩, _, a, ⟨a03, a13, a23⟩⟩ := hv.open_
  have X := Blk4.new w (.slice A0 n0 c0) (.slice A1 n1 c1) (.slice A2 n2 c2) (.slice A3 n3 c3) 38
  have H := hh.alloc (.cells #[.slice A0 n0 c0, .slice A1 n1 c1, .slice A2 n2 c2, .slice A3 n3 c3] 38)
  have R := r3.alloc (.cells #[.slice A0 n0 c0, .slice A1 n1 c1, .slice A2 n2 c2, .slice A3 n3 c3] 38)
  have S : sizeH C.h ≤ 3145728 := by unfold sizeH; omega
  have u3 : n3 ≤ 1048576 := by have := l3.out; omega
  have M := markHeap_any (w.alloc (.cells #[.slice A0 n0 c0, .slice A1 n1 c1, .slice A2 n2 c2, .slice A3 n3 c3] 38)) lo _ C.h H (by simp; omega) b0 b1 b2 1 (by omega)
  have nx : NotIn (.agg #[.slice A0 n0 c0, .slice A1 n1 c1, .slice A2 n2 c2]) w.heap.size := fun v0 v1 v2 e => by cases e; exact ⟨r0.notown (Nat.le_refl _), r1.notown (Nat.le_refl _), r2.notown (Nat.le_refl _)⟩
  have hin : ∀ b, (Value.slice A3 n3 c3).ownBlock = some b → NotIn (.agg #[.slice A0 n0 c0, .slice A1 n1 c1, .slice A2 n2 c2]) b := fun b e v0 v1 v2 e' => by
    cases e'; exact ⟨fun h9 => a03 b h9.symm e, fun h9 => a13 b h9.symm e, fun h9 => a23 b h9.symm e⟩
  go_enter Try.func28, Try.ntmps28
  go_wp2_with fail
  refine M.mono ?_; rintro e w1 ⟨rfl, H1, hb1, fr1⟩
  have X1 : Blk4 w1 w.heap.size (.slice A0 n0 c0) (.slice A1 n1 c1) (.slice A2 n2 c2) (.slice A3 n3 c3) 38 := (fr1 _ X.lt nx).trans X
  have R1 := R.keptNot fr1 hin
  have z1 := hb1.size
  have K := markIntS_any _ _ _ _ _ _ R1 l3.out u3 (1 + sizeH C.h) (by omega)
  obtain ⟨x0, x1, x2, x3, _⟩ := X1.cells
  clear M X
  go_wp2_with fail
  refine K.mono ?_; rintro e w2 ⟨rfl, Q3, g2, z2⟩
  have L2 := R1.belowLo (by simp at z1; omega) g2
  obtain ⟨_, _, _, ev, P0, P1, P2, _⟩ := H1
  cases ev
  have K0 := P0.kept g2 (apart_row a03.symm)
  have K1 := P1.kept g2 (apart_row a13.symm)
  have K2 := P2.kept g2 (apart_row a23.symm)
  go_wp2_with fail
  go_ret
  refine ⟨ret_int (by unfold sizeC; rw [l3.out]; omega), ⟨_, _, _, _, rfl, ⟨_, _, _, rfl, K0, K1, K2, a⟩, ?_, a03, a13, a23⟩, (((Below.refl _ _).alloc hlo _).trans hb1).trans L2, fun b hb hn => ?_⟩
  · unfold markC; rw [l3.out]; exact Q3
  · obtain ⟨nb0, nb1, nb2, nb3⟩ := hn _ _ _ _ rfl
    rw [g2.block b (by simp at z1; omega) nb3, fr1 b (by simp; omega) (fun v0 v1 v2 e => by cases e; exact ⟨nb0, nb1, nb2⟩)]
    exact Below.heap_alloc w _ b hb

set_option maxHeartbeats 1000000 in
theorem heldColored_any (w : World) (lo : Nat) (v : Value) (C : Cp) (hv : Cv w lo v (markC 1 C)) (b0 : C.h.l.length ≤ 1048576) (b1 : C.h.r.length ≤ 1048576) (b2 : C.h.t.length ≤ 1048576) (b3 : C.c.length ≤ 1048576) :
    Calls Try.prog 62 #[v, .int .i64 1] w (RetI w ((1 + sizeC C : Nat) : Int)) := by
  obtain ⟨A0, n0, c0, A1, n1, c1, A2, n2, c2, A3, n3, c3, rfl, hh, ⟨_, _, _, r3⟩, ⟨_, _, _, l3⟩, _⟩ := hv.open_
  have e3 : C.c.length = n3 := by have := l3.out; unfold markC at this; simpa [seqI_len] using this
  have X := Blk4.new w (.slice A0 n0 c0) (.slice A1 n1 c1) (.slice A2 n2 c2) (.slice A3 n3 c3) 38
  have H := hh.alloc (.cells #[.slice A0 n0 c0, .slice A1 n1 c1, .slice A2 n2 c2, .slice A3 n3 c3] 38)
  have R := r3.alloc (.cells #[.slice A0 n0 c0, .slice A1 n1 c1, .slice A2 n2 c2, .slice A3 n3 c3] 38)
  have fin : Below w.heap.size w (w.alloc (.cells #[.slice A0 n0 c0, .slice A1 n1 c1, .slice A2 n2 c2, .slice A3 n3 c3] 38)) := (Below.refl _ _).alloc (Nat.le_refl _) _
  have S : sizeH C.h ≤ 3145728 := by unfold sizeH; omega
  have M := heldHeap_any (w.alloc (.cells #[.slice A0 n0 c0, .slice A1 n1 c1, .slice A2 n2 c2, .slice A3 n3 c3] 38)) lo _ C.h 1 H b0 b1 b2 (by omega)
  have HS : Hid (((1 + sizeC C : Nat) : Int) = ((1 + sizeH C.h + n3 : Nat) : Int)) := by unfold Hid sizeC; omega
  go_enter Try.func62, Try.ntmps62
  go_wp2_with fail
  refine M.mono ?_; rintro e w1 ⟨rfl, hb1⟩
  obtain ⟨x0, x1, x2, x3, _⟩ := (Blk4.below (by exact X) hb1).cells
  have K := heldIntS_any w1 _ _ _ _ _ (Row.below (by exact R) hb1) l3.out (by omega) (1 + sizeH C.h) (by omega)
  have f3 : heldR (1 + sizeH C.h) (markC 1 C).c = ((1 + sizeH C.h + n3 : Nat) : Int) := by unfold heldR markC; simp [seqI_len, e3]
  rw [f3] at K
  have B1 := fin.trans (hb1.mono (by simp))
  clear M X f3
  go_wp2_with fail
  refine K.mono ?_; rintro e w' ⟨rfl, rfl⟩
  go_wp2_with fail
  go_ret
  exact ⟨ret_int (by rw [HS.out]; first | rfl | (simp) | omega), B1⟩

theorem markC1 (C : Cp) (b0 : C.h.l.length ≤ 1048576) (b1 : C.h.r.length ≤ 1048576) (b2 : C.h.t.length ≤ 1048576) (b3 : C.c.length ≤ 1048576) :
    ∃ N : Int, ¬ (N < 0) ∧ (N != N) = false ∧
      (∀ (w : World) (lo : Nat) (v : Value), Cv w lo v C → lo ≤ w.heap.size → Calls Try.prog 28 #[v, .int .i64 1] w (MarkedC w lo 1 N v C)) ∧
      (∀ (w : World) (lo : Nat) (v : Value), Cv w lo v (markC 1 C) → Calls Try.prog 62 #[v, .int .i64 1] w (RetI w N)) :=
  ⟨((1 + sizeC C : Nat) : Int), by omega, by simp, fun w lo v hv hlo => markColored_any w lo v C hv hlo b0 b1 b2 b3, fun w lo v hv => heldColored_any w lo v C hv b0 b1 b2 b3⟩
theorem notC_new {W : World} {lo b : Nat} {u : Value} {C : Cp} (hu : Cv W lo u C) (hb : W.heap.size ≤ b) : NotC u b := by
  obtain ⟨u0, u1, u2, u3, rfl, ⟨_, _, _, e', r0, r1, r2, _⟩, r3, _⟩ := hu
  cases e'
  intro v0 v1 v2 v3 e
  cases e
  exact ⟨r0.notown hb, r1.notown hb, r2.notown hb, r3.notown hb⟩
theorem notC_old {W : World} {lo b : Nat} {u : Value} {C : Cp} (hu : Cv W lo u C) (hb : b < lo) : NotC u b := by
  obtain ⟨u0, u1, u2, u3, rfl, ⟨_, _, _, e', r0, r1, r2, _⟩, r3, _⟩ := hu
  cases e'
  intro v0 v1 v2 v3 e
  cases e
  exact ⟨fun e => by have := (r0.lt _ e.symm).1; omega, fun e => by have := (r1.lt _ e.symm).1; omega, fun e => by have := (r2.lt _ e.symm).1; omega, fun e => by have := (r3.lt _ e.symm).1; omega⟩
theorem Row.keptC {w w' : World} {lo : Nat} {v u : Value} {xs : List Int} (hv : Row w lo v xs) (fr : ∀ b, b < w.heap.size → NotC u b → w'.heap[b]? = w.heap[b]?) (hn : ∀ b, v.ownBlock = some b → NotC u b) : Row w' lo v xs := by
  refine ⟨hv.1, ?_⟩
  rcases hv.2 with h2 | ⟨g, cap, cur, rfl, hg, hh, r⟩
  · exact .inl h2
  · exact .inr ⟨g, cap, cur, rfl, hg, by rw [fr g (hv.lt g rfl).2 (hn g rfl)]; exact hh, r⟩
theorem Cv.keptC {w w' : World} {lo : Nat} {v u : Value} {C : Cp} (hv : Cv w lo v C) (fr : ∀ b, b < w.heap.size → NotC u b → w'.heap[b]? = w.heap[b]?) (hn : ∀ b, lo ≤ b → b < w.heap.size → NotC u b) : Cv w' lo v C := by
  obtain ⟨v0, v1, v2, v3, rfl, ⟨_, _, _, e', r0, r1, r2, a⟩, r3, b⟩ := hv
  cases e'
  exact ⟨v0, v1, v2, v3, rfl, ⟨_, _, _, rfl, r0.keptC fr fun b e => hn b (r0.lt b e).1 (r0.lt b e).2, r1.keptC fr fun b e => hn b (r1.lt b e).1 (r1.lt b e).2, r2.keptC fr fun b e => hn b (r2.lt b e).1 (r2.lt b e).2, a⟩, r3.keptC fr fun b e => hn b (r3.lt b e).1 (r3.lt b e).2, b⟩
/-- The same for a colored heap that is older than what is marked. -/
theorem Cv.keptFar {w w' : World} {lo B : Nat} {v : Value} {C : Cp} (hv : Cv w lo v C) (hb : Below B w w') {W : World} (hW : Cv W lo v C) (hs : W.heap.size ≤ B) : Cv w' lo v C := by
  obtain ⟨v0, v1, v2, v3, rfl, ⟨_, _, _, e', r0, r1, r2, a⟩, r3, b⟩ := hv
  cases e'
  obtain ⟨u0, u1, u2, u3, e, ⟨_, _, _, e2, q0, q1, q2, _⟩, q3, _⟩ := hW
  cases e
  cases e2
  exact ⟨v0, v1, v2, v3, rfl, ⟨_, _, _, rfl, r0.far hb fun k e => by have := (q0.lt k e).2; omega, r1.far hb fun k e => by have := (q1.lt k e).2; omega, r2.far hb fun k e => by have := (q2.lt k e).2; omega, a⟩, r3.far hb fun k e => by have := (q3.lt k e).2; omega, b⟩
/-- .. and for a colored heap that is older than a heap that is marked. -/
theorem Cv.keptN {w w' : World} {lo : Nat} {v u : Value} {C : Cp} (hv : Cv w lo v C) (fr : ∀ b, b < w.heap.size → NotIn u b → w'.heap[b]? = w.heap[b]?) (hn : ∀ b, lo ≤ b → b < w.heap.size → NotIn u b) : Cv w' lo v C := by
  obtain ⟨v0, v1, v2, v3, rfl, ⟨_, _, _, e', r0, r1, r2, a⟩, r3, b⟩ := hv
  cases e'
  exact ⟨v0, v1, v2, v3, rfl, ⟨_, _, _, rfl, r0.keptNot fr fun b e => hn b (r0.lt b e).1 (r0.lt b e).2, r1.keptNot fr fun b e => hn b (r1.lt b e).1 (r1.lt b e).2, r2.keptNot fr fun b e => hn b (r2.lt b e).1 (r2.lt b e).2, a⟩, r3.keptNot fr fun b e => hn b (r3.lt b e).1 (r3.lt b e).2, b⟩
theorem Blk4.drew {w : World} {b : Nat} {x y z q : Value} {t : TypeId} (h : Blk4 w b x y z q t) : Blk4 w.drew b x y z q t := h
theorem Blk4.frame {w w' : World} {b : Nat} {x y z q u : Value} {t : TypeId} (h : Blk4 w b x y z q t) (fr : ∀ b, b < w.heap.size → NotC u b → w'.heap[b]? = w.heap[b]?) (hn : NotC u b) : Blk4 w' b x y z q t := (fr b h.lt hn).trans h
theorem Blk3.frameC {w w' : World} {b : Nat} {x y z u : Value} {t : TypeId} (h : Blk3 w b x y z t) (fr : ∀ b, b < w.heap.size → NotC u b → w'.heap[b]? = w.heap[b]?) (hn : NotC u b) : Blk3 w' b x y z t := (fr b h.lt hn).trans h
theorem Blk4.frameH {w w' : World} {b : Nat} {x y z q u : Value} {t : TypeId} (h : Blk4 w b x y z q t) (fr : ∀ b, b < w.heap.size → NotIn u b → w'.heap[b]? = w.heap[b]?) (hn : NotIn u b) : Blk4 w' b x y z q t := (fr b h.lt hn).trans h

/-- Colored heaps that come back are short. -/
def ShortC (C : Cp) : Prop := C.h.l.length ≤ 1048576 ∧ C.h.r.length ≤ 1048576 ∧ C.h.t.length ≤ 1048576 ∧ C.c.length ≤ 1048576
theorem stoB_short {C : Cp} (h : stoB C = true) : ShortC C := by
  obtain ⟨h1, h2, _⟩ := stoB_parts h
  have := hvB_len h1
  exact ⟨by omega, by omega, by omega, by omega⟩
theorem zeroC_short : ShortC Cp.zero := by simp [ShortC, Cp.zero, Hp.zero]
theorem allocC_short (C : Cp) (k : Int) : ShortC (allocC C k) := by
  unfold allocC
  split
  · rename_i h
    obtain ⟨a, b, c, d⟩ := stoB_short (allocB_iff.1 h).1
    exact ⟨a, b, by simpa using c, by show C.c.tail.length ≤ _; rw [List.length_tail]; omega⟩
  · exact zeroC_short
theorem clearC_short {C : Cp} (cs : List Int) (h : stoB C = true) (hc : cs.length ≤ 8) : ShortC (clearC C cs) := by
  obtain ⟨a, b, c, d⟩ := stoB_short h
  obtain ⟨h1, h2, _⟩ := stoB_parts h
  have := hvB_len h1
  exact ⟨by show (clrN C.h.l cs C.h.l.length).length ≤ _; rw [clrN_len]; exact a, by show (clrN C.h.r cs C.h.l.length).length ≤ _; rw [clrN_len]; exact b, c, by show (C.c ++ cs).length ≤ _; rw [List.length_append]; omega⟩
theorem leak_len (C : Cp) : (leakL C).length ≤ 8 := by
  unfold leakL; split
  · exact Nat.le_trans (leakN_len _ _ _) (garb_len C.h)
  · simp
theorem collectO_short (C : Cp) : ShortC ((collectO C).getD Cp.zero) := by
  unfold collectO
  split
  · rename_i h; exact clearC_short _ h (leak_len C)
  · exact zeroC_short
theorem freeO_short (C : Cp) (x : Int) : ShortC ((freeO C x).getD Cp.zero) := by
  unfold freeO
  split
  · rename_i h; exact clearC_short _ (leak_sto h) (by simp)
  · exact zeroC_short
theorem newSO_short (c r : Int) : ShortC ((newSO c r).getD Cp.zero) := by
  unfold newSO
  split
  · rename_i h
    simp only [szB, decide_eq_true_eq] at h
    exact ⟨by simp; omega, by simp; omega, by simp; omega, by simp [nums]; omega⟩
  · exact zeroC_short
theorem Blk4.keptR {w w' : World} {b : Nat} {x y z u : Value} {t : TypeId} {row : Option Nat} (h : Blk4 w b x y z u t) (hg : w.grownBy w' row) (hb : some b ≠ row) : Blk4 w' b x y z u t := (hg.block b h.lt hb).trans h
/-- A colored heap and a Bool come back. -/
def OptC (w : World) (ok : Bool) (C : Cp) (e : Ending) (w' : World) : Prop := ∃ v, e = .returned (.tuple #[v, .bool ok]) ∧ Cv w' w.heap.size v C ∧ Below w.heap.size w w'
theorem optC_of {P : Program} {f : FuncId} {args : Array Value} {w : World} {o : Option Cp} (h : Calls P f args w (OptCv w o)) : Calls P f args w (OptC w o.isSome (o.getD Cp.zero)) := h

end Go.Proofs.Ytpjdpflghcdkiaa
