/- The helpers of the exact laws of chapter 9. -/
import Derived.Test.YtpjdpflghcdkiaaDv
import Derived.Test.YtpjdpflghcdkiaaExactE
import Derived.Test.YtpjdpflghcdkiaaExacts
namespace Go.Proofs.Ytpjdpflghcdkiaa
open Go.RowKit

theorem Blk5.far4 {w : World} {b c : Nat} {x0 x1 x2 x3 x4 : Value} {t : TypeId} (h : Blk5 w b x0 x1 x2 x3 x4 t) (hne : b ≠ c) (y0 y1 y2 y3 : Value) : Blk5 ((((w.setCell ⟨c, 0, none⟩ y0).setCell ⟨c, 1, none⟩ y1).setCell ⟨c, 2, none⟩ y2).setCell ⟨c, 3, none⟩ y3) b x0 x1 x2 x3 x4 t := ((((h.other (p := ⟨c, 0, none⟩) hne y0).other (p := ⟨c, 1, none⟩) hne y1).other (p := ⟨c, 2, none⟩) hne y2).other (p := ⟨c, 3, none⟩) hne y3)
theorem Blk5.set03 {w : World} {b : Nat} {x0 x1 x2 x3 x4 : Value} {t : TypeId} (h : Blk5 w b x0 x1 x2 x3 x4 t) (y0 y1 y2 y3 : Value) : Blk5 ((((w.setCell ⟨b, 0, none⟩ y0).setCell ⟨b, 1, none⟩ y1).setCell ⟨b, 2, none⟩ y2).setCell ⟨b, 3, none⟩ y3) b y0 y1 y2 y3 x4 t := (((h.set0 y0).set1 y1).set2 y2).set3 y3
theorem below_set4d {w x : World} {lo c : Nat} (h : Below lo w x) (hc : lo ≤ c) (y0 y1 y2 y3 : Value) : Below lo w ((((x.setCell ⟨c, 0, none⟩ y0).setCell ⟨c, 1, none⟩ y1).setCell ⟨c, 2, none⟩ y2).setCell ⟨c, 3, none⟩ y3) := ((((h.setCell (p := ⟨c, 0, none⟩) hc y0).setCell (p := ⟨c, 1, none⟩) hc y1).setCell (p := ⟨c, 2, none⟩) hc y2).setCell (p := ⟨c, 3, none⟩) hc y3)
theorem Cv.low4 {w : World} {lo c : Nat} {v : Value} {C : Cp} (h : Cv w lo v C) (hc : c < lo) (y0 y1 y2 y3 : Value) : Cv ((((w.setCell ⟨c, 0, none⟩ y0).setCell ⟨c, 1, none⟩ y1).setCell ⟨c, 2, none⟩ y2).setCell ⟨c, 3, none⟩ y3) lo v C := ((((h.set_low (p := ⟨c, 0, none⟩) hc y0).set_low (p := ⟨c, 1, none⟩) hc y1).set_low (p := ⟨c, 2, none⟩) hc y2).set_low (p := ⟨c, 3, none⟩) hc y3)
/-- A counted store that is an argument: its slices lie somewhere below Bd. -/
def DArg (w : World) (Bd : Nat) (v : Value) (D : Dp) : Prop :=
  ∃ A0 c0 A1 c1 A2 c2 A3 c3 A4 c4, v = .agg #[.slice A0 D.C.h.l.length c0, .slice A1 D.C.h.r.length c1, .slice A2 D.C.h.t.length c2, .slice A3 D.C.c.length c3, .slice A4 D.n.length c4] ∧ CArg w Bd (.agg #[.slice A0 D.C.h.l.length c0, .slice A1 D.C.h.r.length c1, .slice A2 D.C.h.t.length c2, .slice A3 D.C.c.length c3]) D.C ∧ Ints w Bd A4 D.n.length D.n
theorem DArg.below {w w' : World} {Bd : Nat} {v : Value} {D : Dp} (h : DArg w Bd v D) (hb : Below Bd w w') : DArg w' Bd v D := by
  obtain ⟨A0, c0, A1, c1, A2, c2, A3, c3, A4, c4, e, h0, h1⟩ := h
  exact ⟨A0, c0, A1, c1, A2, c2, A3, c3, A4, c4, e, h0.below hb, h1.below hb⟩
theorem DArg.alloc {w : World} {Bd : Nat} {v : Value} {D : Dp} (h : DArg w Bd v D) (hB : Bd ≤ w.heap.size) (o : Obj) : DArg (w.alloc o) Bd v D := h.below ((Below.refl _ _).alloc hB _)
theorem DArg.drew {w : World} {Bd : Nat} {v : Value} {D : Dp} (h : DArg w Bd v D) : DArg w.drew Bd v D := h
def ShortD (D : Dp) (n : Nat) : Prop := D.C.h.l.length ≤ n ∧ D.C.h.r.length ≤ n ∧ D.C.h.t.length ≤ n ∧ D.C.c.length ≤ n ∧ D.n.length ≤ n
def DIn (w : World) (v : Value) (D : Dp) : Prop := DArg w w.heap.size v D ∧ ShortD D 9223372036854775807
def OptD (w : World) (ok : Bool) (D : Dp) (e : Ending) (w' : World) : Prop := ∃ v, e = .returned (.tuple #[v, .bool ok]) ∧ Dv w' w.heap.size v D ∧ Below w.heap.size w w'
theorem optD_of {P : Program} {f : FuncId} {args : Array Value} {w : World} {o : Option Dp} (h : Calls P f args w (OptDv w o)) : Calls P f args w (OptD w o.isSome (o.getD Dp.zero)) := h
theorem dpB_short {D : Dp} (h : dpB D = true) : ShortD D 1048576 := by
  obtain ⟨h1, h2⟩ := dpB_iff.1 h
  obtain ⟨s0, s1, s2, s3⟩ := stoB_short h1
  exact ⟨s0, s1, s2, s3, by rw [h2, cnts_len]; exact s0⟩
theorem zeroD_short : ShortD Dp.zero 1048576 := by simp [ShortD, Dp.zero, Cp.zero, Hp.zero]
set_option maxRecDepth 100000 in
set_option maxHeartbeats 2000000 in
theorem szCounted_any (w : World) (A0 A1 A2 A3 A4 : Option Addr) (n0 c0 n1 c1 n2 c2 n3 c3 n4 c4 : Nat) (left : Int) (h0 : 0 ≤ left) (h1 : left ≤ 1048576) (b0 : n0 ≤ 9223372036854775807) (b1 : n1 ≤ 9223372036854775807) (b2 : n2 ≤ 9223372036854775807) (b3 : n3 ≤ 9223372036854775807) (b4 : n4 ≤ 9223372036854775807) :
    Calls Try.prog 31 #[.agg #[.slice A0 n0 c0, .slice A1 n1 c1, .slice A2 n2 c2, .slice A3 n3 c3, .slice A4 n4 c4], .int .i64 left] w (RetI w (szV ((n0 + n1 + n2 + n3) + n4) left)) := by
  have fin : Below w.heap.size w (w.alloc (.cells #[.slice A0 n0 c0, .slice A1 n1 c1, .slice A2 n2 c2, .slice A3 n3 c3, .slice A4 n4 c4] 50)) := (Below.refl _ _).alloc (Nat.le_refl _) _
  have S := szColored_any (w.alloc (.cells #[.slice A0 n0 c0, .slice A1 n1 c1, .slice A2 n2 c2, .slice A3 n3 c3, .slice A4 n4 c4] 50)) A0 A1 A2 A3 n0 c0 n1 c1 n2 c2 n3 c3 left h0 h1 b0 b1 b2 b3
  have X := Blk5.new w (.slice A0 n0 c0) (.slice A1 n1 c1) (.slice A2 n2 c2) (.slice A3 n3 c3) (.slice A4 n4 c4) 50
  by_cases e : ((n0 + n1 + n2 + n3 : Nat) : Int) ≤ left
  · have f : szV (n0 + n1 + n2 + n3) left = left - ((n0 + n1 + n2 + n3 : Nat) : Int) := by unfold szV; rw [if_pos e]
    rw [f] at S
    have u0 : 0 ≤ left - ((n0 + n1 + n2 + n3 : Nat) : Int) := by omega
    have u1 : left - ((n0 + n1 + n2 + n3 : Nat) : Int) ≤ 1048576 := by omega
    have hT : Hid (szV ((n0 + n1 + n2 + n3) + n4) left = szV n4 (left - ((n0 + n1 + n2 + n3 : Nat) : Int))) := by
      unfold Hid szV; repeat' split
      all_goals omega
    clear f e
    generalize left - ((n0 + n1 + n2 + n3 : Nat) : Int) = lf at *
    have g0 : ¬ (lf < 0) := by omega
    have S4 := fun W => szIntS_any W A4 n4 c4 lf u0 u1 b4
    by_cases e4 : (n4 : Int) ≤ lf
    · have f4 : szV n4 lf = lf - n4 := by unfold szV; rw [if_pos e4]
      rw [f4] at hT
      simp only [f4] at S4
      have g1 : ¬ (lf - (n4 : Int) < 0) := by omega
      clear f4 e4
      go_enter Try.func31, Try.ntmps31
      go_wp2_with fail
      refine S.mono ?_; rintro e w1 ⟨rfl, hb1⟩
      obtain ⟨x0, x1, x2, x3, x4, -⟩ := (Blk5.below (by exact X) hb1).cells
      have B1 := fin.trans (hb1.mono (by simp))
      clear S X
      go_wp2_with fail
      refine (S4 _).mono ?_; rintro e w' ⟨rfl, rfl⟩
      go_wp2_with fail
      go_ret
      exact ⟨ret_int hT.out.symm, B1⟩
    · have f4 : szV n4 lf = -1 := by unfold szV; rw [if_neg e4]
      rw [f4] at hT
      simp only [f4] at S4
      clear f4 e4
      go_enter Try.func31, Try.ntmps31
      go_wp2_with fail
      refine S.mono ?_; rintro e w1 ⟨rfl, hb1⟩
      obtain ⟨x0, x1, x2, x3, x4, -⟩ := (Blk5.below (by exact X) hb1).cells
      have B1 := fin.trans (hb1.mono (by simp))
      clear S X
      go_wp2_with fail
      refine (S4 _).mono ?_; rintro e w' ⟨rfl, rfl⟩
      go_wp2_with fail
      go_ret
      exact ⟨ret_int hT.out.symm, B1⟩
  · have f : szV (n0 + n1 + n2 + n3) left = -1 := by unfold szV; rw [if_neg e]
    rw [f] at S
    have hT : Hid (szV ((n0 + n1 + n2 + n3) + n4) left = -1) := by unfold Hid szV; rw [if_neg (by omega)]
    clear f e
    go_enter Try.func31, Try.ntmps31
    go_wp2_with fail
    refine S.mono ?_; rintro e w1 ⟨rfl, hb1⟩
    have B1 := fin.trans (hb1.mono (by simp))
    go_wp2_with fail
    go_ret
    exact ⟨ret_int hT.out.symm, B1⟩

set_option maxRecDepth 100000 in
set_option maxHeartbeats 2000000 in
theorem toCounted_any (w : World) (Bd : Nat) (hBw : Bd ≤ w.heap.size) (v : Value) (D : Dp) (hv : DArg w Bd v D) (hs : ShortD D 1048576) :
    Calls Try.prog 33 #[v] w (NewDv w D) := by
  obtain ⟨A0, c0, A1, c1, A2, c2, A3, c3, A4, c4, rfl, h0, h1⟩ := hv
  obtain ⟨b0, b1, b2, b3, b4⟩ := hs
  have X := ((Blk5.new w (.slice A0 D.C.h.l.length c0) (.slice A1 D.C.h.r.length c1) (.slice A2 D.C.h.t.length c2) (.slice A3 D.C.c.length c3) (.slice A4 D.n.length c4) 50).alloc (.cells #[.slice none 0 0, .slice none 0 0, .slice none 0 0, .slice none 0 0, .slice none 0 0] 40)).alloc (.cells #[.slice none 0 0, .slice none 0 0, .slice none 0 0, .slice none 0 0, .slice none 0 0] 40)
  have Y := (Blk5.new_at (w := w.alloc (.cells #[.slice A0 D.C.h.l.length c0, .slice A1 D.C.h.r.length c1, .slice A2 D.C.h.t.length c2, .slice A3 D.C.c.length c3, .slice A4 D.n.length c4] 50)) (b := w.heap.size + 1) (by simp) (.slice none 0 0) (.slice none 0 0) (.slice none 0 0) (.slice none 0 0) (.slice none 0 0) 40).alloc (.cells #[.slice none 0 0, .slice none 0 0, .slice none 0 0, .slice none 0 0, .slice none 0 0] 40)
  have Z := Blk5.new_at (w := (w.alloc (.cells #[.slice A0 D.C.h.l.length c0, .slice A1 D.C.h.r.length c1, .slice A2 D.C.h.t.length c2, .slice A3 D.C.c.length c3, .slice A4 D.n.length c4] 50)).alloc (.cells #[.slice none 0 0, .slice none 0 0, .slice none 0 0, .slice none 0 0, .slice none 0 0] 40)) (b := w.heap.size + 1 + 1) (by simp) (.slice none 0 0) (.slice none 0 0) (.slice none 0 0) (.slice none 0 0) (.slice none 0 0) 40
  have BB : Below w.heap.size w (((w.alloc (.cells #[.slice A0 D.C.h.l.length c0, .slice A1 D.C.h.r.length c1, .slice A2 D.C.h.t.length c2, .slice A3 D.C.c.length c3, .slice A4 D.n.length c4] 50)).alloc (.cells #[.slice none 0 0, .slice none 0 0, .slice none 0 0, .slice none 0 0, .slice none 0 0] 40)).alloc (.cells #[.slice none 0 0, .slice none 0 0, .slice none 0 0, .slice none 0 0, .slice none 0 0] 40)) := (((Below.refl _ _).alloc (Nat.le_refl _) _).alloc (by simp) _).alloc (by simp <;> omega) _
  have sz : w.heap.size + 3 ≤ (((w.alloc (.cells #[.slice A0 D.C.h.l.length c0, .slice A1 D.C.h.r.length c1, .slice A2 D.C.h.t.length c2, .slice A3 D.C.c.length c3, .slice A4 D.n.length c4] 50)).alloc (.cells #[.slice none 0 0, .slice none 0 0, .slice none 0 0, .slice none 0 0, .slice none 0 0] 40)).alloc (.cells #[.slice none 0 0, .slice none 0 0, .slice none 0 0, .slice none 0 0, .slice none 0 0] 40)).heap.size := by simp
  generalize hW : (((w.alloc (.cells #[.slice A0 D.C.h.l.length c0, .slice A1 D.C.h.r.length c1, .slice A2 D.C.h.t.length c2, .slice A3 D.C.c.length c3, .slice A4 D.n.length c4] 50)).alloc (.cells #[.slice none 0 0, .slice none 0 0, .slice none 0 0, .slice none 0 0, .slice none 0 0] 40)).alloc (.cells #[.slice none 0 0, .slice none 0 0, .slice none 0 0, .slice none 0 0, .slice none 0 0] 40)) = W at X Y Z BB sz
  have i0 := CArg.below h0 (BB.mono hBw)
  have i1 := h1.below (BB.mono hBw)
  clear h0 h1
  obtain ⟨x0, x1, x2, x3, x4, -⟩ := X.cells
  have T0 := toColored_any W Bd (by omega) _ D.C i0 b0 b1 b2 b3
  go_enter Try.func33, Try.ntmps33
  go_wp2_with fail
  (try rw [hW])
  refine T0.mono ?_; rintro e w1 ⟨vs, rfl, HS, hb1⟩
  clear T0 i0 x0 x1 x2 x3 x4
  have HSo := HS
  obtain ⟨B0, u0, e0, B1, u1, e1, B2, u2, e2, B3, u3, e3, rfl, -⟩ := HSo.open_
  clear HSo
  have z1 := hb1.size
  have X1 := (X.below hb1).far4 (c := w.heap.size + 1 + 1) (by omega) (.slice B0 u0 e0) (.slice B1 u1 e1) (.slice B2 u2 e2) (.slice B3 u3 e3)
  have Y1 := (Y.below hb1).far4 (c := w.heap.size + 1 + 1) (by omega) (.slice B0 u0 e0) (.slice B1 u1 e1) (.slice B2 u2 e2) (.slice B3 u3 e3)
  have Z0 := Z.below hb1
  have Z1 := Z0.set03 (.slice B0 u0 e0) (.slice B1 u1 e1) (.slice B2 u2 e2) (.slice B3 u3 e3)
  have HS1 := (HS.mono (lo' := w.heap.size + 3) (by omega)).low4 (c := w.heap.size + 1 + 1) (by omega) (.slice B0 u0 e0) (.slice B1 u1 e1) (.slice B2 u2 e2) (.slice B3 u3 e3)
  have F1 := below_set4d (BB.trans (hb1.mono BB.size)) (c := w.heap.size + 1 + 1) (by omega) (.slice B0 u0 e0) (.slice B1 u1 e1) (.slice B2 u2 e2) (.slice B3 u3 e3)
  have bs := below_set4d (Below.refl (w.heap.size) w1) (c := w.heap.size + 1 + 1) (by omega) (.slice B0 u0 e0) (.slice B1 u1 e1) (.slice B2 u2 e2) (.slice B3 u3 e3)
  have j1 := (i1.below (hb1.mono (by omega))).below (bs.mono (by omega))
  have s1 := bs.size
  obtain ⟨p0, p1, p2, p3, p4, -⟩ := (X.below hb1).cells
  obtain ⟨r0, r1, r2, r3, r4, m0, m1, m2, m3, m4⟩ := Z0.cells
  generalize hW1 : ((((w1.setCell ⟨w.heap.size + 1 + 1, 0, none⟩ (.slice B0 u0 e0)).setCell ⟨w.heap.size + 1 + 1, 1, none⟩ (.slice B1 u1 e1)).setCell ⟨w.heap.size + 1 + 1, 2, none⟩ (.slice B2 u2 e2)).setCell ⟨w.heap.size + 1 + 1, 3, none⟩ (.slice B3 u3 e3)) = W1 at X1 Y1 Z1 HS1 F1 bs j1 s1
  obtain ⟨t0, t1, t2, t3, t4, -⟩ := X1.cells
  have T1 := toIntS_any W1 A4 D.n.length c4 D.n (j1.mono (by omega)) b4
  clear X Y Z Z0 HS i1 bs j1
  go_wp2_with fail
  (try rw [hW1])
  refine T1.mono ?_; rintro e w2 ⟨B4, e4, rfl, HR, hb2⟩
  clear T1 p0 p1 p2 p3 p4 r0 r1 r2 r3 r4 m0 m1 m2 m3 m4 t0 t1 t2 t3 t4
  have z2 := hb2.size
  have DD := Dv.mk (lo := w.heap.size + 3) HS1 HR (by omega) hb2
  have Y2 := (Y1.below hb2).other (p := ⟨w.heap.size + 1 + 1, 4, none⟩) (by show w.heap.size + 1 ≠ w.heap.size + 1 + 1; omega) (.slice B4 D.n.length e4)
  have Z2 := Z1.below hb2
  have Z3 := Z2.set4 (.slice B4 D.n.length e4)
  have D2 := DD.set_low (p := ⟨w.heap.size + 1 + 1, 4, none⟩) (by show w.heap.size + 1 + 1 < _; omega) (.slice B4 D.n.length e4)
  have F2 := (F1.trans (hb2.mono F1.size)).setCell (p := ⟨w.heap.size + 1 + 1, 4, none⟩) (by show w.heap.size ≤ w.heap.size + 1 + 1; omega) (.slice B4 D.n.length e4)
  obtain ⟨r0, r1, r2, r3, r4, m0, m1, m2, m3, m4⟩ := Z2.cells
  obtain ⟨f0, f1, f2, f3, f4, -⟩ := Z3.cells
  obtain ⟨y0, y1, y2, y3, y4, q0, q1, q2, q3, q4⟩ := Y2.cells
  go_wp2_with fail
  have YF := Y2.set5 (.slice B0 u0 e0) (.slice B1 u1 e1) (.slice B2 u2 e2) (.slice B3 u3 e3) (.slice B4 D.n.length e4)
  have HF := D2.low5 (c := w.heap.size + 1) (by omega) (.slice B0 u0 e0) (.slice B1 u1 e1) (.slice B2 u2 e2) (.slice B3 u3 e3) (.slice B4 D.n.length e4)
  have FF := below_set5 F2 (c := w.heap.size + 1) (by omega) (.slice B0 u0 e0) (.slice B1 u1 e1) (.slice B2 u2 e2) (.slice B3 u3 e3) (.slice B4 D.n.length e4)
  generalize ((((((w2.setCell ⟨w.heap.size + 1 + 1, 4, none⟩ (.slice B4 D.n.length e4)).setCell ⟨w.heap.size + 1, 0, none⟩ (.slice B0 u0 e0)).setCell ⟨w.heap.size + 1, 1, none⟩ (.slice B1 u1 e1)).setCell ⟨w.heap.size + 1, 2, none⟩ (.slice B2 u2 e2)).setCell ⟨w.heap.size + 1, 3, none⟩ (.slice B3 u3 e3)).setCell ⟨w.heap.size + 1, 4, none⟩ (.slice B4 D.n.length e4)) = WF at YF HF FF ⊢
  obtain ⟨v0, v1, v2, v3, v4, -⟩ := YF.cells
  refine bodyPost_ret (v := .agg #[.slice B0 u0 e0, .slice B1 u1 e1, .slice B2 u2 e2, .slice B3 u3 e3, .slice B4 D.n.length e4]) ?_ rfl ⟨_, rfl, HF.mono (by omega), FF⟩
  simp [results, Try.results33, go_sem, v0, v1, v2, v3, v4]

set_option maxRecDepth 100000 in
set_option maxHeartbeats 2000000 in
theorem eqCounted_same (w : World) (lo lo' : Nat) (v v' : Value) (D : Dp) (hv : Dv w lo v D) (hv' : Dv w lo' v' D) : Calls Try.prog 26 #[v, v'] w (RetB w true) := by
  obtain ⟨A0, n0, c0, A1, n1, c1, A2, n2, c2, A3, n3, c3, A4, n4, c4, rfl, hc, -, ⟨-, -, -, -, r4⟩, ⟨-, -, -, -, l4⟩, ⟨-, -, -, -, m4⟩, -⟩ := hv.open_
  obtain ⟨A0', n0', c0', A1', n1', c1', A2', n2', c2', A3', n3', c3', A4', n4', c4', rfl, hc', -, ⟨-, -, -, -, r4'⟩, ⟨-, -, -, -, l4'⟩, ⟨-, -, -, -, m4'⟩, -⟩ := hv'.open_
  have X := (Blk5.new w (.slice A0 n0 c0) (.slice A1 n1 c1) (.slice A2 n2 c2) (.slice A3 n3 c3) (.slice A4 n4 c4) 40).alloc (.cells #[.slice A0' n0' c0', .slice A1' n1' c1', .slice A2' n2' c2', .slice A3' n3' c3', .slice A4' n4' c4'] 40)
  have Y := Blk5.new_at (w := w.alloc (.cells #[.slice A0 n0 c0, .slice A1 n1 c1, .slice A2 n2 c2, .slice A3 n3 c3, .slice A4 n4 c4] 40)) (b := w.heap.size + 1) (by simp) (.slice A0' n0' c0') (.slice A1' n1' c1') (.slice A2' n2' c2') (.slice A3' n3' c3') (.slice A4' n4' c4') 40
  have HC := (hc.alloc (.cells #[.slice A0 n0 c0, .slice A1 n1 c1, .slice A2 n2 c2, .slice A3 n3 c3, .slice A4 n4 c4] 40)).alloc (.cells #[.slice A0' n0' c0', .slice A1' n1' c1', .slice A2' n2' c2', .slice A3' n3' c3', .slice A4' n4' c4'] 40)
  have HC' := (hc'.alloc (.cells #[.slice A0 n0 c0, .slice A1 n1 c1, .slice A2 n2 c2, .slice A3 n3 c3, .slice A4 n4 c4] 40)).alloc (.cells #[.slice A0' n0' c0', .slice A1' n1' c1', .slice A2' n2' c2', .slice A3' n3' c3', .slice A4' n4' c4'] 40)
  have R := (r4.alloc (.cells #[.slice A0 n0 c0, .slice A1 n1 c1, .slice A2 n2 c2, .slice A3 n3 c3, .slice A4 n4 c4] 40)).alloc (.cells #[.slice A0' n0' c0', .slice A1' n1' c1', .slice A2' n2' c2', .slice A3' n3' c3', .slice A4' n4' c4'] 40)
  have R' := (r4'.alloc (.cells #[.slice A0 n0 c0, .slice A1 n1 c1, .slice A2 n2 c2, .slice A3 n3 c3, .slice A4 n4 c4] 40)).alloc (.cells #[.slice A0' n0' c0', .slice A1' n1' c1', .slice A2' n2' c2', .slice A3' n3' c3', .slice A4' n4' c4'] 40)
  have BB : Below w.heap.size w ((w.alloc (.cells #[.slice A0 n0 c0, .slice A1 n1 c1, .slice A2 n2 c2, .slice A3 n3 c3, .slice A4 n4 c4] 40)).alloc (.cells #[.slice A0' n0' c0', .slice A1' n1' c1', .slice A2' n2' c2', .slice A3' n3' c3', .slice A4' n4' c4'] 40)) := ((Below.refl _ _).alloc (Nat.le_refl _) _).alloc (by simp) _
  clear hc hc' r4 r4' hv hv'
  generalize hW : (w.alloc (.cells #[.slice A0 n0 c0, .slice A1 n1 c1, .slice A2 n2 c2, .slice A3 n3 c3, .slice A4 n4 c4] 40)).alloc (.cells #[.slice A0' n0' c0', .slice A1' n1' c1', .slice A2' n2' c2', .slice A3' n3' c3', .slice A4' n4' c4'] 40) = W at X Y HC HC' R R' BB
  obtain ⟨x0, x1, x2, x3, x4, -⟩ := X.cells
  obtain ⟨y0, y1, y2, y3, y4, -⟩ := Y.cells
  have E1 := eqColored_same W lo lo' _ _ D.C HC HC'
  have E2 := fun W' (hb : Below W.heap.size W W') => eqIntS_any W' lo lo' A4 A4' n4 c4 n4' c4' D.n D.n (R.below hb) l4.out m4 (R'.below hb) l4'.out m4'
  simp only [decide_true] at E2
  clear HC HC'
  go_enter Try.func26, Try.ntmps26
  go_wp2_with fail
  (try rw [hW])
  refine E1.mono ?_; rintro e w1 ⟨rfl, hb1⟩
  obtain ⟨p0, p1, p2, p3, p4, -⟩ := (X.below hb1).cells
  obtain ⟨q0, q1, q2, q3, q4, -⟩ := (Y.below hb1).cells
  have B1 := BB.trans (hb1.mono BB.size)
  clear x0 x1 x2 x3 x4 y0 y1 y2 y3 y4 E1 X Y R R'
  go_wp2_with fail
  refine (E2 _ hb1).mono ?_; rintro e w2 ⟨rfl, nq, rfl⟩
  go_wp2_with fail
  go_ret
  exact ⟨rfl, below_drewN B1 _⟩

theorem farD_or {v r : Value} (h : Apart v r) : v.ownBlock = none ∨ v.ownBlock ≠ r.ownBlock := by
  cases e : v.ownBlock with
  | none => exact .inl rfl
  | some b => exact .inr (fun e' => h b e e'.symm)
theorem Cv.keptD {w w' : World} {lo : Nat} {v0 v1 v2 v3 r : Value} {C : Cp} (h : Cv w lo (.agg #[v0, v1, v2, v3]) C) (hg : w.grownBy w' r.ownBlock) (a : Apart v0 r ∧ Apart v1 r ∧ Apart v2 r ∧ Apart v3 r) : Cv w' lo (.agg #[v0, v1, v2, v3]) C := by
  obtain ⟨_, _, _, _, e, ⟨_, _, _, e', r0, r1, r2, x⟩, r3, y⟩ := h
  cases e; cases e'
  exact ⟨_, _, _, _, rfl, ⟨_, _, _, rfl, r0.kept hg (farD_or a.1), r1.kept hg (farD_or a.2.1), r2.kept hg (farD_or a.2.2.1), x⟩, r3.kept hg (farD_or a.2.2.2), y⟩
/-- Block b is none of a counted store's own. -/
def FarD (v : Value) (b : Nat) : Prop := ∀ v0 v1 v2 v3 r, v = .agg #[v0, v1, v2, v3, r] → (some b ≠ v0.ownBlock ∧ some b ≠ v1.ownBlock ∧ some b ≠ v2.ownBlock ∧ some b ≠ v3.ownBlock) ∧ some b ≠ r.ownBlock
def markD (D : Dp) : Dp := ⟨markC 1 D.C, seqI (1 + sizeC D.C) D.n.length⟩
def numD (D : Dp) : Nat := 1 + sizeC D.C + D.n.length
/-- A counted store was marked: the number is N; below lo, and in every block that is not its own, nothing has turned. -/
def MarkedD (w : World) (lo : Nat) (N : Int) (v : Value) (D : Dp) (e : Ending) (w' : World) : Prop :=
  e = .returned (.int .i64 N) ∧ Dv w' lo v (markD D) ∧ Below lo w w' ∧ ∀ b, b < w.heap.size → FarD v b → w'.heap[b]? = w.heap[b]?
theorem farD_new {W : World} {lo b : Nat} {u : Value} {D : Dp} (hu : Dv W lo u D) (hb : W.heap.size ≤ b) : FarD u b := by
  obtain ⟨u0, u1, u2, u3, ur, rfl, hc, hr, _⟩ := hu
  have hn := notC_new hc hb
  intro v0 v1 v2 v3 r e
  cases e
  exact ⟨hn _ _ _ _ rfl, fun e => by have := (hr.lt b e.symm).2; omega⟩
theorem farD_old {W : World} {lo b : Nat} {u : Value} {D : Dp} (hu : Dv W lo u D) (hb : b < lo) : FarD u b := by
  obtain ⟨u0, u1, u2, u3, ur, rfl, hc, hr, _⟩ := hu
  have hn := notC_old hc hb
  intro v0 v1 v2 v3 r e
  cases e
  exact ⟨hn _ _ _ _ rfl, fun e => by have := (hr.lt b e.symm).1; omega⟩
theorem Blk5.frameD {w w' : World} {b : Nat} {x0 x1 x2 x3 x4 u : Value} {t : TypeId} (h : Blk5 w b x0 x1 x2 x3 x4 t) (fr : ∀ b, b < w.heap.size → FarD u b → w'.heap[b]? = w.heap[b]?) (hn : FarD u b) : Blk5 w' b x0 x1 x2 x3 x4 t := (fr b h.lt hn).trans h
theorem Blk5.frameN {w w' : World} {b : Nat} {x0 x1 x2 x3 x4 u : Value} {t : TypeId} (h : Blk5 w b x0 x1 x2 x3 x4 t) (fr : ∀ b, b < w.heap.size → NotC u b → w'.heap[b]? = w.heap[b]?) (hn : NotC u b) : Blk5 w' b x0 x1 x2 x3 x4 t := (fr b h.lt hn).trans h
theorem Blk4.frameD {w w' : World} {b : Nat} {x y z q u : Value} {t : TypeId} (h : Blk4 w b x y z q t) (fr : ∀ b, b < w.heap.size → FarD u b → w'.heap[b]? = w.heap[b]?) (hn : FarD u b) : Blk4 w' b x y z q t := (fr b h.lt hn).trans h
theorem Row.keptM {w w' : World} {lo : Nat} {v u : Value} {xs : List Int} (hv : Row w lo v xs) (fr : ∀ b, b < w.heap.size → FarD u b → w'.heap[b]? = w.heap[b]?) (hn : ∀ b, lo ≤ b → b < w.heap.size → FarD u b) : Row w' lo v xs := by
  refine ⟨hv.1, ?_⟩
  rcases hv.2 with h2 | ⟨g, cap, cur, rfl, hg, hh, r⟩
  · exact .inl h2
  · have hb := (hv.lt g rfl)
    exact .inr ⟨g, cap, cur, rfl, hg, by rw [fr g hb.2 (hn g hb.1 hb.2)]; exact hh, r⟩
theorem Cv.keptM {w w' : World} {lo : Nat} {v u : Value} {C : Cp} (hv : Cv w lo v C) (fr : ∀ b, b < w.heap.size → FarD u b → w'.heap[b]? = w.heap[b]?) (hn : ∀ b, lo ≤ b → b < w.heap.size → FarD u b) : Cv w' lo v C := by
  obtain ⟨v0, v1, v2, v3, e, ⟨_, _, _, e', r0, r1, r2, x⟩, r3, y⟩ := hv
  exact ⟨v0, v1, v2, v3, e, ⟨_, _, _, e', r0.keptM fr hn, r1.keptM fr hn, r2.keptM fr hn, x⟩, r3.keptM fr hn, y⟩
theorem Dv.keptM {w w' : World} {lo : Nat} {v u : Value} {D : Dp} (hv : Dv w lo v D) (fr : ∀ b, b < w.heap.size → FarD u b → w'.heap[b]? = w.heap[b]?) (hn : ∀ b, lo ≤ b → b < w.heap.size → FarD u b) : Dv w' lo v D := by
  obtain ⟨v0, v1, v2, v3, r, e, hc, hr, a⟩ := hv
  exact ⟨v0, v1, v2, v3, r, e, hc.keptM fr hn, hr.keptM fr hn, a⟩
theorem Dv.keptC {w w' : World} {lo : Nat} {v u : Value} {D : Dp} (hv : Dv w lo v D) (fr : ∀ b, b < w.heap.size → NotC u b → w'.heap[b]? = w.heap[b]?) (hn : ∀ b, lo ≤ b → b < w.heap.size → NotC u b) : Dv w' lo v D := by
  obtain ⟨v0, v1, v2, v3, r, e, hc, hr, a⟩ := hv
  exact ⟨v0, v1, v2, v3, r, e, hc.keptC fr hn, hr.keptC fr (fun b e => hn b (hr.lt b e).1 (hr.lt b e).2), a⟩
theorem Dv.keptFar {w w' : World} {lo Bd : Nat} {v : Value} {D : Dp} (hv : Dv w lo v D) (hb : Below Bd w w') {W : World} {D' : Dp} (hW : Dv W lo v D') (hs : W.heap.size ≤ Bd) : Dv w' lo v D := by
  obtain ⟨v0, v1, v2, v3, r, e, ⟨_, _, _, _, e3, ⟨_, _, _, e4, r0, r1, r2, x⟩, r3, y⟩, hr, a⟩ := hv
  obtain ⟨_, _, _, _, _, e', ⟨_, _, _, _, f3, ⟨_, _, _, f4, s0, s1, s2, _⟩, s3, _⟩, sr, _⟩ := hW
  subst e
  simp only [Value.agg.injEq, Array.mk.injEq, List.cons.injEq, and_true] at e'
  obtain ⟨rfl, rfl, rfl, rfl, rfl⟩ := e'
  cases e3; cases e4; cases f3; cases f4
  have k : ∀ (v : Value) (xs ys : List Int), Row w lo v xs → Row W lo v ys → Row w' lo v xs := fun v xs ys h h' => h.far hb (fun j e => by have := (h'.lt j e).2; omega)
  exact ⟨_, _, _, _, _, rfl, ⟨_, _, _, _, rfl, ⟨_, _, _, rfl, k _ _ _ r0 s0, k _ _ _ r1 s1, k _ _ _ r2 s2, x⟩, k _ _ _ r3 s3, y⟩, k _ _ _ hr sr, a⟩
set_option maxRecDepth 100000 in
set_option maxHeartbeats 2000000 in
theorem markCounted_any (w : World) (lo : Nat) (v : Value) (D : Dp) (hv : Dv w lo v D) (hlo : lo ≤ w.heap.size) (hs : ShortD D 1048576) : Calls Try.prog 29 #[v, .int .i64 1] w (MarkedD w lo ((numD D : Nat) : Int) v D) := by
  obtain ⟨b0, b1, b2, b3, b4⟩ := hs
  obtain ⟨A0, n0, c0, A1, n1, c1, A2, n2, c2, A3, n3, c3, A4, n4, c4, rfl, hc, -, ⟨-, -, -, -, r4⟩, ⟨l0, l1, l2, l3, l4⟩, -, -, -, ⟨a0, a1, a2, a3⟩⟩ := hv.open_
  have X := Blk5.new w (.slice A0 n0 c0) (.slice A1 n1 c1) (.slice A2 n2 c2) (.slice A3 n3 c3) (.slice A4 n4 c4) 40
  have HC := hc.alloc (.cells #[.slice A0 n0 c0, .slice A1 n1 c1, .slice A2 n2 c2, .slice A3 n3 c3, .slice A4 n4 c4] 40)
  have HR := r4.alloc (.cells #[.slice A0 n0 c0, .slice A1 n1 c1, .slice A2 n2 c2, .slice A3 n3 c3, .slice A4 n4 c4] 40)
  have Bl : Below lo w (w.alloc (.cells #[.slice A0 n0 c0, .slice A1 n1 c1, .slice A2 n2 c2, .slice A3 n3 c3, .slice A4 n4 c4] 40)) := (Below.refl _ _).alloc hlo _
  have z0 : w.heap.size + 1 = (w.alloc (.cells #[.slice A0 n0 c0, .slice A1 n1 c1, .slice A2 n2 c2, .slice A3 n3 c3, .slice A4 n4 c4] 40)).heap.size := by simp
  have ff : ∀ b, b < w.heap.size → (w.alloc (.cells #[.slice A0 n0 c0, .slice A1 n1 c1, .slice A2 n2 c2, .slice A3 n3 c3, .slice A4 n4 c4] 40)).heap[b]? = w.heap[b]? := fun b hb => Below.heap_alloc w _ b hb
  have nX : NotC (.agg #[.slice A0 n0 c0, .slice A1 n1 c1, .slice A2 n2 c2, .slice A3 n3 c3]) w.heap.size := notC_new hc (Nat.le_refl _)
  have oR : ∀ b, (Value.slice A4 n4 c4).ownBlock = some b → b < w.heap.size := fun b e => (r4.lt b e).2
  have oL : ∀ b, (Value.slice A4 n4 c4).ownBlock = some b → lo ≤ b := fun b e => (r4.lt b e).1
  have aR : ∀ b, (Value.slice A4 n4 c4).ownBlock = some b → NotC (.agg #[.slice A0 n0 c0, .slice A1 n1 c1, .slice A2 n2 c2, .slice A3 n3 c3]) b := fun b e u0 u1 u2 u3 e' => by
    cases e'
    exact ⟨fun h => a0 b h.symm e, fun h => a1 b h.symm e, fun h => a2 b h.symm e, fun h => a3 b h.symm e⟩
  clear hc r4 hv
  generalize hW : w.alloc (.cells #[.slice A0 n0 c0, .slice A1 n1 c1, .slice A2 n2 c2, .slice A3 n3 c3, .slice A4 n4 c4] 40) = W at X HC HR Bl z0 ff
  obtain ⟨x0, x1, x2, x3, x4, -⟩ := X.cells
  have M1 := markColored_any W lo _ D.C HC (by omega) b0 b1 b2 b3
  have hsz : sizeC D.C ≤ 4194304 := by unfold sizeC sizeH; omega
  go_enter Try.func29, Try.ntmps29
  go_wp2_with fail
  (try rw [hW])
  refine M1.mono ?_; rintro e w1 ⟨rfl, HC1, hl1, fr1⟩
  have s1 := hl1.size
  have X1 := Blk5.frameN X fr1 nX
  have HR1 := Row.keptC HR fr1 aR
  obtain ⟨y0, y1, y2, y3, y4, -⟩ := X1.cells
  clear X HC HR M1 x0 x1 x2 x3 x4
  have M2 := markIntS_any w1 lo A4 n4 c4 D.n HR1 l4.out (by have := l4.out; omega) (1 + sizeC D.C) (by omega)
  have hk2 : Hid (1 + sizeC D.C + n4 = numD D) := by unfold Hid numD; rw [l4.out]
  go_wp2_with fail
  refine M2.mono ?_; rintro e w2 ⟨rfl, HR2, hg2, s2⟩
  have HC2 := Cv.keptD HC1 hg2 ⟨a0, a1, a2, a3⟩
  clear X1 HC1 HR1 M2
  have Fin : Below lo w w2 := by
    refine ⟨?_, ?_, ?_, ?_, fun k hk => ?_⟩
    · exact hg2.os.trans (hl1.os.trans Bl.os)
    · exact hg2.tape.trans (hl1.tape.trans Bl.tape)
    · exact hg2.output.trans (hl1.output.trans Bl.output)
    · have := Bl.size; omega
    · have e2 := hg2.block k (by omega) (fun e => by have := oL k e.symm; omega)
      exact e2.trans ((hl1.block k hk).trans (Bl.block k hk))
  have Fr : ∀ b, b < w.heap.size → FarD (.agg #[.slice A0 n0 c0, .slice A1 n1 c1, .slice A2 n2 c2, .slice A3 n3 c3, .slice A4 n4 c4]) b → w2.heap[b]? = w.heap[b]? := fun b hb hn => by
    obtain ⟨q1, q2⟩ := hn _ _ _ _ _ rfl
    have e1 := fr1 b (by omega) (fun u0 u1 u2 u3 e' => by cases e'; exact q1)
    exact (hg2.block b (by omega) q2).trans (e1.trans (ff b hb))
  go_wp2_with fail
  go_ret
  refine ⟨ret_int (by rw [← hk2.out]; (try simp); (try omega)), ?_, Fin, Fr⟩
  unfold markD
  rw [l4.out]
  exact ⟨_, _, _, _, _, rfl, HC2, HR2, a0, a1, a2, a3⟩

set_option maxRecDepth 100000 in
set_option maxHeartbeats 2000000 in
theorem heldCounted_any (w : World) (lo : Nat) (v : Value) (D : Dp) (hv : Dv w lo v (markD D)) (hs : ShortD D 1048576) : Calls Try.prog 30 #[v, .int .i64 1] w (RetI w ((numD D : Nat) : Int)) := by
  obtain ⟨b0, b1, b2, b3, b4⟩ := hs
  obtain ⟨A0, n0, c0, A1, n1, c1, A2, n2, c2, A3, n3, c3, A4, n4, c4, rfl, hc, -, ⟨-, -, -, -, r4⟩, ⟨-, -, -, -, l4⟩, -⟩ := hv.open_
  have e4 : D.n.length = n4 := by have := l4.out; unfold markD at this; simpa [seqI_len] using this
  have X := Blk5.new w (.slice A0 n0 c0) (.slice A1 n1 c1) (.slice A2 n2 c2) (.slice A3 n3 c3) (.slice A4 n4 c4) 40
  have HC := hc.alloc (.cells #[.slice A0 n0 c0, .slice A1 n1 c1, .slice A2 n2 c2, .slice A3 n3 c3, .slice A4 n4 c4] 40)
  have HR := r4.alloc (.cells #[.slice A0 n0 c0, .slice A1 n1 c1, .slice A2 n2 c2, .slice A3 n3 c3, .slice A4 n4 c4] 40)
  have BB : Below w.heap.size w (w.alloc (.cells #[.slice A0 n0 c0, .slice A1 n1 c1, .slice A2 n2 c2, .slice A3 n3 c3, .slice A4 n4 c4] 40)) := (Below.refl _ _).alloc (Nat.le_refl _) _
  clear hc r4 hv
  generalize hW : w.alloc (.cells #[.slice A0 n0 c0, .slice A1 n1 c1, .slice A2 n2 c2, .slice A3 n3 c3, .slice A4 n4 c4] 40) = W at X HC HR BB
  obtain ⟨x0, x1, x2, x3, x4, -⟩ := X.cells
  have hsz : sizeC D.C ≤ 4194304 := by unfold sizeC sizeH; omega
  have M1 := heldColored_any W lo _ D.C HC b0 b1 b2 b3
  have M2 := fun W' (hb : Below W.heap.size W W') => heldIntS_any W' lo A4 n4 c4 _ (HR.below hb) l4.out (by omega) (1 + sizeC D.C) (by omega)
  have f4 : heldR (1 + sizeC D.C) (markD D).n = ((1 + sizeC D.C + n4 : Nat) : Int) := by unfold heldR markD; simp [seqI_len, e4]
  rw [f4] at M2
  have hN : Hid (numD D = 1 + sizeC D.C + n4) := by unfold Hid numD; rw [e4]
  have g1 : ¬ (((1 + sizeC D.C : Nat) : Int) < 0) := by omega
  have g2 : ¬ (((1 + sizeC D.C + n4 : Nat) : Int) < 0) := by omega
  clear HC f4
  go_enter Try.func30, Try.ntmps30
  go_wp2_with fail
  (try rw [hW])
  refine M1.mono ?_; rintro e w1 ⟨rfl, hb1⟩
  obtain ⟨q0, q1, q2, q3, q4, -⟩ := (X.below hb1).cells
  have B1 := BB.trans (hb1.mono BB.size)
  clear x0 x1 x2 x3 x4 M1
  go_wp2_with fail
  refine (M2 _ hb1).mono ?_; rintro e w2 ⟨rfl, rfl⟩
  go_wp2_with fail
  go_ret
  exact ⟨ret_int (by rw [hN.out]; (try simp); (try omega)), B1⟩

theorem markD1 (D : Dp) (hs : ShortD D 1048576) : ∃ N : Int, ¬ (N < 0) ∧ (N != N) = false ∧
    (∀ (w : World) (lo : Nat) (v : Value), Dv w lo v D → lo ≤ w.heap.size → Calls Try.prog 29 #[v, .int .i64 1] w (MarkedD w lo N v D)) ∧
    (∀ (w : World) (lo : Nat) (v : Value), Dv w lo v (markD D) → Calls Try.prog 30 #[v, .int .i64 1] w (RetI w N)) :=
  ⟨((numD D : Nat) : Int), by omega, by simp, fun w lo v hv hlo => markCounted_any w lo v D hv hlo hs, fun w lo v hv => heldCounted_any w lo v D hv hs⟩
end Go.Proofs.Ytpjdpflghcdkiaa
