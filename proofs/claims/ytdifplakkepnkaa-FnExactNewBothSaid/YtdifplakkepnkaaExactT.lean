/- The helpers of the exact laws of chapter 7: sizes, copies. -/
import Derived.Test.YtdifplakkepnkaaBthM
import Derived.Test.YtdifplakkepnkaaExactG
import Derived.Test.YtdifplakkepnkaaExactP
namespace Go.Proofs.Ytdifplakkepnkaa
open Go.RowKit

/-- A Both that is an argument: its slices lie somewhere below Bd. -/
def BArg (w : World) (Bd : Nat) (v : Value) (B : Bp) : Prop :=
  ∃ A0 c0 A1 c1 A2 c2 A3 c3 A4 c4 A5 c5, v = .agg #[.slice A0 B.C.h.l.length c0, .slice A1 B.C.h.r.length c1, .slice A2 B.C.h.t.length c2, .slice A3 B.C.c.length c3, .int .i64 B.G.p, .slice A4 B.G.c.length c4, .int .i64 B.G.a, .slice A5 B.os.length c5, .int .i64 B.i, .bool B.z] ∧ CArg w Bd (.agg #[.slice A0 B.C.h.l.length c0, .slice A1 B.C.h.r.length c1, .slice A2 B.C.h.t.length c2, .slice A3 B.C.c.length c3]) B.C ∧ Ints w Bd A4 B.G.c.length B.G.c ∧ OIn w Bd A5 B.os.length B.os
theorem BArg.below {w w' : World} {Bd : Nat} {v : Value} {B : Bp} (h : BArg w Bd v B) (hb : Below Bd w w') : BArg w' Bd v B := by
  obtain ⟨A0, c0, A1, c1, A2, c2, A3, c3, A4, c4, A5, c5, e, h0, h1, h2⟩ := h
  exact ⟨A0, c0, A1, c1, A2, c2, A3, c3, A4, c4, A5, c5, e, h0.below hb, h1.below hb, h2.below hb⟩
theorem BArg.alloc {w : World} {Bd : Nat} {v : Value} {B : Bp} (h : BArg w Bd v B) (hB : Bd ≤ w.heap.size) (o : Obj) : BArg (w.alloc o) Bd v B := h.below ((Below.refl _ _).alloc hB _)
theorem BArg.drew {w : World} {Bd : Nat} {v : Value} {B : Bp} (h : BArg w Bd v B) : BArg w.drew Bd v B := h
def ShortL (B : Bp) (n : Nat) : Prop := B.C.h.l.length ≤ n ∧ B.C.h.r.length ≤ n ∧ B.C.h.t.length ≤ n ∧ B.C.c.length ≤ n ∧ B.G.c.length ≤ n ∧ B.os.length ≤ n
def BIn (w : World) (v : Value) (B : Bp) : Prop := BArg w w.heap.size v B ∧ ShortL B 9223372036854775807
theorem Bv.shape {w : World} {lo : Nat} {v : Value} {C : Cp} {p a i : Int} {cc : List Int} {os : List Opv} {z : Bool} (h : Bv w lo v ⟨C, ⟨p, cc, a⟩, os, i, z⟩) : ∃ A0 n0 c0 A1 n1 c1 A2 n2 c2 A3 n3 c3 A4 n4 c4 A5 n5 c5, v = .agg #[.slice A0 n0 c0, .slice A1 n1 c1, .slice A2 n2 c2, .slice A3 n3 c3, .int .i64 p, .slice A4 n4 c4, .int .i64 a, .slice A5 n5 c5, .int .i64 i, .bool z] := by
  obtain ⟨A0, n0, c0, A1, n1, c1, A2, n2, c2, A3, n3, c3, A4, n4, c4, A5, n5, c5, _, _, _, _, _, _, _, e, e', -⟩ := h.open_
  cases e
  exact ⟨A0, n0, c0, A1, n1, c1, A2, n2, c2, A3, n3, c3, A4, n4, c4, A5, n5, c5, e'⟩
def OptB (w : World) (ok : Bool) (B : Bp) (e : Ending) (w' : World) : Prop := ∃ v, e = .returned (.tuple #[v, .bool ok]) ∧ Bv w' w.heap.size v B ∧ Below w.heap.size w w'
theorem optB_of {P : Program} {f : FuncId} {args : Array Value} {w : World} {o : Option Bp} (h : Calls P f args w (OptBv w o)) : Calls P f args w (OptB w o.isSome (o.getD Bp.zero)) := h
def sizeB (B : Bp) : Nat := (B.C.h.l.length + B.C.h.r.length + B.C.h.t.length + B.C.c.length) + B.G.c.length + B.os.length
set_option maxRecDepth 100000 in
set_option maxHeartbeats 2000000 in
theorem szBoth_any (w : World) (A0 A1 A2 A3 A4 A5 : Option Addr) (n0 c0 n1 c1 n2 c2 n3 c3 n4 c4 n5 c5 : Nat) (p a i : Int) (z : Bool) (left : Int) (h0 : 0 ≤ left) (h1 : left ≤ 1048576) (b0 : n0 ≤ 9223372036854775807) (b1 : n1 ≤ 9223372036854775807) (b2 : n2 ≤ 9223372036854775807) (b3 : n3 ≤ 9223372036854775807) (b4 : n4 ≤ 9223372036854775807) (b5 : n5 ≤ 9223372036854775807) :
    Calls Try.prog 26 #[.agg #[.slice A0 n0 c0, .slice A1 n1 c1, .slice A2 n2 c2, .slice A3 n3 c3, .int .i64 p, .slice A4 n4 c4, .int .i64 a, .slice A5 n5 c5, .int .i64 i, .bool z], .int .i64 left] w (RetI w (szV ((n0 + n1 + n2 + n3) + n4 + n5) left)) := by
  have fin : Below w.heap.size w (w.alloc (.cells #[.slice A0 n0 c0, .slice A1 n1 c1, .slice A2 n2 c2, .slice A3 n3 c3, .int .i64 p, .slice A4 n4 c4, .int .i64 a, .slice A5 n5 c5, .int .i64 i, .bool z] 56)) := (Below.refl _ _).alloc (Nat.le_refl _) _
  have S := szColored_any (w.alloc (.cells #[.slice A0 n0 c0, .slice A1 n1 c1, .slice A2 n2 c2, .slice A3 n3 c3, .int .i64 p, .slice A4 n4 c4, .int .i64 a, .slice A5 n5 c5, .int .i64 i, .bool z] 56)) A0 A1 A2 A3 n0 c0 n1 c1 n2 c2 n3 c3 left h0 h1 b0 b1 b2 b3
  have X := Blk10.new w (.slice A0 n0 c0) (.slice A1 n1 c1) (.slice A2 n2 c2) (.slice A3 n3 c3) (.int .i64 p) (.slice A4 n4 c4) (.int .i64 a) (.slice A5 n5 c5) (.int .i64 i) (.bool z) 56
  by_cases e : ((n0 + n1 + n2 + n3 : Nat) : Int) ≤ left
  · have f : szV (n0 + n1 + n2 + n3) left = left - ((n0 + n1 + n2 + n3 : Nat) : Int) := by unfold szV; rw [if_pos e]
    rw [f] at S
    have u0 : 0 ≤ left - ((n0 + n1 + n2 + n3 : Nat) : Int) := by omega
    have u1 : left - ((n0 + n1 + n2 + n3 : Nat) : Int) ≤ 1048576 := by omega
    have hT : Hid (szV ((n0 + n1 + n2 + n3) + n4 + n5) left = if (n4 : Int) ≤ left - ((n0 + n1 + n2 + n3 : Nat) : Int) then szV n5 (left - ((n0 + n1 + n2 + n3 : Nat) : Int) - n4) else -1) := by
      unfold Hid szV; repeat' split
      all_goals omega
    clear f e
    generalize left - ((n0 + n1 + n2 + n3 : Nat) : Int) = lf at *
    have g0 : ¬ (lf < 0) := by omega
    have S4 := fun W => szGc_any W p a A4 n4 c4 lf u0 u1 b4
    by_cases e4 : (n4 : Int) ≤ lf
    · have f4 : szV n4 lf = lf - n4 := by unfold szV; rw [if_pos e4]
      simp only [f4] at S4
      replace hT : Hid (szV ((n0 + n1 + n2 + n3) + n4 + n5) left = szV n5 (lf - n4)) := by have := hT.out; rw [if_pos e4] at this; exact this
      have v0 : 0 ≤ lf - (n4 : Int) := by omega
      have v1 : lf - (n4 : Int) ≤ 1048576 := by omega
      clear f4 e4 u0 u1
      generalize lf - (n4 : Int) = lg at *
      have g1 : ¬ (lg < 0) := by omega
      have S5 := fun W => szOpS_any W A5 n5 c5 lg v0 v1 b5
      by_cases e5 : (n5 : Int) ≤ lg
      · have f5 : szV n5 lg = lg - n5 := by unfold szV; rw [if_pos e5]
        rw [f5] at hT
        simp only [f5] at S5
        have g2 : ¬ (lg - (n5 : Int) < 0) := by omega
        clear f5 e5
        go_enter Try.func26, Try.ntmps26
        go_wp2_with fail
        refine S.mono ?_; rintro e w1 ⟨rfl, hb1⟩
        have X1 := Blk10.below (by exact X) hb1
        obtain ⟨⟨x0, x1, x2, x3, x4, x5, x6, x7, x8, x9⟩, -⟩ := X1.cells
        have B1 := fin.trans (hb1.mono (by simp))
        clear S X
        go_wp2_with fail
        refine (S4 _).mono ?_; rintro e w2 ⟨rfl, hb2⟩
        obtain ⟨⟨y0, y1, y2, y3, y4, y5, y6, y7, y8, y9⟩, -⟩ := (X1.below hb2).cells
        have B2 := B1.trans (hb2.mono B1.size)
        go_wp2_with fail
        refine (S5 _).mono ?_; rintro e w' ⟨rfl, rfl⟩
        go_wp2_with fail
        go_ret
        exact ⟨ret_int hT.out.symm, B2⟩
      · have f5 : szV n5 lg = -1 := by unfold szV; rw [if_neg e5]
        rw [f5] at hT
        simp only [f5] at S5
        clear f5 e5
        go_enter Try.func26, Try.ntmps26
        go_wp2_with fail
        refine S.mono ?_; rintro e w1 ⟨rfl, hb1⟩
        have X1 := Blk10.below (by exact X) hb1
        obtain ⟨⟨x0, x1, x2, x3, x4, x5, x6, x7, x8, x9⟩, -⟩ := X1.cells
        have B1 := fin.trans (hb1.mono (by simp))
        clear S X
        go_wp2_with fail
        refine (S4 _).mono ?_; rintro e w2 ⟨rfl, hb2⟩
        obtain ⟨⟨y0, y1, y2, y3, y4, y5, y6, y7, y8, y9⟩, -⟩ := (X1.below hb2).cells
        have B2 := B1.trans (hb2.mono B1.size)
        go_wp2_with fail
        refine (S5 _).mono ?_; rintro e w' ⟨rfl, rfl⟩
        go_wp2_with fail
        go_ret
        exact ⟨ret_int hT.out.symm, B2⟩
    · have f4 : szV n4 lf = -1 := by unfold szV; rw [if_neg e4]
      simp only [f4] at S4
      replace hT : Hid (szV ((n0 + n1 + n2 + n3) + n4 + n5) left = -1) := by have := hT.out; rw [if_neg e4] at this; exact this
      clear f4 e4
      go_enter Try.func26, Try.ntmps26
      go_wp2_with fail
      refine S.mono ?_; rintro e w1 ⟨rfl, hb1⟩
      have X1 := Blk10.below (by exact X) hb1
      obtain ⟨⟨x0, x1, x2, x3, x4, x5, x6, x7, x8, x9⟩, -⟩ := X1.cells
      have B1 := fin.trans (hb1.mono (by simp))
      clear S X
      go_wp2_with fail
      refine (S4 _).mono ?_; rintro e w2 ⟨rfl, hb2⟩
      have B2 := B1.trans (hb2.mono B1.size)
      go_wp2_with fail
      go_ret
      exact ⟨ret_int hT.out.symm, B2⟩
  · have f : szV (n0 + n1 + n2 + n3) left = -1 := by unfold szV; rw [if_neg e]
    rw [f] at S
    have hT : Hid (szV ((n0 + n1 + n2 + n3) + n4 + n5) left = -1) := by unfold Hid szV; rw [if_neg (by omega)]
    clear f e
    go_enter Try.func26, Try.ntmps26
    go_wp2_with fail
    refine S.mono ?_; rintro e w1 ⟨rfl, hb1⟩
    have B1 := fin.trans (hb1.mono (by simp))
    go_wp2_with fail
    go_ret
    exact ⟨ret_int hT.out.symm, B1⟩

set_option maxRecDepth 100000 in
set_option maxHeartbeats 2000000 in
theorem toBoth_any (w : World) (Bd : Nat) (hBw : Bd ≤ w.heap.size) (v : Value) (B : Bp) (hv : BArg w Bd v B) (hs : ShortL B 1048576) :
    Calls Try.prog 28 #[v] w (NewBv w B) := by
  obtain ⟨A0, c0, A1, c1, A2, c2, A3, c3, A4, c4, A5, c5, rfl, h0, h1, h2⟩ := hv
  obtain ⟨b0, b1, b2, b3, b4, b5⟩ := hs
  have X := ((Blk10.new w (.slice A0 B.C.h.l.length c0) (.slice A1 B.C.h.r.length c1) (.slice A2 B.C.h.t.length c2) (.slice A3 B.C.c.length c3) (.int .i64 B.G.p) (.slice A4 B.G.c.length c4) (.int .i64 B.G.a) (.slice A5 B.os.length c5) (.int .i64 B.i) (.bool B.z) 56).alloc (.cells #[.slice none 0 0, .slice none 0 0, .slice none 0 0, .slice none 0 0, .int .i64 0, .slice none 0 0, .int .i64 0, .slice none 0 0, .int .i64 0, .bool false] 34)).alloc (.cells #[.slice none 0 0, .slice none 0 0, .slice none 0 0, .slice none 0 0, .int .i64 0, .slice none 0 0, .int .i64 0, .slice none 0 0, .int .i64 0, .bool false] 34)
  have Y := (Blk10.new_at (w := w.alloc (.cells #[.slice A0 B.C.h.l.length c0, .slice A1 B.C.h.r.length c1, .slice A2 B.C.h.t.length c2, .slice A3 B.C.c.length c3, .int .i64 B.G.p, .slice A4 B.G.c.length c4, .int .i64 B.G.a, .slice A5 B.os.length c5, .int .i64 B.i, .bool B.z] 56)) (b := w.heap.size + 1) (by simp) (.slice none 0 0) (.slice none 0 0) (.slice none 0 0) (.slice none 0 0) (.int .i64 0) (.slice none 0 0) (.int .i64 0) (.slice none 0 0) (.int .i64 0) (.bool false) 34).alloc (.cells #[.slice none 0 0, .slice none 0 0, .slice none 0 0, .slice none 0 0, .int .i64 0, .slice none 0 0, .int .i64 0, .slice none 0 0, .int .i64 0, .bool false] 34)
  have Z := Blk10.new_at (w := (w.alloc (.cells #[.slice A0 B.C.h.l.length c0, .slice A1 B.C.h.r.length c1, .slice A2 B.C.h.t.length c2, .slice A3 B.C.c.length c3, .int .i64 B.G.p, .slice A4 B.G.c.length c4, .int .i64 B.G.a, .slice A5 B.os.length c5, .int .i64 B.i, .bool B.z] 56)).alloc (.cells #[.slice none 0 0, .slice none 0 0, .slice none 0 0, .slice none 0 0, .int .i64 0, .slice none 0 0, .int .i64 0, .slice none 0 0, .int .i64 0, .bool false] 34)) (b := w.heap.size + 1 + 1) (by simp) (.slice none 0 0) (.slice none 0 0) (.slice none 0 0) (.slice none 0 0) (.int .i64 0) (.slice none 0 0) (.int .i64 0) (.slice none 0 0) (.int .i64 0) (.bool false) 34
  have BB : Below w.heap.size w (((w.alloc (.cells #[.slice A0 B.C.h.l.length c0, .slice A1 B.C.h.r.length c1, .slice A2 B.C.h.t.length c2, .slice A3 B.C.c.length c3, .int .i64 B.G.p, .slice A4 B.G.c.length c4, .int .i64 B.G.a, .slice A5 B.os.length c5, .int .i64 B.i, .bool B.z] 56)).alloc (.cells #[.slice none 0 0, .slice none 0 0, .slice none 0 0, .slice none 0 0, .int .i64 0, .slice none 0 0, .int .i64 0, .slice none 0 0, .int .i64 0, .bool false] 34)).alloc (.cells #[.slice none 0 0, .slice none 0 0, .slice none 0 0, .slice none 0 0, .int .i64 0, .slice none 0 0, .int .i64 0, .slice none 0 0, .int .i64 0, .bool false] 34)) := (((Below.refl _ _).alloc (Nat.le_refl _) _).alloc (by simp) _).alloc (by simp <;> omega) _
  have sz : w.heap.size + 3 ≤ (((w.alloc (.cells #[.slice A0 B.C.h.l.length c0, .slice A1 B.C.h.r.length c1, .slice A2 B.C.h.t.length c2, .slice A3 B.C.c.length c3, .int .i64 B.G.p, .slice A4 B.G.c.length c4, .int .i64 B.G.a, .slice A5 B.os.length c5, .int .i64 B.i, .bool B.z] 56)).alloc (.cells #[.slice none 0 0, .slice none 0 0, .slice none 0 0, .slice none 0 0, .int .i64 0, .slice none 0 0, .int .i64 0, .slice none 0 0, .int .i64 0, .bool false] 34)).alloc (.cells #[.slice none 0 0, .slice none 0 0, .slice none 0 0, .slice none 0 0, .int .i64 0, .slice none 0 0, .int .i64 0, .slice none 0 0, .int .i64 0, .bool false] 34)).heap.size := by simp
  generalize hW : (((w.alloc (.cells #[.slice A0 B.C.h.l.length c0, .slice A1 B.C.h.r.length c1, .slice A2 B.C.h.t.length c2, .slice A3 B.C.c.length c3, .int .i64 B.G.p, .slice A4 B.G.c.length c4, .int .i64 B.G.a, .slice A5 B.os.length c5, .int .i64 B.i, .bool B.z] 56)).alloc (.cells #[.slice none 0 0, .slice none 0 0, .slice none 0 0, .slice none 0 0, .int .i64 0, .slice none 0 0, .int .i64 0, .slice none 0 0, .int .i64 0, .bool false] 34)).alloc (.cells #[.slice none 0 0, .slice none 0 0, .slice none 0 0, .slice none 0 0, .int .i64 0, .slice none 0 0, .int .i64 0, .slice none 0 0, .int .i64 0, .bool false] 34)) = W at X Y Z BB sz
  have i0 := CArg.below h0 (BB.mono hBw)
  have i1 := h1.below (BB.mono hBw)
  have i2 := h2.below (BB.mono hBw)
  clear h0 h1 h2
  obtain ⟨C, G, os, i, z⟩ := B
  obtain ⟨p, cc, a⟩ := G
  dsimp only at *
  obtain ⟨⟨x0, x1, x2, x3, x4, x5, x6, x7, x8, x9⟩, -⟩ := X.cells
  have T0 := toColored_any W Bd (by omega) _ C i0 b0 b1 b2 b3
  go_enter Try.func28, Try.ntmps28
  go_wp2_with fail
  (try rw [hW])
  refine T0.mono ?_; rintro e w1 ⟨vs, rfl, HS, hb1⟩
  clear T0 i0 x0 x1 x2 x3 x4 x5 x6 x7 x8 x9
  have HSo := HS
  obtain ⟨B0, u0, e0, B1, u1, e1, B2, u2, e2, B3, u3, e3, rfl, -⟩ := HSo.open_
  clear HSo
  have z1 := hb1.size
  have X1 := (X.below hb1).far4 (c := w.heap.size + 1 + 1) (by omega) (.slice B0 u0 e0) (.slice B1 u1 e1) (.slice B2 u2 e2) (.slice B3 u3 e3)
  have Y1 := (Y.below hb1).far4 (c := w.heap.size + 1 + 1) (by omega) (.slice B0 u0 e0) (.slice B1 u1 e1) (.slice B2 u2 e2) (.slice B3 u3 e3)
  have Z0 := Z.below hb1
  have Z1 := Z0.set03 (.slice B0 u0 e0) (.slice B1 u1 e1) (.slice B2 u2 e2) (.slice B3 u3 e3)
  have HS1 := (((HS.mono (lo' := w.heap.size + 3) (by omega)).lowSet (p := ⟨w.heap.size + 1 + 1, 0, none⟩) (by show w.heap.size + 1 + 1 < _; omega) (.slice B0 u0 e0)).lowSet (p := ⟨w.heap.size + 1 + 1, 1, none⟩) (by show w.heap.size + 1 + 1 < _; omega) (.slice B1 u1 e1)).lowSet (p := ⟨w.heap.size + 1 + 1, 2, none⟩) (by show w.heap.size + 1 + 1 < _; omega) (.slice B2 u2 e2) |>.lowSet (p := ⟨w.heap.size + 1 + 1, 3, none⟩) (by show w.heap.size + 1 + 1 < _; omega) (.slice B3 u3 e3)
  have F1 := below_set4b (BB.trans (hb1.mono BB.size)) (c := w.heap.size + 1 + 1) (by omega) (.slice B0 u0 e0) (.slice B1 u1 e1) (.slice B2 u2 e2) (.slice B3 u3 e3)
  have bs := below_set4b (Below.refl (w.heap.size) w1) (c := w.heap.size + 1 + 1) (by omega) (.slice B0 u0 e0) (.slice B1 u1 e1) (.slice B2 u2 e2) (.slice B3 u3 e3)
  have j1 := (i1.below (hb1.mono (by omega))).below (bs.mono (by omega))
  have j2 := (i2.below (hb1.mono (by omega))).below (bs.mono (by omega))
  have s1 := bs.size
  obtain ⟨⟨p0, p1, p2, p3, p4, p5, p6, p7, p8, p9⟩, -⟩ := (X.below hb1).cells
  obtain ⟨⟨r0, r1, r2, r3, r4, r5, r6, r7, r8, r9⟩, ⟨m0, m1, m2, m3, m4, m5, m6, m7, m8, m9⟩⟩ := Z0.cells
  generalize hW1 : ((((w1.setCell ⟨w.heap.size + 1 + 1, 0, none⟩ (.slice B0 u0 e0)).setCell ⟨w.heap.size + 1 + 1, 1, none⟩ (.slice B1 u1 e1)).setCell ⟨w.heap.size + 1 + 1, 2, none⟩ (.slice B2 u2 e2)).setCell ⟨w.heap.size + 1 + 1, 3, none⟩ (.slice B3 u3 e3)) = W1 at X1 Y1 Z1 HS1 F1 bs j1 j2 s1
  obtain ⟨⟨t0, t1, t2, t3, t4, t5, t6, t7, t8, t9⟩, -⟩ := X1.cells
  have T1 := toGc_row W1 Bd (by omega) p a A4 c4 cc j1 b4
  clear X Y Z Z0 HS i1 i2 bs j1
  go_wp2_with fail
  (try rw [hW1])
  refine T1.mono ?_; rintro e w2 ⟨B4, e4, rfl, HR, hb2⟩
  clear T1 p0 p1 p2 p3 p4 p5 p6 p7 p8 p9 r0 r1 r2 r3 r4 r5 r6 r7 r8 r9 m0 m1 m2 m3 m4 m5 m6 m7 m8 m9 t0 t1 t2 t3 t4 t5 t6 t7 t8 t9
  have z2 := hb2.size
  have CG := CGv.mk (G := ⟨p, cc, a⟩) HS1 ⟨_, rfl, HR⟩ (by omega) hb2
  have X2 := (X1.below hb2).far3 (c := w.heap.size + 1 + 1) (by omega) (.int .i64 p) (.slice B4 cc.length e4) (.int .i64 a)
  have Y2 := (Y1.below hb2).far3 (c := w.heap.size + 1 + 1) (by omega) (.int .i64 p) (.slice B4 cc.length e4) (.int .i64 a)
  have Z2' := Z1.below hb2
  have Z2 := Z2'.set46 (.int .i64 p) (.slice B4 cc.length e4) (.int .i64 a)
  have CG2 := ((CG.lowSet (p := ⟨w.heap.size + 1 + 1, 4, none⟩) (by show w.heap.size + 1 + 1 < _; omega) (.int .i64 p)).lowSet (p := ⟨w.heap.size + 1 + 1, 5, none⟩) (by show w.heap.size + 1 + 1 < _; omega) (.slice B4 cc.length e4)).lowSet (p := ⟨w.heap.size + 1 + 1, 6, none⟩) (by show w.heap.size + 1 + 1 < _; omega) (.int .i64 a)
  have F2 := below_set3b (F1.trans (hb2.mono F1.size)) (c := w.heap.size + 1 + 1) (by omega) (.int .i64 p) (.slice B4 cc.length e4) (.int .i64 a)
  have bs2 := below_set3b (Below.refl (w.heap.size) w2) (c := w.heap.size + 1 + 1) (by omega) (.int .i64 p) (.slice B4 cc.length e4) (.int .i64 a)
  have k2 := (j2.below (hb2.mono (by omega))).below (bs2.mono (by omega))
  have s2 := bs2.size
  obtain ⟨⟨p0, p1, p2, p3, p4, p5, p6, p7, p8, p9⟩, -⟩ := (X1.below hb2).cells
  obtain ⟨⟨r0, r1, r2, r3, r4, r5, r6, r7, r8, r9⟩, ⟨m0, m1, m2, m3, m4, m5, m6, m7, m8, m9⟩⟩ := Z2'.cells
  generalize hW2 : (((w2.setCell ⟨w.heap.size + 1 + 1, 4, none⟩ (.int .i64 p)).setCell ⟨w.heap.size + 1 + 1, 5, none⟩ (.slice B4 cc.length e4)).setCell ⟨w.heap.size + 1 + 1, 6, none⟩ (.int .i64 a)) = W2 at X2 Y2 Z2 CG2 F2 bs2 k2 s2
  obtain ⟨⟨t0, t1, t2, t3, t4, t5, t6, t7, t8, t9⟩, -⟩ := X2.cells
  have T2 := toOpS_any W2 A5 os.length c5 os (k2.up (by omega)) b5
  clear X1 Y1 Z1 Z2' HS1 CG bs2 k2 j2
  go_wp2_with fail
  (try rw [hW2])
  refine T2.mono ?_; rintro e w3 ⟨B5, e5, rfl, HO, hb3⟩
  clear T2 p0 p1 p2 p3 p4 p5 p6 p7 p8 p9 r0 r1 r2 r3 r4 r5 r6 r7 r8 r9 m0 m1 m2 m3 m4 m5 m6 m7 m8 m9 t0 t1 t2 t3 t4 t5 t6 t7 t8 t9
  have z3 := hb3.size
  have HB := Bv.mk CG2 HO (by omega) hb3 i z
  have X3 := X2.below hb3
  have Y3 := Y2.below hb3
  have Z3 := Z2.below hb3
  have F3 := F2.trans (hb3.mono F2.size)
  clear X2 Y2 Z2 CG2 HO
  have HB3 := ((HB.lowSet (p := ⟨w.heap.size + 1 + 1, 7, none⟩) (by show w.heap.size + 1 + 1 < _; omega) (.slice B5 os.length e5)).lowSet (p := ⟨w.heap.size + 1 + 1, 8, none⟩) (by show w.heap.size + 1 + 1 < _; omega) (.int .i64 i)).lowSet (p := ⟨w.heap.size + 1 + 1, 9, none⟩) (by show w.heap.size + 1 + 1 < _; omega) (.bool z)
  have F4 := ((F3.setCell (p := ⟨w.heap.size + 1 + 1, 7, none⟩) (by show w.heap.size ≤ w.heap.size + 1 + 1; omega) (.slice B5 os.length e5)).setCell (p := ⟨w.heap.size + 1 + 1, 8, none⟩) (by show w.heap.size ≤ w.heap.size + 1 + 1; omega) (.int .i64 i)).setCell (p := ⟨w.heap.size + 1 + 1, 9, none⟩) (by show w.heap.size ≤ w.heap.size + 1 + 1; omega) (.bool z)
  have Z4 := (Z3.set7 (.slice B5 os.length e5)).set8 (.int .i64 i)
  have X4 := (X3.other (p := ⟨w.heap.size + 1 + 1, 7, none⟩) (by show w.heap.size ≠ w.heap.size + 1 + 1; omega) (.slice B5 os.length e5))
  have X5 := X4.other (p := ⟨w.heap.size + 1 + 1, 8, none⟩) (by show w.heap.size ≠ w.heap.size + 1 + 1; omega) (.int .i64 i)
  have Y4 := ((Y3.other (p := ⟨w.heap.size + 1 + 1, 7, none⟩) (by show w.heap.size + 1 ≠ w.heap.size + 1 + 1; omega) (.slice B5 os.length e5)).other (p := ⟨w.heap.size + 1 + 1, 8, none⟩) (by show w.heap.size + 1 ≠ w.heap.size + 1 + 1; omega) (.int .i64 i)).other (p := ⟨w.heap.size + 1 + 1, 9, none⟩) (by show w.heap.size + 1 ≠ w.heap.size + 1 + 1; omega) (.bool z)
  have Z5 := Z4.set9 (.bool z)
  obtain ⟨⟨p0, p1, p2, p3, p4, p5, p6, p7, p8, p9⟩, -⟩ := X3.cells
  obtain ⟨⟨r0, r1, r2, r3, r4, r5, r6, r7, r8, r9⟩, ⟨m0, m1, m2, m3, m4, m5, m6, m7, m8, m9⟩⟩ := Z3.cells
  obtain ⟨⟨f0, f1, f2, f3, f4, f5, f6, f7, f8, f9⟩, ⟨g0, g1, g2, g3, g4, g5, g6, g7, g8, g9⟩⟩ := Z5.cells
  obtain ⟨⟨y0, y1, y2, y3, y4, y5, y6, y7, y8, y9⟩, ⟨q0, q1, q2, q3, q4, q5, q6, q7, q8, q9⟩⟩ := Y4.cells
  go_wp2_with fail
  have YF := Y4.set10 (.slice B0 u0 e0) (.slice B1 u1 e1) (.slice B2 u2 e2) (.slice B3 u3 e3) (.int .i64 p) (.slice B4 cc.length e4) (.int .i64 a) (.slice B5 os.length e5) (.int .i64 i) (.bool z)
  have HF := HB3.low10 (c := w.heap.size + 1) (by omega) (.slice B0 u0 e0) (.slice B1 u1 e1) (.slice B2 u2 e2) (.slice B3 u3 e3) (.int .i64 p) (.slice B4 cc.length e4) (.int .i64 a) (.slice B5 os.length e5) (.int .i64 i) (.bool z)
  have FF := below_set10 F4 (c := w.heap.size + 1) (by omega) (.slice B0 u0 e0) (.slice B1 u1 e1) (.slice B2 u2 e2) (.slice B3 u3 e3) (.int .i64 p) (.slice B4 cc.length e4) (.int .i64 a) (.slice B5 os.length e5) (.int .i64 i) (.bool z)
  generalize (((((((((((((w3.setCell ⟨w.heap.size + 1 + 1, 7, none⟩ (.slice B5 os.length e5)).setCell ⟨w.heap.size + 1 + 1, 8, none⟩ (.int .i64 i)).setCell ⟨w.heap.size + 1 + 1, 9, none⟩ (.bool z)).setCell ⟨w.heap.size + 1, 0, none⟩ (.slice B0 u0 e0)).setCell ⟨w.heap.size + 1, 1, none⟩ (.slice B1 u1 e1)).setCell ⟨w.heap.size + 1, 2, none⟩ (.slice B2 u2 e2)).setCell ⟨w.heap.size + 1, 3, none⟩ (.slice B3 u3 e3)).setCell ⟨w.heap.size + 1, 4, none⟩ (.int .i64 p)).setCell ⟨w.heap.size + 1, 5, none⟩ (.slice B4 cc.length e4)).setCell ⟨w.heap.size + 1, 6, none⟩ (.int .i64 a)).setCell ⟨w.heap.size + 1, 7, none⟩ (.slice B5 os.length e5)).setCell ⟨w.heap.size + 1, 8, none⟩ (.int .i64 i)).setCell ⟨w.heap.size + 1, 9, none⟩ (.bool z)) = WF at YF HF FF ⊢
  obtain ⟨⟨v0, v1, v2, v3, v4, v5, v6, v7, v8, v9⟩, -⟩ := YF.cells
  refine bodyPost_ret (v := .agg #[.slice B0 u0 e0, .slice B1 u1 e1, .slice B2 u2 e2, .slice B3 u3 e3, .int .i64 p, .slice B4 cc.length e4, .int .i64 a, .slice B5 os.length e5, .int .i64 i, .bool z]) ?_ rfl ⟨_, rfl, HF.mono (by omega), FF⟩
  simp [results, Try.results28, go_sem, v0, v1, v2, v3, v4, v5, v6, v7, v8, v9]

end Go.Proofs.Ytdifplakkepnkaa
