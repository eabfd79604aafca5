/- MarkStep of spec. -/
import Derived.Test.YtmngkjcdaaladaaSShade
namespace Go.Proofs.Ytmngkjcdaaladaa
open Go.RowKit

/-- A colored heap, and two answers. -/
theorem below_row' {rb B : Nat} {w w' : World} (h : w.grownBy w' (some rb)) (hB : B ≤ rb) (hs : B ≤ w.heap.size) : Below B w w' :=
  ⟨h.os, h.tape, h.output, h.size, fun k hk => h.block k (by omega) (fun e => by cases e; omega)⟩
def Opt3 (w : World) (C : Cp) (b1 b2 : Bool) (e : Ending) (w' : World) : Prop := ∃ v, e = .returned (.tuple #[v, .bool b1, .bool b2]) ∧ Cv w' w.heap.size v C ∧ Below w.heap.size w w'
def stepC (C : Cp) : Cp := if firstOf C.c 1 = -1 then C else ⟨C.h, blackC C.h C.c (firstOf C.c 1).toNat⟩
def movesB (C : Cp) : Bool := decide (firstOf C.c 1 ≠ -1)
def stepOf (C : Cp) : Cp := if cvB C = true then stepC C else Cp.zero
def movesO (C : Cp) : Bool := cvB C && movesB C
theorem first_cases (c : List Int) (x : Int) : firstOf c x = -1 ∨ ∃ k : Nat, firstOf c x = k ∧ k < c.length ∧ c[k]? = some x := by
  unfold firstOf
  by_cases h : x ∈ c
  · rw [if_pos h]
    have hlt : c.idxOf x < c.length := List.idxOf_lt_length_of_mem h
    exact .inr ⟨c.idxOf x, rfl, hlt, by rw [List.getElem?_eq_getElem hlt, List.getElem_idxOf]⟩
  · rw [if_neg h]; exact .inl rfl

set_option maxRecDepth 100000 in
set_option maxHeartbeats 3000000 in
theorem specMarkStep_any (w : World) (lo : Nat) (v : Value) (C : Cp) (hv : Cv w lo v C) :
    Calls Try.prog 17 #[v] w (Opt3 w (stepOf C) (movesO C) (cvB C)) := by
  have hvo := hv
  obtain ⟨A0, n0, c0, A1, n1, c1, A2, n2, c2, A3, n3, c3, rfl, hh, _, ⟨l0, l1, l2, l3⟩, _⟩ := hvo.open_
  have P := Blk4.new w (.slice A0 n0 c0) (.slice A1 n1 c1) (.slice A2 n2 c2) (.slice A3 n3 c3) 27
  have X := P.alloc (.cells #[.slice none 0 0, .slice none 0 0, .slice none 0 0, .slice none 0 0] 27)
  have Y := Blk4.new_at (w := w.alloc (.cells #[.slice A0 n0 c0, .slice A1 n1 c1, .slice A2 n2 c2, .slice A3 n3 c3] 27)) (b := w.heap.size + 1) (by simp) (.slice none 0 0) (.slice none 0 0) (.slice none 0 0) (.slice none 0 0) 27
  have VV := (hv.alloc (.cells #[.slice A0 n0 c0, .slice A1 n1 c1, .slice A2 n2 c2, .slice A3 n3 c3] 27)).alloc (.cells #[.slice none 0 0, .slice none 0 0, .slice none 0 0, .slice none 0 0] 27)
  have HH := (hh.alloc (.cells #[.slice A0 n0 c0, .slice A1 n1 c1, .slice A2 n2 c2, .slice A3 n3 c3] 27)).alloc (.cells #[.slice none 0 0, .slice none 0 0, .slice none 0 0, .slice none 0 0] 27)
  have BB : Below w.heap.size w ((w.alloc (.cells #[.slice A0 n0 c0, .slice A1 n1 c1, .slice A2 n2 c2, .slice A3 n3 c3] 27)).alloc (.cells #[.slice none 0 0, .slice none 0 0, .slice none 0 0, .slice none 0 0] 27)) := ((Below.refl _ _).alloc (Nat.le_refl _) _).alloc (by simp) _
  have sz : ((w.alloc (.cells #[.slice A0 n0 c0, .slice A1 n1 c1, .slice A2 n2 c2, .slice A3 n3 c3] 27)).alloc (.cells #[.slice none 0 0, .slice none 0 0, .slice none 0 0, .slice none 0 0] 27)).heap.size = w.heap.size + 2 := by simp
  go_enter Try.func17, Try.ntmps17
  go_wp2_with fail
  generalize (w.alloc (.cells #[.slice A0 n0 c0, .slice A1 n1 c1, .slice A2 n2 c2, .slice A3 n3 c3] 27)).alloc (.cells #[.slice none 0 0, .slice none 0 0, .slice none 0 0, .slice none 0 0] 27) = W at X Y VV HH BB sz ⊢
  obtain ⟨x0, x1, x2, x3, _⟩ := X.cells
  have V := specColoredValid_any _ _ _ _ VV
  rcases ev : cvB C
  · rw [ev] at V
    have hs : Hid (stepOf C = Cp.zero) := by unfold Hid stepOf; rw [ev]; simp
    have hm : Hid (movesO C = false) := by unfold Hid movesO; rw [ev]; rfl
    have hev := Lib.hid ev
    clear ev
    go_wp2_with fail
    refine V.mono ?_; rintro e w1 ⟨rfl, hb1⟩
    obtain ⟨y0, y1, y2, y3, f0, f1, f2, f3⟩ := (Y.below hb1).cells
    obtain ⟨hZ, hB⟩ := zero_done (w := w) (b := w.heap.size + 1) (by omega) (BB.trans (hb1.mono (by omega)))
    go_wp2_with fail
    refine bodyPost_ret (v := .tuple #[.agg #[.slice none 0 0, .slice none 0 0, .slice none 0 0, .slice none 0 0], .bool false, .bool false]) ?_ rfl ⟨_, by rw [hm.out, hev.out], by rw [hs.out]; exact hZ, hB⟩
    simp [results, Try.results17, go_sem, y0, y1, y2, y3]
  · rw [ev] at V
    obtain ⟨hvh, hlen, _⟩ := cvB_parts ev
    have h1n := hvB_len hvh
    rcases first_cases C.c 1 with h1 | ⟨j, h1, hj, _⟩
    · have hs : Hid (stepOf C = C) := by unfold Hid stepOf stepC; rw [if_pos ev, if_pos h1]
      have hm : Hid (movesO C = false) := by unfold Hid movesO movesB; rw [h1, ev]; rfl
      have hev := Lib.hid ev
      go_wp2_with fail
      refine V.mono ?_; rintro e w1 ⟨rfl, hb1⟩
      have X1 := X.below hb1
      obtain ⟨x10, x11, x12, x13, _⟩ := X1.cells
      have F := l3First_any w1 _ _ _ (VV.below hb1) 1
      rw [h1] at F
      go_wp2_with fail
      refine F.mono ?_; rintro e w2 ⟨rfl, hb2⟩
      have B2 := (BB.trans (hb1.mono (by omega))).trans (hb2.mono (by have := hb1.size; omega))
      have Y2 := (Y.below hb1).below hb2
      have X2 := X1.below hb2
      obtain ⟨x20, x21, x22, x23, _⟩ := X2.cells
      have Cc := l3Copy_any w2 _ _ _ ((VV.below hb1).below hb2) ev
      have z2 : w.heap.size + 2 ≤ w2.heap.size := by have := hb1.size; have := hb2.size; omega
      clear V F X1 x0 x1 x2 x3 x10 x11 x12 x13 VV HH hb1 hb2
      go_wp2_with fail
      refine Cc.mono ?_; rintro e w3 ⟨vv, rfl, hD, hb3⟩
      have hDo := hD
      obtain ⟨D0, m0, d0, D1, m1, d1, D2, m2, d2, D3, m3, d3, rfl, _⟩ := hDo.open_
      have B3 := B2.trans (hb3.mono (by omega))
      obtain ⟨y0, y1, y2, y3, f0, f1, f2, f3⟩ := (Y2.below hb3).cells
      have lb : w.heap.size + 1 < w2.heap.size := by omega
      have CF := ((((hD.set_low (p := ⟨w.heap.size + 1, 0, none⟩) lb (.slice D0 m0 d0)).set_low (p := ⟨w.heap.size + 1, 1, none⟩) lb (.slice D1 m1 d1)).set_low (p := ⟨w.heap.size + 1, 2, none⟩) lb (.slice D2 m2 d2)).set_low (p := ⟨w.heap.size + 1, 3, none⟩) lb (.slice D3 m3 d3)).mono (lo' := w.heap.size) (by omega)
      have BF := ((((B3.setCell (p := ⟨w.heap.size + 1, 0, none⟩) (by simp) (.slice D0 m0 d0)).setCell (p := ⟨w.heap.size + 1, 1, none⟩) (by simp) (.slice D1 m1 d1)).setCell (p := ⟨w.heap.size + 1, 2, none⟩) (by simp) (.slice D2 m2 d2)).setCell (p := ⟨w.heap.size + 1, 3, none⟩) (by simp) (.slice D3 m3 d3))
      clear hD hDo hb3 Y2 B3
      go_wp2_with fail
      refine bodyPost_ret (v := .tuple #[.agg #[.slice D0 m0 d0, .slice D1 m1 d1, .slice D2 m2 d2, .slice D3 m3 d3], .bool false, .bool true]) ?_ rfl ⟨_, by rw [hm.out, hev.out], by rw [hs.out]; exact CF, BF⟩
      simp [results, Try.results17, go_sem, y0, y1, y2, y3]
    · have hs : Hid (stepOf C = ⟨C.h, blackC C.h C.c j⟩) := by unfold Hid stepOf stepC; rw [if_pos ev, if_neg (by omega), h1]; rfl
      have hm : Hid (movesO C = true) := by unfold Hid movesO movesB; rw [h1, ev, Bool.true_and]; exact decide_eq_true (by omega)
      have hev := Lib.hid ev
      go_wp2_with fail
      refine V.mono ?_; rintro e w1 ⟨rfl, hb1⟩
      have X1 := X.below hb1
      obtain ⟨x10, x11, x12, x13, _⟩ := X1.cells
      have F := l3First_any w1 _ _ _ (VV.below hb1) 1
      rw [h1] at F
      go_wp2_with fail
      refine F.mono ?_; rintro e w2 ⟨rfl, hb2⟩
      have B2 := (BB.trans (hb1.mono (by omega))).trans (hb2.mono (by have := hb1.size; omega))
      have Y2 := (Y.below hb1).below hb2
      have X2 := X1.below hb2
      obtain ⟨x20, x21, x22, x23, _⟩ := X2.cells
      have Cc := l3Copy_any w2 _ _ _ ((VV.below hb1).below hb2) ev
      have z2 : w.heap.size + 2 ≤ w2.heap.size := by have := hb1.size; have := hb2.size; omega
      clear V F X1 x0 x1 x2 x3 x10 x11 x12 x13 VV HH hb1 hb2
      go_wp2_with fail
      refine Cc.mono ?_; rintro e w3 ⟨vv, rfl, hD, hb3⟩
      have hDo := hD
      obtain ⟨D0, m0, d0, D1, m1, d1, D2, m2, d2, D3, m3, d3, rfl, _, ⟨_, _, _, s3⟩, ⟨_, _, _, t3⟩, _⟩ := hDo.open_
      have t3' := t3.out
      obtain ⟨g, rfl, hlg, hg⟩ := s3.at_ (k := 0) (by omega)
      have z3 := hb3.size
      have B3 := B2.trans (hb3.mono (by omega))
      have Bc := l3Black_any w3 _ _ _ _ _ _ _ _ _ _ _ _ _ C hD ev j hj
      have Y3 := Y2.below hb3
      go_wp2_with fail
      refine Bc.mono ?_; rintro e w4 ⟨rfl, CC, hg4⟩
      have B4 := B3.trans (below_row' hg4 (by omega) (by omega))
      obtain ⟨y0, y1, y2, y3, f0, f1, f2, f3⟩ := (Y3.kept hg4 (by omega)).cells
      have lb : w.heap.size + 1 < w2.heap.size := by omega
      have CF := ((((CC.set_low (p := ⟨w.heap.size + 1, 0, none⟩) lb (.slice D0 m0 d0)).set_low (p := ⟨w.heap.size + 1, 1, none⟩) lb (.slice D1 m1 d1)).set_low (p := ⟨w.heap.size + 1, 2, none⟩) lb (.slice D2 m2 d2)).set_low (p := ⟨w.heap.size + 1, 3, none⟩) lb (.slice (some ⟨g, 0, none⟩) m3 d3)).mono (lo' := w.heap.size) (by omega)
      have BF := ((((B4.setCell (p := ⟨w.heap.size + 1, 0, none⟩) (by simp) (.slice D0 m0 d0)).setCell (p := ⟨w.heap.size + 1, 1, none⟩) (by simp) (.slice D1 m1 d1)).setCell (p := ⟨w.heap.size + 1, 2, none⟩) (by simp) (.slice D2 m2 d2)).setCell (p := ⟨w.heap.size + 1, 3, none⟩) (by simp) (.slice (some ⟨g, 0, none⟩) m3 d3))
      clear hD hDo hb3 Y2 Y3 B3 B4 CC Bc Cc
      go_wp2_with fail
      refine bodyPost_ret (v := .tuple #[.agg #[.slice D0 m0 d0, .slice D1 m1 d1, .slice D2 m2 d2, .slice (some ⟨g, 0, none⟩) m3 d3], .bool true, .bool true]) ?_ rfl ⟨_, by rw [hm.out, hev.out], by rw [hs.out]; exact CF, BF⟩
      simp [results, Try.results17, go_sem, y0, y1, y2, y3]
end Go.Proofs.Ytmngkjcdaaladaa
