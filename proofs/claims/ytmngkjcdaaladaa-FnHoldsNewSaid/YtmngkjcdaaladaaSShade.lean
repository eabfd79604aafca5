/- ShadeCell of spec. -/
import Derived.Test.YtmngkjcdaaladaaSCopy
import Derived.Test.YtmngkjcdaaladaaSBlack
import Derived.Test.YtmngkjcdaaladaaCan
namespace Go.Proofs.Ytmngkjcdaaladaa
open Go.RowKit

def OptCv (w : World) (o : Option Cp) (e : Ending) (w' : World) : Prop := ∃ v, e = .returned (.tuple #[v, .bool o.isSome]) ∧ Cv w' w.heap.size v (o.getD Cp.zero) ∧ Below w.heap.size w w'
def shadeO (C : Cp) (k : Int) : Option Cp := if cvB C = true ∧ plB k C.h.l.length = true then some ⟨C.h, shade C.c k⟩ else none

theorem Row.nown {w : World} {lo b : Nat} {v : Value} {xs : List Int} (h : Row w lo v xs) (hb : w.heap.size ≤ b) : v.ownBlock ≠ some b := fun e => by have := (h.lt b e).2; omega
theorem below_only {g B : Nat} {w w' : World} (h : OnlyB g w w') (hB : B ≤ g) (hs : B ≤ w.heap.size) : Below B w w' :=
  ⟨h.1.os, h.1.tape, h.1.output, h.1.size, fun k hk => h.1.block k (by omega) (fun e => by cases e; omega)⟩
/-- The zero value is laid into the result's block. -/
theorem zero_done {w w1 : World} {b : Nat} (hb : w.heap.size ≤ b) (hB : Below w.heap.size w w1) :
    Cv ((((w1.setCell ⟨b, 0, none⟩ (.slice none 0 0)).setCell ⟨b, 1, none⟩ (.slice none 0 0)).setCell ⟨b, 2, none⟩ (.slice none 0 0)).setCell ⟨b, 3, none⟩ (.slice none 0 0)) w.heap.size (.agg #[.slice none 0 0, .slice none 0 0, .slice none 0 0, .slice none 0 0]) Cp.zero ∧
    Below w.heap.size w ((((w1.setCell ⟨b, 0, none⟩ (.slice none 0 0)).setCell ⟨b, 1, none⟩ (.slice none 0 0)).setCell ⟨b, 2, none⟩ (.slice none 0 0)).setCell ⟨b, 3, none⟩ (.slice none 0 0)) :=
  ⟨Cv.zero _ _, (((hB.setCell hb _).setCell hb _).setCell hb _).setCell hb _⟩

set_option maxRecDepth 100000 in
set_option maxHeartbeats 2000000 in
theorem specShadeCell_any (w : World) (lo : Nat) (v : Value) (C : Cp) (hv : Cv w lo v C) (k : Int) :
    Calls Try.prog 30 #[v, .int .i64 k] w (OptCv w (shadeO C k)) := by
  have hvo := hv
  obtain ⟨A0, n0, c0, A1, n1, c1, A2, n2, c2, A3, n3, c3, rfl, hh, _, ⟨l0, l1, l2, l3⟩, _⟩ := hvo.open_
  have P := Blk4.new w (.slice A0 n0 c0) (.slice A1 n1 c1) (.slice A2 n2 c2) (.slice A3 n3 c3) 27
  have X := P.alloc (.cells #[.slice none 0 0, .slice none 0 0, .slice none 0 0, .slice none 0 0] 27)
  have Y := Blk4.new_at (w := w.alloc (.cells #[.slice A0 n0 c0, .slice A1 n1 c1, .slice A2 n2 c2, .slice A3 n3 c3] 27)) (b := w.heap.size + 1) (by simp) (.slice none 0 0) (.slice none 0 0) (.slice none 0 0) (.slice none 0 0) 27
  have VV := (hv.alloc (.cells #[.slice A0 n0 c0, .slice A1 n1 c1, .slice A2 n2 c2, .slice A3 n3 c3] 27)).alloc (.cells #[.slice none 0 0, .slice none 0 0, .slice none 0 0, .slice none 0 0] 27)
  have HH := (hh.alloc (.cells #[.slice A0 n0 c0, .slice A1 n1 c1, .slice A2 n2 c2, .slice A3 n3 c3] 27)).alloc (.cells #[.slice none 0 0, .slice none 0 0, .slice none 0 0, .slice none 0 0] 27)
  have BB : Below w.heap.size w ((w.alloc (.cells #[.slice A0 n0 c0, .slice A1 n1 c1, .slice A2 n2 c2, .slice A3 n3 c3] 27)).alloc (.cells #[.slice none 0 0, .slice none 0 0, .slice none 0 0, .slice none 0 0] 27)) := ((Below.refl _ _).alloc (Nat.le_refl _) _).alloc (by simp) _
  have sz : ((w.alloc (.cells #[.slice A0 n0 c0, .slice A1 n1 c1, .slice A2 n2 c2, .slice A3 n3 c3] 27)).alloc (.cells #[.slice none 0 0, .slice none 0 0, .slice none 0 0, .slice none 0 0] 27)).heap.size = w.heap.size + 2 := by simp
  go_enter Try.func30, Try.ntmps30
  go_wp2_with fail
  generalize (w.alloc (.cells #[.slice A0 n0 c0, .slice A1 n1 c1, .slice A2 n2 c2, .slice A3 n3 c3] 27)).alloc (.cells #[.slice none 0 0, .slice none 0 0, .slice none 0 0, .slice none 0 0] 27) = W at X Y VV HH BB sz ⊢
  obtain ⟨x0, x1, x2, x3, _⟩ := X.cells
  have V := specColoredValid_any _ _ _ _ VV
  rcases ev : cvB C
  · rw [ev] at V
    have hf : Hid (shadeO C k = none) := by unfold Hid shadeO; rw [ev]; simp
    go_wp2_with fail
    refine V.mono ?_; rintro e w1 ⟨rfl, hb1⟩
    obtain ⟨y0, y1, y2, y3, f0, f1, f2, f3⟩ := (Y.below hb1).cells
    obtain ⟨hZ, hB⟩ := zero_done (w := w) (b := w.heap.size + 1) (by omega) (BB.trans (hb1.mono (by omega)))
    go_wp2_with fail
    rw [hf.out]
    refine bodyPost_ret (v := .tuple #[.agg #[.slice none 0 0, .slice none 0 0, .slice none 0 0, .slice none 0 0], .bool false]) ?_ rfl ⟨_, rfl, hZ, hB⟩
    simp [results, Try.results30, go_sem, y0, y1, y2, y3]
  · rw [ev] at V
    obtain ⟨hvh, hlen, _⟩ := cvB_parts ev
    rcases ek : plB k C.h.l.length
    · have hf : Hid (shadeO C k = none) := by unfold Hid shadeO; rw [ek]; simp
      go_wp2_with fail
      refine V.mono ?_; rintro e w1 ⟨rfl, hb1⟩
      obtain ⟨p0, p1, p2, p3, _⟩ := (X.below hb1).cells
      have L := l1Cell_any w1 _ _ _ (HH.below hb1) k
      rw [hvh, ek] at L
      go_wp2_with fail
      refine L.mono ?_; rintro e w2 ⟨rfl, hb2⟩
      obtain ⟨y0, y1, y2, y3, f0, f1, f2, f3⟩ := ((Y.below hb1).below hb2).cells
      obtain ⟨hZ, hB⟩ := zero_done (w := w) (b := w.heap.size + 1) (by omega) ((BB.trans (hb1.mono (by omega))).trans (hb2.mono (by have := hb1.size; omega)))
      go_wp2_with fail
      rw [hf.out]
      refine bodyPost_ret (v := .tuple #[.agg #[.slice none 0 0, .slice none 0 0, .slice none 0 0, .slice none 0 0], .bool false]) ?_ rfl ⟨_, rfl, hZ, hB⟩
      simp [results, Try.results30, go_sem, y0, y1, y2, y3]
    · have hf : Hid (shadeO C k = some ⟨C.h, shade C.c k⟩) := by unfold Hid shadeO; rw [if_pos ⟨ev, ek⟩]
      obtain ⟨j, rfl, hj⟩ := plB_nat ek
      go_wp2_with fail
      refine V.mono ?_; rintro e w1 ⟨rfl, hb1⟩
      have X1 := X.below hb1
      obtain ⟨p0, p1, p2, p3, _⟩ := X1.cells
      have L := l1Cell_any w1 _ _ _ (HH.below hb1) j
      rw [hvh, ek] at L
      go_wp2_with fail
      refine L.mono ?_; rintro e w2 ⟨rfl, hb2⟩
      have X2 := X1.below hb2
      obtain ⟨q0, q1, q2, q3, _⟩ := X2.cells
      have B2 := (BB.trans (hb1.mono (by omega))).trans (hb2.mono (by have := hb1.size; omega))
      have Y2 := (Y.below hb1).below hb2
      have Cc := l3Copy_any w2 _ _ _ ((VV.below hb1).below hb2) ev
      have z2 : w.heap.size + 2 ≤ w2.heap.size := by have := hb1.size; have := hb2.size; omega
      clear V L X1 x0 x1 x2 x3 p0 p1 p2 p3 VV HH hb1 hb2
      go_wp2_with fail
      refine Cc.mono ?_; rintro e w3 ⟨vv, rfl, hD, hb3⟩
      obtain ⟨D0, m0, d0, D1, m1, d1, D2, m2, d2, D3, m3, d3, rfl, dh, ⟨s0, s1, s2, s3⟩, ⟨t0, t1, t2, t3⟩, _, ⟨a01, a02, a12⟩, ⟨a03, a13, a23⟩⟩ := hD.open_
      have t3' := t3.out
      obtain ⟨g, rfl, hlg, hg⟩ := s3.at_ (k := 0) (by omega)
      have z3 := hb3.size
      have B3 := B2.trans (hb3.mono (by omega))
      have Y3 := Y2.below hb3
      have own0 : (Value.slice D0 m0 d0).ownBlock ≠ some g := fun e => a03 g e rfl
      have own1 : (Value.slice D1 m1 d1).ownBlock ≠ some g := fun e => a13 g e rfl
      have own2 : (Value.slice D2 m2 d2).ownBlock ≠ some g := fun e => a23 g e rfl
      have Z := Blk4.new w3 (.slice D0 m0 d0) (.slice D1 m1 d1) (.slice D2 m2 d2) (.slice (some ⟨g, 0, none⟩) m3 d3) 27
      have S := shade_any (w3.alloc (.cells #[.slice D0 m0 d0, .slice D1 m1 d1, .slice D2 m2 d2, .slice (some ⟨g, 0, none⟩) m3 d3] 27)) w2.heap.size g m3 d3 _ (s3.alloc _) t3' j (by omega) (by omega)
      go_wp2_with fail
      refine S.mono ?_; rintro e w4 ⟨rfl, R4, O4⟩
      have B4 : Below w.heap.size w w4 := (B3.alloc B3.size (.cells #[.slice D0 m0 d0, .slice D1 m1 d1, .slice D2 m2 d2, .slice (some ⟨g, 0, none⟩) m3 d3] 27)).trans (below_only O4 (by omega) (by simp; omega))
      have Z4 := Z.kept O4.1 (by omega)
      have Y4 := (Y3.alloc (.cells #[.slice D0 m0 d0, .slice D1 m1 d1, .slice D2 m2 d2, .slice (some ⟨g, 0, none⟩) m3 d3] 27)).kept O4.1 (by omega)
      have K0 := (onlyB_row (s0.alloc (.cells #[.slice D0 m0 d0, .slice D1 m1 d1, .slice D2 m2 d2, .slice (some ⟨g, 0, none⟩) m3 d3] 27)) O4 own0).other (a := ⟨w3.heap.size, 3, none⟩) (s0.nown (Nat.le_refl _)) (.slice (some ⟨g, 0, none⟩) m3 d3)
      have K1 := (onlyB_row (s1.alloc (.cells #[.slice D0 m0 d0, .slice D1 m1 d1, .slice D2 m2 d2, .slice (some ⟨g, 0, none⟩) m3 d3] 27)) O4 own1).other (a := ⟨w3.heap.size, 3, none⟩) (s1.nown (Nat.le_refl _)) (.slice (some ⟨g, 0, none⟩) m3 d3)
      have K2 := (onlyB_row (s2.alloc (.cells #[.slice D0 m0 d0, .slice D1 m1 d1, .slice D2 m2 d2, .slice (some ⟨g, 0, none⟩) m3 d3] 27)) O4 own2).other (a := ⟨w3.heap.size, 3, none⟩) (s2.nown (Nat.le_refl _)) (.slice (some ⟨g, 0, none⟩) m3 d3)
      have K3 := R4.other (a := ⟨w3.heap.size, 3, none⟩) (s3.nown (Nat.le_refl _)) (.slice (some ⟨g, 0, none⟩) m3 d3)
      have Z5 := Z4.set3 (.slice (some ⟨g, 0, none⟩) m3 d3)
      have Y5 := Y4.other (p := ⟨w3.heap.size, 3, none⟩) (by simp; omega) (.slice (some ⟨g, 0, none⟩) m3 d3)
      have B5 := B4.setCell (p := ⟨w3.heap.size, 3, none⟩) (by simp; omega) (.slice (some ⟨g, 0, none⟩) m3 d3)
      obtain ⟨z0, z1, z2', z3', h0, h1, h2, h3⟩ := Z4.cells
      obtain ⟨u0, u1, u2, u3, _⟩ := Z5.cells
      obtain ⟨y0, y1, y2, y3, f0, f1, f2, f3⟩ := Y5.cells
      have CC : Cv (w4.setCell ⟨w3.heap.size, 3, none⟩ (.slice (some ⟨g, 0, none⟩) m3 d3)) w2.heap.size (.agg #[.slice D0 m0 d0, .slice D1 m1 d1, .slice D2 m2 d2, .slice (some ⟨g, 0, none⟩) m3 d3]) ⟨C.h, shade C.c j⟩ := ⟨_, _, _, _, rfl, ⟨_, _, _, rfl, K0, K1, K2, a01, a02, a12⟩, K3, a03, a13, a23⟩
      have lb : w.heap.size + 1 < w2.heap.size := by omega
      have CF := ((((CC.set_low (p := ⟨w.heap.size + 1, 0, none⟩) lb (.slice D0 m0 d0)).set_low (p := ⟨w.heap.size + 1, 1, none⟩) lb (.slice D1 m1 d1)).set_low (p := ⟨w.heap.size + 1, 2, none⟩) lb (.slice D2 m2 d2)).set_low (p := ⟨w.heap.size + 1, 3, none⟩) lb (.slice (some ⟨g, 0, none⟩) m3 d3)).mono (lo' := w.heap.size) (by omega)
      have BF := (((B5.setCell (p := ⟨w.heap.size + 1, 0, none⟩) (by simp) (.slice D0 m0 d0)).setCell (p := ⟨w.heap.size + 1, 1, none⟩) (by simp) (.slice D1 m1 d1)).setCell (p := ⟨w.heap.size + 1, 2, none⟩) (by simp) (.slice D2 m2 d2)).setCell (p := ⟨w.heap.size + 1, 3, none⟩) (by simp) (.slice (some ⟨g, 0, none⟩) m3 d3)
      clear Z4 Z5 Y4 Y5 K0 K1 K2 K3 R4 O4 B4 B5 S CC
      go_wp2_with fail
      rw [hf.out]
      refine bodyPost_ret (v := .tuple #[.agg #[.slice D0 m0 d0, .slice D1 m1 d1, .slice D2 m2 d2, .slice (some ⟨g, 0, none⟩) m3 d3], .bool true]) ?_ rfl ⟨_, rfl, CF, BF⟩
      simp [results, Try.results30, go_sem, y0, y1, y2, y3]
end Go.Proofs.Ytmngkjcdaaladaa
