/- ShadeCell of impl. -/
import Derived.Test.YtmngkjcdaaladaaICv
import Derived.Test.YtmngkjcdaaladaaCan
namespace Go.Proofs.Ytmngkjcdaaladaa
open Go.RowKit

set_option maxRecDepth 100000 in
set_option maxHeartbeats 3000000 in
theorem implShadeCell_any (w : World) (lo : Nat) (v : Value) (C : Cp) (hv : Cv w lo v C) (k : Int) :
    Calls Try.prog 29 #[v, .int .i64 k] w (OptCv w (shadeO C k)) := by
  have hvo := hv
  obtain ⟨A0, n0, c0, A1, n1, c1, A2, n2, c2, A3, n3, c3, rfl, hh, ⟨r0, r1, r2, r3⟩, ⟨l0, l1, l2, l3⟩, ⟨mm0, mm1, mm2, mm3⟩, _⟩ := hvo.open_
  have P := Blk4.new w (.slice A0 n0 c0) (.slice A1 n1 c1) (.slice A2 n2 c2) (.slice A3 n3 c3) 27
  have X := P.alloc (.cells #[.slice none 0 0, .slice none 0 0, .slice none 0 0, .slice none 0 0] 27)
  have Y := Blk4.new_at (w := w.alloc (.cells #[.slice A0 n0 c0, .slice A1 n1 c1, .slice A2 n2 c2, .slice A3 n3 c3] 27)) (b := w.heap.size + 1) (by simp) (.slice none 0 0) (.slice none 0 0) (.slice none 0 0) (.slice none 0 0) 27
  have VV := (hv.alloc (.cells #[.slice A0 n0 c0, .slice A1 n1 c1, .slice A2 n2 c2, .slice A3 n3 c3] 27)).alloc (.cells #[.slice none 0 0, .slice none 0 0, .slice none 0 0, .slice none 0 0] 27)
  have BB : Below w.heap.size w ((w.alloc (.cells #[.slice A0 n0 c0, .slice A1 n1 c1, .slice A2 n2 c2, .slice A3 n3 c3] 27)).alloc (.cells #[.slice none 0 0, .slice none 0 0, .slice none 0 0, .slice none 0 0] 27)) := ((Below.refl _ _).alloc (Nat.le_refl _) _).alloc (by simp) _
  have sz : ((w.alloc (.cells #[.slice A0 n0 c0, .slice A1 n1 c1, .slice A2 n2 c2, .slice A3 n3 c3] 27)).alloc (.cells #[.slice none 0 0, .slice none 0 0, .slice none 0 0, .slice none 0 0] 27)).heap.size = w.heap.size + 2 := by simp
  go_enter Try.func29, Try.ntmps29
  go_wp2_with fail
  generalize (w.alloc (.cells #[.slice A0 n0 c0, .slice A1 n1 c1, .slice A2 n2 c2, .slice A3 n3 c3] 27)).alloc (.cells #[.slice none 0 0, .slice none 0 0, .slice none 0 0, .slice none 0 0] 27) = W at X Y VV BB sz ⊢
  obtain ⟨x0, x1, x2, x3, _⟩ := X.cells
  have V := implColoredValid_any _ _ _ _ VV
  rcases ev : cvB C
  · rw [ev] at V
    have hf : Hid (shadeO C k = none) := by unfold Hid shadeO; rw [ev]; simp
    clear ev
    go_wp2_with fail
    refine V.mono ?_; rintro e w1 ⟨rfl, hb1⟩
    obtain ⟨y0, y1, y2, y3, f0, f1, f2, f3⟩ := (Y.below hb1).cells
    obtain ⟨hZ, hB⟩ := zero_done (w := w) (b := w.heap.size + 1) (by omega) (BB.trans (hb1.mono (by omega)))
    go_wp2_with fail
    rw [hf.out]
    refine bodyPost_ret (v := .tuple #[.agg #[.slice none 0 0, .slice none 0 0, .slice none 0 0, .slice none 0 0], .bool false]) ?_ rfl ⟨_, rfl, hZ, hB⟩
    simp [results, Try.results29, go_sem, y0, y1, y2, y3]
  · rw [ev] at V
    obtain ⟨hvh, hlen, hcol⟩ := cvB_parts ev
    have hl3 := l3.out
    have h9 := hvB_len hvh
    rcases ek : plB k n3
    · have hf : Hid (shadeO C k = none) := by unfold Hid shadeO; rw [← hlen, hl3, ek]; simp
      have L := hasPlace_any A3 n3 c3 k
      rw [ek] at L
      go_wp2_with fail
      refine V.mono ?_; rintro e w1 ⟨rfl, hb1⟩
      obtain ⟨p0, p1, p2, p3, _⟩ := (X.below hb1).cells
      go_wp2_with fail
      refine (L _).mono ?_; rintro e w' ⟨rfl, rfl⟩
      obtain ⟨y0, y1, y2, y3, f0, f1, f2, f3⟩ := (Y.below hb1).cells
      obtain ⟨hZ, hB⟩ := zero_done (w := w) (b := w.heap.size + 1) (by omega) (BB.trans (hb1.mono (by omega)))
      go_wp2_with fail
      rw [hf.out]
      refine bodyPost_ret (v := .tuple #[.agg #[.slice none 0 0, .slice none 0 0, .slice none 0 0, .slice none 0 0], .bool false]) ?_ rfl ⟨_, rfl, hZ, hB⟩
      simp [results, Try.results29, go_sem, y0, y1, y2, y3]
    · have hf : Hid (shadeO C k = some ⟨C.h, shade C.c k⟩) := by unfold Hid shadeO; rw [if_pos ⟨ev, by rw [← hlen, hl3]; exact ek⟩]
      have L := hasPlace_any A3 n3 c3 k
      rw [ek] at L
      obtain ⟨j, rfl, hj⟩ := plB_nat ek
      go_wp2_with fail
      refine V.mono ?_; rintro e w2 ⟨rfl, hb1⟩
      obtain ⟨p0, p1, p2, p3, _⟩ := (X.below hb1).cells
      have B2 := BB.trans (hb1.mono (by omega))
      have Y2 := Y.below hb1
      have V2 := VV.below hb1
      have z2 : w.heap.size + 2 ≤ w2.heap.size := by have := hb1.size; omega
      clear V X Y VV BB hb1 x0 x1 x2 x3
      go_wp2_with fail
      refine (L _).mono ?_; rintro e w' ⟨rfl, rfl⟩
      have Cc := copyC_valid w2 _ _ _ V2 ev
      go_wp2_with fail
      refine Cc.mono ?_; rintro e w3 ⟨vv, rfl, hD, hb3⟩
      have hDo := hD
      obtain ⟨D0, m0, d0, D1, m1, d1, D2, m2, d2, D3, m3, d3, rfl, _, ⟨s0, s1, s2, s3⟩, ⟨_, _, _, t3⟩, _⟩ := hDo.open_
      have t3' := t3.out
      obtain ⟨g, rfl, hlg, hg⟩ := s3.at_ (k := 0) (by omega)
      have z3 := hb3.size
      obtain ⟨Bk, hBk⟩ : ∃ Bk, Bk = w3.heap.size := ⟨_, rfl⟩
      have B3 := (B2.trans (hb3.mono (by omega))).alloc (Nat.le_trans B2.size z3) (.cells #[.slice D0 m0 d0, .slice D1 m1 d1, .slice D2 m2 d2, .slice (some ⟨g, 0, none⟩) m3 d3] 27)
      have Y3 := (Y2.below hb3).alloc (.cells #[.slice D0 m0 d0, .slice D1 m1 d1, .slice D2 m2 d2, .slice (some ⟨g, 0, none⟩) m3 d3] 27)
      have Z3 := Blk4.new_at (w := w3) hBk (.slice D0 m0 d0) (.slice D1 m1 d1) (.slice D2 m2 d2) (.slice (some ⟨g, 0, none⟩) m3 d3) 27
      have V3 := hD.alloc (.cells #[.slice D0 m0 d0, .slice D1 m1 d1, .slice D2 m2 d2, .slice (some ⟨g, 0, none⟩) m3 d3] 27)
      have nBk : Bk ≠ g := by omega
      have nb1 : w.heap.size + 1 ≠ g := by omega
      have gB : w.heap.size ≤ g := by omega
      have lb : w.heap.size + 1 < w2.heap.size := by omega
      clear hb3 Cc hD hDo s0 s1 s2 s3 t3
      obtain ⟨z0, z1, z2', z3', _⟩ := Z3.cells
      have S := implShadeC_any _ _ _ _ _ _ _ _ _ _ _ _ _ _ _ V3 hcol j (by omega) (by omega)
      go_wp2_with fail
      refine S.mono ?_; rintro e w4 ⟨rfl, CC, O4⟩
      have B4 := B3.trans (below_only O4 gB B3.size)
      have Z4 := Z3.kept O4.1 nBk
      have Y4 := Y3.kept O4.1 nb1
      clear S Z3 Y3 V3 B3 O4 z0 z1 z2' z3'
      obtain ⟨u0, u1, u2, u3, _⟩ := Z4.cells
      obtain ⟨y0, y1, y2, y3, f0, f1, f2, f3⟩ := Y4.cells
      have CF := ((((CC.set_low (p := ⟨w.heap.size + 1, 0, none⟩) lb (.slice D0 m0 d0)).set_low (p := ⟨w.heap.size + 1, 1, none⟩) lb (.slice D1 m1 d1)).set_low (p := ⟨w.heap.size + 1, 2, none⟩) lb (.slice D2 m2 d2)).set_low (p := ⟨w.heap.size + 1, 3, none⟩) lb (.slice (some ⟨g, 0, none⟩) m3 d3)).mono (lo' := w.heap.size) (by omega)
      have BF := ((((B4.setCell (p := ⟨w.heap.size + 1, 0, none⟩) (by simp) (.slice D0 m0 d0)).setCell (p := ⟨w.heap.size + 1, 1, none⟩) (by simp) (.slice D1 m1 d1)).setCell (p := ⟨w.heap.size + 1, 2, none⟩) (by simp) (.slice D2 m2 d2)).setCell (p := ⟨w.heap.size + 1, 3, none⟩) (by simp) (.slice (some ⟨g, 0, none⟩) m3 d3))
      clear CC
      (try rw [hBk] at u0 u1 u2 u3)
      go_wp2_with fail
      rw [hf.out]
      refine bodyPost_ret (v := .tuple #[.agg #[.slice D0 m0 d0, .slice D1 m1 d1, .slice D2 m2 d2, .slice (some ⟨g, 0, none⟩) m3 d3], .bool true]) ?_ rfl ⟨_, rfl, CF, BF⟩
      simp [results, Try.results29, go_sem, y0, y1, y2, y3]
end Go.Proofs.Ytmngkjcdaaladaa
