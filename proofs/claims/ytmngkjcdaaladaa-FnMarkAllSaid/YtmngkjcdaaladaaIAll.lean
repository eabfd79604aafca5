/- MarkAll of impl. -/
import Derived.Test.YtmngkjcdaaladaaICv
import Derived.Test.YtmngkjcdaaladaaSAll
namespace Go.Proofs.Ytmngkjcdaaladaa
open Go.RowKit

set_option maxRecDepth 100000 in
set_option maxHeartbeats 3000000 in
theorem implMarkAll_any (w : World) (lo : Nat) (v : Value) (C : Cp) (hv : Cv w lo v C) :
    Calls Try.prog 23 #[v] w (OptCv w (allO C)) := by
  have hvo := hv
  obtain ⟨A0, n0, c0, A1, n1, c1, A2, n2, c2, A3, n3, c3, rfl, hh, ⟨r0, r1, r2, r3⟩, ⟨l0, l1, l2, l3⟩, ⟨mm0, mm1, mm2, mm3⟩, _⟩ := hvo.open_
  have P := Blk4.new w (.slice A0 n0 c0) (.slice A1 n1 c1) (.slice A2 n2 c2) (.slice A3 n3 c3) 27
  have X := P.alloc (.cells #[.slice none 0 0, .slice none 0 0, .slice none 0 0, .slice none 0 0] 27)
  have Y := Blk4.new_at (w := w.alloc (.cells #[.slice A0 n0 c0, .slice A1 n1 c1, .slice A2 n2 c2, .slice A3 n3 c3] 27)) (b := w.heap.size + 1) (by simp) (.slice none 0 0) (.slice none 0 0) (.slice none 0 0) (.slice none 0 0) 27
  have VV := (hv.alloc (.cells #[.slice A0 n0 c0, .slice A1 n1 c1, .slice A2 n2 c2, .slice A3 n3 c3] 27)).alloc (.cells #[.slice none 0 0, .slice none 0 0, .slice none 0 0, .slice none 0 0] 27)
  have BB : Below w.heap.size w ((w.alloc (.cells #[.slice A0 n0 c0, .slice A1 n1 c1, .slice A2 n2 c2, .slice A3 n3 c3] 27)).alloc (.cells #[.slice none 0 0, .slice none 0 0, .slice none 0 0, .slice none 0 0] 27)) := ((Below.refl _ _).alloc (Nat.le_refl _) _).alloc (by simp) _
  have sz : ((w.alloc (.cells #[.slice A0 n0 c0, .slice A1 n1 c1, .slice A2 n2 c2, .slice A3 n3 c3] 27)).alloc (.cells #[.slice none 0 0, .slice none 0 0, .slice none 0 0, .slice none 0 0] 27)).heap.size = w.heap.size + 2 := by simp
  go_enter Try.func23, Try.ntmps23
  go_wp2_with fail
  generalize (w.alloc (.cells #[.slice A0 n0 c0, .slice A1 n1 c1, .slice A2 n2 c2, .slice A3 n3 c3] 27)).alloc (.cells #[.slice none 0 0, .slice none 0 0, .slice none 0 0, .slice none 0 0] 27) = W at X Y VV BB sz ⊢
  obtain ⟨x0, x1, x2, x3, _⟩ := X.cells
  have V := implColoredValid_any _ _ _ _ VV
  rcases ev : cvB C
  · rw [ev] at V
    have hf : Hid (allO C = none) := by unfold Hid allO; rw [ev]; simp
    clear ev
    go_wp2_with fail
    refine V.mono ?_; rintro e w1 ⟨rfl, hb1⟩
    obtain ⟨y0, y1, y2, y3, f0, f1, f2, f3⟩ := (Y.below hb1).cells
    obtain ⟨hZ, hB⟩ := zero_done (w := w) (b := w.heap.size + 1) (by omega) (BB.trans (hb1.mono (by omega)))
    go_wp2_with fail
    rw [hf.out]
    refine bodyPost_ret (v := .tuple #[.agg #[.slice none 0 0, .slice none 0 0, .slice none 0 0, .slice none 0 0], .bool false]) ?_ rfl ⟨_, rfl, hZ, hB⟩
    simp [results, Try.results23, go_sem, y0, y1, y2, y3]
  · rw [ev] at V
    obtain ⟨hvh, hlen, hcol⟩ := cvB_parts ev
    have hl3 := l3.out
    have h9 := hvB_len hvh
    have hf : Hid (allO C = some ⟨C.h, allL C.h C.c⟩) := by unfold Hid allO; rw [if_pos ev]
    go_wp2_with fail
    refine V.mono ?_; rintro e w2 ⟨rfl, hb1⟩
    obtain ⟨p0, p1, p2, p3, _⟩ := (X.below hb1).cells
    have B2 := BB.trans (hb1.mono (by omega))
    have Y2 := Y.below hb1
    have V2 := VV.below hb1
    have z2 : w.heap.size + 2 ≤ w2.heap.size := by have := hb1.size; omega
    clear V X Y VV BB hb1 x0 x1 x2 x3
    have Cc := copyC_valid w2 _ _ _ V2 ev
    go_wp2_with fail
    refine Cc.mono ?_; rintro e w3 ⟨vv, rfl, hD, hb3⟩
    have hDo := hD
    obtain ⟨D0, m0, d0, D1, m1, d1, D2, m2, d2, D3, m3, d3, rfl, _, ⟨s0, s1, s2, s3⟩, ⟨_, _, _, t3⟩, _⟩ := hDo.open_
    have t3' := t3.out
    obtain ⟨g, rfl, hlg, hg⟩ := s3.at_ (k := 0) (by omega)
    have z3 := hb3.size
    obtain ⟨Bk, hBk⟩ : ∃ Bk, Bk = w3.heap.size := ⟨_, rfl⟩
    have B3 := (B2.trans (hb3.mono (by omega))).alloc (Nat.le_trans B2.size z3) (.cells #[.slice D0 m0 d0, .slice D1 m1 d1, .slice D2 m2 d2, .slice (some ⟨g, 0, none⟩) m3 d3] 27)
    have Y3 := (Y2.below hb3).alloc (.cells #[.slice D0 m0 d0, .slice D1 m1 d1, .slice D2 m2 d2, .slice (some ⟨g, 0, none⟩) m3 d3] 27)
    have Z3 := Blk4.new_at (w := w3) hBk (.slice D0 m0 d0) (.slice D1 m1 d1) (.slice D2 m2 d2) (.slice (some ⟨g, 0, none⟩) m3 d3) 27
    have V3 := hD.alloc (.cells #[.slice D0 m0 d0, .slice D1 m1 d1, .slice D2 m2 d2, .slice (some ⟨g, 0, none⟩) m3 d3] 27)
    have nBk : Bk ≠ g := by omega
    have nb1 : w.heap.size + 1 ≠ g := by omega
    have gB : w.heap.size ≤ g := by omega
    have lb : w.heap.size + 1 < w2.heap.size := by omega
    clear hb3 Cc hD hDo s0 s1 s2 s3 t3
    clear p0 p1 p2 p3
    go_wp2_with fail
    generalize w3.alloc (.cells #[.slice D0 m0 d0, .slice D1 m1 d1, .slice D2 m2 d2, .slice (some ⟨g, 0, none⟩) m3 d3] 27) = W3 at *
    rw [← hBk]
    rw [← hBk] at z3 hg
    clear hBk
    go_loopg [15] (C.c.length - C.c.count 2) (fun gk _ wr => ∃ cur : List Int, Blk4 wr (w.heap.size + 1) (.slice none 0 0) (.slice none 0 0) (.slice none 0 0) (.slice none 0 0) 27 ∧ Blk4 wr Bk (.slice D0 m0 d0) (.slice D1 m1 d1) (.slice D2 m2 d2) (.slice (some ⟨g, 0, none⟩) m3 d3) 27 ∧ Cv wr w2.heap.size (.agg #[.slice D0 m0 d0, .slice D1 m1 d1, .slice D2 m2 d2, .slice (some ⟨g, 0, none⟩) m3 d3]) ⟨C.h, cur⟩ ∧ Hid (cvB ⟨C.h, cur⟩ = true) ∧ Hid (allL C.h cur = allL C.h C.c) ∧ Hid (gk = cur.length - cur.count 2) ∧ Below w.heap.size w wr)
    case atStart => exact ⟨C.c, Y3, Z3, V3, ev, rfl, rfl, B3⟩
    case round =>
      clear Y3 Z3 V3 B3
      obtain ⟨cur, Y3, Z3, V3, hcv, hal, hgk, B3⟩ := hrel
      obtain ⟨z0, z1, z2', z3', h0, h1, h2, h3⟩ := Z3.cells
      have F := markFirstGray_any wr _ _ _ _ _ _ _ _ _ _ _ _ _ _ V3 hcv.out
      rcases first_cases cur 1 with e1 | ⟨j, e1, hj, hjc⟩
      · obtain ⟨s1, s2⟩ := stepC_none (C := ⟨C.h, cur⟩) e1
        rw [s1, s2] at F
        have hfin : allL C.h C.c = cur := by rw [← hal.out]; exact all_done e1
        rw [← hfin] at F
        clear s1 s2 e1 hal hgk hcv
        go_wp2_with fail
        refine F.mono ?_; rintro e w4 ⟨rfl, CC, g4⟩
        have B4 := B3.trans (below_row' g4 gB B3.size)
        have Z4 := Z3.kept g4 nBk
        have Y4 := Y3.kept g4 nb1
        clear F Z3 Y3 V3 B3 g4 z0 z1 z2' z3' h0 h1 h2 h3 hfin
        obtain ⟨u0, u1, u2, u3, _⟩ := Z4.cells
        obtain ⟨y0, y1, y2, y3, f0, f1, f2, f3⟩ := Y4.cells
        have CF := ((((CC.set_low (p := ⟨w.heap.size + 1, 0, none⟩) lb (.slice D0 m0 d0)).set_low (p := ⟨w.heap.size + 1, 1, none⟩) lb (.slice D1 m1 d1)).set_low (p := ⟨w.heap.size + 1, 2, none⟩) lb (.slice D2 m2 d2)).set_low (p := ⟨w.heap.size + 1, 3, none⟩) lb (.slice (some ⟨g, 0, none⟩) m3 d3)).mono (lo' := w.heap.size) (by omega)
        have BF := ((((B4.setCell (p := ⟨w.heap.size + 1, 0, none⟩) (by simp) (.slice D0 m0 d0)).setCell (p := ⟨w.heap.size + 1, 1, none⟩) (by simp) (.slice D1 m1 d1)).setCell (p := ⟨w.heap.size + 1, 2, none⟩) (by simp) (.slice D2 m2 d2)).setCell (p := ⟨w.heap.size + 1, 3, none⟩) (by simp) (.slice (some ⟨g, 0, none⟩) m3 d3))
        clear CC
        go_wp2_with fail
        rw [hf.out]
        refine bodyPost_ret (v := .tuple #[.agg #[.slice D0 m0 d0, .slice D1 m1 d1, .slice D2 m2 d2, .slice (some ⟨g, 0, none⟩) m3 d3], .bool true]) ?_ rfl ⟨_, rfl, CF, BF⟩
        simp [results, Try.results23, go_sem, y0, y1, y2, y3]
      · obtain ⟨s1, s2⟩ := stepC_some (C := ⟨C.h, cur⟩) e1
        rw [s1, s2] at F
        clear s1 s2
        go_wp2_with fail
        refine F.mono ?_; rintro e w4 ⟨rfl, V4, g4⟩
        have B4 := B3.trans (below_row' g4 gB B3.size)
        have Z4 := Z3.kept g4 nBk
        have Y4 := Y3.kept g4 nb1
        clear F Z3 Y3 V3 B3 g4 z0 z1 z2' z3' h0 h1 h2 h3
        go_wp2_with fail
        go_roundg ((blackC C.h cur j).length - (blackC C.h cur j).count 2)
        case measure => have h8 := black_less C.h hjc; have h9 := hgk.out; omega
        case rel => exact ⟨blackC C.h cur j, Y4, Z4, V4, cvB_black j hcv.out, (all_step e1 hjc).trans hal.out, rfl, B4⟩
end Go.Proofs.Ytmngkjcdaaladaa
