/- ShadeRoots of impl. -/
import Derived.Test.YtmngkjcdaaladaaICv
import Derived.Test.YtmngkjcdaaladaaSRoots
namespace Go.Proofs.Ytmngkjcdaaladaa
open Go.RowKit

set_option maxRecDepth 100000 in
set_option maxHeartbeats 3000000 in
theorem implShadeRoots_any (w : World) (lo : Nat) (v : Value) (C : Cp) (hv : Cv w lo v C) :
    Calls Try.prog 26 #[v] w (OptCv w (rootsO C)) := by
  have hvo := hv
  obtain ⟨A0, n0, c0, A1, n1, c1, A2, n2, c2, A3, n3, c3, rfl, hh, ⟨r0, r1, r2, r3⟩, ⟨l0, l1, l2, l3⟩, ⟨mm0, mm1, mm2, mm3⟩, _⟩ := hvo.open_
  have P := Blk4.new w (.slice A0 n0 c0) (.slice A1 n1 c1) (.slice A2 n2 c2) (.slice A3 n3 c3) 27
  have X := P.alloc (.cells #[.slice none 0 0, .slice none 0 0, .slice none 0 0, .slice none 0 0] 27)
  have Y := Blk4.new_at (w := w.alloc (.cells #[.slice A0 n0 c0, .slice A1 n1 c1, .slice A2 n2 c2, .slice A3 n3 c3] 27)) (b := w.heap.size + 1) (by simp) (.slice none 0 0) (.slice none 0 0) (.slice none 0 0) (.slice none 0 0) 27
  have VV := (hv.alloc (.cells #[.slice A0 n0 c0, .slice A1 n1 c1, .slice A2 n2 c2, .slice A3 n3 c3] 27)).alloc (.cells #[.slice none 0 0, .slice none 0 0, .slice none 0 0, .slice none 0 0] 27)
  have BB : Below w.heap.size w ((w.alloc (.cells #[.slice A0 n0 c0, .slice A1 n1 c1, .slice A2 n2 c2, .slice A3 n3 c3] 27)).alloc (.cells #[.slice none 0 0, .slice none 0 0, .slice none 0 0, .slice none 0 0] 27)) := ((Below.refl _ _).alloc (Nat.le_refl _) _).alloc (by simp) _
  have sz : ((w.alloc (.cells #[.slice A0 n0 c0, .slice A1 n1 c1, .slice A2 n2 c2, .slice A3 n3 c3] 27)).alloc (.cells #[.slice none 0 0, .slice none 0 0, .slice none 0 0, .slice none 0 0] 27)).heap.size = w.heap.size + 2 := by simp
  go_enter Try.func26, Try.ntmps26
  go_wp2_with fail
  generalize (w.alloc (.cells #[.slice A0 n0 c0, .slice A1 n1 c1, .slice A2 n2 c2, .slice A3 n3 c3] 27)).alloc (.cells #[.slice none 0 0, .slice none 0 0, .slice none 0 0, .slice none 0 0] 27) = W at X Y VV BB sz ⊢
  obtain ⟨x0, x1, x2, x3, _⟩ := X.cells
  have V := implColoredValid_any _ _ _ _ VV
  rcases ev : cvB C
  · rw [ev] at V
    have hf : Hid (rootsO C = none) := by unfold Hid rootsO; rw [ev]; simp
    clear ev
    go_wp2_with fail
    refine V.mono ?_; rintro e w1 ⟨rfl, hb1⟩
    obtain ⟨y0, y1, y2, y3, f0, f1, f2, f3⟩ := (Y.below hb1).cells
    obtain ⟨hZ, hB⟩ := zero_done (w := w) (b := w.heap.size + 1) (by omega) (BB.trans (hb1.mono (by omega)))
    go_wp2_with fail
    rw [hf.out]
    refine bodyPost_ret (v := .tuple #[.agg #[.slice none 0 0, .slice none 0 0, .slice none 0 0, .slice none 0 0], .bool false]) ?_ rfl ⟨_, rfl, hZ, hB⟩
    simp [results, Try.results26, go_sem, y0, y1, y2, y3]
  · rw [ev] at V
    obtain ⟨hvh, hlen, hcol⟩ := cvB_parts ev
    have hl3 := l3.out
    have h9 := hvB_len hvh
    have hpt : Hid (∀ x ∈ C.h.t, -1 ≤ x ∧ x < n3) := fun x hx => by
      have hp := (hvB_parts hvh).2.2.2
      rw [List.all_eq_true] at hp; have := hp x hx; simp only [ptB, decide_eq_true_eq] at this; have := l3.out; omega
    have hf : Hid (rootsO C = some ⟨C.h, shadeAll C.c C.h.t⟩) := by unfold Hid rootsO; rw [if_pos ev]
    go_wp2_with fail
    refine V.mono ?_; rintro e w2 ⟨rfl, hb1⟩
    have X2 := X.below hb1
    obtain ⟨p0, p1, p2, p3, _⟩ := X2.cells
    have B2 := BB.trans (hb1.mono (by omega))
    have Y2 := Y.below hb1
    have V2 := VV.below hb1
    have z2 : w.heap.size + 2 ≤ w2.heap.size := by have := hb1.size; omega
    have T2 := r2.far B2 (fun j e => (r2.lt j e).2)
    have tA : ∀ j, (Value.slice A2 n2 c2).ownBlock = some j → j < w.heap.size := fun j e => (r2.lt j e).2
    clear V X Y VV BB hb1 x0 x1 x2 x3
    have Cc := copyC_valid w2 _ _ _ V2 ev
    go_wp2_with fail
    refine Cc.mono ?_; rintro e w3 ⟨vv, rfl, hD, hb3⟩
    have hDo := hD
    obtain ⟨D0, m0, d0, D1, m1, d1, D2, m2, d2, D3, m3, d3, rfl, _, ⟨s0, s1, s2, s3⟩, ⟨_, _, _, t3⟩, _⟩ := hDo.open_
    have t3' := t3.out
    obtain ⟨g, rfl, hlg, hg⟩ := s3.at_ (k := 0) (by omega)
    have z3 := hb3.size
    obtain ⟨Bk, hBk⟩ : ∃ Bk, Bk = w3.heap.size := ⟨_, rfl⟩
    have B3 := (B2.trans (hb3.mono (by omega))).alloc (Nat.le_trans B2.size z3) (.cells #[.slice D0 m0 d0, .slice D1 m1 d1, .slice D2 m2 d2, .slice (some ⟨g, 0, none⟩) m3 d3] 27)
    have Y3 := (Y2.below hb3).alloc (.cells #[.slice D0 m0 d0, .slice D1 m1 d1, .slice D2 m2 d2, .slice (some ⟨g, 0, none⟩) m3 d3] 27)
    have Z3 := Blk4.new_at (w := w3) hBk (.slice D0 m0 d0) (.slice D1 m1 d1) (.slice D2 m2 d2) (.slice (some ⟨g, 0, none⟩) m3 d3) 27
    have V3 := hD.alloc (.cells #[.slice D0 m0 d0, .slice D1 m1 d1, .slice D2 m2 d2, .slice (some ⟨g, 0, none⟩) m3 d3] 27)
    have X3 := (X2.below hb3).alloc (.cells #[.slice D0 m0 d0, .slice D1 m1 d1, .slice D2 m2 d2, .slice (some ⟨g, 0, none⟩) m3 d3] 27)
    have T3 := (T2.below hb3).alloc (.cells #[.slice D0 m0 d0, .slice D1 m1 d1, .slice D2 m2 d2, .slice (some ⟨g, 0, none⟩) m3 d3] 27)
    have nBk : Bk ≠ g := by omega
    have nb1 : w.heap.size + 1 ≠ g := by omega
    have gB : w.heap.size ≤ g := by omega
    have lb : w.heap.size + 1 < w2.heap.size := by omega
    clear hb3 Cc hD hDo s0 s1 s2 s3 t3
    obtain rfl : m3 = n3 := by omega
    have tg : (Value.slice A2 n2 c2).ownBlock ≠ some g := fun e => by have := tA g e; omega
    clear p0 p1 p2 p3
    obtain ⟨x0, x1, x2, x3, _⟩ := X3.cells
    go_wp2_with fail
    generalize w3.alloc (.cells #[.slice D0 m0 d0, .slice D1 m1 d1, .slice D2 m2 d2, .slice (some ⟨g, 0, none⟩) m3 d3] 27) = W3 at *
    rw [← hBk]
    rw [← hBk] at z3 hg
    clear hBk
    go_loopw [17] (fun i wr => ∃ k : Nat, k ≤ n2 ∧ i = .int .i64 k ∧ Blk4 wr (w.heap.size + 1) (.slice none 0 0) (.slice none 0 0) (.slice none 0 0) (.slice none 0 0) 27 ∧ Blk4 wr Bk (.slice D0 m0 d0) (.slice D1 m1 d1) (.slice D2 m2 d2) (.slice (some ⟨g, 0, none⟩) m3 d3) 27 ∧ Row wr lo (.slice A2 n2 c2) C.h.t ∧ Cv wr w2.heap.size (.agg #[.slice D0 m0 d0, .slice D1 m1 d1, .slice D2 m2 d2, .slice (some ⟨g, 0, none⟩) m3 d3]) ⟨C.h, shadeAll C.c (C.h.t.take k)⟩ ∧ Below w.heap.size w wr) (fun i _ => n2 - (intOf i).toNat)
    case atStart => exact ⟨0, Nat.zero_le _, rfl, Y3, Z3, T3, V3, B3⟩
    case round =>
      clear X3 Y3 Z3 T3 V3 B3 x0 x1 x2 x3
      obtain ⟨k, hk, rfl, Y3, Z3, T3, V3, B3⟩ := hrel
      obtain ⟨z0, z1, z2', z3', h0, h1, h2, h3⟩ := Z3.cells
      by_cases hlt : k < n2
      · obtain ⟨gt, x, rfl, _, hgt, hx, hcx, _⟩ := T3.get (k := k) (by rw [l2.out]; exact hlt)
        obtain ⟨bx1, bx2⟩ := hpt.out x (List.mem_of_getElem? hx.out)
        have hk1 : (k : Int) < (n2 : Int) := by omega
        have hsh := Lib.hid (shadeAll_take (c := C.c) hx.out)
        have hcc : ∀ x ∈ (Cp.mk C.h (shadeAll C.c (C.h.t.take k))).c, 0 ≤ x ∧ x ≤ 2 := shadeAll_valid _ _ hcol
        have S := implShadeC_any wr _ _ _ _ _ _ _ _ _ _ _ _ _ _ V3 hcc x bx1 bx2
        clear hx
        go_wp2_with fail
        refine S.mono ?_; rintro e w4 ⟨rfl, V4, O4⟩
        have T4 := onlyB_row T3 O4 tg
        rw [← hsh.out] at V4
        have Y4 := Y3.kept O4.1 nb1
        have Z4 := Z3.kept O4.1 nBk
        have B4 := B3.trans (below_only O4 gB B3.size)
        clear S Y3 Z3 T3 V3 B3 O4 z0 z1 z2' z3' h0 h1 h2 h3 hcx hcc
        go_wp2_with fail
        go_roundw
        case rel => exact ⟨k + 1, by omega, by go_num, Y4, Z4, T4, V4, B4⟩
        case measure => simp [intOf]; omega
      · obtain rfl : k = n2 := by omega
        have hfull : C.h.t.take k = C.h.t := List.take_of_length_le (by rw [l2.out]; exact Nat.le_refl _)
        rw [hfull] at V3
        obtain ⟨y0, y1, y2, y3, f0, f1, f2, f3⟩ := Y3.cells
        have CF := ((((V3.set_low (p := ⟨w.heap.size + 1, 0, none⟩) lb (.slice D0 m0 d0)).set_low (p := ⟨w.heap.size + 1, 1, none⟩) lb (.slice D1 m1 d1)).set_low (p := ⟨w.heap.size + 1, 2, none⟩) lb (.slice D2 m2 d2)).set_low (p := ⟨w.heap.size + 1, 3, none⟩) lb (.slice (some ⟨g, 0, none⟩) m3 d3)).mono (lo' := w.heap.size) (by omega)
        have BF := ((((B3.setCell (p := ⟨w.heap.size + 1, 0, none⟩) (by simp) (.slice D0 m0 d0)).setCell (p := ⟨w.heap.size + 1, 1, none⟩) (by simp) (.slice D1 m1 d1)).setCell (p := ⟨w.heap.size + 1, 2, none⟩) (by simp) (.slice D2 m2 d2)).setCell (p := ⟨w.heap.size + 1, 3, none⟩) (by simp) (.slice (some ⟨g, 0, none⟩) m3 d3))
        clear V3
        go_wp2_with fail
        rw [hf.out]
        refine bodyPost_ret (v := .tuple #[.agg #[.slice D0 m0 d0, .slice D1 m1 d1, .slice D2 m2 d2, .slice (some ⟨g, 0, none⟩) m3 d3], .bool true]) ?_ rfl ⟨_, rfl, CF, BF⟩
        simp [results, Try.results26, go_sem, y0, y1, y2, y3]
end Go.Proofs.Ytmngkjcdaaladaa
