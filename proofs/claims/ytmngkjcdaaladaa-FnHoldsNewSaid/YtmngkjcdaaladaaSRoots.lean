/- ShadeRoots of spec. -/
import Derived.Test.YtmngkjcdaaladaaSShade
namespace Go.Proofs.Ytmngkjcdaaladaa
open Go.RowKit

def rootsO (C : Cp) : Option Cp := if cvB C = true then some ⟨C.h, shadeAll C.c C.h.t⟩ else none

set_option maxRecDepth 100000 in
set_option maxHeartbeats 3000000 in
theorem specShadeRoots_any (w : World) (lo : Nat) (v : Value) (C : Cp) (hv : Cv w lo v C) :
    Calls Try.prog 27 #[v] w (OptCv w (rootsO C)) := by
  have hvo := hv
  obtain ⟨A0, n0, c0, A1, n1, c1, A2, n2, c2, A3, n3, c3, rfl, hh, ⟨r0, r1, r2, r3⟩, ⟨l0, l1, l2, l3⟩, _⟩ := hvo.open_
  have P := Blk4.new w (.slice A0 n0 c0) (.slice A1 n1 c1) (.slice A2 n2 c2) (.slice A3 n3 c3) 27
  have X := P.alloc (.cells #[.slice none 0 0, .slice none 0 0, .slice none 0 0, .slice none 0 0] 27)
  have Y := Blk4.new_at (w := w.alloc (.cells #[.slice A0 n0 c0, .slice A1 n1 c1, .slice A2 n2 c2, .slice A3 n3 c3] 27)) (b := w.heap.size + 1) (by simp) (.slice none 0 0) (.slice none 0 0) (.slice none 0 0) (.slice none 0 0) 27
  have VV := (hv.alloc (.cells #[.slice A0 n0 c0, .slice A1 n1 c1, .slice A2 n2 c2, .slice A3 n3 c3] 27)).alloc (.cells #[.slice none 0 0, .slice none 0 0, .slice none 0 0, .slice none 0 0] 27)
  have HH := (hh.alloc (.cells #[.slice A0 n0 c0, .slice A1 n1 c1, .slice A2 n2 c2, .slice A3 n3 c3] 27)).alloc (.cells #[.slice none 0 0, .slice none 0 0, .slice none 0 0, .slice none 0 0] 27)
  have BB : Below w.heap.size w ((w.alloc (.cells #[.slice A0 n0 c0, .slice A1 n1 c1, .slice A2 n2 c2, .slice A3 n3 c3] 27)).alloc (.cells #[.slice none 0 0, .slice none 0 0, .slice none 0 0, .slice none 0 0] 27)) := ((Below.refl _ _).alloc (Nat.le_refl _) _).alloc (by simp) _
  have sz : ((w.alloc (.cells #[.slice A0 n0 c0, .slice A1 n1 c1, .slice A2 n2 c2, .slice A3 n3 c3] 27)).alloc (.cells #[.slice none 0 0, .slice none 0 0, .slice none 0 0, .slice none 0 0] 27)).heap.size = w.heap.size + 2 := by simp
  go_enter Try.func27, Try.ntmps27
  go_wp2_with fail
  generalize (w.alloc (.cells #[.slice A0 n0 c0, .slice A1 n1 c1, .slice A2 n2 c2, .slice A3 n3 c3] 27)).alloc (.cells #[.slice none 0 0, .slice none 0 0, .slice none 0 0, .slice none 0 0] 27) = W at X Y VV HH BB sz ⊢
  obtain ⟨x0, x1, x2, x3, _⟩ := X.cells
  have V := specColoredValid_any _ _ _ _ VV
  rcases ev : cvB C
  · rw [ev] at V
    have hf : Hid (rootsO C = none) := by unfold Hid rootsO; rw [ev]; simp
    go_wp2_with fail
    refine V.mono ?_; rintro e w1 ⟨rfl, hb1⟩
    obtain ⟨y0, y1, y2, y3, f0, f1, f2, f3⟩ := (Y.below hb1).cells
    obtain ⟨hZ, hB⟩ := zero_done (w := w) (b := w.heap.size + 1) (by omega) (BB.trans (hb1.mono (by omega)))
    go_wp2_with fail
    rw [hf.out]
    refine bodyPost_ret (v := .tuple #[.agg #[.slice none 0 0, .slice none 0 0, .slice none 0 0, .slice none 0 0], .bool false]) ?_ rfl ⟨_, rfl, hZ, hB⟩
    simp [results, Try.results27, go_sem, y0, y1, y2, y3]
  · rw [ev] at V
    obtain ⟨hvh, hlen, _⟩ := cvB_parts ev
    have hpt : Hid (∀ x ∈ C.h.t, -1 ≤ x ∧ x < n3) := fun x hx => by
      have hp := (hvB_parts hvh).2.2.2
      rw [List.all_eq_true] at hp; have := hp x hx; simp only [ptB, decide_eq_true_eq] at this; have := l3.out; omega
    have hf : Hid (rootsO C = some ⟨C.h, shadeAll C.c C.h.t⟩) := by unfold Hid rootsO; rw [if_pos ev]
    have h1n := hvB_len hvh
    go_wp2_with fail
    refine V.mono ?_; rintro e w2 ⟨rfl, hb2⟩
    have X2 := X.below hb2
    have B2 := BB.trans (hb2.mono (by omega))
    have Y2 := Y.below hb2
    have Cc := l3Copy_any w2 _ _ _ (VV.below hb2) ev
    have z2 : w.heap.size + 2 ≤ w2.heap.size := by have := hb2.size; omega
    have T2 := r2.far B2 (fun j e => (r2.lt j e).2)
    obtain ⟨q0, q1, q2, q3, _⟩ := X2.cells
    clear V x0 x1 x2 x3 VV HH hb2 X Y
    go_wp2_with fail
    refine Cc.mono ?_; rintro e w3 ⟨vv, rfl, hD, hb3⟩
    obtain ⟨D0, m0, d0, D1, m1, d1, D2, m2, d2, D3, m3, d3, rfl, dh, ⟨s0, s1, s2, s3⟩, ⟨t0, t1, t2, t3⟩, _, ⟨a01, a02, a12⟩, ⟨a03, a13, a23⟩⟩ := hD.open_
    have t3' := t3.out
    have l3' := l3.out
    obtain rfl : m3 = n3 := by omega
    obtain ⟨g, rfl, hlg, hg⟩ := s3.at_ (k := 0) (by omega)
    have z3 := hb3.size
    obtain ⟨Bk, hBk⟩ : ∃ Bk, Bk = w3.heap.size := ⟨_, rfl⟩
    have B3 := (B2.trans (hb3.mono (by omega))).alloc (Nat.le_trans B2.size z3) (.cells #[.slice D0 m0 d0, .slice D1 m1 d1, .slice D2 m2 d2, .slice (some ⟨g, 0, none⟩) m3 d3] 27)
    have Y3 := (Y2.below hb3).alloc (.cells #[.slice D0 m0 d0, .slice D1 m1 d1, .slice D2 m2 d2, .slice (some ⟨g, 0, none⟩) m3 d3] 27)
    have X3 := (X2.below hb3).alloc (.cells #[.slice D0 m0 d0, .slice D1 m1 d1, .slice D2 m2 d2, .slice (some ⟨g, 0, none⟩) m3 d3] 27)
    have T3 := (T2.below hb3).alloc (.cells #[.slice D0 m0 d0, .slice D1 m1 d1, .slice D2 m2 d2, .slice (some ⟨g, 0, none⟩) m3 d3] 27)
    have Z3 := Blk4.new_at (w := w3) hBk (.slice D0 m0 d0) (.slice D1 m1 d1) (.slice D2 m2 d2) (.slice (some ⟨g, 0, none⟩) m3 d3) 27
    have own0 : (Value.slice D0 m0 d0).ownBlock ≠ some g := fun e => a03 g e rfl
    have own1 : (Value.slice D1 m1 d1).ownBlock ≠ some g := fun e => a13 g e rfl
    have own2 : (Value.slice D2 m2 d2).ownBlock ≠ some g := fun e => a23 g e rfl
    have f0 := s0.nown (b := Bk) (by omega)
    have f1 := s1.nown (b := Bk) (by omega)
    have f2 := s2.nown (b := Bk) (by omega)
    have f3 := s3.nown (b := Bk) (by omega)
    have tA : ∀ j, (Value.slice A2 n2 c2).ownBlock = some j → j < w.heap.size := fun j e => (r2.lt j e).2
    have tg : (Value.slice A2 n2 c2).ownBlock ≠ some g := fun e => by have := tA g e; omega
    have tb : (Value.slice A2 n2 c2).ownBlock ≠ some Bk := fun e => by have := tA _ e; omega
    have S0 := s0.alloc (.cells #[.slice D0 m0 d0, .slice D1 m1 d1, .slice D2 m2 d2, .slice (some ⟨g, 0, none⟩) m3 d3] 27)
    have S1 := s1.alloc (.cells #[.slice D0 m0 d0, .slice D1 m1 d1, .slice D2 m2 d2, .slice (some ⟨g, 0, none⟩) m3 d3] 27)
    have S2 := s2.alloc (.cells #[.slice D0 m0 d0, .slice D1 m1 d1, .slice D2 m2 d2, .slice (some ⟨g, 0, none⟩) m3 d3] 27)
    have S3 := s3.alloc (.cells #[.slice D0 m0 d0, .slice D1 m1 d1, .slice D2 m2 d2, .slice (some ⟨g, 0, none⟩) m3 d3] 27)
    clear hb3 B2 X2 Y2 T2 q0 q1 q2 q3 Cc hD dh s0 s1 s2 s3 r0 r1 r2 r3
    go_wp2_with fail
    generalize w3.alloc (.cells #[.slice D0 m0 d0, .slice D1 m1 d1, .slice D2 m2 d2, .slice (some ⟨g, 0, none⟩) m3 d3] 27) = W3 at *
    rw [← hBk]
    rw [← hBk] at z3 hg
    clear hBk
    go_loopw [5] (fun i wr => ∃ k : Nat, k ≤ n2 ∧ i = .int .i64 k ∧ Blk4 wr w.heap.size (.slice A0 n0 c0) (.slice A1 n1 c1) (.slice A2 n2 c2) (.slice A3 m3 c3) 27 ∧ Blk4 wr (w.heap.size + 1) (.slice none 0 0) (.slice none 0 0) (.slice none 0 0) (.slice none 0 0) 27 ∧ Blk4 wr Bk (.slice D0 m0 d0) (.slice D1 m1 d1) (.slice D2 m2 d2) (.slice (some ⟨g, 0, none⟩) m3 d3) 27 ∧ Row wr lo (.slice A2 n2 c2) C.h.t ∧ (Row wr w2.heap.size (.slice D0 m0 d0) C.h.l ∧ Row wr w2.heap.size (.slice D1 m1 d1) C.h.r ∧ Row wr w2.heap.size (.slice D2 m2 d2) C.h.t ∧ Row wr w2.heap.size (.slice (some ⟨g, 0, none⟩) m3 d3) (shadeAll C.c (C.h.t.take k))) ∧ Below w.heap.size w wr) (fun i _ => n2 - (intOf i).toNat)
    case atStart => exact ⟨0, Nat.zero_le _, rfl, X3, Y3, Z3, T3, ⟨S0, S1, S2, S3⟩, B3⟩
    case round =>
      clear X3 Y3 Z3 T3 S0 S1 S2 S3 B3
      obtain ⟨k, hk, rfl, X3, Y3, Z3, T3, ⟨S0, S1, S2, S3⟩, B3⟩ := hrel
      obtain ⟨x0, x1, x2, x3, _⟩ := X3.cells
      obtain ⟨z0, z1, z2', z3', h0, h1, h2, h3⟩ := Z3.cells
      have nBk : Bk ≠ g := by omega
      have nb : w.heap.size ≠ g := by omega
      have nb1 : w.heap.size + 1 ≠ g := by omega
      have nBb : Bk ≠ w.heap.size := by omega
      have hlen3 : (shadeAll C.c (C.h.t.take k)).length = m3 := by rw [shadeAll_len]; exact t3'
      by_cases hlt : k < n2
      · obtain ⟨gt, x, rfl, _, hgt, hx, hcx, _⟩ := T3.get (k := k) (by rw [l2.out]; exact hlt)
        obtain ⟨bx1, bx2⟩ := hpt.out x (List.mem_of_getElem? hx.out)
        have ngt : gt ≠ g := fun e => tg (by rw [e]; rfl)
        have nbt : Bk ≠ gt := fun e => tb (by rw [e]; rfl)
        have hk1 : (k : Int) < (n2 : Int) := by omega
        have hsh := Lib.hid (shadeAll_take (c := C.c) hx.out)
        clear hx
        go_wp2_with fail
        go_region_held3 (fun w' => w'.cell? ⟨Bk, 3, none⟩ = some (.slice (some ⟨g, 0, none⟩) m3 d3) ∧ w'.cell? ⟨w.heap.size, 2, none⟩ = some (.slice (some ⟨gt, 0, none⟩) n2 c2) ∧ w'.cell? ⟨gt, k, none⟩ = some (.int .i64 x))
          (((try dsimp only); (repeat' apply And.intro) <;> (with_reducible (first | exact e3 | exact e2 | exact ex | exact p3 | exact p2 | exact px | exact cellD z3' | exact cellD x2 | exact cellD hcx | exact z3' | exact x2 | exact hcx))))
          ((go_at_call 50; (with_reducible refine (shade_any wr.drew w2.heap.size g m3 d3 _ S3.drew hlen3 x bx1 bx2).mono ?_); rintro e w4 ⟨rfl, R4, O4⟩; (have Z4 := (Blk4.kept (w := wr.drew) (by exact Z3) O4.1 nBk)); (obtain ⟨p0, p1, _, p3, k0, k1, k2, k3⟩ := Z4.cells); (have X4 := (Blk4.kept (w := wr.drew) (by exact X3) O4.1 nb)); (obtain ⟨_, _, p2, _, _⟩ := X4.cells); (have px := O4.1.cell (cellD hcx) (fun e => ngt (Option.some.inj e))); (have e3 := World.cell?_setCell_same w4 ⟨Bk, 3, none⟩ (.slice (some ⟨g, 0, none⟩) m3 d3) p3); (have e2 := cellO (v := (.slice (some ⟨g, 0, none⟩) m3 d3)) (p := ⟨Bk, 3, none⟩) p2 (by simp)); (have ex := cellO (v := (.slice (some ⟨g, 0, none⟩) m3 d3)) (p := ⟨Bk, 3, none⟩) px (by simp))))
        rename_i hHeld1
        clear hHeld1
        have X5 := X4.other (p := ⟨Bk, 3, none⟩) (by simp; omega) (.slice (some ⟨g, 0, none⟩) m3 d3)
        have Y5 := (Blk4.kept (w := wr.drew) (by exact Y3) O4.1 nb1).other (p := ⟨Bk, 3, none⟩) (by simp; omega) (.slice (some ⟨g, 0, none⟩) m3 d3)
        have Z5 := Z4.set3 (.slice (some ⟨g, 0, none⟩) m3 d3)
        have T5 := (onlyB_row T3.drew O4 tg).other (a := ⟨Bk, 3, none⟩) tb (.slice (some ⟨g, 0, none⟩) m3 d3)
        have J0 := (onlyB_row S0.drew O4 own0).other (a := ⟨Bk, 3, none⟩) f0 (.slice (some ⟨g, 0, none⟩) m3 d3)
        have J1 := (onlyB_row S1.drew O4 own1).other (a := ⟨Bk, 3, none⟩) f1 (.slice (some ⟨g, 0, none⟩) m3 d3)
        have J2 := (onlyB_row S2.drew O4 own2).other (a := ⟨Bk, 3, none⟩) f2 (.slice (some ⟨g, 0, none⟩) m3 d3)
        have J3 := R4.other (a := ⟨Bk, 3, none⟩) f3 (.slice (some ⟨g, 0, none⟩) m3 d3)
        rw [← hsh.out] at J3
        have B5 := ((Below.drew B3).trans (below_only O4 (by omega) (Below.drew B3).size)).setCell (p := ⟨Bk, 3, none⟩) (by simp; omega) (.slice (some ⟨g, 0, none⟩) m3 d3)
        clear X3 Y3 Z3 T3 S0 S1 S2 S3 B3 X4 Z4 R4 O4 x0 x1 x2 x3 z0 z1 z2' z3' h0 h1 h2 h3 p0 p1 p2 p3 k0 k1 k2 k3 px e3 e2 ex hcx
        go_wp2_with fail
        go_roundw
        case rel => exact ⟨k + 1, by omega, by go_num, X5, Y5, Z5, T5, ⟨J0, J1, J2, J3⟩, B5⟩
        case measure => simp [intOf]; omega
      · obtain rfl : k = n2 := by omega
        have hfull : C.h.t.take k = C.h.t := List.take_of_length_le (by rw [l2.out]; exact Nat.le_refl _)
        rw [hfull] at S3
        obtain ⟨y0, y1, y2, y3, i0, i1, i2, i3⟩ := Y3.cells
        have CC : Cv wr w2.heap.size (.agg #[.slice D0 m0 d0, .slice D1 m1 d1, .slice D2 m2 d2, .slice (some ⟨g, 0, none⟩) m3 d3]) ⟨C.h, shadeAll C.c C.h.t⟩ := ⟨_, _, _, _, rfl, ⟨_, _, _, rfl, S0, S1, S2, a01, a02, a12⟩, S3, a03, a13, a23⟩
        have lb : w.heap.size + 1 < w2.heap.size := by omega
        have CF := ((((CC.set_low (p := ⟨w.heap.size + 1, 0, none⟩) lb (.slice D0 m0 d0)).set_low (p := ⟨w.heap.size + 1, 1, none⟩) lb (.slice D1 m1 d1)).set_low (p := ⟨w.heap.size + 1, 2, none⟩) lb (.slice D2 m2 d2)).set_low (p := ⟨w.heap.size + 1, 3, none⟩) lb (.slice (some ⟨g, 0, none⟩) m3 d3)).mono (lo' := w.heap.size) (by omega)
        have BF := (((B3.setCell (p := ⟨w.heap.size + 1, 0, none⟩) (by simp) (.slice D0 m0 d0)).setCell (p := ⟨w.heap.size + 1, 1, none⟩) (by simp) (.slice D1 m1 d1)).setCell (p := ⟨w.heap.size + 1, 2, none⟩) (by simp) (.slice D2 m2 d2)).setCell (p := ⟨w.heap.size + 1, 3, none⟩) (by simp) (.slice (some ⟨g, 0, none⟩) m3 d3)
        clear X3 Y3 Z3 T3 S0 S1 S2 S3 B3 CC
        go_wp2_with fail
        rw [hf.out]
        refine bodyPost_ret (v := .tuple #[.agg #[.slice D0 m0 d0, .slice D1 m1 d1, .slice D2 m2 d2, .slice (some ⟨g, 0, none⟩) m3 d3], .bool true]) ?_ rfl ⟨_, rfl, CF, BF⟩
        simp [results, Try.results27, go_sem, y0, y1, y2, y3]
end Go.Proofs.Ytmngkjcdaaladaa
