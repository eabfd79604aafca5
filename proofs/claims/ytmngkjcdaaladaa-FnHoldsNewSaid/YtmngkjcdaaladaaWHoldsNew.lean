/- The law FnHoldsNew, walked. -/
import Derived.Test.YtmngkjcdaaladaaCaseC
import Derived.Test.YtmngkjcdaaladaaPureD
import Derived.Test.YtmngkjcdaaladaaWLaw
import Derived.Test.YtmngkjcdaaladaaIShadeCell
import Derived.Test.YtmngkjcdaaladaaICol2
import Derived.Test.YtmngkjcdaaladaaIHolds
namespace Go.Proofs.Ytmngkjcdaaladaa
open Go.RowKit

set_option maxRecDepth 100000 in
set_option maxHeartbeats 4000000 in
theorem lawHoldsNew_walk (w : World) (A : Option Addr) (n c : Nat) (h : Inp w A n c) :
    Calls Try.prog 13 #[.slice A n c] w (LawTrue w) := by
  by_cases hbig : 1048576 < n
  · go_enter Try.func13, Try.ntmps13
    go_wp2_with fail
    go_ret
    exact ⟨rfl, Below.refl _ _⟩
  go_enter Try.func13, Try.ntmps13
  go_wp2_with fail
  refine (drawColorHolds_any _ _ _ _ h).mono ?_; rintro e w1 ⟨v, C, rfl, HA, hb1⟩
  have BW1 : Below w.heap.size w w1 := (Below.refl w.heap.size w).trans (hb1.mono (Below.refl w.heap.size w).size)
  have zz1 : w.heap.size ≤ w1.heap.size := hb1.size
  have HAo := HA
  obtain ⟨A0, n0, c0, A1, n1, c1, A2, n2, c2, A3, n3, c3, rfl, hh, ⟨r0, r1, r2, r3⟩, ⟨l0, l1, l2, l3⟩, ⟨mm0, mm1, mm2, mm3⟩, _⟩ := HAo.open_
  have H := fun W lo v hW => implColorHolds_any W lo v C hW
  have S := fun W lo v hW => specColorHolds_any W lo v C hW
  have V := fun W lo v hW => implColoredValid_any W lo v C hW
  rcases ev : cvB C
  · rw [ev] at V
    have hz : holdsB C = false := by unfold holdsB; rw [ev]; rfl
    rw [hz] at H S
    clear hz ev
    go_wp2_with fail
    refine (H _ _ _ (HA.alloc (.cells #[.slice A0 n0 c0, .slice A1 n1 c1, .slice A2 n2 c2, .slice A3 n3 c3] 27))).mono ?_; rintro e w2 ⟨rfl, hb2⟩
    have BW2 : Below w.heap.size w w2 := (BW1.alloc BW1.size (.cells #[.slice A0 n0 c0, .slice A1 n1 c1, .slice A2 n2 c2, .slice A3 n3 c3] 27)).trans (hb2.mono (BW1.alloc BW1.size (.cells #[.slice A0 n0 c0, .slice A1 n1 c1, .slice A2 n2 c2, .slice A3 n3 c3] 27)).size)
    have zz2 : w1.heap.size + 1 ≤ w2.heap.size := by have := hb2.size; simp at this; omega
    have HA_2 := Cv.below (by exact (HA.alloc (.cells #[.slice A0 n0 c0, .slice A1 n1 c1, .slice A2 n2 c2, .slice A3 n3 c3] 27))) hb2
    have X_2 := Blk4.below (by exact (Blk4.new w1 (.slice A0 n0 c0) (.slice A1 n1 c1) (.slice A2 n2 c2) (.slice A3 n3 c3) 27)) hb2
    obtain ⟨cX_2_0, cX_2_1, cX_2_2, cX_2_3, _⟩ := X_2.cells
    have lX_2 := X_2.lt
    go_wp2_with fail
    refine (S _ _ _ HA_2).mono ?_; rintro e w3 ⟨rfl, hb3⟩
    have BW3 : Below w.heap.size w w3 := BW2.trans (hb3.mono BW2.size)
    have zz3 : w2.heap.size ≤ w3.heap.size := hb3.size
    have HA_3 := Cv.below (by exact HA_2) hb3
    have X_3 := Blk4.below (by exact X_2) hb3
    obtain ⟨cX_3_0, cX_3_1, cX_3_2, cX_3_3, _⟩ := X_3.cells
    have lX_3 := X_3.lt
    go_wp2_with fail
    refine (V _ _ _ HA_3).mono ?_; rintro e w4 ⟨rfl, hb4⟩
    have BW4 : Below w.heap.size w w4 := BW3.trans (hb4.mono BW3.size)
    have zz4 : w3.heap.size ≤ w4.heap.size := hb4.size
    have HA_4 := Cv.below (by exact HA_3) hb4
    have X_4 := Blk4.below (by exact X_3) hb4
    obtain ⟨cX_4_0, cX_4_1, cX_4_2, cX_4_3, _⟩ := X_4.cells
    have lX_4 := X_4.lt
    go_wp2_with fail
    refine (S _ _ _ HA_4).mono ?_; rintro e w5 ⟨rfl, hb5⟩
    have BW5 : Below w.heap.size w w5 := BW4.trans (hb5.mono BW4.size)
    have zz5 : w4.heap.size ≤ w5.heap.size := hb5.size
    have HA_5 := Cv.below (by exact HA_4) hb5
    have X_5 := Blk4.below (by exact X_4) hb5
    obtain ⟨cX_5_0, cX_5_1, cX_5_2, cX_5_3, _⟩ := X_5.cells
    have lX_5 := X_5.lt
    go_wp2_with fail
    go_ret
    exact ⟨rfl, BW5⟩
  · rw [ev] at V
    generalize holdsB C = hb at H S
    have hbb : (hb != hb) = false := by simp
    obtain ⟨hvh, hcl, hcol⟩ := cvB_parts ev
    have hlen := l3.out
    have hlen0 := l0.out
    have hnn : Hid (n0 = n3) := by unfold Hid; omega
    have EV := Lib.hid ev
    have SF := Lib.hid (HA.old (Nat.le_refl _))
    have hvN : Hid (∀ k : Nat, cvB ⟨C.h, shN C.c k⟩ = true) := fun k => cvB_of hvh (by rw [shN_len]; exact hcl) (shadeAll_ok _ _ hcol)
    have hnx : Hid (∀ k : Nat, k < n0 → shadeO ⟨C.h, shN C.c k⟩ (k : Int) = some ⟨C.h, shN C.c (k + 1)⟩) := fun k hk => by
      rw [shadeO_of (hvN.out k) (by show k < C.h.l.length; omega), shN_succ]
    have hend : Hid (holdsB ⟨C.h, shN C.c n0⟩ = true ∧ countO ⟨C.h, shN C.c n0⟩ 0 = 0) := by
      have h0 : (shN C.c n0).count 0 = 0 := by rw [hnn.out, ← hlen]; exact shN_nowhite C.c
      refine ⟨(holdsB_iff (hvN.out n0)).2 (holds_nowhite h0), ?_⟩
      rw [countO_valid (hvN.out n0)]
      show ((shN C.c n0).count 0 : Int) = 0
      rw [h0]; rfl
    clear ev hvh hcol hcl
    go_wp2_with fail
    refine (H _ _ _ (HA.alloc (.cells #[.slice A0 n0 c0, .slice A1 n1 c1, .slice A2 n2 c2, .slice A3 n3 c3] 27))).mono ?_; rintro e w2 ⟨rfl, hb2⟩
    have BW2 : Below w.heap.size w w2 := (BW1.alloc BW1.size (.cells #[.slice A0 n0 c0, .slice A1 n1 c1, .slice A2 n2 c2, .slice A3 n3 c3] 27)).trans (hb2.mono (BW1.alloc BW1.size (.cells #[.slice A0 n0 c0, .slice A1 n1 c1, .slice A2 n2 c2, .slice A3 n3 c3] 27)).size)
    have zz2 : w1.heap.size + 1 ≤ w2.heap.size := by have := hb2.size; simp at this; omega
    have HA_2 := Cv.below (by exact (HA.alloc (.cells #[.slice A0 n0 c0, .slice A1 n1 c1, .slice A2 n2 c2, .slice A3 n3 c3] 27))) hb2
    have X_2 := Blk4.below (by exact (Blk4.new w1 (.slice A0 n0 c0) (.slice A1 n1 c1) (.slice A2 n2 c2) (.slice A3 n3 c3) 27)) hb2
    obtain ⟨cX_2_0, cX_2_1, cX_2_2, cX_2_3, _⟩ := X_2.cells
    have lX_2 := X_2.lt
    go_wp2_with fail
    refine (S _ _ _ HA_2).mono ?_; rintro e w3 ⟨rfl, hb3⟩
    have BW3 : Below w.heap.size w w3 := BW2.trans (hb3.mono BW2.size)
    have zz3 : w2.heap.size ≤ w3.heap.size := hb3.size
    have HA_3 := Cv.below (by exact HA_2) hb3
    have X_3 := Blk4.below (by exact X_2) hb3
    obtain ⟨cX_3_0, cX_3_1, cX_3_2, cX_3_3, _⟩ := X_3.cells
    have lX_3 := X_3.lt
    go_wp2_with fail
    refine (V _ _ _ HA_3).mono ?_; rintro e w4 ⟨rfl, hb4⟩
    have BW4 : Below w.heap.size w w4 := BW3.trans (hb4.mono BW3.size)
    have zz4 : w3.heap.size ≤ w4.heap.size := hb4.size
    have HA_4 := Cv.below (by exact HA_3) hb4
    have X_4 := Blk4.below (by exact X_3) hb4
    obtain ⟨cX_4_0, cX_4_1, cX_4_2, cX_4_3, _⟩ := X_4.cells
    have lX_4 := X_4.lt
    go_wp2_with fail
    have FX := SF.out
    clear H S V
    go_loopw [5] (fun i wr => ∃ (k : Nat) (A0 : Option Addr) (j0 c0 : Nat) (A1 : Option Addr) (j1 c1 : Nat) (A2 : Option Addr) (j2 c2 : Nat) (A3 : Option Addr) (j3 c3 : Nat), k ≤ n0 ∧ i = .int .i64 k ∧ Hid (j0 = n0) ∧ Blk4 wr w1.heap.size (.slice A0 j0 c0) (.slice A1 j1 c1) (.slice A2 j2 c2) (.slice A3 j3 c3) 27 ∧ Cv wr w.heap.size (.agg #[.slice A0 j0 c0, .slice A1 j1 c1, .slice A2 j2 c2, .slice A3 j3 c3]) ⟨C.h, shN C.c k⟩ ∧ Below w.heap.size w wr) (fun i _ => n0 - (intOf i).toNat)
    case atStart => exact ⟨0, _, _, _, _, _, _, _, _, _, _, _, _, Nat.zero_le _, rfl, rfl, X_4, HA_4, BW4⟩
    case round =>
      obtain ⟨k, A0, j0, c0, A1, j1, c1, A2, j2, c2, A3, j3, c3, hk, rfl, hj0, XR, HR, BR⟩ := hrel
      obtain ⟨x0, x1, x2, x3, xf0, xf1, xf2, xf3⟩ := XR.cells
      have lX := XR.lt
      obtain rfl : n0 = j0 := hj0.out.symm
      by_cases hlt : k < n0
      · have hki : (k : Int) < (n0 : Int) := by omega
        have SC := implShadeCell_any wr _ _ _ HR (k : Int)
        rw [hnx.out k hlt] at SC
        go_wp2_with fail
        refine SC.mono ?_; rintro e w5 ⟨v, rfl, HB, hb5⟩
        simp only [Option.isSome_some, Option.getD_some] at HB ⊢
        have HBb := HB
        obtain ⟨B0, k0, d0, B1, k1, d1, B2, k2, d2, B3, k3, d3, rfl, _, _, ⟨bl0, _⟩, _⟩ := HBb.open_
        have z5 := hb5.size
        have X5 := (XR.below hb5).alloc (.cells #[.slice B0 k0 d0, .slice B1 k1 d1, .slice B2 k2 d2, .slice B3 k3 d3] 27)
        have N5 := Blk4.new w5 (.slice B0 k0 d0) (.slice B1 k1 d1) (.slice B2 k2 d2) (.slice B3 k3 d3) 27
        have H5 := HB.alloc (.cells #[.slice B0 k0 d0, .slice B1 k1 d1, .slice B2 k2 d2, .slice B3 k3 d3] 27)
        have B5 := (BR.trans (hb5.mono BR.size)).alloc (BR.trans (hb5.mono BR.size)).size (.cells #[.slice B0 k0 d0, .slice B1 k1 d1, .slice B2 k2 d2, .slice B3 k3 d3] 27)
        obtain ⟨y0, y1, y2, y3, yf0, yf1, yf2, yf3⟩ := X5.cells
        obtain ⟨q0, q1, q2, q3, _⟩ := N5.cells
        have X6 := X5.set4 (.slice B0 k0 d0) (.slice B1 k1 d1) (.slice B2 k2 d2) (.slice B3 k3 d3)
        have H6 := (H5.setBlk (HB.far_of (b := w1.heap.size) lX) (.slice B0 k0 d0) (.slice B1 k1 d1) (.slice B2 k2 d2) (.slice B3 k3 d3)).mono (lo' := w.heap.size) (by have := BR.size; omega)
        have B6 := (((B5.setCell (p := ⟨w1.heap.size, 0, none⟩) (by show w.heap.size ≤ w1.heap.size; have := BW1.size; omega) (.slice B0 k0 d0)).setCell (p := ⟨w1.heap.size, 1, none⟩) (by show w.heap.size ≤ w1.heap.size; have := BW1.size; omega) (.slice B1 k1 d1)).setCell (p := ⟨w1.heap.size, 2, none⟩) (by show w.heap.size ≤ w1.heap.size; have := BW1.size; omega) (.slice B2 k2 d2)).setCell (p := ⟨w1.heap.size, 3, none⟩) (by show w.heap.size ≤ w1.heap.size; have := BW1.size; omega) (.slice B3 k3 d3)
        have hk0 : Hid (k0 = n0) := by unfold Hid; have h1 := bl0.out; have : C.h.l.length = k0 := h1; omega
        clear XR HR BR HB X5 N5 H5 B5 SC x0 x1 x2 x3 xf0 xf1 xf2 xf3 bl0
        go_wp2_with fail
        go_roundw
        case rel => exact ⟨k + 1, _, _, _, _, _, _, _, _, _, _, _, _, by omega, by go_num, hk0, X6, H6, B6⟩
        case measure => simp [intOf]; omega
      · obtain rfl : n0 = k := by omega
        obtain ⟨e1, e2⟩ := hend.out
        have HH := implColorHolds_any wr _ _ _ HR
        rw [e1] at HH
        go_wp2_with fail
        refine HH.mono ?_; rintro e w5 ⟨rfl, hb5⟩
        obtain ⟨y0, y1, y2, y3, _⟩ := (XR.below hb5).cells
        have KK := implCountColor_any w5 _ _ _ (HR.below hb5) 0
        rw [e2] at KK
        have B5 := BR.trans (hb5.mono BR.size)
        go_wp2_with fail
        refine KK.mono ?_; rintro e w6 ⟨rfl, hb6⟩
        go_wp2_with fail
        go_ret
        exact ⟨rfl, B5.trans (hb6.mono B5.size)⟩
end Go.Proofs.Ytmngkjcdaaladaa
