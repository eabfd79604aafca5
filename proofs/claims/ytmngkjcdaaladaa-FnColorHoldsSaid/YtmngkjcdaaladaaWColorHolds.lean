/- The law FnColorHolds, walked. -/
import Derived.Test.YtmngkjcdaaladaaCaseC
import Derived.Test.YtmngkjcdaaladaaPureC
import Derived.Test.YtmngkjcdaaladaaWLaw
import Derived.Test.YtmngkjcdaaladaaICol2
import Derived.Test.YtmngkjcdaaladaaIHolds
namespace Go.Proofs.Ytmngkjcdaaladaa
open Go.RowKit

set_option maxRecDepth 100000 in
set_option maxHeartbeats 4000000 in
theorem lawColorHolds_walk (w : World) (A : Option Addr) (n c : Nat) (h : Inp w A n c) :
    Calls Try.prog 7 #[.slice A n c] w (LawTrue w) := by
  by_cases hbig : 1048576 < n
  · go_enter Try.func7, Try.ntmps7
    go_wp2_with fail
    go_ret
    exact ⟨rfl, Below.refl _ _⟩
  go_enter Try.func7, Try.ntmps7
  go_wp2_with fail
  refine (drawColorHolds_any _ _ _ _ h).mono ?_; rintro e w1 ⟨v, C, rfl, HA, hb1⟩
  have BW1 : Below w.heap.size w w1 := (Below.refl w.heap.size w).trans (hb1.mono (Below.refl w.heap.size w).size)
  have zz1 : w.heap.size ≤ w1.heap.size := hb1.size
  have HAo := HA
  obtain ⟨A0, n0, c0, A1, n1, c1, A2, n2, c2, A3, n3, c3, rfl, hh, ⟨r0, r1, r2, r3⟩, ⟨l0, l1, l2, l3⟩, ⟨mm0, mm1, mm2, mm3⟩, _⟩ := HAo.open_
  have H := fun W lo v hW => implColorHolds_any W lo v C hW
  have S := fun W lo v hW => specColorHolds_any W lo v C hW
  have V := fun W lo v hW => implColoredValid_any W lo v C hW
  rcases ev : cvB C
  · rw [ev] at V
    have hz : holdsB C = false := by unfold holdsB; rw [ev]; rfl
    rw [hz] at H S
    clear hz ev
    go_wp2_with fail
    refine (H _ _ _ (HA.alloc (.cells #[.slice A0 n0 c0, .slice A1 n1 c1, .slice A2 n2 c2, .slice A3 n3 c3] 27))).mono ?_; rintro e w2 ⟨rfl, hb2⟩
    have BW2 : Below w.heap.size w w2 := (BW1.alloc BW1.size (.cells #[.slice A0 n0 c0, .slice A1 n1 c1, .slice A2 n2 c2, .slice A3 n3 c3] 27)).trans (hb2.mono (BW1.alloc BW1.size (.cells #[.slice A0 n0 c0, .slice A1 n1 c1, .slice A2 n2 c2, .slice A3 n3 c3] 27)).size)
    have zz2 : w1.heap.size + 1 ≤ w2.heap.size := by have := hb2.size; simp at this; omega
    have HA_2 := Cv.below (by exact (HA.alloc (.cells #[.slice A0 n0 c0, .slice A1 n1 c1, .slice A2 n2 c2, .slice A3 n3 c3] 27))) hb2
    have X_2 := Blk4.below (by exact (Blk4.new w1 (.slice A0 n0 c0) (.slice A1 n1 c1) (.slice A2 n2 c2) (.slice A3 n3 c3) 27)) hb2
    obtain ⟨cX_2_0, cX_2_1, cX_2_2, cX_2_3, _⟩ := X_2.cells
    have lX_2 := X_2.lt
    go_wp2_with fail
    refine (S _ _ _ HA_2).mono ?_; rintro e w3 ⟨rfl, hb3⟩
    have BW3 : Below w.heap.size w w3 := BW2.trans (hb3.mono BW2.size)
    have zz3 : w2.heap.size ≤ w3.heap.size := hb3.size
    have HA_3 := Cv.below (by exact HA_2) hb3
    have X_3 := Blk4.below (by exact X_2) hb3
    obtain ⟨cX_3_0, cX_3_1, cX_3_2, cX_3_3, _⟩ := X_3.cells
    have lX_3 := X_3.lt
    go_wp2_with fail
    refine (V _ _ _ HA_3).mono ?_; rintro e w4 ⟨rfl, hb4⟩
    have BW4 : Below w.heap.size w w4 := BW3.trans (hb4.mono BW3.size)
    have zz4 : w3.heap.size ≤ w4.heap.size := hb4.size
    have HA_4 := Cv.below (by exact HA_3) hb4
    have X_4 := Blk4.below (by exact X_3) hb4
    obtain ⟨cX_4_0, cX_4_1, cX_4_2, cX_4_3, _⟩ := X_4.cells
    have lX_4 := X_4.lt
    go_wp2_with fail
    refine (S _ _ _ HA_4).mono ?_; rintro e w5 ⟨rfl, hb5⟩
    have BW5 : Below w.heap.size w w5 := BW4.trans (hb5.mono BW4.size)
    have zz5 : w4.heap.size ≤ w5.heap.size := hb5.size
    have HA_5 := Cv.below (by exact HA_4) hb5
    have X_5 := Blk4.below (by exact X_4) hb5
    obtain ⟨cX_5_0, cX_5_1, cX_5_2, cX_5_3, _⟩ := X_5.cells
    have lX_5 := X_5.lt
    go_wp2_with fail
    go_ret
    exact ⟨rfl, BW5⟩
  · rw [ev] at V
    have J2 := fun W lo v hW => implCountColor_any W lo v C hW 2
    have J0 := fun W lo v hW => implCountColor_any W lo v C hW 0
    have hc : ∀ x, countO C x = (C.c.count x : Int) := fun x => by unfold countO; rw [if_pos ev]
    rw [hc] at J2 J0
    have h2 : C.c.count 2 = 0 → holdsB C = true := fun e => (holdsB_iff ev).2 (holds_noblack e)
    have h0 : C.c.count 0 = 0 → holdsB C = true := fun e => (holdsB_iff ev).2 (holds_nowhite e)
    generalize holdsB C = r at *
    generalize C.c.count 2 = q2 at *
    generalize C.c.count 0 = q0 at *
    clear hc ev
    by_cases e2 : q2 = 0
    · subst e2
      obtain rfl := h2 rfl
      clear h2 h0
      go_wp2_with fail
      refine (H _ _ _ (HA.alloc (.cells #[.slice A0 n0 c0, .slice A1 n1 c1, .slice A2 n2 c2, .slice A3 n3 c3] 27))).mono ?_; rintro e w2 ⟨rfl, hb2⟩
      have BW2 : Below w.heap.size w w2 := (BW1.alloc BW1.size (.cells #[.slice A0 n0 c0, .slice A1 n1 c1, .slice A2 n2 c2, .slice A3 n3 c3] 27)).trans (hb2.mono (BW1.alloc BW1.size (.cells #[.slice A0 n0 c0, .slice A1 n1 c1, .slice A2 n2 c2, .slice A3 n3 c3] 27)).size)
      have zz2 : w1.heap.size + 1 ≤ w2.heap.size := by have := hb2.size; simp at this; omega
      have HA_2 := Cv.below (by exact (HA.alloc (.cells #[.slice A0 n0 c0, .slice A1 n1 c1, .slice A2 n2 c2, .slice A3 n3 c3] 27))) hb2
      have X_2 := Blk4.below (by exact (Blk4.new w1 (.slice A0 n0 c0) (.slice A1 n1 c1) (.slice A2 n2 c2) (.slice A3 n3 c3) 27)) hb2
      obtain ⟨cX_2_0, cX_2_1, cX_2_2, cX_2_3, _⟩ := X_2.cells
      have lX_2 := X_2.lt
      go_wp2_with fail
      refine (S _ _ _ HA_2).mono ?_; rintro e w3 ⟨rfl, hb3⟩
      have BW3 : Below w.heap.size w w3 := BW2.trans (hb3.mono BW2.size)
      have zz3 : w2.heap.size ≤ w3.heap.size := hb3.size
      have HA_3 := Cv.below (by exact HA_2) hb3
      have X_3 := Blk4.below (by exact X_2) hb3
      obtain ⟨cX_3_0, cX_3_1, cX_3_2, cX_3_3, _⟩ := X_3.cells
      have lX_3 := X_3.lt
      go_wp2_with fail
      refine (V _ _ _ HA_3).mono ?_; rintro e w4 ⟨rfl, hb4⟩
      have BW4 : Below w.heap.size w w4 := BW3.trans (hb4.mono BW3.size)
      have zz4 : w3.heap.size ≤ w4.heap.size := hb4.size
      have HA_4 := Cv.below (by exact HA_3) hb4
      have X_4 := Blk4.below (by exact X_3) hb4
      obtain ⟨cX_4_0, cX_4_1, cX_4_2, cX_4_3, _⟩ := X_4.cells
      have lX_4 := X_4.lt
      go_wp2_with fail
      refine (J2 _ _ _ HA_4).mono ?_; rintro e w5 ⟨rfl, hb5⟩
      have BW5 : Below w.heap.size w w5 := BW4.trans (hb5.mono BW4.size)
      have zz5 : w4.heap.size ≤ w5.heap.size := hb5.size
      have HA_5 := Cv.below (by exact HA_4) hb5
      have X_5 := Blk4.below (by exact X_4) hb5
      obtain ⟨cX_5_0, cX_5_1, cX_5_2, cX_5_3, _⟩ := X_5.cells
      have lX_5 := X_5.lt
      go_wp2_with fail
      go_ret
      exact ⟨rfl, BW5⟩
    · have e2b : ((q2 : Int) == 0) = false := by simp; omega
      by_cases e0 : q0 = 0
      · subst e0
        obtain rfl := h0 rfl
        clear h2 h0
        go_wp2_with fail
        refine (H _ _ _ (HA.alloc (.cells #[.slice A0 n0 c0, .slice A1 n1 c1, .slice A2 n2 c2, .slice A3 n3 c3] 27))).mono ?_; rintro e w2 ⟨rfl, hb2⟩
        have BW2 : Below w.heap.size w w2 := (BW1.alloc BW1.size (.cells #[.slice A0 n0 c0, .slice A1 n1 c1, .slice A2 n2 c2, .slice A3 n3 c3] 27)).trans (hb2.mono (BW1.alloc BW1.size (.cells #[.slice A0 n0 c0, .slice A1 n1 c1, .slice A2 n2 c2, .slice A3 n3 c3] 27)).size)
        have zz2 : w1.heap.size + 1 ≤ w2.heap.size := by have := hb2.size; simp at this; omega
        have HA_2 := Cv.below (by exact (HA.alloc (.cells #[.slice A0 n0 c0, .slice A1 n1 c1, .slice A2 n2 c2, .slice A3 n3 c3] 27))) hb2
        have X_2 := Blk4.below (by exact (Blk4.new w1 (.slice A0 n0 c0) (.slice A1 n1 c1) (.slice A2 n2 c2) (.slice A3 n3 c3) 27)) hb2
        obtain ⟨cX_2_0, cX_2_1, cX_2_2, cX_2_3, _⟩ := X_2.cells
        have lX_2 := X_2.lt
        go_wp2_with fail
        refine (S _ _ _ HA_2).mono ?_; rintro e w3 ⟨rfl, hb3⟩
        have BW3 : Below w.heap.size w w3 := BW2.trans (hb3.mono BW2.size)
        have zz3 : w2.heap.size ≤ w3.heap.size := hb3.size
        have HA_3 := Cv.below (by exact HA_2) hb3
        have X_3 := Blk4.below (by exact X_2) hb3
        obtain ⟨cX_3_0, cX_3_1, cX_3_2, cX_3_3, _⟩ := X_3.cells
        have lX_3 := X_3.lt
        go_wp2_with fail
        refine (V _ _ _ HA_3).mono ?_; rintro e w4 ⟨rfl, hb4⟩
        have BW4 : Below w.heap.size w w4 := BW3.trans (hb4.mono BW3.size)
        have zz4 : w3.heap.size ≤ w4.heap.size := hb4.size
        have HA_4 := Cv.below (by exact HA_3) hb4
        have X_4 := Blk4.below (by exact X_3) hb4
        obtain ⟨cX_4_0, cX_4_1, cX_4_2, cX_4_3, _⟩ := X_4.cells
        have lX_4 := X_4.lt
        go_wp2_with fail
        refine (J2 _ _ _ HA_4).mono ?_; rintro e w5 ⟨rfl, hb5⟩
        have BW5 : Below w.heap.size w w5 := BW4.trans (hb5.mono BW4.size)
        have zz5 : w4.heap.size ≤ w5.heap.size := hb5.size
        have HA_5 := Cv.below (by exact HA_4) hb5
        have X_5 := Blk4.below (by exact X_4) hb5
        obtain ⟨cX_5_0, cX_5_1, cX_5_2, cX_5_3, _⟩ := X_5.cells
        have lX_5 := X_5.lt
        go_wp2_with fail
        refine (J0 _ _ _ HA_5).mono ?_; rintro e w6 ⟨rfl, hb6⟩
        have BW6 : Below w.heap.size w w6 := BW5.trans (hb6.mono BW5.size)
        have zz6 : w5.heap.size ≤ w6.heap.size := hb6.size
        have HA_6 := Cv.below (by exact HA_5) hb6
        have X_6 := Blk4.below (by exact X_5) hb6
        obtain ⟨cX_6_0, cX_6_1, cX_6_2, cX_6_3, _⟩ := X_6.cells
        have lX_6 := X_6.lt
        go_wp2_with fail
        go_ret
        exact ⟨rfl, BW6⟩
      · have e0b : ((q0 : Int) == 0) = false := by simp; omega
        have hrr : (r != r) = false := by simp
        clear h2 h0
        go_wp2_with fail
        refine (H _ _ _ (HA.alloc (.cells #[.slice A0 n0 c0, .slice A1 n1 c1, .slice A2 n2 c2, .slice A3 n3 c3] 27))).mono ?_; rintro e w2 ⟨rfl, hb2⟩
        have BW2 : Below w.heap.size w w2 := (BW1.alloc BW1.size (.cells #[.slice A0 n0 c0, .slice A1 n1 c1, .slice A2 n2 c2, .slice A3 n3 c3] 27)).trans (hb2.mono (BW1.alloc BW1.size (.cells #[.slice A0 n0 c0, .slice A1 n1 c1, .slice A2 n2 c2, .slice A3 n3 c3] 27)).size)
        have zz2 : w1.heap.size + 1 ≤ w2.heap.size := by have := hb2.size; simp at this; omega
        have HA_2 := Cv.below (by exact (HA.alloc (.cells #[.slice A0 n0 c0, .slice A1 n1 c1, .slice A2 n2 c2, .slice A3 n3 c3] 27))) hb2
        have X_2 := Blk4.below (by exact (Blk4.new w1 (.slice A0 n0 c0) (.slice A1 n1 c1) (.slice A2 n2 c2) (.slice A3 n3 c3) 27)) hb2
        obtain ⟨cX_2_0, cX_2_1, cX_2_2, cX_2_3, _⟩ := X_2.cells
        have lX_2 := X_2.lt
        go_wp2_with fail
        refine (S _ _ _ HA_2).mono ?_; rintro e w3 ⟨rfl, hb3⟩
        have BW3 : Below w.heap.size w w3 := BW2.trans (hb3.mono BW2.size)
        have zz3 : w2.heap.size ≤ w3.heap.size := hb3.size
        have HA_3 := Cv.below (by exact HA_2) hb3
        have X_3 := Blk4.below (by exact X_2) hb3
        obtain ⟨cX_3_0, cX_3_1, cX_3_2, cX_3_3, _⟩ := X_3.cells
        have lX_3 := X_3.lt
        go_wp2_with fail
        refine (V _ _ _ HA_3).mono ?_; rintro e w4 ⟨rfl, hb4⟩
        have BW4 : Below w.heap.size w w4 := BW3.trans (hb4.mono BW3.size)
        have zz4 : w3.heap.size ≤ w4.heap.size := hb4.size
        have HA_4 := Cv.below (by exact HA_3) hb4
        have X_4 := Blk4.below (by exact X_3) hb4
        obtain ⟨cX_4_0, cX_4_1, cX_4_2, cX_4_3, _⟩ := X_4.cells
        have lX_4 := X_4.lt
        go_wp2_with fail
        refine (J2 _ _ _ HA_4).mono ?_; rintro e w5 ⟨rfl, hb5⟩
        have BW5 : Below w.heap.size w w5 := BW4.trans (hb5.mono BW4.size)
        have zz5 : w4.heap.size ≤ w5.heap.size := hb5.size
        have HA_5 := Cv.below (by exact HA_4) hb5
        have X_5 := Blk4.below (by exact X_4) hb5
        obtain ⟨cX_5_0, cX_5_1, cX_5_2, cX_5_3, _⟩ := X_5.cells
        have lX_5 := X_5.lt
        go_wp2_with fail
        refine (J0 _ _ _ HA_5).mono ?_; rintro e w6 ⟨rfl, hb6⟩
        have BW6 : Below w.heap.size w w6 := BW5.trans (hb6.mono BW5.size)
        have zz6 : w5.heap.size ≤ w6.heap.size := hb6.size
        have HA_6 := Cv.below (by exact HA_5) hb6
        have X_6 := Blk4.below (by exact X_5) hb6
        obtain ⟨cX_6_0, cX_6_1, cX_6_2, cX_6_3, _⟩ := X_6.cells
        have lX_6 := X_6.lt
        go_wp2_with fail
        go_ret
        exact ⟨rfl, BW6⟩
end Go.Proofs.Ytmngkjcdaaladaa
