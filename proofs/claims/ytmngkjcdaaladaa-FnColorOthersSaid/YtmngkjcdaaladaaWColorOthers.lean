/- The law FnColorOthers, walked. -/
import Derived.Test.YtmngkjcdaaladaaCaseC
import Derived.Test.YtmngkjcdaaladaaPureC
import Derived.Test.YtmngkjcdaaladaaWLaw
import Derived.Test.YtmngkjcdaaladaaICol2
import Derived.Test.YtmngkjcdaaladaaSCountC
namespace Go.Proofs.Ytmngkjcdaaladaa
open Go.RowKit

theorem countO_bd (C : Cp) (x : Int) : 0 ≤ countO C x ∧ countO C x ≤ C.c.length := by
  unfold countO
  split
  · exact ⟨by omega, by have := List.count_le_length (a := x) (l := C.c); omega⟩
  · exact ⟨Int.le_refl _, by omega⟩
theorem countO_other (C : Cp) {x : Int} (hx : x < 0 ∨ 2 < x) : countO C x = 0 := by
  unfold countO
  split
  · rename_i hv
    obtain ⟨_, _, h⟩ := cvB_parts hv
    rw [count_zero_of (fun hm => by have := h x hm; omega)]; rfl
  · rfl

set_option maxRecDepth 100000 in
set_option maxHeartbeats 4000000 in
theorem lawColorOthers_walk (w : World) (A : Option Addr) (n c : Nat) (h : Inp w A n c) :
    Calls Try.prog 14 #[.slice A n c] w (LawTrue w) := by
  by_cases hbig : 1048576 < n
  · go_enter Try.func14, Try.ntmps14
    go_wp2_with fail
    go_ret
    exact ⟨rfl, Below.refl _ _⟩
  go_enter Try.func14, Try.ntmps14
  go_wp2_with fail
  refine (drawCountColor_any _ _ _ _ h).mono ?_; rintro e w1 ⟨v, C, x, rfl, HA, hb1⟩
  have BW1 : Below w.heap.size w w1 := (Below.refl w.heap.size w).trans (hb1.mono (Below.refl w.heap.size w).size)
  have zz1 : w.heap.size ≤ w1.heap.size := hb1.size
  have HAo := HA
  obtain ⟨A0, n0, c0, A1, n1, c1, A2, n2, c2, A3, n3, c3, rfl, hh, ⟨r0, r1, r2, r3⟩, ⟨l0, l1, l2, l3⟩, ⟨mm0, mm1, mm2, mm3⟩, _⟩ := HAo.open_
  have I := fun W lo v hW => implCountColor_any W lo v C hW x
  have J := fun W lo v hW => implCountColor_any W lo v C hW (-1)
  have S := fun W lo v hW => specCountColor_any W lo v C hW x
  rw [countO_other C (.inl (by omega) : (-1 : Int) < 0 ∨ 2 < (-1 : Int))] at J
  obtain ⟨hn0, hn1⟩ := countO_bd C x
  have ho := countO_other C (x := x)
  have hlen := l3.out
  generalize countO C x = m at I S hn0 hn1 ho
  have hm3 : m ≤ (n3 : Int) := by omega
  clear hn1
  by_cases hx0 : 0 ≤ x
  · by_cases hx2 : x ≤ 2
    · clear ho
      go_wp2_with fail
      refine (I _ _ _ (HA.alloc (.cells #[.slice A0 n0 c0, .slice A1 n1 c1, .slice A2 n2 c2, .slice A3 n3 c3] 27))).mono ?_; rintro e w2 ⟨rfl, hb2⟩
      have BW2 : Below w.heap.size w w2 := (BW1.alloc BW1.size (.cells #[.slice A0 n0 c0, .slice A1 n1 c1, .slice A2 n2 c2, .slice A3 n3 c3] 27)).trans (hb2.mono (BW1.alloc BW1.size (.cells #[.slice A0 n0 c0, .slice A1 n1 c1, .slice A2 n2 c2, .slice A3 n3 c3] 27)).size)
      have zz2 : w1.heap.size + 1 ≤ w2.heap.size := by have := hb2.size; simp at this; omega
      have HA_2 := Cv.below (by exact (HA.alloc (.cells #[.slice A0 n0 c0, .slice A1 n1 c1, .slice A2 n2 c2, .slice A3 n3 c3] 27))) hb2
      have X_2 := Blk4.below (by exact (Blk4.new w1 (.slice A0 n0 c0) (.slice A1 n1 c1) (.slice A2 n2 c2) (.slice A3 n3 c3) 27)) hb2
      obtain ⟨cX_2_0, cX_2_1, cX_2_2, cX_2_3, _⟩ := X_2.cells
      have lX_2 := X_2.lt
      go_wp2_with fail
      refine (S _ _ _ HA_2).mono ?_; rintro e w3 ⟨rfl, hb3⟩
      have BW3 : Below w.heap.size w w3 := BW2.trans (hb3.mono BW2.size)
      have zz3 : w2.heap.size ≤ w3.heap.size := hb3.size
      have HA_3 := Cv.below (by exact HA_2) hb3
      have X_3 := Blk4.below (by exact X_2) hb3
      obtain ⟨cX_3_0, cX_3_1, cX_3_2, cX_3_3, _⟩ := X_3.cells
      have lX_3 := X_3.lt
      go_wp2_with fail
      refine (J _ _ _ HA_3).mono ?_; rintro e w4 ⟨rfl, hb4⟩
      have BW4 : Below w.heap.size w w4 := BW3.trans (hb4.mono BW3.size)
      have zz4 : w3.heap.size ≤ w4.heap.size := hb4.size
      have HA_4 := Cv.below (by exact HA_3) hb4
      have X_4 := Blk4.below (by exact X_3) hb4
      obtain ⟨cX_4_0, cX_4_1, cX_4_2, cX_4_3, _⟩ := X_4.cells
      have lX_4 := X_4.lt
      go_wp2_with fail
      go_ret
      exact ⟨by simp, BW4⟩
    · obtain rfl := ho (.inr (by omega))
      go_wp2_with fail
      refine (I _ _ _ (HA.alloc (.cells #[.slice A0 n0 c0, .slice A1 n1 c1, .slice A2 n2 c2, .slice A3 n3 c3] 27))).mono ?_; rintro e w2 ⟨rfl, hb2⟩
      have BW2 : Below w.heap.size w w2 := (BW1.alloc BW1.size (.cells #[.slice A0 n0 c0, .slice A1 n1 c1, .slice A2 n2 c2, .slice A3 n3 c3] 27)).trans (hb2.mono (BW1.alloc BW1.size (.cells #[.slice A0 n0 c0, .slice A1 n1 c1, .slice A2 n2 c2, .slice A3 n3 c3] 27)).size)
      have zz2 : w1.heap.size + 1 ≤ w2.heap.size := by have := hb2.size; simp at this; omega
      have HA_2 := Cv.below (by exact (HA.alloc (.cells #[.slice A0 n0 c0, .slice A1 n1 c1, .slice A2 n2 c2, .slice A3 n3 c3] 27))) hb2
      have X_2 := Blk4.below (by exact (Blk4.new w1 (.slice A0 n0 c0) (.slice A1 n1 c1) (.slice A2 n2 c2) (.slice A3 n3 c3) 27)) hb2
      obtain ⟨cX_2_0, cX_2_1, cX_2_2, cX_2_3, _⟩ := X_2.cells
      have lX_2 := X_2.lt
      go_wp2_with fail
      refine (S _ _ _ HA_2).mono ?_; rintro e w3 ⟨rfl, hb3⟩
      have BW3 : Below w.heap.size w w3 := BW2.trans (hb3.mono BW2.size)
      have zz3 : w2.heap.size ≤ w3.heap.size := hb3.size
      have HA_3 := Cv.below (by exact HA_2) hb3
      have X_3 := Blk4.below (by exact X_2) hb3
      obtain ⟨cX_3_0, cX_3_1, cX_3_2, cX_3_3, _⟩ := X_3.cells
      have lX_3 := X_3.lt
      go_wp2_with fail
      refine (J _ _ _ HA_3).mono ?_; rintro e w4 ⟨rfl, hb4⟩
      have BW4 : Below w.heap.size w w4 := BW3.trans (hb4.mono BW3.size)
      have zz4 : w3.heap.size ≤ w4.heap.size := hb4.size
      have HA_4 := Cv.below (by exact HA_3) hb4
      have X_4 := Blk4.below (by exact X_3) hb4
      obtain ⟨cX_4_0, cX_4_1, cX_4_2, cX_4_3, _⟩ := X_4.cells
      have lX_4 := X_4.lt
      go_wp2_with fail
      go_ret
      exact ⟨by simp, BW4⟩
  · obtain rfl := ho (.inl (by omega))
    go_wp2_with fail
    refine (I _ _ _ (HA.alloc (.cells #[.slice A0 n0 c0, .slice A1 n1 c1, .slice A2 n2 c2, .slice A3 n3 c3] 27))).mono ?_; rintro e w2 ⟨rfl, hb2⟩
    have BW2 : Below w.heap.size w w2 := (BW1.alloc BW1.size (.cells #[.slice A0 n0 c0, .slice A1 n1 c1, .slice A2 n2 c2, .slice A3 n3 c3] 27)).trans (hb2.mono (BW1.alloc BW1.size (.cells #[.slice A0 n0 c0, .slice A1 n1 c1, .slice A2 n2 c2, .slice A3 n3 c3] 27)).size)
    have zz2 : w1.heap.size + 1 ≤ w2.heap.size := by have := hb2.size; simp at this; omega
    have HA_2 := Cv.below (by exact (HA.alloc (.cells #[.slice A0 n0 c0, .slice A1 n1 c1, .slice A2 n2 c2, .slice A3 n3 c3] 27))) hb2
    have X_2 := Blk4.below (by exact (Blk4.new w1 (.slice A0 n0 c0) (.slice A1 n1 c1) (.slice A2 n2 c2) (.slice A3 n3 c3) 27)) hb2
    obtain ⟨cX_2_0, cX_2_1, cX_2_2, cX_2_3, _⟩ := X_2.cells
    have lX_2 := X_2.lt
    go_wp2_with fail
    refine (S _ _ _ HA_2).mono ?_; rintro e w3 ⟨rfl, hb3⟩
    have BW3 : Below w.heap.size w w3 := BW2.trans (hb3.mono BW2.size)
    have zz3 : w2.heap.size ≤ w3.heap.size := hb3.size
    have HA_3 := Cv.below (by exact HA_2) hb3
    have X_3 := Blk4.below (by exact X_2) hb3
    obtain ⟨cX_3_0, cX_3_1, cX_3_2, cX_3_3, _⟩ := X_3.cells
    have lX_3 := X_3.lt
    go_wp2_with fail
    refine (J _ _ _ HA_3).mono ?_; rintro e w4 ⟨rfl, hb4⟩
    have BW4 : Below w.heap.size w w4 := BW3.trans (hb4.mono BW3.size)
    have zz4 : w3.heap.size ≤ w4.heap.size := hb4.size
    have HA_4 := Cv.below (by exact HA_3) hb4
    have X_4 := Blk4.below (by exact X_3) hb4
    obtain ⟨cX_4_0, cX_4_1, cX_4_2, cX_4_3, _⟩ := X_4.cells
    have lX_4 := X_4.lt
    go_wp2_with fail
    go_ret
    exact ⟨by simp, BW4⟩
end Go.Proofs.Ytmngkjcdaaladaa
