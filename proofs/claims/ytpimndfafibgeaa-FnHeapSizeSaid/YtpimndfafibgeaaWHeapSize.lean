/- The law FnHeapSize, walked. -/
import Derived.Test.YtpimndfafibgeaaDFormatHeap
import Derived.Test.YtpimndfafibgeaaSFmt
import Derived.Test.YtpimndfafibgeaaWLaw
namespace Go.Proofs.Ytpimndfafibgeaa
open Go.RowKit

set_option maxRecDepth 100000 in
set_option maxHeartbeats 2000000 in
theorem lawHeapSize_walk (w : World) (A : Option Addr) (n c : Nat) (h : Inp w A n c) :
    Calls Try.prog 5 #[.slice A n c] w (LawTrue w) := by
  by_cases hbig : 1048576 < n
  · go_enter Try.func5, Try.ntmps5
    go_wp2_with fail
    go_ret
    exact ⟨rfl, Below.refl _ _⟩
  go_enter Try.func5, Try.ntmps5
  go_wp2_with fail
  refine (drawFormatHeap_any _ _ _ _ h).mono ?_; rintro e w1 ⟨v, hp, rfl, HA, hb1⟩
  have BW1 : Below w.heap.size w w1 := (Below.refl w.heap.size w).trans (hb1.mono (Below.refl w.heap.size w).size)
  have zz1 := hb1.size
  have I := fun W v hW => implFmt_any W w.heap.size v hp hW
  have S := fun W v hW => specFmt_any W w.heap.size v hp hW
  have HAo := HA
  obtain ⟨A0, n0, c0, A1, n1, c1, A2, n2, c2, rfl, _, ⟨l0, l1, l2⟩, _⟩ := HAo.open_
  rcases ev : hvB hp
  · have hf : fmtL hp = [] := by unfold fmtL; rw [ev]; simp
    rw [hf] at I S
    clear ev hf
    go_wp2_with fail
    refine (I _ _ (HA.alloc (.cells #[.slice A0 n0 c0, .slice A1 n1 c1, .slice A2 n2 c2] 25))).mono ?_; rintro e w2 ⟨rfl, hb2⟩
    have BW2 : Below w.heap.size w w2 := (BW1.alloc BW1.size (.cells #[.slice A0 n0 c0, .slice A1 n1 c1, .slice A2 n2 c2] 25)).trans (hb2.mono (BW1.alloc BW1.size (.cells #[.slice A0 n0 c0, .slice A1 n1 c1, .slice A2 n2 c2] 25)).size)
    have zz2 := hb2.size
    have HA_2 := Hv.below (by exact (HA.alloc (.cells #[.slice A0 n0 c0, .slice A1 n1 c1, .slice A2 n2 c2] 25))) hb2
    have X_2 := Blk3.below (by exact (Blk3.new w1 (.slice A0 n0 c0) (.slice A1 n1 c1) (.slice A2 n2 c2) 25)) hb2
    obtain ⟨cX_2_0, cX_2_1, cX_2_2, _⟩ := X_2.cells
    have lX_2 := X_2.lt
    go_wp2_with fail
    refine (S _ _ HA_2).mono ?_; rintro e w3 ⟨rfl, hb3⟩
    have BW3 : Below w.heap.size w w3 := BW2.trans (hb3.mono BW2.size)
    have zz3 := hb3.size
    have HA_3 := Hv.below (by exact HA_2) hb3
    have X_3 := Blk3.below (by exact X_2) hb3
    obtain ⟨cX_3_0, cX_3_1, cX_3_2, _⟩ := X_3.cells
    have lX_3 := X_3.lt
    go_wp2_with fail
    refine (S _ _ HA_3).mono ?_; rintro e w4 ⟨rfl, hb4⟩
    have BW4 : Below w.heap.size w w4 := BW3.trans (hb4.mono BW3.size)
    have zz4 := hb4.size
    have HA_4 := Hv.below (by exact HA_3) hb4
    have X_4 := Blk3.below (by exact X_3) hb4
    obtain ⟨cX_4_0, cX_4_1, cX_4_2, _⟩ := X_4.cells
    have lX_4 := X_4.lt
    go_wp2_with fail
    go_ret
    exact ⟨rfl, BW4⟩
  · have hf : fmtL hp = fmtV hp := by unfold fmtL; rw [if_pos ev]
    have hfl := fmtV_len hp
    have hl := hvB_len ev
    rw [hf] at I S
    have u0 : n0 ≤ 8 ∧ n2 ≤ 3 := by have := l0.out; have := l2.out; omega
    obtain ⟨u0a, u0b⟩ := u0
    generalize fmtV hp = s at I S hfl
    have hs0 : (ByteArray.mk s.toArray).size = 3 * n0 + 2 * n2 + 1 := by have := l0.out; have := l2.out; simp [ByteArray.size]; omega
    have hne : s.isEmpty = false := by cases s with | nil => simp at hfl | cons a s => rfl
    clear ev hf hfl hl
    go_wp2_with fail
    refine (I _ _ (HA.alloc (.cells #[.slice A0 n0 c0, .slice A1 n1 c1, .slice A2 n2 c2] 25))).mono ?_; rintro e w2 ⟨rfl, hb2⟩
    have BW2 : Below w.heap.size w w2 := (BW1.alloc BW1.size (.cells #[.slice A0 n0 c0, .slice A1 n1 c1, .slice A2 n2 c2] 25)).trans (hb2.mono (BW1.alloc BW1.size (.cells #[.slice A0 n0 c0, .slice A1 n1 c1, .slice A2 n2 c2] 25)).size)
    have zz2 := hb2.size
    have HA_2 := Hv.below (by exact (HA.alloc (.cells #[.slice A0 n0 c0, .slice A1 n1 c1, .slice A2 n2 c2] 25))) hb2
    have X_2 := Blk3.below (by exact (Blk3.new w1 (.slice A0 n0 c0) (.slice A1 n1 c1) (.slice A2 n2 c2) 25)) hb2
    obtain ⟨cX_2_0, cX_2_1, cX_2_2, _⟩ := X_2.cells
    have lX_2 := X_2.lt
    go_wp2_with fail
    refine (S _ _ HA_2).mono ?_; rintro e w3 ⟨rfl, hb3⟩
    have BW3 : Below w.heap.size w w3 := BW2.trans (hb3.mono BW2.size)
    have zz3 := hb3.size
    have HA_3 := Hv.below (by exact HA_2) hb3
    have X_3 := Blk3.below (by exact X_2) hb3
    obtain ⟨cX_3_0, cX_3_1, cX_3_2, _⟩ := X_3.cells
    have lX_3 := X_3.lt
    go_wp2_with fail
    go_ret
    exact ⟨rfl, BW3⟩
end Go.Proofs.Ytpimndfafibgeaa
