/- The exact law of OpValid, walked. -/
import Derived.Test.YtlabljanddjleaaExactO
import Derived.Test.YtlabljanddjleaaIOp
import Derived.Test.YtlabljanddjleaaSOp
namespace Go.Proofs.Ytlabljanddjleaa
open Go.RowKit

set_option maxHeartbeats 1000000 in
theorem lawExactOpValid_walk (w : World) (o : Opv) (n : Int) : Calls Try.prog 3 #[opV o, .int .i64 n] w (LawTrue w) := by
  obtain ⟨k, a, q⟩ := o
  show Calls Try.prog 3 #[.agg #[.int .i64 k, .int .i64 a, .int .i64 q], .int .i64 n] w _
  have S := fun W => specOpValid_any W ⟨k, a, q⟩ n
  have I := fun W => implOpValid_any W ⟨k, a, q⟩ n
  have TO := fun W => toOp_any W ⟨k, a, q⟩
  generalize opB ⟨k, a, q⟩ n = r at S I
  have hne : (r != r) = false := by simp
  go_enter Try.func3, Try.ntmps3
  go_wp2_with fail
  refine (TO _).mono ?_; rintro e w1 ⟨rfl, hb1⟩
  have BW1 : Below w.heap.size w w1 := ((Below.refl w.heap.size w).alloc (Below.refl w.heap.size w).size (.cells #[.int .i64 k, .int .i64 a, .int .i64 q] 23)).trans (hb1.mono ((Below.refl w.heap.size w).alloc (Below.refl w.heap.size w).size (.cells #[.int .i64 k, .int .i64 a, .int .i64 q] 23)).size)
  have zz1 : w.heap.size + 1 ≤ w1.heap.size := by have := hb1.size; simp at this; omega
  have Y_1 := Blk3.below (by exact (Blk3.new w (.int .i64 k) (.int .i64 a) (.int .i64 q) 23)) hb1
  obtain ⟨cY_1_0, cY_1_1, cY_1_2, _⟩ := Y_1.cells
  have lY_1 := Y_1.lt
  go_wp2_with fail
  refine (S _).mono ?_; rintro e w2 ⟨rfl, hb2⟩
  have BW2 : Below w.heap.size w w2 := BW1.trans (hb2.mono BW1.size)
  have zz2 : w1.heap.size ≤ w2.heap.size := hb2.size
  have Y_2 := Blk3.below (by exact Y_1) hb2
  obtain ⟨cY_2_0, cY_2_1, cY_2_2, _⟩ := Y_2.cells
  have lY_2 := Y_2.lt
  go_wp2_with fail
  refine (TO _).mono ?_; rintro e w3 ⟨rfl, hb3⟩
  have BW3 : Below w.heap.size w w3 := BW2.trans (hb3.mono BW2.size)
  have zz3 : w2.heap.size ≤ w3.heap.size := hb3.size
  have Y_3 := Blk3.below (by exact Y_2) hb3
  obtain ⟨cY_3_0, cY_3_1, cY_3_2, _⟩ := Y_3.cells
  have lY_3 := Y_3.lt
  go_wp2_with fail
  refine (I _).mono ?_; rintro e w4 ⟨rfl, hb4⟩
  have BW4 : Below w.heap.size w w4 := BW3.trans (hb4.mono BW3.size)
  have zz4 : w3.heap.size ≤ w4.heap.size := hb4.size
  have Y_4 := Blk3.below (by exact Y_3) hb4
  obtain ⟨cY_4_0, cY_4_1, cY_4_2, _⟩ := Y_4.cells
  have lY_4 := Y_4.lt
  go_wp2_with fail
  go_ret
  exact ⟨rfl, BW4⟩
end Go.Proofs.Ytlabljanddjleaa
