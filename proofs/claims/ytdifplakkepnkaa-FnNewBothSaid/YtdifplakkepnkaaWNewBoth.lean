/- The law FnNewBoth, walked. -/
import Derived.Test.YtdifplakkepnkaaBthS
import Derived.Test.YtdifplakkepnkaaBthC
import Derived.Test.YtdifplakkepnkaaBthA
import Derived.Test.YtdifplakkepnkaaLaws0
import Derived.Test.YtdifplakkepnkaaExG
namespace Go.Proofs.Ytdifplakkepnkaa
open Go.RowKit

set_option maxRecDepth 100000 in
set_option maxHeartbeats 6000000 in
theorem lawNewBoth_walk (w : World) (A : Option Addr) (n c : Nat) (h : Inp w A n c) :
    Calls Try.prog 3 #[.slice A n c] w (LawTrue w) := by
  by_cases hbig : 1048576 < n
  · go_enter Try.func3, Try.ntmps3
    go_wp2_with fail
    go_ret
    exact ⟨rfl, Below.refl _ _⟩
  go_enter Try.func3, Try.ntmps3
  go_wp2_with fail
  refine (drawNewBoth_any _ _ _ _ h).mono ?_; rintro e w1 ⟨v, C, os, LA, lc, rfl, HA, HU, -, hb1⟩
  have BW1 : Below w.heap.size w w1 := B_th (Below.refl w.heap.size w) hb1
  have zz1 : w.heap.size ≤ w1.heap.size := hb1.size
  have HAo := HA
  have HUo := HU
  obtain ⟨nl, hnl⟩ : ∃ nl, Hid (os.length = nl) := ⟨_, rfl⟩
  have hn63 : nl ≤ 9223372036854775807 := by have := hnl.out; obtain ⟨_, _, _, q1, q2⟩ := HUo.form; unfold maxLen at q2; omega
  rw [hnl.out] at HU HUo ⊢
  obtain ⟨A0, n0, c0, A1, n1, c1, A2, n2, c2, A3, n3, c3, rfl, -⟩ := Cv.open_ HA
  have I := fun W lo lo2 v u hW hU => optB_of (implNewBoth_any W lo lo2 v u C os hW hU)
  have S := fun W lo lo2 v u hW hU => optB_of (specNewBoth_any W lo lo2 v u C os hW hU)
  rcases ho : newBo C os with _ | B
  · rw [ho] at I S
    simp only [Option.isSome_none, Option.getD_none] at I S
    unfold Bp.zero Gp.zero at I S
    clear ho
    go_wp2_with fail
    refine (I _ _ _ _ _ (HA.alloc (.cells #[.slice A0 n0 c0, .slice A1 n1 c1, .slice A2 n2 c2, .slice A3 n3 c3] 27)) (HU.alloc (.cells #[.slice A0 n0 c0, .slice A1 n1 c1, .slice A2 n2 c2, .slice A3 n3 c3] 27))).mono ?_; rintro e w2 ⟨v2, rfl, HB, hb2⟩
    have BW2 : Below w.heap.size w w2 := B_th (B_al BW1 (.cells #[.slice A0 n0 c0, .slice A1 n1 c1, .slice A2 n2 c2, .slice A3 n3 c3] 27)) hb2
    have zz2 : w1.heap.size + 1 ≤ w2.heap.size := by have := hb2.size; simp at this; omega
    have HA_2 := Cv.below (by exact (HA.alloc (.cells #[.slice A0 n0 c0, .slice A1 n1 c1, .slice A2 n2 c2, .slice A3 n3 c3] 27))) hb2
    have HU_2 := ORow.below (by exact (HU.alloc (.cells #[.slice A0 n0 c0, .slice A1 n1 c1, .slice A2 n2 c2, .slice A3 n3 c3] 27))) hb2
    have X_2 := Blk4.below (by exact (Blk4.new w1 (.slice A0 n0 c0) (.slice A1 n1 c1) (.slice A2 n2 c2) (.slice A3 n3 c3) 27)) hb2
    obtain ⟨cX_2_0, cX_2_1, cX_2_2, cX_2_3, _⟩ := X_2.cells
    have lX_2 := X_2.lt
    replace HB := Bv.mono HB (lo' := w1.heap.size + 1) (by simp)
    have HBo := HB
    obtain ⟨xA0, xn0, xk0, xA1, xn1, xk1, xA2, xn2, xk2, xA3, xn3, xk3, xA4, xn4, xk4, xA5, xn5, xk5, rfl⟩ := Bv.shape HB
    go_wp2_with fail
    refine (S _ _ _ _ _ (HA_2.alloc (.cells #[.slice xA0 xn0 xk0, .slice xA1 xn1 xk1, .slice xA2 xn2 xk2, .slice xA3 xn3 xk3, .int .i64 0, .slice xA4 xn4 xk4, .int .i64 0, .slice xA5 xn5 xk5, .int .i64 0, .bool false] 34)) (HU_2.alloc (.cells #[.slice xA0 xn0 xk0, .slice xA1 xn1 xk1, .slice xA2 xn2 xk2, .slice xA3 xn3 xk3, .int .i64 0, .slice xA4 xn4 xk4, .int .i64 0, .slice xA5 xn5 xk5, .int .i64 0, .bool false] 34))).mono ?_; rintro e w3 ⟨v3, rfl, HC, hb3⟩
    have BW3 : Below w.heap.size w w3 := B_th (B_al BW2 (.cells #[.slice xA0 xn0 xk0, .slice xA1 xn1 xk1, .slice xA2 xn2 xk2, .slice xA3 xn3 xk3, .int .i64 0, .slice xA4 xn4 xk4, .int .i64 0, .slice xA5 xn5 xk5, .int .i64 0, .bool false] 34)) hb3
    have zz3 : w2.heap.size + 1 ≤ w3.heap.size := by have := hb3.size; simp at this; omega
    have HA_3 := Cv.below (by exact (HA_2.alloc (.cells #[.slice xA0 xn0 xk0, .slice xA1 xn1 xk1, .slice xA2 xn2 xk2, .slice xA3 xn3 xk3, .int .i64 0, .slice xA4 xn4 xk4, .int .i64 0, .slice xA5 xn5 xk5, .int .i64 0, .bool false] 34))) hb3
    have HU_3 := ORow.below (by exact (HU_2.alloc (.cells #[.slice xA0 xn0 xk0, .slice xA1 xn1 xk1, .slice xA2 xn2 xk2, .slice xA3 xn3 xk3, .int .i64 0, .slice xA4 xn4 xk4, .int .i64 0, .slice xA5 xn5 xk5, .int .i64 0, .bool false] 34))) hb3
    have X_3 := Blk4.below (by exact (X_2.alloc (.cells #[.slice xA0 xn0 xk0, .slice xA1 xn1 xk1, .slice xA2 xn2 xk2, .slice xA3 xn3 xk3, .int .i64 0, .slice xA4 xn4 xk4, .int .i64 0, .slice xA5 xn5 xk5, .int .i64 0, .bool false] 34))) hb3
    obtain ⟨cX_3_0, cX_3_1, cX_3_2, cX_3_3, _⟩ := X_3.cells
    have lX_3 := X_3.lt
    have HB_3 := Bv.below (by exact (HB.alloc (.cells #[.slice xA0 xn0 xk0, .slice xA1 xn1 xk1, .slice xA2 xn2 xk2, .slice xA3 xn3 xk3, .int .i64 0, .slice xA4 xn4 xk4, .int .i64 0, .slice xA5 xn5 xk5, .int .i64 0, .bool false] 34))) hb3
    have P_3 := Blk10.below (by exact (Blk10.new w2 (.slice xA0 xn0 xk0) (.slice xA1 xn1 xk1) (.slice xA2 xn2 xk2) (.slice xA3 xn3 xk3) (.int .i64 0) (.slice xA4 xn4 xk4) (.int .i64 0) (.slice xA5 xn5 xk5) (.int .i64 0) (.bool false) 34)) hb3
    obtain ⟨⟨cP_3_0, cP_3_1, cP_3_2, cP_3_3, cP_3_4, cP_3_5, cP_3_6, cP_3_7, cP_3_8, cP_3_9⟩, -⟩ := P_3.cells
    have lP_3 := P_3.lt
    replace HC := Bv.mono HC (lo' := w2.heap.size + 1) (by simp)
    have HCo := HC
    obtain ⟨yA0, yn0, yk0, yA1, yn1, yk1, yA2, yn2, yk2, yA3, yn3, yk3, yA4, yn4, yk4, yA5, yn5, yk5, rfl⟩ := Bv.shape HC
    go_wp2_with fail
    refine (implBothSame_any _ _ _ _ _ _ _ (HB_3.alloc (.cells #[.slice yA0 yn0 yk0, .slice yA1 yn1 yk1, .slice yA2 yn2 yk2, .slice yA3 yn3 yk3, .int .i64 0, .slice yA4 yn4 yk4, .int .i64 0, .slice yA5 yn5 yk5, .int .i64 0, .bool false] 34)) (HC.alloc (.cells #[.slice yA0 yn0 yk0, .slice yA1 yn1 yk1, .slice yA2 yn2 yk2, .slice yA3 yn3 yk3, .int .i64 0, .slice yA4 yn4 yk4, .int .i64 0, .slice yA5 yn5 yk5, .int .i64 0, .bool false] 34))).mono ?_; rintro e w4 ⟨rfl, hb4⟩
    have BW4 : Below w.heap.size w w4 := B_th (B_al BW3 (.cells #[.slice yA0 yn0 yk0, .slice yA1 yn1 yk1, .slice yA2 yn2 yk2, .slice yA3 yn3 yk3, .int .i64 0, .slice yA4 yn4 yk4, .int .i64 0, .slice yA5 yn5 yk5, .int .i64 0, .bool false] 34)) hb4
    have zz4 : w3.heap.size + 1 ≤ w4.heap.size := by have := hb4.size; simp at this; omega
    have HA_4 := Cv.below (by exact (HA_3.alloc (.cells #[.slice yA0 yn0 yk0, .slice yA1 yn1 yk1, .slice yA2 yn2 yk2, .slice yA3 yn3 yk3, .int .i64 0, .slice yA4 yn4 yk4, .int .i64 0, .slice yA5 yn5 yk5, .int .i64 0, .bool false] 34))) hb4
    have HU_4 := ORow.below (by exact (HU_3.alloc (.cells #[.slice yA0 yn0 yk0, .slice yA1 yn1 yk1, .slice yA2 yn2 yk2, .slice yA3 yn3 yk3, .int .i64 0, .slice yA4 yn4 yk4, .int .i64 0, .slice yA5 yn5 yk5, .int .i64 0, .bool false] 34))) hb4
    have X_4 := Blk4.below (by exact (X_3.alloc (.cells #[.slice yA0 yn0 yk0, .slice yA1 yn1 yk1, .slice yA2 yn2 yk2, .slice yA3 yn3 yk3, .int .i64 0, .slice yA4 yn4 yk4, .int .i64 0, .slice yA5 yn5 yk5, .int .i64 0, .bool false] 34))) hb4
    obtain ⟨cX_4_0, cX_4_1, cX_4_2, cX_4_3, _⟩ := X_4.cells
    have lX_4 := X_4.lt
    have HB_4 := Bv.below (by exact (HB_3.alloc (.cells #[.slice yA0 yn0 yk0, .slice yA1 yn1 yk1, .slice yA2 yn2 yk2, .slice yA3 yn3 yk3, .int .i64 0, .slice yA4 yn4 yk4, .int .i64 0, .slice yA5 yn5 yk5, .int .i64 0, .bool false] 34))) hb4
    have P_4 := Blk10.below (by exact (P_3.alloc (.cells #[.slice yA0 yn0 yk0, .slice yA1 yn1 yk1, .slice yA2 yn2 yk2, .slice yA3 yn3 yk3, .int .i64 0, .slice yA4 yn4 yk4, .int .i64 0, .slice yA5 yn5 yk5, .int .i64 0, .bool false] 34))) hb4
    obtain ⟨⟨cP_4_0, cP_4_1, cP_4_2, cP_4_3, cP_4_4, cP_4_5, cP_4_6, cP_4_7, cP_4_8, cP_4_9⟩, -⟩ := P_4.cells
    have lP_4 := P_4.lt
    have HC_4 := Bv.below (by exact (HC.alloc (.cells #[.slice yA0 yn0 yk0, .slice yA1 yn1 yk1, .slice yA2 yn2 yk2, .slice yA3 yn3 yk3, .int .i64 0, .slice yA4 yn4 yk4, .int .i64 0, .slice yA5 yn5 yk5, .int .i64 0, .bool false] 34))) hb4
    have Q_4 := Blk10.below (by exact (Blk10.new w3 (.slice yA0 yn0 yk0) (.slice yA1 yn1 yk1) (.slice yA2 yn2 yk2) (.slice yA3 yn3 yk3) (.int .i64 0) (.slice yA4 yn4 yk4) (.int .i64 0) (.slice yA5 yn5 yk5) (.int .i64 0) (.bool false) 34)) hb4
    obtain ⟨⟨cQ_4_0, cQ_4_1, cQ_4_2, cQ_4_3, cQ_4_4, cQ_4_5, cQ_4_6, cQ_4_7, cQ_4_8, cQ_4_9⟩, -⟩ := Q_4.cells
    have lQ_4 := Q_4.lt
    rw [sameBo_self]
    go_wp2_with fail
    refine (implBothSame_any _ _ _ _ _ _ _ HB_4 HC_4).mono ?_; rintro e w5 ⟨rfl, hb5⟩
    have BW5 : Below w.heap.size w w5 := B_th BW4 hb5
    have zz5 : w4.heap.size ≤ w5.heap.size := hb5.size
    have HA_5 := Cv.below (by exact HA_4) hb5
    have HU_5 := ORow.below (by exact HU_4) hb5
    have X_5 := Blk4.below (by exact X_4) hb5
    obtain ⟨cX_5_0, cX_5_1, cX_5_2, cX_5_3, _⟩ := X_5.cells
    have lX_5 := X_5.lt
    have HB_5 := Bv.below (by exact HB_4) hb5
    have P_5 := Blk10.below (by exact P_4) hb5
    obtain ⟨⟨cP_5_0, cP_5_1, cP_5_2, cP_5_3, cP_5_4, cP_5_5, cP_5_6, cP_5_7, cP_5_8, cP_5_9⟩, -⟩ := P_5.cells
    have lP_5 := P_5.lt
    have HC_5 := Bv.below (by exact HC_4) hb5
    have Q_5 := Blk10.below (by exact Q_4) hb5
    obtain ⟨⟨cQ_5_0, cQ_5_1, cQ_5_2, cQ_5_3, cQ_5_4, cQ_5_5, cQ_5_6, cQ_5_7, cQ_5_8, cQ_5_9⟩, -⟩ := Q_5.cells
    have lQ_5 := Q_5.lt
    clear HA_4 HU_4 X_4 cX_4_0 cX_4_1 cX_4_2 cX_4_3 lX_4 HB_4 P_4 cP_4_0 cP_4_1 cP_4_2 cP_4_3 cP_4_4 cP_4_5 cP_4_6 cP_4_7 cP_4_8 cP_4_9 lP_4 HC_4 Q_4 cQ_4_0 cQ_4_1 cQ_4_2 cQ_4_3 cQ_4_4 cQ_4_5 cQ_4_6 cQ_4_7 cQ_4_8 cQ_4_9 lQ_4
    rw [sameBo_self]
    go_wp2_with fail
    go_ret
    exact ⟨rfl, BW5⟩
  · rw [ho] at I S
    simp only [Option.isSome_some, Option.getD_some] at I S
    have ho2 := ho
    unfold newBo at ho2
    split at ho2
    rotate_left
    · cases ho2
    rename_i hbo
    have hst := (gcB_iff.1 (bothB_iff.1 hbo).1).1
    dsimp only at hst
    have e0 : (newG C).getD Gp.zero = ⟨0, List.replicate C.h.l.length 0, 0⟩ := by unfold newG; rw [if_pos hst]; rfl
    rw [e0] at ho2 hbo
    simp only [Option.some.injEq] at ho2
    subst ho2
    clear ho hst e0
    generalize List.replicate C.h.l.length 0 = gcc at *
    go_wp2_with fail
    refine (I _ _ _ _ _ (HA.alloc (.cells #[.slice A0 n0 c0, .slice A1 n1 c1, .slice A2 n2 c2, .slice A3 n3 c3] 27)) (HU.alloc (.cells #[.slice A0 n0 c0, .slice A1 n1 c1, .slice A2 n2 c2, .slice A3 n3 c3] 27))).mono ?_; rintro e w2 ⟨v2, rfl, HB, hb2⟩
    have BW2 : Below w.heap.size w w2 := B_th (B_al BW1 (.cells #[.slice A0 n0 c0, .slice A1 n1 c1, .slice A2 n2 c2, .slice A3 n3 c3] 27)) hb2
    have zz2 : w1.heap.size + 1 ≤ w2.heap.size := by have := hb2.size; simp at this; omega
    have HA_2 := Cv.below (by exact (HA.alloc (.cells #[.slice A0 n0 c0, .slice A1 n1 c1, .slice A2 n2 c2, .slice A3 n3 c3] 27))) hb2
    have HU_2 := ORow.below (by exact (HU.alloc (.cells #[.slice A0 n0 c0, .slice A1 n1 c1, .slice A2 n2 c2, .slice A3 n3 c3] 27))) hb2
    have X_2 := Blk4.below (by exact (Blk4.new w1 (.slice A0 n0 c0) (.slice A1 n1 c1) (.slice A2 n2 c2) (.slice A3 n3 c3) 27)) hb2
    obtain ⟨cX_2_0, cX_2_1, cX_2_2, cX_2_3, _⟩ := X_2.cells
    have lX_2 := X_2.lt
    replace HB := Bv.mono HB (lo' := w1.heap.size + 1) (by simp)
    have HBo := HB
    obtain ⟨xA0, xn0, xk0, xA1, xn1, xk1, xA2, xn2, xk2, xA3, xn3, xk3, xA4, xn4, xk4, xA5, xn5, xk5, rfl⟩ := Bv.shape HB
    go_wp2_with fail
    refine (S _ _ _ _ _ (HA_2.alloc (.cells #[.slice xA0 xn0 xk0, .slice xA1 xn1 xk1, .slice xA2 xn2 xk2, .slice xA3 xn3 xk3, .int .i64 0, .slice xA4 xn4 xk4, .int .i64 0, .slice xA5 xn5 xk5, .int .i64 0, .bool false] 34)) (HU_2.alloc (.cells #[.slice xA0 xn0 xk0, .slice xA1 xn1 xk1, .slice xA2 xn2 xk2, .slice xA3 xn3 xk3, .int .i64 0, .slice xA4 xn4 xk4, .int .i64 0, .slice xA5 xn5 xk5, .int .i64 0, .bool false] 34))).mono ?_; rintro e w3 ⟨v3, rfl, HC, hb3⟩
    have BW3 : Below w.heap.size w w3 := B_th (B_al BW2 (.cells #[.slice xA0 xn0 xk0, .slice xA1 xn1 xk1, .slice xA2 xn2 xk2, .slice xA3 xn3 xk3, .int .i64 0, .slice xA4 xn4 xk4, .int .i64 0, .slice xA5 xn5 xk5, .int .i64 0, .bool false] 34)) hb3
    have zz3 : w2.heap.size + 1 ≤ w3.heap.size := by have := hb3.size; simp at this; omega
    have HA_3 := Cv.below (by exact (HA_2.alloc (.cells #[.slice xA0 xn0 xk0, .slice xA1 xn1 xk1, .slice xA2 xn2 xk2, .slice xA3 xn3 xk3, .int .i64 0, .slice xA4 xn4 xk4, .int .i64 0, .slice xA5 xn5 xk5, .int .i64 0, .bool false] 34))) hb3
    have HU_3 := ORow.below (by exact (HU_2.alloc (.cells #[.slice xA0 xn0 xk0, .slice xA1 xn1 xk1, .slice xA2 xn2 xk2, .slice xA3 xn3 xk3, .int .i64 0, .slice xA4 xn4 xk4, .int .i64 0, .slice xA5 xn5 xk5, .int .i64 0, .bool false] 34))) hb3
    have X_3 := Blk4.below (by exact (X_2.alloc (.cells #[.slice xA0 xn0 xk0, .slice xA1 xn1 xk1, .slice xA2 xn2 xk2, .slice xA3 xn3 xk3, .int .i64 0, .slice xA4 xn4 xk4, .int .i64 0, .slice xA5 xn5 xk5, .int .i64 0, .bool false] 34))) hb3
    obtain ⟨cX_3_0, cX_3_1, cX_3_2, cX_3_3, _⟩ := X_3.cells
    have lX_3 := X_3.lt
    have HB_3 := Bv.below (by exact (HB.alloc (.cells #[.slice xA0 xn0 xk0, .slice xA1 xn1 xk1, .slice xA2 xn2 xk2, .slice xA3 xn3 xk3, .int .i64 0, .slice xA4 xn4 xk4, .int .i64 0, .slice xA5 xn5 xk5, .int .i64 0, .bool false] 34))) hb3
    have P_3 := Blk10.below (by exact (Blk10.new w2 (.slice xA0 xn0 xk0) (.slice xA1 xn1 xk1) (.slice xA2 xn2 xk2) (.slice xA3 xn3 xk3) (.int .i64 0) (.slice xA4 xn4 xk4) (.int .i64 0) (.slice xA5 xn5 xk5) (.int .i64 0) (.bool false) 34)) hb3
    obtain ⟨⟨cP_3_0, cP_3_1, cP_3_2, cP_3_3, cP_3_4, cP_3_5, cP_3_6, cP_3_7, cP_3_8, cP_3_9⟩, -⟩ := P_3.cells
    have lP_3 := P_3.lt
    replace HC := Bv.mono HC (lo' := w2.heap.size + 1) (by simp)
    have HCo := HC
    obtain ⟨yA0, yn0, yk0, yA1, yn1, yk1, yA2, yn2, yk2, yA3, yn3, yk3, yA4, yn4, yk4, yA5, yn5, yk5, rfl⟩ := Bv.shape HC
    go_wp2_with fail
    refine (implBothSame_any _ _ _ _ _ _ _ (HB_3.alloc (.cells #[.slice yA0 yn0 yk0, .slice yA1 yn1 yk1, .slice yA2 yn2 yk2, .slice yA3 yn3 yk3, .int .i64 0, .slice yA4 yn4 yk4, .int .i64 0, .slice yA5 yn5 yk5, .int .i64 0, .bool false] 34)) (HC.alloc (.cells #[.slice yA0 yn0 yk0, .slice yA1 yn1 yk1, .slice yA2 yn2 yk2, .slice yA3 yn3 yk3, .int .i64 0, .slice yA4 yn4 yk4, .int .i64 0, .slice yA5 yn5 yk5, .int .i64 0, .bool false] 34))).mono ?_; rintro e w4 ⟨rfl, hb4⟩
    have BW4 : Below w.heap.size w w4 := B_th (B_al BW3 (.cells #[.slice yA0 yn0 yk0, .slice yA1 yn1 yk1, .slice yA2 yn2 yk2, .slice yA3 yn3 yk3, .int .i64 0, .slice yA4 yn4 yk4, .int .i64 0, .slice yA5 yn5 yk5, .int .i64 0, .bool false] 34)) hb4
    have zz4 : w3.heap.size + 1 ≤ w4.heap.size := by have := hb4.size; simp at this; omega
    have HA_4 := Cv.below (by exact (HA_3.alloc (.cells #[.slice yA0 yn0 yk0, .slice yA1 yn1 yk1, .slice yA2 yn2 yk2, .slice yA3 yn3 yk3, .int .i64 0, .slice yA4 yn4 yk4, .int .i64 0, .slice yA5 yn5 yk5, .int .i64 0, .bool false] 34))) hb4
    have HU_4 := ORow.below (by exact (HU_3.alloc (.cells #[.slice yA0 yn0 yk0, .slice yA1 yn1 yk1, .slice yA2 yn2 yk2, .slice yA3 yn3 yk3, .int .i64 0, .slice yA4 yn4 yk4, .int .i64 0, .slice yA5 yn5 yk5, .int .i64 0, .bool false] 34))) hb4
    have X_4 := Blk4.below (by exact (X_3.alloc (.cells #[.slice yA0 yn0 yk0, .slice yA1 yn1 yk1, .slice yA2 yn2 yk2, .slice yA3 yn3 yk3, .int .i64 0, .slice yA4 yn4 yk4, .int .i64 0, .slice yA5 yn5 yk5, .int .i64 0, .bool false] 34))) hb4
    obtain ⟨cX_4_0, cX_4_1, cX_4_2, cX_4_3, _⟩ := X_4.cells
    have lX_4 := X_4.lt
    have HB_4 := Bv.below (by exact (HB_3.alloc (.cells #[.slice yA0 yn0 yk0, .slice yA1 yn1 yk1, .slice yA2 yn2 yk2, .slice yA3 yn3 yk3, .int .i64 0, .slice yA4 yn4 yk4, .int .i64 0, .slice yA5 yn5 yk5, .int .i64 0, .bool false] 34))) hb4
    have P_4 := Blk10.below (by exact (P_3.alloc (.cells #[.slice yA0 yn0 yk0, .slice yA1 yn1 yk1, .slice yA2 yn2 yk2, .slice yA3 yn3 yk3, .int .i64 0, .slice yA4 yn4 yk4, .int .i64 0, .slice yA5 yn5 yk5, .int .i64 0, .bool false] 34))) hb4
    obtain ⟨⟨cP_4_0, cP_4_1, cP_4_2, cP_4_3, cP_4_4, cP_4_5, cP_4_6, cP_4_7, cP_4_8, cP_4_9⟩, -⟩ := P_4.cells
    have lP_4 := P_4.lt
    have HC_4 := Bv.below (by exact (HC.alloc (.cells #[.slice yA0 yn0 yk0, .slice yA1 yn1 yk1, .slice yA2 yn2 yk2, .slice yA3 yn3 yk3, .int .i64 0, .slice yA4 yn4 yk4, .int .i64 0, .slice yA5 yn5 yk5, .int .i64 0, .bool false] 34))) hb4
    have Q_4 := Blk10.below (by exact (Blk10.new w3 (.slice yA0 yn0 yk0) (.slice yA1 yn1 yk1) (.slice yA2 yn2 yk2) (.slice yA3 yn3 yk3) (.int .i64 0) (.slice yA4 yn4 yk4) (.int .i64 0) (.slice yA5 yn5 yk5) (.int .i64 0) (.bool false) 34)) hb4
    obtain ⟨⟨cQ_4_0, cQ_4_1, cQ_4_2, cQ_4_3, cQ_4_4, cQ_4_5, cQ_4_6, cQ_4_7, cQ_4_8, cQ_4_9⟩, -⟩ := Q_4.cells
    have lQ_4 := Q_4.lt
    rw [sameBo_self]
    go_wp2_with fail
    refine (implBothValid_any _ _ _ _ HB_4).mono ?_; rintro e w5 ⟨rfl, hb5⟩
    have BW5 : Below w.heap.size w w5 := B_th BW4 hb5
    have zz5 : w4.heap.size ≤ w5.heap.size := hb5.size
    have HA_5 := Cv.below (by exact HA_4) hb5
    have HU_5 := ORow.below (by exact HU_4) hb5
    have X_5 := Blk4.below (by exact X_4) hb5
    obtain ⟨cX_5_0, cX_5_1, cX_5_2, cX_5_3, _⟩ := X_5.cells
    have lX_5 := X_5.lt
    have HB_5 := Bv.below (by exact HB_4) hb5
    have P_5 := Blk10.below (by exact P_4) hb5
    obtain ⟨⟨cP_5_0, cP_5_1, cP_5_2, cP_5_3, cP_5_4, cP_5_5, cP_5_6, cP_5_7, cP_5_8, cP_5_9⟩, -⟩ := P_5.cells
    have lP_5 := P_5.lt
    clear HA_4 HU_4 X_4 cX_4_0 cX_4_1 cX_4_2 cX_4_3 lX_4 HB_4 P_4 cP_4_0 cP_4_1 cP_4_2 cP_4_3 cP_4_4 cP_4_5 cP_4_6 cP_4_7 cP_4_8 cP_4_9 lP_4
    rw [hbo]
    have HBs : Cv w5 _ _ C := (Bv.parts HB_5).1
    have HBu := (Bv.parts HB_5).2
    go_wp2_with fail
    refine (implStoreSame_any _ _ _ _ _ C C HBs HA_5).mono ?_; rintro e w6 ⟨rfl, hb6⟩
    have BW6 : Below w.heap.size w w6 := B_th BW5 hb6
    have zz6 : w5.heap.size ≤ w6.heap.size := hb6.size
    have HA_6 := Cv.below (by exact HA_5) hb6
    have HU_6 := ORow.below (by exact HU_5) hb6
    have X_6 := Blk4.below (by exact X_5) hb6
    obtain ⟨cX_6_0, cX_6_1, cX_6_2, cX_6_3, _⟩ := X_6.cells
    have lX_6 := X_6.lt
    have HB_6 := Bv.below (by exact HB_5) hb6
    have P_6 := Blk10.below (by exact P_5) hb6
    obtain ⟨⟨cP_6_0, cP_6_1, cP_6_2, cP_6_3, cP_6_4, cP_6_5, cP_6_6, cP_6_7, cP_6_8, cP_6_9⟩, -⟩ := P_6.cells
    have lP_6 := P_6.lt
    clear HA_5 HU_5 X_5 cX_5_0 cX_5_1 cX_5_2 cX_5_3 lX_5 HB_5 P_5 cP_5_0 cP_5_1 cP_5_2 cP_5_3 cP_5_4 cP_5_5 cP_5_6 cP_5_7 cP_5_8 cP_5_9 lP_5
    rw [sameC_self]
    have HBl := ORow.below HBu hb6
    have l0 : os.length = xn5 := by obtain ⟨_, _, e9, _, _⟩ := HBl.form; cases e9; rfl
    have l1 : xn5 ≤ 9223372036854775807 := by have := hnl.out; omega
    have CO := ccOps_any w6 _ _ xA5 LA xn5 xk5 nl lc os os HBl l0 l1 HU_6 hnl.out hn63
    simp only [decide_true] at CO
    clear l0 l1
    go_wp2_with fail
    refine CO.mono ?_; rintro e w7 ⟨rfl, nq, rfl⟩
    go_wp2_with fail
    go_ret
    exact ⟨rfl, below_drewN BW6 nq⟩
end Go.Proofs.Ytdifplakkepnkaa
