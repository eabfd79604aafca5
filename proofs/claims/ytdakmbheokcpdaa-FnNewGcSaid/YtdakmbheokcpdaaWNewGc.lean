/- The law FnNewGc, walked. -/
import Derived.Test.YtdakmbheokcpdaaDrwNew
import Derived.Test.YtdakmbheokcpdaaGStepS
import Derived.Test.YtdakmbheokcpdaaGMets
import Derived.Test.YtdakmbheokcpdaaLwG
import Derived.Test.YtdakmbheokcpdaaGSms
import Derived.Test.YtdakmbheokcpdaaLaws0
import Derived.Test.YtdakmbheokcpdaaIStos
import Derived.Test.YtdakmbheokcpdaaLawH
import Derived.Test.YtdakmbheokcpdaaGSps
namespace Go.Proofs.Ytdakmbheokcpdaa
open Go.RowKit

set_option maxRecDepth 100000 in
set_option maxHeartbeats 6000000 in
theorem lawNewGc_walk (w : World) (A : Option Addr) (n c : Nat) (h : Inp w A n c) :
    Calls Try.prog 6 #[.slice A n c] w (LawTrue w) := by
  by_cases hbig : 1048576 < n
  · go_enter Try.func6, Try.ntmps6
    go_wp2_with fail
    go_ret
    exact ⟨rfl, Below.refl _ _⟩
  go_enter Try.func6, Try.ntmps6
  go_wp2_with fail
  refine (drawNewGc_any _ _ _ _ h).mono ?_; rintro e w1 ⟨v, C, rfl, HA, hb1⟩
  have HAo := HA
  obtain ⟨A0, n0, c0, A1, n1, c1, A2, n2, c2, A3, n3, c3, rfl, _⟩ := HAo.open_
  clear HAo
  replace HA := Cv.mono HA (Nat.zero_le _)
  have BW1 : Below w.heap.size w w1 := BL_th (Below.refl w.heap.size w) hb1
  have zz1 : w.heap.size ≤ w1.heap.size := hb1.size
  have I := fun W lo v hW => implNewGc_any W lo v C hW
  have S := fun W lo v hW => specNewGc_any W lo v C hW
  rcases hC : stoB C
  · have e1 : newG C = none := by unfold newG; rw [if_neg (by rw [hC]; decide)]
    rw [e1] at I S
    clear e1 hC
    obtain ⟨p2, k9, a2, hz⟩ : ∃ q r s, Gp.zero = ⟨q, r, s⟩ := ⟨_, _, _, rfl⟩
    go_wp2_with fail
    refine (I _ _ _ (HA.alloc (.cells #[.slice A0 n0 c0, .slice A1 n1 c1, .slice A2 n2 c2, .slice A3 n3 c3] 27))).mono ?_; rintro e w2 ⟨v2, rfl, HB, hb2⟩
    simp only [Option.isSome_none, Option.getD_none] at HB ⊢
    rw [hz] at HB
    have CB := CGv.mk (HA.alloc (.cells #[.slice A0 n0 c0, .slice A1 n1 c1, .slice A2 n2 c2, .slice A3 n3 c3] 27)) HB (Nat.zero_le _) hb2
    obtain ⟨B4, k4, d4, rfl, _, Bl4, Bm4, _⟩ := HB.open_
    clear HB
    dsimp only at CB Bl4 ⊢
    have BW2 : Below w.heap.size w w2 := BL_th (BL_al BW1 (.cells #[.slice A0 n0 c0, .slice A1 n1 c1, .slice A2 n2 c2, .slice A3 n3 c3] 27)) hb2
    have zz2 : w1.heap.size + 1 ≤ w2.heap.size := by have := hb2.size; simp at this; omega
    have HA_2 := Cv.below (by exact (HA.alloc (.cells #[.slice A0 n0 c0, .slice A1 n1 c1, .slice A2 n2 c2, .slice A3 n3 c3] 27))) hb2
    have X_2 := Blk4.below (by exact (Blk4.new w1 (.slice A0 n0 c0) (.slice A1 n1 c1) (.slice A2 n2 c2) (.slice A3 n3 c3) 27)) hb2
    obtain ⟨cX_2_0, cX_2_1, cX_2_2, cX_2_3, _⟩ := X_2.cells
    have lX_2 := X_2.lt
    go_wp2_with fail
    refine (S _ _ _ (HA_2.alloc (.cells #[.int .i64 p2, .slice B4 k4 d4, .int .i64 a2] 29))).mono ?_; rintro e w3 ⟨v3, rfl, HD, hb3⟩
    simp only [Option.isSome_none, Option.getD_none] at HD ⊢
    rw [hz] at HD
    have CD := CGv.mk (HA_2.alloc (.cells #[.int .i64 p2, .slice B4 k4 d4, .int .i64 a2] 29)) HD (Nat.zero_le _) hb3
    obtain ⟨D4, m4, f4, rfl, _, Dl4, Dm4, _⟩ := HD.open_
    clear HD
    dsimp only at CD Dl4 ⊢
    have BW3 : Below w.heap.size w w3 := BL_th (BL_al BW2 (.cells #[.int .i64 p2, .slice B4 k4 d4, .int .i64 a2] 29)) hb3
    have zz3 : w2.heap.size + 1 ≤ w3.heap.size := by have := hb3.size; simp at this; omega
    have HA_3 := Cv.below (by exact (HA_2.alloc (.cells #[.int .i64 p2, .slice B4 k4 d4, .int .i64 a2] 29))) hb3
    have X_3 := Blk4.below (by exact (X_2.alloc (.cells #[.int .i64 p2, .slice B4 k4 d4, .int .i64 a2] 29))) hb3
    obtain ⟨cX_3_0, cX_3_1, cX_3_2, cX_3_3, _⟩ := X_3.cells
    have lX_3 := X_3.lt
    have CB_3 := CGv.below (by exact (CB.alloc (.cells #[.int .i64 p2, .slice B4 k4 d4, .int .i64 a2] 29))) hb3
    have Y_3 := Blk3.below (by exact (Blk3.new w2 (.int .i64 p2) (.slice B4 k4 d4) (.int .i64 a2) 29)) hb3
    obtain ⟨cY_3_0, cY_3_1, cY_3_2, _⟩ := Y_3.cells
    have lY_3 := Y_3.lt
    go_wp2_with fail
    refine (gc_sameG (CGv.gv (CB_3.alloc (.cells #[.int .i64 p2, .slice D4 m4 f4, .int .i64 a2] 29))) (CGv.gv (CD.alloc (.cells #[.int .i64 p2, .slice D4 m4 f4, .int .i64 a2] 29)))).mono ?_; rintro e w4 ⟨rfl, hb4⟩
    have BW4 : Below w.heap.size w w4 := BL_th (BL_al BW3 (.cells #[.int .i64 p2, .slice D4 m4 f4, .int .i64 a2] 29)) hb4
    have zz4 : w3.heap.size + 1 ≤ w4.heap.size := by have := hb4.size; simp at this; omega
    have HA_4 := Cv.below (by exact (HA_3.alloc (.cells #[.int .i64 p2, .slice D4 m4 f4, .int .i64 a2] 29))) hb4
    have X_4 := Blk4.below (by exact (X_3.alloc (.cells #[.int .i64 p2, .slice D4 m4 f4, .int .i64 a2] 29))) hb4
    obtain ⟨cX_4_0, cX_4_1, cX_4_2, cX_4_3, _⟩ := X_4.cells
    have lX_4 := X_4.lt
    have CB_4 := CGv.below (by exact (CB_3.alloc (.cells #[.int .i64 p2, .slice D4 m4 f4, .int .i64 a2] 29))) hb4
    have Y_4 := Blk3.below (by exact (Y_3.alloc (.cells #[.int .i64 p2, .slice D4 m4 f4, .int .i64 a2] 29))) hb4
    obtain ⟨cY_4_0, cY_4_1, cY_4_2, _⟩ := Y_4.cells
    have lY_4 := Y_4.lt
    have CD_4 := CGv.below (by exact (CD.alloc (.cells #[.int .i64 p2, .slice D4 m4 f4, .int .i64 a2] 29))) hb4
    have T_4 := Blk3.below (by exact (Blk3.new w3 (.int .i64 p2) (.slice D4 m4 f4) (.int .i64 a2) 29)) hb4
    obtain ⟨cT_4_0, cT_4_1, cT_4_2, _⟩ := T_4.cells
    have lT_4 := T_4.lt
    go_wp2_with fail
    refine (gc_sameG (CGv.gv CB_4) (CGv.gv CD_4)).mono ?_; rintro e w5 ⟨rfl, hb5⟩
    have BW5 : Below w.heap.size w w5 := BL_th BW4 hb5
    have zz5 : w4.heap.size ≤ w5.heap.size := hb5.size
    have HA_5 := Cv.below (by exact HA_4) hb5
    have X_5 := Blk4.below (by exact X_4) hb5
    obtain ⟨cX_5_0, cX_5_1, cX_5_2, cX_5_3, _⟩ := X_5.cells
    have lX_5 := X_5.lt
    have CB_5 := CGv.below (by exact CB_4) hb5
    have Y_5 := Blk3.below (by exact Y_4) hb5
    obtain ⟨cY_5_0, cY_5_1, cY_5_2, _⟩ := Y_5.cells
    have lY_5 := Y_5.lt
    have CD_5 := CGv.below (by exact CD_4) hb5
    have T_5 := Blk3.below (by exact T_4) hb5
    obtain ⟨cT_5_0, cT_5_1, cT_5_2, _⟩ := T_5.cells
    have lT_5 := T_5.lt
    clear HA_4 X_4 cX_4_0 cX_4_1 cX_4_2 cX_4_3 lX_4 CB_4 Y_4 cY_4_0 cY_4_1 cY_4_2 lY_4 CD_4 T_4 cT_4_0 cT_4_1 cT_4_2 lT_4
    go_wp2_with fail
    go_ret
    exact ⟨by simp, BW5⟩
  · have e1 : newG C = some ⟨0, List.replicate C.h.l.length 0, 0⟩ := by unfold newG; rw [if_pos hC]
    rw [e1] at I S
    have hI := inv_new hC
    have hg := hI.1
    have hgo := inv_go hI
    have V := fun W lo vs vg hW => implGcValid_any W lo vs vg C ⟨0, List.replicate C.h.l.length 0, 0⟩ hW
    rw [hg] at V
    have J := fun W lo vs vg hW => implStepGc_any W lo vs vg C ⟨0, List.replicate C.h.l.length 0, 0⟩ hW
    rw [stepO_go hgo] at J
    have e2 : stepG C ⟨0, List.replicate C.h.l.length 0, 0⟩ = (C, ⟨1, List.replicate (List.replicate C.h.l.length (0 : Int)).length 0, 0⟩) := by unfold stepG; rw [if_pos rfl]
    rw [e2] at J
    generalize List.replicate (List.replicate C.h.l.length (0 : Int)).length (0 : Int) = cM at J
    generalize List.replicate C.h.l.length (0 : Int) = cN at I S V J
    clear e1 e2 hI hg hgo
    go_wp2_with fail
    refine (I _ _ _ (HA.alloc (.cells #[.slice A0 n0 c0, .slice A1 n1 c1, .slice A2 n2 c2, .slice A3 n3 c3] 27))).mono ?_; rintro e w2 ⟨v2, rfl, HB, hb2⟩
    simp only [Option.isSome_some, Option.getD_some] at HB ⊢
    have CB := CGv.mk (HA.alloc (.cells #[.slice A0 n0 c0, .slice A1 n1 c1, .slice A2 n2 c2, .slice A3 n3 c3] 27)) HB (Nat.zero_le _) hb2
    obtain ⟨B4, k4, d4, rfl, _, Bl4, Bm4, _⟩ := HB.open_
    clear HB
    dsimp only at CB Bl4 ⊢
    have BW2 : Below w.heap.size w w2 := BL_th (BL_al BW1 (.cells #[.slice A0 n0 c0, .slice A1 n1 c1, .slice A2 n2 c2, .slice A3 n3 c3] 27)) hb2
    have zz2 : w1.heap.size + 1 ≤ w2.heap.size := by have := hb2.size; simp at this; omega
    have HA_2 := Cv.below (by exact (HA.alloc (.cells #[.slice A0 n0 c0, .slice A1 n1 c1, .slice A2 n2 c2, .slice A3 n3 c3] 27))) hb2
    have X_2 := Blk4.below (by exact (Blk4.new w1 (.slice A0 n0 c0) (.slice A1 n1 c1) (.slice A2 n2 c2) (.slice A3 n3 c3) 27)) hb2
    obtain ⟨cX_2_0, cX_2_1, cX_2_2, cX_2_3, _⟩ := X_2.cells
    have lX_2 := X_2.lt
    go_wp2_with fail
    refine (S _ _ _ (HA_2.alloc (.cells #[.int .i64 0, .slice B4 k4 d4, .int .i64 0] 29))).mono ?_; rintro e w3 ⟨v3, rfl, HD, hb3⟩
    simp only [Option.isSome_some, Option.getD_some] at HD ⊢
    have CD := CGv.mk (HA_2.alloc (.cells #[.int .i64 0, .slice B4 k4 d4, .int .i64 0] 29)) HD (Nat.zero_le _) hb3
    obtain ⟨D4, m4, f4, rfl, _, Dl4, Dm4, _⟩ := HD.open_
    clear HD
    dsimp only at CD Dl4 ⊢
    have BW3 : Below w.heap.size w w3 := BL_th (BL_al BW2 (.cells #[.int .i64 0, .slice B4 k4 d4, .int .i64 0] 29)) hb3
    have zz3 : w2.heap.size + 1 ≤ w3.heap.size := by have := hb3.size; simp at this; omega
    have HA_3 := Cv.below (by exact (HA_2.alloc (.cells #[.int .i64 0, .slice B4 k4 d4, .int .i64 0] 29))) hb3
    have X_3 := Blk4.below (by exact (X_2.alloc (.cells #[.int .i64 0, .slice B4 k4 d4, .int .i64 0] 29))) hb3
    obtain ⟨cX_3_0, cX_3_1, cX_3_2, cX_3_3, _⟩ := X_3.cells
    have lX_3 := X_3.lt
    have CB_3 := CGv.below (by exact (CB.alloc (.cells #[.int .i64 0, .slice B4 k4 d4, .int .i64 0] 29))) hb3
    have Y_3 := Blk3.below (by exact (Blk3.new w2 (.int .i64 0) (.slice B4 k4 d4) (.int .i64 0) 29)) hb3
    obtain ⟨cY_3_0, cY_3_1, cY_3_2, _⟩ := Y_3.cells
    have lY_3 := Y_3.lt
    go_wp2_with fail
    refine (gc_sameG (CGv.gv (CB_3.alloc (.cells #[.int .i64 0, .slice D4 m4 f4, .int .i64 0] 29))) (CGv.gv (CD.alloc (.cells #[.int .i64 0, .slice D4 m4 f4, .int .i64 0] 29)))).mono ?_; rintro e w4 ⟨rfl, hb4⟩
    have BW4 : Below w.heap.size w w4 := BL_th (BL_al BW3 (.cells #[.int .i64 0, .slice D4 m4 f4, .int .i64 0] 29)) hb4
    have zz4 : w3.heap.size + 1 ≤ w4.heap.size := by have := hb4.size; simp at this; omega
    have HA_4 := Cv.below (by exact (HA_3.alloc (.cells #[.int .i64 0, .slice D4 m4 f4, .int .i64 0] 29))) hb4
    have X_4 := Blk4.below (by exact (X_3.alloc (.cells #[.int .i64 0, .slice D4 m4 f4, .int .i64 0] 29))) hb4
    obtain ⟨cX_4_0, cX_4_1, cX_4_2, cX_4_3, _⟩ := X_4.cells
    have lX_4 := X_4.lt
    have CB_4 := CGv.below (by exact (CB_3.alloc (.cells #[.int .i64 0, .slice D4 m4 f4, .int .i64 0] 29))) hb4
    have Y_4 := Blk3.below (by exact (Y_3.alloc (.cells #[.int .i64 0, .slice D4 m4 f4, .int .i64 0] 29))) hb4
    obtain ⟨cY_4_0, cY_4_1, cY_4_2, _⟩ := Y_4.cells
    have lY_4 := Y_4.lt
    have CD_4 := CGv.below (by exact (CD.alloc (.cells #[.int .i64 0, .slice D4 m4 f4, .int .i64 0] 29))) hb4
    have T_4 := Blk3.below (by exact (Blk3.new w3 (.int .i64 0) (.slice D4 m4 f4) (.int .i64 0) 29)) hb4
    obtain ⟨cT_4_0, cT_4_1, cT_4_2, _⟩ := T_4.cells
    have lT_4 := T_4.lt
    go_wp2_with fail
    refine (J _ _ _ _ CB_4).mono ?_; rintro e w5 ⟨vs, vg, rfl, HY, hb5⟩
    simp only [Option.isSome_some, Option.getD_some] at HY ⊢
    obtain ⟨E0, r0, g0, E1, r1, g1, E2, r2, g2, E3, r3, g3, E4, r4, g4, p6, k6, a6, hz6, rfl, rfl, _⟩ := CGv.open_ HY
    obtain ⟨rfl, rfl, rfl⟩ : 1 = p6 ∧ cM = k6 ∧ 0 = a6 := by cases hz6; exact ⟨rfl, rfl, rfl⟩
    clear hz6
    have BW5 : Below w.heap.size w w5 := BL_th BW4 hb5
    have zz5 : w4.heap.size ≤ w5.heap.size := hb5.size
    have HA_5 := Cv.below (by exact HA_4) hb5
    have X_5 := Blk4.below (by exact X_4) hb5
    obtain ⟨cX_5_0, cX_5_1, cX_5_2, cX_5_3, _⟩ := X_5.cells
    have lX_5 := X_5.lt
    have CB_5 := CGv.below (by exact CB_4) hb5
    have Y_5 := Blk3.below (by exact Y_4) hb5
    obtain ⟨cY_5_0, cY_5_1, cY_5_2, _⟩ := Y_5.cells
    have lY_5 := Y_5.lt
    clear HA_4 X_4 cX_4_0 cX_4_1 cX_4_2 cX_4_3 lX_4 CB_4 Y_4 cY_4_0 cY_4_1 cY_4_2 lY_4
    go_wp2_with fail
    refine (V _ _ _ _ ((CB_5.alloc (.cells #[.slice E0 r0 g0, .slice E1 r1 g1, .slice E2 r2 g2, .slice E3 r3 g3] 27)).alloc (.cells #[.int .i64 1, .slice E4 r4 g4, .int .i64 0] 29))).mono ?_; rintro e w6 ⟨rfl, hb6⟩
    have BW6 : Below w.heap.size w w6 := BL_th (BL_al (BL_al BW5 (.cells #[.slice E0 r0 g0, .slice E1 r1 g1, .slice E2 r2 g2, .slice E3 r3 g3] 27)) (.cells #[.int .i64 1, .slice E4 r4 g4, .int .i64 0] 29)) hb6
    have zz6 : w5.heap.size + 2 ≤ w6.heap.size := by have := hb6.size; simp at this; omega
    have HA_6 := Cv.below (by exact ((HA_5.alloc (.cells #[.slice E0 r0 g0, .slice E1 r1 g1, .slice E2 r2 g2, .slice E3 r3 g3] 27)).alloc (.cells #[.int .i64 1, .slice E4 r4 g4, .int .i64 0] 29))) hb6
    have X_6 := Blk4.below (by exact ((X_5.alloc (.cells #[.slice E0 r0 g0, .slice E1 r1 g1, .slice E2 r2 g2, .slice E3 r3 g3] 27)).alloc (.cells #[.int .i64 1, .slice E4 r4 g4, .int .i64 0] 29))) hb6
    obtain ⟨cX_6_0, cX_6_1, cX_6_2, cX_6_3, _⟩ := X_6.cells
    have lX_6 := X_6.lt
    have CB_6 := CGv.below (by exact ((CB_5.alloc (.cells #[.slice E0 r0 g0, .slice E1 r1 g1, .slice E2 r2 g2, .slice E3 r3 g3] 27)).alloc (.cells #[.int .i64 1, .slice E4 r4 g4, .int .i64 0] 29))) hb6
    have Y_6 := Blk3.below (by exact ((Y_5.alloc (.cells #[.slice E0 r0 g0, .slice E1 r1 g1, .slice E2 r2 g2, .slice E3 r3 g3] 27)).alloc (.cells #[.int .i64 1, .slice E4 r4 g4, .int .i64 0] 29))) hb6
    obtain ⟨cY_6_0, cY_6_1, cY_6_2, _⟩ := Y_6.cells
    have lY_6 := Y_6.lt
    have HY_6 := CGv.below (by exact ((HY.alloc (.cells #[.slice E0 r0 g0, .slice E1 r1 g1, .slice E2 r2 g2, .slice E3 r3 g3] 27)).alloc (.cells #[.int .i64 1, .slice E4 r4 g4, .int .i64 0] 29))) hb6
    have P_6 := Blk4.below (by exact ((Blk4.new w5 (.slice E0 r0 g0) (.slice E1 r1 g1) (.slice E2 r2 g2) (.slice E3 r3 g3) 27).alloc (.cells #[.int .i64 1, .slice E4 r4 g4, .int .i64 0] 29))) hb6
    obtain ⟨cP_6_0, cP_6_1, cP_6_2, cP_6_3, _⟩ := P_6.cells
    have lP_6 := P_6.lt
    have Q_6 := Blk3.below (by exact (Blk3.new_at (w := (w5.alloc (.cells #[.slice E0 r0 g0, .slice E1 r1 g1, .slice E2 r2 g2, .slice E3 r3 g3] 27))) (b := (w5.heap.size + 1)) (by simp) (.int .i64 1) (.slice E4 r4 g4) (.int .i64 0) 29)) hb6
    obtain ⟨cQ_6_0, cQ_6_1, cQ_6_2, _⟩ := Q_6.cells
    have lQ_6 := Q_6.lt
    go_wp2_with fail
    refine (sto_sameG (CGv.cv HY_6) HA_6).mono ?_; rintro e w7 ⟨rfl, hb7⟩
    have BW7 : Below w.heap.size w w7 := BL_th BW6 hb7
    have zz7 : w6.heap.size ≤ w7.heap.size := hb7.size
    have HA_7 := Cv.below (by exact HA_6) hb7
    have X_7 := Blk4.below (by exact X_6) hb7
    obtain ⟨cX_7_0, cX_7_1, cX_7_2, cX_7_3, _⟩ := X_7.cells
    have lX_7 := X_7.lt
    have CB_7 := CGv.below (by exact CB_6) hb7
    have Y_7 := Blk3.below (by exact Y_6) hb7
    obtain ⟨cY_7_0, cY_7_1, cY_7_2, _⟩ := Y_7.cells
    have lY_7 := Y_7.lt
    have HY_7 := CGv.below (by exact HY_6) hb7
    have P_7 := Blk4.below (by exact P_6) hb7
    obtain ⟨cP_7_0, cP_7_1, cP_7_2, cP_7_3, _⟩ := P_7.cells
    have lP_7 := P_7.lt
    have Q_7 := Blk3.below (by exact Q_6) hb7
    obtain ⟨cQ_7_0, cQ_7_1, cQ_7_2, _⟩ := Q_7.cells
    have lQ_7 := Q_7.lt
    clear HA_6 X_6 cX_6_0 cX_6_1 cX_6_2 cX_6_3 lX_6 CB_6 Y_6 cY_6_0 cY_6_1 cY_6_2 lY_6 HY_6 P_6 cP_6_0 cP_6_1 cP_6_2 cP_6_3 lP_6 Q_6 cQ_6_0 cQ_6_1 cQ_6_2 lQ_6
    go_wp2_with fail
    go_ret
    exact ⟨by simp, BW7⟩
end Go.Proofs.Ytdakmbheokcpdaa
