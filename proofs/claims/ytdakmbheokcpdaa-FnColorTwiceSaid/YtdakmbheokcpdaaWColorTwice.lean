/- The law FnColorTwice, walked. -/
import Derived.Test.YtdakmbheokcpdaaGSps
import Derived.Test.YtdakmbheokcpdaaCsG
import Derived.Test.YtdakmbheokcpdaaLwG
import Derived.Test.YtdakmbheokcpdaaGMets
import Derived.Test.YtdakmbheokcpdaaGSms
import Derived.Test.YtdakmbheokcpdaaLaws0
import Derived.Test.YtdakmbheokcpdaaIStos
import Derived.Test.YtdakmbheokcpdaaGColS
import Derived.Test.YtdakmbheokcpdaaGColI
namespace Go.Proofs.Ytdakmbheokcpdaa
open Go.RowKit

set_option maxRecDepth 100000 in
set_option maxHeartbeats 6000000 in
theorem lawColorTwice_walk (w : World) (A : Option Addr) (n c : Nat) (h : Inp w A n c) :
    Calls Try.prog 5 #[.slice A n c] w (LawTrue w) := by
  by_cases hbig : 1048576 < n
  · go_enter Try.func5, Try.ntmps5
    go_wp2_with fail
    go_ret
    exact ⟨rfl, Below.refl _ _⟩
  go_enter Try.func5, Try.ntmps5
  go_wp2_with fail
  refine (drawColorNew_any _ _ _ _ h).mono ?_; rintro e w1 ⟨vs, vg, C, G, x, rfl, HA, hC, hn, hb1⟩
  obtain ⟨A0, n0, c0, A1, n1, c1, A2, n2, c2, A3, n3, c3, A4, n4, c4, p, cc, a, rfl, rfl, rfl, _, _, ⟨Ar0, Ar1, Ar2, Ar3, Ar4⟩, ⟨Al0, Al1, Al2, Al3, Al4⟩, ⟨Am0, Am1, Am2, Am3, Am4⟩⟩ := CGv.open_ HA
  clear Ar0 Ar1 Ar2 Ar3 Ar4
  dsimp only at hn HA
  have BW1 : Below w.heap.size w w1 := BL_th (Below.refl w.heap.size w) hb1
  have zz1 : w.heap.size ≤ w1.heap.size := hb1.size
  have I := fun W lo vs vg hW => implColorNew_any W lo vs vg C ⟨p, cc, a⟩ hW x
  have S := fun W lo vs vg hW => specColorNew_any W lo vs vg C ⟨p, cc, a⟩ hW x
  have HA0 := ((HA.alloc (.cells #[.slice A0 n0 c0, .slice A1 n1 c1, .slice A2 n2 c2, .slice A3 n3 c3] 27)).alloc (.cells #[.int .i64 p, .slice A4 n4 c4, .int .i64 a] 29)).mono (Nat.zero_le _)
  rcases hb : (gcB C ⟨p, cc, a⟩ && cellB C x)
  · have e1 : colorO C ⟨p, cc, a⟩ x = none := by unfold colorO; rw [hb]; rfl
    rw [e1] at I S
    clear e1 hb
    obtain ⟨p2, k9, a2, hz⟩ : ∃ q r s, Gp.zero = ⟨q, r, s⟩ := ⟨_, _, _, rfl⟩
    go_wp2_with fail
    refine (I _ _ _ _ HA0).mono ?_; rintro e w2 ⟨v2, rfl, HB, hb2⟩
    simp only [Option.isSome_none, Option.getD_none] at HB ⊢
    rw [hz] at HB
    have CB := CGv.mk (CGv.cv HA0) HB (Nat.zero_le _) hb2
    obtain ⟨B4, k4, d4, rfl, _, Bl4, Bm4, _⟩ := HB.open_
    clear HB
    dsimp only at CB Bl4 ⊢
    have BW2 : Below w.heap.size w w2 := BL_th (BL_al (BL_al BW1 (.cells #[.slice A0 n0 c0, .slice A1 n1 c1, .slice A2 n2 c2, .slice A3 n3 c3] 27)) (.cells #[.int .i64 p, .slice A4 n4 c4, .int .i64 a] 29)) hb2
    have zz2 : w1.heap.size + 2 ≤ w2.heap.size := by have := hb2.size; simp at this; omega
    have HA_2 := CGv.below (by exact HA0) hb2
    have X_2 := Blk4.below (by exact ((Blk4.new w1 (.slice A0 n0 c0) (.slice A1 n1 c1) (.slice A2 n2 c2) (.slice A3 n3 c3) 27).alloc (.cells #[.int .i64 p, .slice A4 n4 c4, .int .i64 a] 29))) hb2
    obtain ⟨cX_2_0, cX_2_1, cX_2_2, cX_2_3, _⟩ := X_2.cells
    have lX_2 := X_2.lt
    have Y_2 := Blk3.below (by exact (Blk3.new_at (w := (w1.alloc (.cells #[.slice A0 n0 c0, .slice A1 n1 c1, .slice A2 n2 c2, .slice A3 n3 c3] 27))) (b := (w1.heap.size + 1)) (by simp) (.int .i64 p) (.slice A4 n4 c4) (.int .i64 a) 29)) hb2
    obtain ⟨cY_2_0, cY_2_1, cY_2_2, _⟩ := Y_2.cells
    have lY_2 := Y_2.lt
    go_wp2_with fail
    refine (S _ _ _ _ (HA_2.alloc (.cells #[.int .i64 p2, .slice B4 k4 d4, .int .i64 a2] 29))).mono ?_; rintro e w3 ⟨v3, rfl, HD, hb3⟩
    simp only [Option.isSome_none, Option.getD_none] at HD ⊢
    rw [hz] at HD
    have CD := CGv.mk (CGv.cv (HA_2.alloc (.cells #[.int .i64 p2, .slice B4 k4 d4, .int .i64 a2] 29))) HD (Nat.zero_le _) hb3
    obtain ⟨D4, m4, f4, rfl, _, Dl4, Dm4, _⟩ := HD.open_
    clear HD
    dsimp only at CD Dl4 ⊢
    have BW3 : Below w.heap.size w w3 := BL_th (BL_al BW2 (.cells #[.int .i64 p2, .slice B4 k4 d4, .int .i64 a2] 29)) hb3
    have zz3 : w2.heap.size + 1 ≤ w3.heap.size := by have := hb3.size; simp at this; omega
    have HA_3 := CGv.below (by exact (HA_2.alloc (.cells #[.int .i64 p2, .slice B4 k4 d4, .int .i64 a2] 29))) hb3
    have X_3 := Blk4.below (by exact (X_2.alloc (.cells #[.int .i64 p2, .slice B4 k4 d4, .int .i64 a2] 29))) hb3
    obtain ⟨cX_3_0, cX_3_1, cX_3_2, cX_3_3, _⟩ := X_3.cells
    have lX_3 := X_3.lt
    have Y_3 := Blk3.below (by exact (Y_2.alloc (.cells #[.int .i64 p2, .slice B4 k4 d4, .int .i64 a2] 29))) hb3
    obtain ⟨cY_3_0, cY_3_1, cY_3_2, _⟩ := Y_3.cells
    have lY_3 := Y_3.lt
    have CB_3 := CGv.below (by exact (CB.alloc (.cells #[.int .i64 p2, .slice B4 k4 d4, .int .i64 a2] 29))) hb3
    have Q_3 := Blk3.below (by exact (Blk3.new w2 (.int .i64 p2) (.slice B4 k4 d4) (.int .i64 a2) 29)) hb3
    obtain ⟨cQ_3_0, cQ_3_1, cQ_3_2, _⟩ := Q_3.cells
    have lQ_3 := Q_3.lt
    go_wp2_with fail
    refine (gc_sameG (CGv.gv (CB_3.alloc (.cells #[.int .i64 p2, .slice D4 m4 f4, .int .i64 a2] 29))) (CGv.gv (CD.alloc (.cells #[.int .i64 p2, .slice D4 m4 f4, .int .i64 a2] 29)))).mono ?_; rintro e w4 ⟨rfl, hb4⟩
    have BW4 : Below w.heap.size w w4 := BL_th (BL_al BW3 (.cells #[.int .i64 p2, .slice D4 m4 f4, .int .i64 a2] 29)) hb4
    have zz4 : w3.heap.size + 1 ≤ w4.heap.size := by have := hb4.size; simp at this; omega
    have HA_4 := CGv.below (by exact (HA_3.alloc (.cells #[.int .i64 p2, .slice D4 m4 f4, .int .i64 a2] 29))) hb4
    have X_4 := Blk4.below (by exact (X_3.alloc (.cells #[.int .i64 p2, .slice D4 m4 f4, .int .i64 a2] 29))) hb4
    obtain ⟨cX_4_0, cX_4_1, cX_4_2, cX_4_3, _⟩ := X_4.cells
    have lX_4 := X_4.lt
    have Y_4 := Blk3.below (by exact (Y_3.alloc (.cells #[.int .i64 p2, .slice D4 m4 f4, .int .i64 a2] 29))) hb4
    obtain ⟨cY_4_0, cY_4_1, cY_4_2, _⟩ := Y_4.cells
    have lY_4 := Y_4.lt
    have CB_4 := CGv.below (by exact (CB_3.alloc (.cells #[.int .i64 p2, .slice D4 m4 f4, .int .i64 a2] 29))) hb4
    have Q_4 := Blk3.below (by exact (Q_3.alloc (.cells #[.int .i64 p2, .slice D4 m4 f4, .int .i64 a2] 29))) hb4
    obtain ⟨cQ_4_0, cQ_4_1, cQ_4_2, _⟩ := Q_4.cells
    have lQ_4 := Q_4.lt
    have CD_4 := CGv.below (by exact (CD.alloc (.cells #[.int .i64 p2, .slice D4 m4 f4, .int .i64 a2] 29))) hb4
    have T_4 := Blk3.below (by exact (Blk3.new w3 (.int .i64 p2) (.slice D4 m4 f4) (.int .i64 a2) 29)) hb4
    obtain ⟨cT_4_0, cT_4_1, cT_4_2, _⟩ := T_4.cells
    have lT_4 := T_4.lt
    go_wp2_with fail
    refine (gc_sameG (CGv.gv CB_4) (CGv.gv CD_4)).mono ?_; rintro e w5 ⟨rfl, hb5⟩
    have BW5 : Below w.heap.size w w5 := BL_th BW4 hb5
    have zz5 : w4.heap.size ≤ w5.heap.size := hb5.size
    have HA_5 := CGv.below (by exact HA_4) hb5
    have X_5 := Blk4.below (by exact X_4) hb5
    obtain ⟨cX_5_0, cX_5_1, cX_5_2, cX_5_3, _⟩ := X_5.cells
    have lX_5 := X_5.lt
    have Y_5 := Blk3.below (by exact Y_4) hb5
    obtain ⟨cY_5_0, cY_5_1, cY_5_2, _⟩ := Y_5.cells
    have lY_5 := Y_5.lt
    have CB_5 := CGv.below (by exact CB_4) hb5
    have Q_5 := Blk3.below (by exact Q_4) hb5
    obtain ⟨cQ_5_0, cQ_5_1, cQ_5_2, _⟩ := Q_5.cells
    have lQ_5 := Q_5.lt
    have CD_5 := CGv.below (by exact CD_4) hb5
    have T_5 := Blk3.below (by exact T_4) hb5
    obtain ⟨cT_5_0, cT_5_1, cT_5_2, _⟩ := T_5.cells
    have lT_5 := T_5.lt
    clear HA_4 X_4 cX_4_0 cX_4_1 cX_4_2 cX_4_3 lX_4 Y_4 cY_4_0 cY_4_1 cY_4_2 lY_4 CB_4 Q_4 cQ_4_0 cQ_4_1 cQ_4_2 lQ_4 CD_4 T_4 cT_4_0 cT_4_1 cT_4_2 lT_4
    go_wp2_with fail
    go_ret
    exact ⟨by simp, BW5⟩
  · obtain ⟨hg, hx⟩ := Bool.and_eq_true_iff.1 hb
    unfold cellB plB at hx
    simp only [decide_eq_true_eq] at hx
    obtain ⟨k, rfl⟩ := Int.eq_ofNat_of_zero_le hx.1
    have hkl : k < C.h.l.length := by omega
    have e1 : colorO C ⟨p, cc, a⟩ (k : Int) = some (colorG ⟨p, cc, a⟩ (k : Int)) := by unfold colorO; rw [hb]; rfl
    rw [e1] at I S
    have J := fun W lo vs vg hW => implColorNew_any W lo vs vg C (colorG ⟨p, cc, a⟩ (k : Int)) hW (k : Int)
    have e2 : colorO C (colorG ⟨p, cc, a⟩ (k : Int)) (k : Int) = some (colorG ⟨p, cc, a⟩ (k : Int)) := by
      unfold colorO
      rw [colorG_valid hg, (Bool.and_eq_true_iff.1 hb).2]
      simp only [Bool.and_true, if_true]
      rw [color_twice]
    rw [e2] at J
    obtain ⟨cS, eS⟩ : ∃ cS : List Int, colorG ⟨p, cc, a⟩ (k : Int) = ⟨p, cS, a⟩ := ⟨_, rfl⟩
    rw [eS] at I S J
    have hpp : (p == p) = true := by simp
    have haa : (a == a) = true := by simp
    clear eS e1 e2 hb hx hg hkl
    go_wp2_with fail
    refine (I _ _ _ _ HA0).mono ?_; rintro e w2 ⟨v2, rfl, HB, hb2⟩
    simp only [Option.isSome_some, Option.getD_some] at HB ⊢
    have CB := CGv.mk (CGv.cv HA0) HB (Nat.zero_le _) hb2
    obtain ⟨B4, k4, d4, rfl, _, Bl4, Bm4, _⟩ := HB.open_
    clear HB
    dsimp only at CB Bl4 ⊢
    have BW2 : Below w.heap.size w w2 := BL_th (BL_al (BL_al BW1 (.cells #[.slice A0 n0 c0, .slice A1 n1 c1, .slice A2 n2 c2, .slice A3 n3 c3] 27)) (.cells #[.int .i64 p, .slice A4 n4 c4, .int .i64 a] 29)) hb2
    have zz2 : w1.heap.size + 2 ≤ w2.heap.size := by have := hb2.size; simp at this; omega
    have HA_2 := CGv.below (by exact HA0) hb2
    have X_2 := Blk4.below (by exact ((Blk4.new w1 (.slice A0 n0 c0) (.slice A1 n1 c1) (.slice A2 n2 c2) (.slice A3 n3 c3) 27).alloc (.cells #[.int .i64 p, .slice A4 n4 c4, .int .i64 a] 29))) hb2
    obtain ⟨cX_2_0, cX_2_1, cX_2_2, cX_2_3, _⟩ := X_2.cells
    have lX_2 := X_2.lt
    have Y_2 := Blk3.below (by exact (Blk3.new_at (w := (w1.alloc (.cells #[.slice A0 n0 c0, .slice A1 n1 c1, .slice A2 n2 c2, .slice A3 n3 c3] 27))) (b := (w1.heap.size + 1)) (by simp) (.int .i64 p) (.slice A4 n4 c4) (.int .i64 a) 29)) hb2
    obtain ⟨cY_2_0, cY_2_1, cY_2_2, _⟩ := Y_2.cells
    have lY_2 := Y_2.lt
    go_wp2_with fail
    refine (S _ _ _ _ (HA_2.alloc (.cells #[.int .i64 p, .slice B4 k4 d4, .int .i64 a] 29))).mono ?_; rintro e w3 ⟨v3, rfl, HD, hb3⟩
    simp only [Option.isSome_some, Option.getD_some] at HD ⊢
    have CD := CGv.mk (CGv.cv (HA_2.alloc (.cells #[.int .i64 p, .slice B4 k4 d4, .int .i64 a] 29))) HD (Nat.zero_le _) hb3
    obtain ⟨D4, m4, f4, rfl, _, Dl4, Dm4, _⟩ := HD.open_
    clear HD
    dsimp only at CD Dl4 ⊢
    have BW3 : Below w.heap.size w w3 := BL_th (BL_al BW2 (.cells #[.int .i64 p, .slice B4 k4 d4, .int .i64 a] 29)) hb3
    have zz3 : w2.heap.size + 1 ≤ w3.heap.size := by have := hb3.size; simp at this; omega
    have HA_3 := CGv.below (by exact (HA_2.alloc (.cells #[.int .i64 p, .slice B4 k4 d4, .int .i64 a] 29))) hb3
    have X_3 := Blk4.below (by exact (X_2.alloc (.cells #[.int .i64 p, .slice B4 k4 d4, .int .i64 a] 29))) hb3
    obtain ⟨cX_3_0, cX_3_1, cX_3_2, cX_3_3, _⟩ := X_3.cells
    have lX_3 := X_3.lt
    have Y_3 := Blk3.below (by exact (Y_2.alloc (.cells #[.int .i64 p, .slice B4 k4 d4, .int .i64 a] 29))) hb3
    obtain ⟨cY_3_0, cY_3_1, cY_3_2, _⟩ := Y_3.cells
    have lY_3 := Y_3.lt
    have CB_3 := CGv.below (by exact (CB.alloc (.cells #[.int .i64 p, .slice B4 k4 d4, .int .i64 a] 29))) hb3
    have Q_3 := Blk3.below (by exact (Blk3.new w2 (.int .i64 p) (.slice B4 k4 d4) (.int .i64 a) 29)) hb3
    obtain ⟨cQ_3_0, cQ_3_1, cQ_3_2, _⟩ := Q_3.cells
    have lQ_3 := Q_3.lt
    go_wp2_with fail
    refine (gc_sameG (CGv.gv (CB_3.alloc (.cells #[.int .i64 p, .slice D4 m4 f4, .int .i64 a] 29))) (CGv.gv (CD.alloc (.cells #[.int .i64 p, .slice D4 m4 f4, .int .i64 a] 29)))).mono ?_; rintro e w4 ⟨rfl, hb4⟩
    have BW4 : Below w.heap.size w w4 := BL_th (BL_al BW3 (.cells #[.int .i64 p, .slice D4 m4 f4, .int .i64 a] 29)) hb4
    have zz4 : w3.heap.size + 1 ≤ w4.heap.size := by have := hb4.size; simp at this; omega
    have HA_4 := CGv.below (by exact (HA_3.alloc (.cells #[.int .i64 p, .slice D4 m4 f4, .int .i64 a] 29))) hb4
    have X_4 := Blk4.below (by exact (X_3.alloc (.cells #[.int .i64 p, .slice D4 m4 f4, .int .i64 a] 29))) hb4
    obtain ⟨cX_4_0, cX_4_1, cX_4_2, cX_4_3, _⟩ := X_4.cells
    have lX_4 := X_4.lt
    have Y_4 := Blk3.below (by exact (Y_3.alloc (.cells #[.int .i64 p, .slice D4 m4 f4, .int .i64 a] 29))) hb4
    obtain ⟨cY_4_0, cY_4_1, cY_4_2, _⟩ := Y_4.cells
    have lY_4 := Y_4.lt
    have CB_4 := CGv.below (by exact (CB_3.alloc (.cells #[.int .i64 p, .slice D4 m4 f4, .int .i64 a] 29))) hb4
    have Q_4 := Blk3.below (by exact (Q_3.alloc (.cells #[.int .i64 p, .slice D4 m4 f4, .int .i64 a] 29))) hb4
    obtain ⟨cQ_4_0, cQ_4_1, cQ_4_2, _⟩ := Q_4.cells
    have lQ_4 := Q_4.lt
    have CD_4 := CGv.below (by exact (CD.alloc (.cells #[.int .i64 p, .slice D4 m4 f4, .int .i64 a] 29))) hb4
    have T_4 := Blk3.below (by exact (Blk3.new w3 (.int .i64 p) (.slice D4 m4 f4) (.int .i64 a) 29)) hb4
    obtain ⟨cT_4_0, cT_4_1, cT_4_2, _⟩ := T_4.cells
    have lT_4 := T_4.lt
    go_wp2_with fail
    refine (J _ _ _ _ CB_4).mono ?_; rintro e w5 ⟨v5, rfl, HY, hb5⟩
    simp only [Option.isSome_some, Option.getD_some] at HY ⊢
    have CY := CGv.mk (CGv.cv CB_4) HY (Nat.zero_le _) hb5
    obtain ⟨K4, j4, l4, rfl, _, Kl4, Km4, _⟩ := HY.open_
    clear HY
    dsimp only at CY Kl4 ⊢
    have BW5 : Below w.heap.size w w5 := BL_th BW4 hb5
    have zz5 : w4.heap.size ≤ w5.heap.size := hb5.size
    have HA_5 := CGv.below (by exact HA_4) hb5
    have X_5 := Blk4.below (by exact X_4) hb5
    obtain ⟨cX_5_0, cX_5_1, cX_5_2, cX_5_3, _⟩ := X_5.cells
    have lX_5 := X_5.lt
    have Y_5 := Blk3.below (by exact Y_4) hb5
    obtain ⟨cY_5_0, cY_5_1, cY_5_2, _⟩ := Y_5.cells
    have lY_5 := Y_5.lt
    have CB_5 := CGv.below (by exact CB_4) hb5
    have Q_5 := Blk3.below (by exact Q_4) hb5
    obtain ⟨cQ_5_0, cQ_5_1, cQ_5_2, _⟩ := Q_5.cells
    have lQ_5 := Q_5.lt
    have CD_5 := CGv.below (by exact CD_4) hb5
    have T_5 := Blk3.below (by exact T_4) hb5
    obtain ⟨cT_5_0, cT_5_1, cT_5_2, _⟩ := T_5.cells
    have lT_5 := T_5.lt
    clear HA_4 X_4 cX_4_0 cX_4_1 cX_4_2 cX_4_3 lX_4 Y_4 cY_4_0 cY_4_1 cY_4_2 lY_4 CB_4 Q_4 cQ_4_0 cQ_4_1 cQ_4_2 lQ_4 CD_4 T_4 cT_4_0 cT_4_1 cT_4_2 lT_4
    go_wp2_with fail
    refine (gc_sameG (CGv.gv (CY.alloc (.cells #[.int .i64 p, .slice K4 j4 l4, .int .i64 a] 29))) (CGv.gv (CB_5.alloc (.cells #[.int .i64 p, .slice K4 j4 l4, .int .i64 a] 29)))).mono ?_; rintro e w6 ⟨rfl, hb6⟩
    have BW6 : Below w.heap.size w w6 := BL_th (BL_al BW5 (.cells #[.int .i64 p, .slice K4 j4 l4, .int .i64 a] 29)) hb6
    have zz6 : w5.heap.size + 1 ≤ w6.heap.size := by have := hb6.size; simp at this; omega
    have HA_6 := CGv.below (by exact (HA_5.alloc (.cells #[.int .i64 p, .slice K4 j4 l4, .int .i64 a] 29))) hb6
    have X_6 := Blk4.below (by exact (X_5.alloc (.cells #[.int .i64 p, .slice K4 j4 l4, .int .i64 a] 29))) hb6
    obtain ⟨cX_6_0, cX_6_1, cX_6_2, cX_6_3, _⟩ := X_6.cells
    have lX_6 := X_6.lt
    have Y_6 := Blk3.below (by exact (Y_5.alloc (.cells #[.int .i64 p, .slice K4 j4 l4, .int .i64 a] 29))) hb6
    obtain ⟨cY_6_0, cY_6_1, cY_6_2, _⟩ := Y_6.cells
    have lY_6 := Y_6.lt
    have CB_6 := CGv.below (by exact (CB_5.alloc (.cells #[.int .i64 p, .slice K4 j4 l4, .int .i64 a] 29))) hb6
    have Q_6 := Blk3.below (by exact (Q_5.alloc (.cells #[.int .i64 p, .slice K4 j4 l4, .int .i64 a] 29))) hb6
    obtain ⟨cQ_6_0, cQ_6_1, cQ_6_2, _⟩ := Q_6.cells
    have lQ_6 := Q_6.lt
    have CD_6 := CGv.below (by exact (CD_5.alloc (.cells #[.int .i64 p, .slice K4 j4 l4, .int .i64 a] 29))) hb6
    have T_6 := Blk3.below (by exact (T_5.alloc (.cells #[.int .i64 p, .slice K4 j4 l4, .int .i64 a] 29))) hb6
    obtain ⟨cT_6_0, cT_6_1, cT_6_2, _⟩ := T_6.cells
    have lT_6 := T_6.lt
    have CY_6 := CGv.below (by exact (CY.alloc (.cells #[.int .i64 p, .slice K4 j4 l4, .int .i64 a] 29))) hb6
    have Z_6 := Blk3.below (by exact (Blk3.new w5 (.int .i64 p) (.slice K4 j4 l4) (.int .i64 a) 29)) hb6
    obtain ⟨cZ_6_0, cZ_6_1, cZ_6_2, _⟩ := Z_6.cells
    have lZ_6 := Z_6.lt
    go_wp2_with fail
    go_ret
    exact ⟨by simp, BW6⟩
end Go.Proofs.Ytdakmbheokcpdaa
