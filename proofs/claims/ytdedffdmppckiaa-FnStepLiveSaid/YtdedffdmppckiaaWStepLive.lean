/- The law FnStepLive, walked. -/
import Derived.Test.YtdedffdmppckiaaDrwNew
import Derived.Test.YtdedffdmppckiaaGStepS
import Derived.Test.YtdedffdmppckiaaGMets
import Derived.Test.YtdedffdmppckiaaLwG
import Derived.Test.YtdedffdmppckiaaGSms
import Derived.Test.YtdedffdmppckiaaLaws0
import Derived.Test.YtdedffdmppckiaaIStos
import Derived.Test.YtdedffdmppckiaaLawH
import Derived.Test.YtdedffdmppckiaaGSps
import Derived.Test.YtdedffdmppckiaaLives
namespace Go.Proofs.Ytdedffdmppckiaa
open Go.RowKit

set_option maxRecDepth 100000 in
set_option maxHeartbeats 6000000 in
theorem lawStepLive_walk (w : World) (A : Option Addr) (n c : Nat) (h : Inp w A n c) :
    Calls Try.prog 5 #[.slice A n c] w (LawTrue w) := by
  by_cases hbig : 1048576 < n
  · go_enter Try.func5, Try.ntmps5
    go_wp2_with fail
    go_ret
    exact ⟨rfl, Below.refl _ _⟩
  go_enter Try.func5, Try.ntmps5
  go_wp2_with fail
  refine (drawNewGc_any _ _ _ _ h).mono ?_; rintro e w1 ⟨v, C, rfl, HA, hb1⟩
  have HAo := HA
  obtain ⟨A0, n0, c0, A1, n1, c1, A2, n2, c2, A3, n3, c3, rfl, _⟩ := HAo.open_
  clear HAo
  replace HA := Cv.mono HA (Nat.zero_le _)
  have BW1 : Below w.heap.size w w1 := BL_th (Below.refl w.heap.size w) hb1
  have zz1 : w.heap.size ≤ w1.heap.size := hb1.size
  have I := fun W lo v hW => implNewGc_any W lo v C hW
  have S := fun W lo v hW => specNewGc_any W lo v C hW
  rcases hC : stoB C
  · have e1 : newG C = none := by unfold newG; rw [if_neg (by rw [hC]; decide)]
    rw [e1] at I S
    clear e1 hC
    obtain ⟨p2, k9, a2, hz⟩ : ∃ q r s, Gp.zero = ⟨q, r, s⟩ := ⟨_, _, _, rfl⟩
    go_wp2_with fail
    refine (I _ _ _ (HA.alloc (.cells #[.slice A0 n0 c0, .slice A1 n1 c1, .slice A2 n2 c2, .slice A3 n3 c3] 27))).mono ?_; rintro e w2 ⟨v2, rfl, HB, hb2⟩
    simp only [Option.isSome_none, Option.getD_none] at HB ⊢
    rw [hz] at HB
    have CB := CGv.mk (HA.alloc (.cells #[.slice A0 n0 c0, .slice A1 n1 c1, .slice A2 n2 c2, .slice A3 n3 c3] 27)) HB (Nat.zero_le _) hb2
    obtain ⟨B4, k4, d4, rfl, _, Bl4, Bm4, _⟩ := HB.open_
    clear HB
    dsimp only at CB Bl4 ⊢
    have BW2 : Below w.heap.size w w2 := BL_th (BL_al BW1 (.cells #[.slice A0 n0 c0, .slice A1 n1 c1, .slice A2 n2 c2, .slice A3 n3 c3] 27)) hb2
    have zz2 : w1.heap.size + 1 ≤ w2.heap.size := by have := hb2.size; simp at this; omega
    have HA_2 := Cv.below (by exact (HA.alloc (.cells #[.slice A0 n0 c0, .slice A1 n1 c1, .slice A2 n2 c2, .slice A3 n3 c3] 27))) hb2
    have X_2 := Blk4.below (by exact (Blk4.new w1 (.slice A0 n0 c0) (.slice A1 n1 c1) (.slice A2 n2 c2) (.slice A3 n3 c3) 27)) hb2
    obtain ⟨cX_2_0, cX_2_1, cX_2_2, cX_2_3, _⟩ := X_2.cells
    have lX_2 := X_2.lt
    go_wp2_with fail
    refine (S _ _ _ (HA_2.alloc (.cells #[.int .i64 p2, .slice B4 k4 d4, .int .i64 a2] 29))).mono ?_; rintro e w3 ⟨v3, rfl, HD, hb3⟩
    simp only [Option.isSome_none, Option.getD_none] at HD ⊢
    rw [hz] at HD
    have CD := CGv.mk (HA_2.alloc (.cells #[.int .i64 p2, .slice B4 k4 d4, .int .i64 a2] 29)) HD (Nat.zero_le _) hb3
    obtain ⟨D4, m4, f4, rfl, _, Dl4, Dm4, _⟩ := HD.open_
    clear HD
    dsimp only at CD Dl4 ⊢
    have BW3 : Below w.heap.size w w3 := BL_th (BL_al BW2 (.cells #[.int .i64 p2, .slice B4 k4 d4, .int .i64 a2] 29)) hb3
    have zz3 : w2.heap.size + 1 ≤ w3.heap.size := by have := hb3.size; simp at this; omega
    have HA_3 := Cv.below (by exact (HA_2.alloc (.cells #[.int .i64 p2, .slice B4 k4 d4, .int .i64 a2] 29))) hb3
    have X_3 := Blk4.below (by exact (X_2.alloc (.cells #[.int .i64 p2, .slice B4 k4 d4, .int .i64 a2] 29))) hb3
    obtain ⟨cX_3_0, cX_3_1, cX_3_2, cX_3_3, _⟩ := X_3.cells
    have lX_3 := X_3.lt
    have CB_3 := CGv.below (by exact (CB.alloc (.cells #[.int .i64 p2, .slice B4 k4 d4, .int .i64 a2] 29))) hb3
    have Y_3 := Blk3.below (by exact (Blk3.new w2 (.int .i64 p2) (.slice B4 k4 d4) (.int .i64 a2) 29)) hb3
    obtain ⟨cY_3_0, cY_3_1, cY_3_2, _⟩ := Y_3.cells
    have lY_3 := Y_3.lt
    go_wp2_with fail
    refine (gc_sameG (CGv.gv (CB_3.alloc (.cells #[.int .i64 p2, .slice D4 m4 f4, .int .i64 a2] 29))) (CGv.gv (CD.alloc (.cells #[.int .i64 p2, .slice D4 m4 f4, .int .i64 a2] 29)))).mono ?_; rintro e w4 ⟨rfl, hb4⟩
    have BW4 : Below w.heap.size w w4 := BL_th (BL_al BW3 (.cells #[.int .i64 p2, .slice D4 m4 f4, .int .i64 a2] 29)) hb4
    have zz4 : w3.heap.size + 1 ≤ w4.heap.size := by have := hb4.size; simp at this; omega
    have HA_4 := Cv.below (by exact (HA_3.alloc (.cells #[.int .i64 p2, .slice D4 m4 f4, .int .i64 a2] 29))) hb4
    have X_4 := Blk4.below (by exact (X_3.alloc (.cells #[.int .i64 p2, .slice D4 m4 f4, .int .i64 a2] 29))) hb4
    obtain ⟨cX_4_0, cX_4_1, cX_4_2, cX_4_3, _⟩ := X_4.cells
    have lX_4 := X_4.lt
    have CB_4 := CGv.below (by exact (CB_3.alloc (.cells #[.int .i64 p2, .slice D4 m4 f4, .int .i64 a2] 29))) hb4
    have Y_4 := Blk3.below (by exact (Y_3.alloc (.cells #[.int .i64 p2, .slice D4 m4 f4, .int .i64 a2] 29))) hb4
    obtain ⟨cY_4_0, cY_4_1, cY_4_2, _⟩ := Y_4.cells
    have lY_4 := Y_4.lt
    have CD_4 := CGv.below (by exact (CD.alloc (.cells #[.int .i64 p2, .slice D4 m4 f4, .int .i64 a2] 29))) hb4
    have T_4 := Blk3.below (by exact (Blk3.new w3 (.int .i64 p2) (.slice D4 m4 f4) (.int .i64 a2) 29)) hb4
    obtain ⟨cT_4_0, cT_4_1, cT_4_2, _⟩ := T_4.cells
    have lT_4 := T_4.lt
    go_wp2_with fail
    refine (gc_sameG (CGv.gv CB_4) (CGv.gv CD_4)).mono ?_; rintro e w5 ⟨rfl, hb5⟩
    have BW5 : Below w.heap.size w w5 := BL_th BW4 hb5
    have zz5 : w4.heap.size ≤ w5.heap.size := hb5.size
    have HA_5 := Cv.below (by exact HA_4) hb5
    have X_5 := Blk4.below (by exact X_4) hb5
    obtain ⟨cX_5_0, cX_5_1, cX_5_2, cX_5_3, _⟩ := X_5.cells
    have lX_5 := X_5.lt
    have CB_5 := CGv.below (by exact CB_4) hb5
    have Y_5 := Blk3.below (by exact Y_4) hb5
    obtain ⟨cY_5_0, cY_5_1, cY_5_2, _⟩ := Y_5.cells
    have lY_5 := Y_5.lt
    have CD_5 := CGv.below (by exact CD_4) hb5
    have T_5 := Blk3.below (by exact T_4) hb5
    obtain ⟨cT_5_0, cT_5_1, cT_5_2, _⟩ := T_5.cells
    have lT_5 := T_5.lt
    clear HA_4 X_4 cX_4_0 cX_4_1 cX_4_2 cX_4_3 lX_4 CB_4 Y_4 cY_4_0 cY_4_1 cY_4_2 lY_4 CD_4 T_4 cT_4_0 cT_4_1 cT_4_2 lT_4
    go_wp2_with fail
    go_ret
    exact ⟨by simp, BW5⟩
  · have e1 : newG C = some ⟨0, List.replicate C.h.l.length 0, 0⟩ := by unfold newG; rw [if_pos hC]
    rw [e1] at I S
    have hI := inv_new hC
    have hg := hI.1
    have hgo := inv_go hI
    have hIH := Lib.hid hI
    generalize List.replicate C.h.l.length (0 : Int) = cN at I S hIH
    clear e1 hI hg hgo
    go_wp2_with fail
    refine (I _ _ _ (HA.alloc (.cells #[.slice A0 n0 c0, .slice A1 n1 c1, .slice A2 n2 c2, .slice A3 n3 c3] 27))).mono ?_; rintro e w2 ⟨v2, rfl, HB, hb2⟩
    simp only [Option.isSome_some, Option.getD_some] at HB ⊢
    have CB := CGv.mk (HA.alloc (.cells #[.slice A0 n0 c0, .slice A1 n1 c1, .slice A2 n2 c2, .slice A3 n3 c3] 27)) HB (Nat.zero_le _) hb2
    obtain ⟨B4, k4, d4, rfl, _, Bl4, Bm4, _⟩ := HB.open_
    clear HB
    dsimp only at CB Bl4 ⊢
    have BW2 : Below w.heap.size w w2 := BL_th (BL_al BW1 (.cells #[.slice A0 n0 c0, .slice A1 n1 c1, .slice A2 n2 c2, .slice A3 n3 c3] 27)) hb2
    have zz2 : w1.heap.size + 1 ≤ w2.heap.size := by have := hb2.size; simp at this; omega
    have HA_2 := Cv.below (by exact (HA.alloc (.cells #[.slice A0 n0 c0, .slice A1 n1 c1, .slice A2 n2 c2, .slice A3 n3 c3] 27))) hb2
    have X_2 := Blk4.below (by exact (Blk4.new w1 (.slice A0 n0 c0) (.slice A1 n1 c1) (.slice A2 n2 c2) (.slice A3 n3 c3) 27)) hb2
    obtain ⟨cX_2_0, cX_2_1, cX_2_2, cX_2_3, _⟩ := X_2.cells
    have lX_2 := X_2.lt
    go_wp2_with fail
    refine (S _ _ _ (HA_2.alloc (.cells #[.int .i64 0, .slice B4 k4 d4, .int .i64 0] 29))).mono ?_; rintro e w3 ⟨v3, rfl, HD, hb3⟩
    simp only [Option.isSome_some, Option.getD_some] at HD ⊢
    have CD := CGv.mk (HA_2.alloc (.cells #[.int .i64 0, .slice B4 k4 d4, .int .i64 0] 29)) HD (Nat.zero_le _) hb3
    obtain ⟨D4, m4, f4, rfl, _, Dl4, Dm4, _⟩ := HD.open_
    clear HD
    dsimp only at CD Dl4 ⊢
    have BW3 : Below w.heap.size w w3 := BL_th (BL_al BW2 (.cells #[.int .i64 0, .slice B4 k4 d4, .int .i64 0] 29)) hb3
    have zz3 : w2.heap.size + 1 ≤ w3.heap.size := by have := hb3.size; simp at this; omega
    have HA_3 := Cv.below (by exact (HA_2.alloc (.cells #[.int .i64 0, .slice B4 k4 d4, .int .i64 0] 29))) hb3
    have X_3 := Blk4.below (by exact (X_2.alloc (.cells #[.int .i64 0, .slice B4 k4 d4, .int .i64 0] 29))) hb3
    obtain ⟨cX_3_0, cX_3_1, cX_3_2, cX_3_3, _⟩ := X_3.cells
    have lX_3 := X_3.lt
    have CB_3 := CGv.below (by exact (CB.alloc (.cells #[.int .i64 0, .slice B4 k4 d4, .int .i64 0] 29))) hb3
    have Y_3 := Blk3.below (by exact (Blk3.new w2 (.int .i64 0) (.slice B4 k4 d4) (.int .i64 0) 29)) hb3
    obtain ⟨cY_3_0, cY_3_1, cY_3_2, _⟩ := Y_3.cells
    have lY_3 := Y_3.lt
    go_wp2_with fail
    refine (gc_sameG (CGv.gv (CB_3.alloc (.cells #[.int .i64 0, .slice D4 m4 f4, .int .i64 0] 29))) (CGv.gv (CD.alloc (.cells #[.int .i64 0, .slice D4 m4 f4, .int .i64 0] 29)))).mono ?_; rintro e w4 ⟨rfl, hb4⟩
    have BW4 : Below w.heap.size w w4 := BL_th (BL_al BW3 (.cells #[.int .i64 0, .slice D4 m4 f4, .int .i64 0] 29)) hb4
    have zz4 : w3.heap.size + 1 ≤ w4.heap.size := by have := hb4.size; simp at this; omega
    have HA_4 := Cv.below (by exact (HA_3.alloc (.cells #[.int .i64 0, .slice D4 m4 f4, .int .i64 0] 29))) hb4
    have X_4 := Blk4.below (by exact (X_3.alloc (.cells #[.int .i64 0, .slice D4 m4 f4, .int .i64 0] 29))) hb4
    obtain ⟨cX_4_0, cX_4_1, cX_4_2, cX_4_3, _⟩ := X_4.cells
    have lX_4 := X_4.lt
    have CB_4 := CGv.below (by exact (CB_3.alloc (.cells #[.int .i64 0, .slice D4 m4 f4, .int .i64 0] 29))) hb4
    have Y_4 := Blk3.below (by exact (Y_3.alloc (.cells #[.int .i64 0, .slice D4 m4 f4, .int .i64 0] 29))) hb4
    obtain ⟨cY_4_0, cY_4_1, cY_4_2, _⟩ := Y_4.cells
    have lY_4 := Y_4.lt
    have CD_4 := CGv.below (by exact (CD.alloc (.cells #[.int .i64 0, .slice D4 m4 f4, .int .i64 0] 29))) hb4
    have T_4 := Blk3.below (by exact (Blk3.new w3 (.int .i64 0) (.slice D4 m4 f4) (.int .i64 0) 29)) hb4
    obtain ⟨cT_4_0, cT_4_1, cT_4_2, _⟩ := T_4.cells
    have lT_4 := T_4.lt
    have hxy : w1.heap.size ≠ w2.heap.size := by omega
    have hyx : w2.heap.size ≠ w1.heap.size := by omega
    have hwx : w.heap.size ≤ w1.heap.size := by omega
    have hwy : w.heap.size ≤ w2.heap.size := by omega
    go_wp2_with fail
    go_loopw [8, 9, 10, 11, 12, 13] (fun i _ _ _ _ _ wr => ∃ (k : Nat) (C1 : Cp) (p1 a1 : Int) (c1 : List Int) (E0 : Option Addr) (u0 e0 : Nat) (E1 : Option Addr) (u1 e1 : Nat) (E2 : Option Addr) (u2 e2 : Nat) (E3 : Option Addr) (u3 e3 : Nat) (E4 : Option Addr) (u4 e4 : Nat), k ≤ 40 ∧ i = .int .i64 (k : Int) ∧ Hid (InvG C1 ⟨p1, c1, a1⟩) ∧ CGv wr 0 (.agg #[.slice E0 u0 e0, .slice E1 u1 e1, .slice E2 u2 e2, .slice E3 u3 e3]) (.agg #[.int .i64 p1, .slice E4 u4 e4, .int .i64 a1]) C1 ⟨p1, c1, a1⟩ ∧ Blk4 wr w1.heap.size (.slice E0 u0 e0) (.slice E1 u1 e1) (.slice E2 u2 e2) (.slice E3 u3 e3) 27 ∧ Blk3 wr w2.heap.size (.int .i64 p1) (.slice E4 u4 e4) (.int .i64 a1) 29 ∧ Below w.heap.size w wr) (fun i _ _ _ _ _ _ => 40 - (intOf i).toNat)
    case atStart => exact ⟨0, C, 0, 0, cN, _, _, _, _, _, _, _, _, _, _, _, _, _, _, _, Nat.zero_le _, rfl, hIH, CB_4, X_4, Y_4, BW4⟩
    case round =>
      obtain ⟨k, C1, p1, a1, c1, E0, u0, e0, E1, u1, e1, E2, u2, e2, E3, u3, e3, E4, u4, e4, hk, rfl, hinv, CG1, X1, Y1, BB1⟩ := hrel
      obtain ⟨x0, x1, x2, x3, _⟩ := X1.cells
      obtain ⟨y0, y1, y2, _⟩ := Y1.cells
      have lx1 := X1.lt
      have ly1 := Y1.lt
      by_cases hlt : k < 40
      · have hki : (k : Int) < 40 := by omega
        have SW := implSwept_any wr 0 _ _ C1 ⟨p1, c1, a1⟩ CG1
        have eo : swO C1 ⟨p1, c1, a1⟩ = swI C1 ⟨p1, c1, a1⟩ := by unfold swO; rw [if_pos hinv.out.1]
        rw [eo] at SW
        have hlk := inv_leak hinv.out
        have hgo := inv_go hinv.out
        have hst := inv_step hinv.out
        have hvv := (stoB_parts (gcB_iff.1 hinv.out.1).1).1
        have ST := fun W lo vs vg hW => implStepGc_any W lo vs vg C1 ⟨p1, c1, a1⟩ hW
        rw [stepO_go hgo] at ST
        have RC := fun W lo v hW => implReach_any W lo v C1.h hW
        have hxl : swI C1 ⟨p1, c1, a1⟩ = -1 ∨ ∃ j : Nat, swI C1 ⟨p1, c1, a1⟩ = (j : Int) ∧ (liveL C1.h)[j]? = some false := by
          rcases hlk with h1 | ⟨h1, _, h4⟩
          · exact .inl h1
          · obtain ⟨_, hg9, _⟩ := mem_leak h4
            obtain ⟨j, hj⟩ := garb_nat hg9
            dsimp only at h1 hj hg9
            rw [hj] at hg9
            exact .inr ⟨j, by rw [h1, hj], mem_garb.1 hg9⟩
        generalize stepG C1 ⟨p1, c1, a1⟩ = sg at ST hst
        obtain ⟨C2, G2⟩ := sg
        dsimp only at hst
        have HI2 := Lib.hid hst
        generalize swI C1 ⟨p1, c1, a1⟩ = x at SW hxl
        have HX := Lib.hid hxl
        have HLL := Lib.hid (liveL_len hvv)
        generalize liveL C1.h = ys at RC HX HLL
        clear hlk hgo hst eo hvv hinv hxl
        go_wp2_with fail
        refine SW.mono ?_; rintro e w5 ⟨rfl, hb5⟩
        have X5 := X1.below hb5
        have Y5 := Y1.below hb5
        have CG5 := CG1.below hb5
        have BB5 := BL_th BB1 hb5
        clear x0 x1 x2 x3 y0 y1 y2 SW
        obtain ⟨x0, x1, x2, x3, _⟩ := X5.cells
        obtain ⟨y0, y1, y2, _⟩ := Y5.cells
        go_wp2_with fail
        refine (RC _ _ _ (Cv.hvP (CGv.cv CG5))).mono ?_; rintro e w6 ⟨R6, k6, rfl, hr6, hb6⟩
        have X6 := X5.below hb6
        have Y6 := Y5.below hb6
        have CG6 := CG5.below hb6
        have BB6 := BL_th BB5 hb6
        clear x0 x1 x2 x3 y0 y1 y2 RC X1 Y1 CG1 BB1 X5 Y5 CG5 BB5
        obtain ⟨x0, x1, x2, x3, _⟩ := X6.cells
        obtain ⟨y0, y1, y2, _⟩ := Y6.cells
        rcases HX.out with hx | ⟨j, hx, hj⟩
        · have hx2 : (x != -1) = false := by rw [hx]; rfl
          clear hx HX hr6
          go_wp2_with fail
          refine (ST _ _ _ _ CG6).mono ?_; rintro e w7 ⟨vs, vg, rfl, hc7, hb7⟩
          simp only [Option.isSome_some, Option.getD_some] at hc7 ⊢
          obtain ⟨D0, m0, d0, D1, m1, d1, D2, m2, d2, D3, m3, d3, D4, m4, d4, p5, cc5, a5, rfl, rfl, rfl, _⟩ := hc7.open_
          try dsimp only at HI2
          have zz7 := hb7.size
          have X7 := ((X6.below hb7).alloc (.cells #[.slice D0 m0 d0, .slice D1 m1 d1, .slice D2 m2 d2, .slice D3 m3 d3] 27)).alloc (.cells #[.int .i64 p5, .slice D4 m4 d4, .int .i64 a5] 29)
          have Y7 := ((Y6.below hb7).alloc (.cells #[.slice D0 m0 d0, .slice D1 m1 d1, .slice D2 m2 d2, .slice D3 m3 d3] 27)).alloc (.cells #[.int .i64 p5, .slice D4 m4 d4, .int .i64 a5] 29)
          have N7 := (Blk4.new w7 (.slice D0 m0 d0) (.slice D1 m1 d1) (.slice D2 m2 d2) (.slice D3 m3 d3) 27).alloc (.cells #[.int .i64 p5, .slice D4 m4 d4, .int .i64 a5] 29)
          have H7 := Blk3.new_at (w := w7.alloc (.cells #[.slice D0 m0 d0, .slice D1 m1 d1, .slice D2 m2 d2, .slice D3 m3 d3] 27)) (b := w7.heap.size + 1) (by simp) (.int .i64 p5) (.slice D4 m4 d4) (.int .i64 a5) 29
          have CG7 := (hc7.alloc (.cells #[.slice D0 m0 d0, .slice D1 m1 d1, .slice D2 m2 d2, .slice D3 m3 d3] 27)).alloc (.cells #[.int .i64 p5, .slice D4 m4 d4, .int .i64 a5] 29)
          have B7 := BL_al (BL_al (BL_th BB6 hb7) (.cells #[.slice D0 m0 d0, .slice D1 m1 d1, .slice D2 m2 d2, .slice D3 m3 d3] 27)) (.cells #[.int .i64 p5, .slice D4 m4 d4, .int .i64 a5] 29)
          have lx6 := X6.lt
          have ly6 := Y6.lt
          obtain ⟨x0', x1', x2', x3', f0, f1, f2, f3⟩ := X7.cells
          obtain ⟨y0', y1', y2', g0, g1, g2⟩ := Y7.cells
          obtain ⟨n0', n1', n2', n3', _⟩ := N7.cells
          obtain ⟨h0', h1', h2', _⟩ := H7.cells
          have k1 : w7.heap.size ≠ w1.heap.size := by omega
          have k2 : w7.heap.size ≠ w2.heap.size := by omega
          have k3 : w7.heap.size + 1 ≠ w1.heap.size := by omega
          have k4 : w7.heap.size + 1 ≠ w2.heap.size := by omega
          have X8 := ((((X7.set4R (.slice D0 m0 d0) (.slice D1 m1 d1) (.slice D2 m2 d2) (.slice D3 m3 d3)).otherS hxy 0 (.int .i64 p5)).otherS hxy 1 (.slice D4 m4 d4)).otherS hxy 2 (.int .i64 a5))
          have Y8 := Blk3.set3R ((((Y7.otherS hyx 0 (.slice D0 m0 d0)).otherS hyx 1 (.slice D1 m1 d1)).otherS hyx 2 (.slice D2 m2 d2)).otherS hyx 3 (.slice D3 m3 d3)) (.int .i64 p5) (.slice D4 m4 d4) (.int .i64 a5)
          have CG8 := ((((((CG7.setS lx6 0 (.slice D0 m0 d0)).setS lx6 1 (.slice D1 m1 d1)).setS lx6 2 (.slice D2 m2 d2)).setS lx6 3 (.slice D3 m3 d3)).setS ly6 0 (.int .i64 p5)).setS ly6 1 (.slice D4 m4 d4)).setS ly6 2 (.int .i64 a5)
          have B8 : Below w.heap.size w (((((((((w7.alloc (.cells #[.slice D0 m0 d0, .slice D1 m1 d1, .slice D2 m2 d2, .slice D3 m3 d3] 27)).alloc (.cells #[.int .i64 p5, .slice D4 m4 d4, .int .i64 a5] 29)).setCell ⟨w1.heap.size, 0, none⟩ (.slice D0 m0 d0)).setCell ⟨w1.heap.size, 1, none⟩ (.slice D1 m1 d1)).setCell ⟨w1.heap.size, 2, none⟩ (.slice D2 m2 d2)).setCell ⟨w1.heap.size, 3, none⟩ (.slice D3 m3 d3)).setCell ⟨w2.heap.size, 0, none⟩ (.int .i64 p5)).setCell ⟨w2.heap.size, 1, none⟩ (.slice D4 m4 d4)).setCell ⟨w2.heap.size, 2, none⟩ (.int .i64 a5)) := BS_set (BS_set (BS_set (BS_set (BS_set (BS_set (BS_set B7 hwx 0 _) hwx 1 _) hwx 2 _) hwx 3 _) hwy 0 _) hwy 1 _) hwy 2 _
          have lx := X7.lt
          have ly := Y7.lt
          clear hc7 x0 x1 x2 x3 y0 y1 y2 X6 Y6 CG6 BB6 CG7 X7 Y7 N7 H7 B7 ST hb7
          go_wp2_with fail
          go_roundw
          case rel => exact ⟨k + 1, C2, p5, a5, cc5, _, _, _, _, _, _, _, _, _, _, _, _, _, _, _, by omega, by go_num, HI2, CG8.mono (Nat.zero_le _), X8, Y8, B8⟩
          case measure => simp [intOf]; omega
        · have hx2 : (x != -1) = true := by rw [hx]; simp only [bne, Bool.not_eq_true', beq_eq_false_iff_ne]; omega
          subst hx
          obtain ⟨gr, b, er, _, _, hbb, hcb, _⟩ := hr6.get (k := j) (List.getElem?_eq_some_iff.1 hj).1
          cases er
          obtain rfl : b = false := by have h9 := hbb.out; rw [hj] at h9; simpa using h9.symm
          have hjl : (j : Int) < (ys.length : Int) := by have := (List.getElem?_eq_some_iff.1 hj).1; omega
          clear hj hbb hr6 HX
          go_wp2_with fail
          refine (ST _ _ _ _ CG6).mono ?_; rintro e w7 ⟨vs, vg, rfl, hc7, hb7⟩
          simp only [Option.isSome_some, Option.getD_some] at hc7 ⊢
          obtain ⟨D0, m0, d0, D1, m1, d1, D2, m2, d2, D3, m3, d3, D4, m4, d4, p5, cc5, a5, rfl, rfl, rfl, _⟩ := hc7.open_
          try dsimp only at HI2
          have zz7 := hb7.size
          have X7 := ((X6.below hb7).alloc (.cells #[.slice D0 m0 d0, .slice D1 m1 d1, .slice D2 m2 d2, .slice D3 m3 d3] 27)).alloc (.cells #[.int .i64 p5, .slice D4 m4 d4, .int .i64 a5] 29)
          have Y7 := ((Y6.below hb7).alloc (.cells #[.slice D0 m0 d0, .slice D1 m1 d1, .slice D2 m2 d2, .slice D3 m3 d3] 27)).alloc (.cells #[.int .i64 p5, .slice D4 m4 d4, .int .i64 a5] 29)
          have N7 := (Blk4.new w7 (.slice D0 m0 d0) (.slice D1 m1 d1) (.slice D2 m2 d2) (.slice D3 m3 d3) 27).alloc (.cells #[.int .i64 p5, .slice D4 m4 d4, .int .i64 a5] 29)
          have H7 := Blk3.new_at (w := w7.alloc (.cells #[.slice D0 m0 d0, .slice D1 m1 d1, .slice D2 m2 d2, .slice D3 m3 d3] 27)) (b := w7.heap.size + 1) (by simp) (.int .i64 p5) (.slice D4 m4 d4) (.int .i64 a5) 29
          have CG7 := (hc7.alloc (.cells #[.slice D0 m0 d0, .slice D1 m1 d1, .slice D2 m2 d2, .slice D3 m3 d3] 27)).alloc (.cells #[.int .i64 p5, .slice D4 m4 d4, .int .i64 a5] 29)
          have B7 := BL_al (BL_al (BL_th BB6 hb7) (.cells #[.slice D0 m0 d0, .slice D1 m1 d1, .slice D2 m2 d2, .slice D3 m3 d3] 27)) (.cells #[.int .i64 p5, .slice D4 m4 d4, .int .i64 a5] 29)
          have lx6 := X6.lt
          have ly6 := Y6.lt
          obtain ⟨x0', x1', x2', x3', f0, f1, f2, f3⟩ := X7.cells
          obtain ⟨y0', y1', y2', g0, g1, g2⟩ := Y7.cells
          obtain ⟨n0', n1', n2', n3', _⟩ := N7.cells
          obtain ⟨h0', h1', h2', _⟩ := H7.cells
          have k1 : w7.heap.size ≠ w1.heap.size := by omega
          have k2 : w7.heap.size ≠ w2.heap.size := by omega
          have k3 : w7.heap.size + 1 ≠ w1.heap.size := by omega
          have k4 : w7.heap.size + 1 ≠ w2.heap.size := by omega
          have X8 := ((((X7.set4R (.slice D0 m0 d0) (.slice D1 m1 d1) (.slice D2 m2 d2) (.slice D3 m3 d3)).otherS hxy 0 (.int .i64 p5)).otherS hxy 1 (.slice D4 m4 d4)).otherS hxy 2 (.int .i64 a5))
          have Y8 := Blk3.set3R ((((Y7.otherS hyx 0 (.slice D0 m0 d0)).otherS hyx 1 (.slice D1 m1 d1)).otherS hyx 2 (.slice D2 m2 d2)).otherS hyx 3 (.slice D3 m3 d3)) (.int .i64 p5) (.slice D4 m4 d4) (.int .i64 a5)
          have CG8 := ((((((CG7.setS lx6 0 (.slice D0 m0 d0)).setS lx6 1 (.slice D1 m1 d1)).setS lx6 2 (.slice D2 m2 d2)).setS lx6 3 (.slice D3 m3 d3)).setS ly6 0 (.int .i64 p5)).setS ly6 1 (.slice D4 m4 d4)).setS ly6 2 (.int .i64 a5)
          have B8 : Below w.heap.size w (((((((((w7.alloc (.cells #[.slice D0 m0 d0, .slice D1 m1 d1, .slice D2 m2 d2, .slice D3 m3 d3] 27)).alloc (.cells #[.int .i64 p5, .slice D4 m4 d4, .int .i64 a5] 29)).setCell ⟨w1.heap.size, 0, none⟩ (.slice D0 m0 d0)).setCell ⟨w1.heap.size, 1, none⟩ (.slice D1 m1 d1)).setCell ⟨w1.heap.size, 2, none⟩ (.slice D2 m2 d2)).setCell ⟨w1.heap.size, 3, none⟩ (.slice D3 m3 d3)).setCell ⟨w2.heap.size, 0, none⟩ (.int .i64 p5)).setCell ⟨w2.heap.size, 1, none⟩ (.slice D4 m4 d4)).setCell ⟨w2.heap.size, 2, none⟩ (.int .i64 a5)) := BS_set (BS_set (BS_set (BS_set (BS_set (BS_set (BS_set B7 hwx 0 _) hwx 1 _) hwx 2 _) hwx 3 _) hwy 0 _) hwy 1 _) hwy 2 _
          have lx := X7.lt
          have ly := Y7.lt
          clear hc7 x0 x1 x2 x3 y0 y1 y2 X6 Y6 CG6 BB6 CG7 X7 Y7 N7 H7 B7 ST hb7
          go_wp2_with fail
          go_roundw
          case rel => exact ⟨k + 1, C2, p5, a5, cc5, _, _, _, _, _, _, _, _, _, _, _, _, _, _, _, by omega, by go_num, HI2, CG8.mono (Nat.zero_le _), X8, Y8, B8⟩
          case measure => simp [intOf]; omega
      · obtain rfl : k = 40 := by omega
        go_wp2_with fail
        go_ret
        exact ⟨rfl, BB1⟩
end Go.Proofs.Ytdedffdmppckiaa
