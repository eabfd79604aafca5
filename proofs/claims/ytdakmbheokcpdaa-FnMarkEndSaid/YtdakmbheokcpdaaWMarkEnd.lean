/- The law FnMarkEnd, walked. -/
import Derived.Test.YtdakmbheokcpdaaGSps
import Derived.Test.YtdakmbheokcpdaaCsG
import Derived.Test.YtdakmbheokcpdaaLwG
import Derived.Test.YtdakmbheokcpdaaGMets
import Derived.Test.YtdakmbheokcpdaaGSms
import Derived.Test.YtdakmbheokcpdaaLaws0
import Derived.Test.YtdakmbheokcpdaaIStos
import Derived.Test.YtdakmbheokcpdaaLawH
import Derived.Test.YtdakmbheokcpdaaICols
namespace Go.Proofs.Ytdakmbheokcpdaa
open Go.RowKit

set_option maxRecDepth 100000 in
set_option maxHeartbeats 6000000 in
theorem lawMarkEnd_walk (w : World) (A : Option Addr) (n c : Nat) (h : Inp w A n c) :
    Calls Try.prog 3 #[.slice A n c] w (LawTrue w) := by
  by_cases hbig : 1048576 < n
  · go_enter Try.func3, Try.ntmps3
    go_wp2_with fail
    go_ret
    exact ⟨rfl, Below.refl _ _⟩
  go_enter Try.func3, Try.ntmps3
  go_wp2_with fail
  refine (drawStepGc_any _ _ _ _ h).mono ?_; rintro e w1 ⟨vs, vg, C, G, rfl, HA, hC, hn, hb1⟩
  obtain ⟨A0, n0, c0, A1, n1, c1, A2, n2, c2, A3, n3, c3, A4, n4, c4, p, cc, a, rfl, rfl, rfl, _, _, ⟨Ar0, Ar1, Ar2, Ar3, Ar4⟩, ⟨Al0, Al1, Al2, Al3, Al4⟩, ⟨Am0, Am1, Am2, Am3, Am4⟩⟩ := CGv.open_ HA
  clear Ar0 Ar1 Ar2 Ar3 Ar4
  dsimp only at hn HA
  have BW1 : Below w.heap.size w w1 := BL_th (Below.refl w.heap.size w) hb1
  have zz1 : w.heap.size ≤ w1.heap.size := hb1.size
  obtain ⟨s0, s1, s2, s3⟩ := short_sto hC
  have I := fun W lo vs vg hW => implStepGc_any W lo vs vg C ⟨p, cc, a⟩ hW
  have S := fun W lo vs vg hW => specStepGc_any W lo vs vg C ⟨p, cc, a⟩ hW s0 s1 s2 s3
  rcases ho : goB C ⟨p, cc, a⟩
  · have e1 : stepO C ⟨p, cc, a⟩ = none := stepO_bad ho
    rw [e1] at I S
    clear e1 ho
    go_wp2_with fail
    refine (I _ _ _ _ ((HA.alloc (.cells #[.slice A0 n0 c0, .slice A1 n1 c1, .slice A2 n2 c2, .slice A3 n3 c3] 27)).alloc (.cells #[.int .i64 p, .slice A4 n4 c4, .int .i64 a] 29))).mono ?_; rintro e w2 ⟨vs, vg, rfl, HB, hb2⟩
    simp only [Option.isSome_none, Option.getD_none] at HB ⊢
    obtain ⟨B0, k0, d0, B1, k1, d1, B2, k2, d2, B3, k3, d3, B4, k4, d4, p2, k9, a2, hz2, rfl, rfl, _, _, ⟨Br0, Br1, Br2, Br3, Br4⟩, ⟨Bl0, Bl1, Bl2, Bl3, Bl4⟩, ⟨Bm0, Bm1, Bm2, Bm3, Bm4⟩⟩ := CGv.open_ HB
    clear Br0 Br1 Br2 Br3 Br4
    have BW2 : Below w.heap.size w w2 := BL_th (BL_al (BL_al BW1 (.cells #[.slice A0 n0 c0, .slice A1 n1 c1, .slice A2 n2 c2, .slice A3 n3 c3] 27)) (.cells #[.int .i64 p, .slice A4 n4 c4, .int .i64 a] 29)) hb2
    have zz2 : w1.heap.size + 2 ≤ w2.heap.size := by have := hb2.size; simp at this; omega
    have HA_2 := CGv.below (by exact ((HA.alloc (.cells #[.slice A0 n0 c0, .slice A1 n1 c1, .slice A2 n2 c2, .slice A3 n3 c3] 27)).alloc (.cells #[.int .i64 p, .slice A4 n4 c4, .int .i64 a] 29))) hb2
    have X_2 := Blk4.below (by exact ((Blk4.new w1 (.slice A0 n0 c0) (.slice A1 n1 c1) (.slice A2 n2 c2) (.slice A3 n3 c3) 27).alloc (.cells #[.int .i64 p, .slice A4 n4 c4, .int .i64 a] 29))) hb2
    obtain ⟨cX_2_0, cX_2_1, cX_2_2, cX_2_3, _⟩ := X_2.cells
    have lX_2 := X_2.lt
    have Y_2 := Blk3.below (by exact (Blk3.new_at (w := (w1.alloc (.cells #[.slice A0 n0 c0, .slice A1 n1 c1, .slice A2 n2 c2, .slice A3 n3 c3] 27))) (b := (w1.heap.size + 1)) (by simp) (.int .i64 p) (.slice A4 n4 c4) (.int .i64 a) 29)) hb2
    obtain ⟨cY_2_0, cY_2_1, cY_2_2, _⟩ := Y_2.cells
    have lY_2 := Y_2.lt
    go_wp2_with fail
    refine (S _ _ _ _ ((HA_2.alloc (.cells #[.slice B0 k0 d0, .slice B1 k1 d1, .slice B2 k2 d2, .slice B3 k3 d3] 27)).alloc (.cells #[.int .i64 p2, .slice B4 k4 d4, .int .i64 a2] 29))).mono ?_; rintro e w3 ⟨vs, vg, rfl, HD, hb3⟩
    simp only [Option.isSome_none, Option.getD_none] at HD ⊢
    obtain ⟨D0, m0, f0, D1, m1, f1, D2, m2, f2, D3, m3, f3, D4, m4, f4, p3, k8, a3, hz3, rfl, rfl, _, _, ⟨Dr0, Dr1, Dr2, Dr3, Dr4⟩, ⟨Dl0, Dl1, Dl2, Dl3, Dl4⟩, ⟨Dm0, Dm1, Dm2, Dm3, Dm4⟩⟩ := CGv.open_ HD
    clear Dr0 Dr1 Dr2 Dr3 Dr4
    have BW3 : Below w.heap.size w w3 := BL_th (BL_al (BL_al BW2 (.cells #[.slice B0 k0 d0, .slice B1 k1 d1, .slice B2 k2 d2, .slice B3 k3 d3] 27)) (.cells #[.int .i64 p2, .slice B4 k4 d4, .int .i64 a2] 29)) hb3
    have zz3 : w2.heap.size + 2 ≤ w3.heap.size := by have := hb3.size; simp at this; omega
    have HA_3 := CGv.below (by exact ((HA_2.alloc (.cells #[.slice B0 k0 d0, .slice B1 k1 d1, .slice B2 k2 d2, .slice B3 k3 d3] 27)).alloc (.cells #[.int .i64 p2, .slice B4 k4 d4, .int .i64 a2] 29))) hb3
    have X_3 := Blk4.below (by exact ((X_2.alloc (.cells #[.slice B0 k0 d0, .slice B1 k1 d1, .slice B2 k2 d2, .slice B3 k3 d3] 27)).alloc (.cells #[.int .i64 p2, .slice B4 k4 d4, .int .i64 a2] 29))) hb3
    obtain ⟨cX_3_0, cX_3_1, cX_3_2, cX_3_3, _⟩ := X_3.cells
    have lX_3 := X_3.lt
    have Y_3 := Blk3.below (by exact ((Y_2.alloc (.cells #[.slice B0 k0 d0, .slice B1 k1 d1, .slice B2 k2 d2, .slice B3 k3 d3] 27)).alloc (.cells #[.int .i64 p2, .slice B4 k4 d4, .int .i64 a2] 29))) hb3
    obtain ⟨cY_3_0, cY_3_1, cY_3_2, _⟩ := Y_3.cells
    have lY_3 := Y_3.lt
    have HB_3 := CGv.below (by exact ((HB.alloc (.cells #[.slice B0 k0 d0, .slice B1 k1 d1, .slice B2 k2 d2, .slice B3 k3 d3] 27)).alloc (.cells #[.int .i64 p2, .slice B4 k4 d4, .int .i64 a2] 29))) hb3
    have P_3 := Blk4.below (by exact ((Blk4.new w2 (.slice B0 k0 d0) (.slice B1 k1 d1) (.slice B2 k2 d2) (.slice B3 k3 d3) 27).alloc (.cells #[.int .i64 p2, .slice B4 k4 d4, .int .i64 a2] 29))) hb3
    obtain ⟨cP_3_0, cP_3_1, cP_3_2, cP_3_3, _⟩ := P_3.cells
    have lP_3 := P_3.lt
    have Q_3 := Blk3.below (by exact (Blk3.new_at (w := (w2.alloc (.cells #[.slice B0 k0 d0, .slice B1 k1 d1, .slice B2 k2 d2, .slice B3 k3 d3] 27))) (b := (w2.heap.size + 1)) (by simp) (.int .i64 p2) (.slice B4 k4 d4) (.int .i64 a2) 29)) hb3
    obtain ⟨cQ_3_0, cQ_3_1, cQ_3_2, _⟩ := Q_3.cells
    have lQ_3 := Q_3.lt
    go_wp2_with fail
    refine (sto_sameG (CGv.cv ((HB_3.alloc (.cells #[.slice D0 m0 f0, .slice D1 m1 f1, .slice D2 m2 f2, .slice D3 m3 f3] 27)).alloc (.cells #[.int .i64 p3, .slice D4 m4 f4, .int .i64 a3] 29))) (CGv.cv ((HD.alloc (.cells #[.slice D0 m0 f0, .slice D1 m1 f1, .slice D2 m2 f2, .slice D3 m3 f3] 27)).alloc (.cells #[.int .i64 p3, .slice D4 m4 f4, .int .i64 a3] 29)))).mono ?_; rintro e w4 ⟨rfl, hb4⟩
    have BW4 : Below w.heap.size w w4 := BL_th (BL_al (BL_al BW3 (.cells #[.slice D0 m0 f0, .slice D1 m1 f1, .slice D2 m2 f2, .slice D3 m3 f3] 27)) (.cells #[.int .i64 p3, .slice D4 m4 f4, .int .i64 a3] 29)) hb4
    have zz4 : w3.heap.size + 2 ≤ w4.heap.size := by have := hb4.size; simp at this; omega
    have HA_4 := CGv.below (by exact ((HA_3.alloc (.cells #[.slice D0 m0 f0, .slice D1 m1 f1, .slice D2 m2 f2, .slice D3 m3 f3] 27)).alloc (.cells #[.int .i64 p3, .slice D4 m4 f4, .int .i64 a3] 29))) hb4
    have X_4 := Blk4.below (by exact ((X_3.alloc (.cells #[.slice D0 m0 f0, .slice D1 m1 f1, .slice D2 m2 f2, .slice D3 m3 f3] 27)).alloc (.cells #[.int .i64 p3, .slice D4 m4 f4, .int .i64 a3] 29))) hb4
    obtain ⟨cX_4_0, cX_4_1, cX_4_2, cX_4_3, _⟩ := X_4.cells
    have lX_4 := X_4.lt
    have Y_4 := Blk3.below (by exact ((Y_3.alloc (.cells #[.slice D0 m0 f0, .slice D1 m1 f1, .slice D2 m2 f2, .slice D3 m3 f3] 27)).alloc (.cells #[.int .i64 p3, .slice D4 m4 f4, .int .i64 a3] 29))) hb4
    obtain ⟨cY_4_0, cY_4_1, cY_4_2, _⟩ := Y_4.cells
    have lY_4 := Y_4.lt
    have HB_4 := CGv.below (by exact ((HB_3.alloc (.cells #[.slice D0 m0 f0, .slice D1 m1 f1, .slice D2 m2 f2, .slice D3 m3 f3] 27)).alloc (.cells #[.int .i64 p3, .slice D4 m4 f4, .int .i64 a3] 29))) hb4
    have P_4 := Blk4.below (by exact ((P_3.alloc (.cells #[.slice D0 m0 f0, .slice D1 m1 f1, .slice D2 m2 f2, .slice D3 m3 f3] 27)).alloc (.cells #[.int .i64 p3, .slice D4 m4 f4, .int .i64 a3] 29))) hb4
    obtain ⟨cP_4_0, cP_4_1, cP_4_2, cP_4_3, _⟩ := P_4.cells
    have lP_4 := P_4.lt
    have Q_4 := Blk3.below (by exact ((Q_3.alloc (.cells #[.slice D0 m0 f0, .slice D1 m1 f1, .slice D2 m2 f2, .slice D3 m3 f3] 27)).alloc (.cells #[.int .i64 p3, .slice D4 m4 f4, .int .i64 a3] 29))) hb4
    obtain ⟨cQ_4_0, cQ_4_1, cQ_4_2, _⟩ := Q_4.cells
    have lQ_4 := Q_4.lt
    have HD_4 := CGv.below (by exact ((HD.alloc (.cells #[.slice D0 m0 f0, .slice D1 m1 f1, .slice D2 m2 f2, .slice D3 m3 f3] 27)).alloc (.cells #[.int .i64 p3, .slice D4 m4 f4, .int .i64 a3] 29))) hb4
    have R_4 := Blk4.below (by exact ((Blk4.new w3 (.slice D0 m0 f0) (.slice D1 m1 f1) (.slice D2 m2 f2) (.slice D3 m3 f3) 27).alloc (.cells #[.int .i64 p3, .slice D4 m4 f4, .int .i64 a3] 29))) hb4
    obtain ⟨cR_4_0, cR_4_1, cR_4_2, cR_4_3, _⟩ := R_4.cells
    have lR_4 := R_4.lt
    have T_4 := Blk3.below (by exact (Blk3.new_at (w := (w3.alloc (.cells #[.slice D0 m0 f0, .slice D1 m1 f1, .slice D2 m2 f2, .slice D3 m3 f3] 27))) (b := (w3.heap.size + 1)) (by simp) (.int .i64 p3) (.slice D4 m4 f4) (.int .i64 a3) 29)) hb4
    obtain ⟨cT_4_0, cT_4_1, cT_4_2, _⟩ := T_4.cells
    have lT_4 := T_4.lt
    go_wp2_with fail
    refine (gc_sameG (CGv.gv HB_4) (CGv.gv HD_4)).mono ?_; rintro e w5 ⟨rfl, hb5⟩
    have BW5 : Below w.heap.size w w5 := BL_th BW4 hb5
    have zz5 : w4.heap.size ≤ w5.heap.size := hb5.size
    have HA_5 := CGv.below (by exact HA_4) hb5
    have X_5 := Blk4.below (by exact X_4) hb5
    obtain ⟨cX_5_0, cX_5_1, cX_5_2, cX_5_3, _⟩ := X_5.cells
    have lX_5 := X_5.lt
    have Y_5 := Blk3.below (by exact Y_4) hb5
    obtain ⟨cY_5_0, cY_5_1, cY_5_2, _⟩ := Y_5.cells
    have lY_5 := Y_5.lt
    have HB_5 := CGv.below (by exact HB_4) hb5
    have P_5 := Blk4.below (by exact P_4) hb5
    obtain ⟨cP_5_0, cP_5_1, cP_5_2, cP_5_3, _⟩ := P_5.cells
    have lP_5 := P_5.lt
    have Q_5 := Blk3.below (by exact Q_4) hb5
    obtain ⟨cQ_5_0, cQ_5_1, cQ_5_2, _⟩ := Q_5.cells
    have lQ_5 := Q_5.lt
    have HD_5 := CGv.below (by exact HD_4) hb5
    have R_5 := Blk4.below (by exact R_4) hb5
    obtain ⟨cR_5_0, cR_5_1, cR_5_2, cR_5_3, _⟩ := R_5.cells
    have lR_5 := R_5.lt
    have T_5 := Blk3.below (by exact T_4) hb5
    obtain ⟨cT_5_0, cT_5_1, cT_5_2, _⟩ := T_5.cells
    have lT_5 := T_5.lt
    clear HA_4 X_4 cX_4_0 cX_4_1 cX_4_2 cX_4_3 lX_4 Y_4 cY_4_0 cY_4_1 cY_4_2 lY_4 HB_4 P_4 cP_4_0 cP_4_1 cP_4_2 cP_4_3 lP_4 Q_4 cQ_4_0 cQ_4_1 cQ_4_2 lQ_4 HD_4 R_4 cR_4_0 cR_4_1 cR_4_2 cR_4_3 lR_4 T_4 cT_4_0 cT_4_1 cT_4_2 lT_4
    go_wp2_with fail
    refine (sto_sameG (CGv.cv HB_5) (CGv.cv HD_5)).mono ?_; rintro e w6 ⟨rfl, hb6⟩
    have BW6 : Below w.heap.size w w6 := BL_th BW5 hb6
    have zz6 : w5.heap.size ≤ w6.heap.size := hb6.size
    have HA_6 := CGv.below (by exact HA_5) hb6
    have X_6 := Blk4.below (by exact X_5) hb6
    obtain ⟨cX_6_0, cX_6_1, cX_6_2, cX_6_3, _⟩ := X_6.cells
    have lX_6 := X_6.lt
    have Y_6 := Blk3.below (by exact Y_5) hb6
    obtain ⟨cY_6_0, cY_6_1, cY_6_2, _⟩ := Y_6.cells
    have lY_6 := Y_6.lt
    have HB_6 := CGv.below (by exact HB_5) hb6
    have P_6 := Blk4.below (by exact P_5) hb6
    obtain ⟨cP_6_0, cP_6_1, cP_6_2, cP_6_3, _⟩ := P_6.cells
    have lP_6 := P_6.lt
    have Q_6 := Blk3.below (by exact Q_5) hb6
    obtain ⟨cQ_6_0, cQ_6_1, cQ_6_2, _⟩ := Q_6.cells
    have lQ_6 := Q_6.lt
    have HD_6 := CGv.below (by exact HD_5) hb6
    have R_6 := Blk4.below (by exact R_5) hb6
    obtain ⟨cR_6_0, cR_6_1, cR_6_2, cR_6_3, _⟩ := R_6.cells
    have lR_6 := R_6.lt
    have T_6 := Blk3.below (by exact T_5) hb6
    obtain ⟨cT_6_0, cT_6_1, cT_6_2, _⟩ := T_6.cells
    have lT_6 := T_6.lt
    clear HA_5 X_5 cX_5_0 cX_5_1 cX_5_2 cX_5_3 lX_5 Y_5 cY_5_0 cY_5_1 cY_5_2 lY_5 HB_5 P_5 cP_5_0 cP_5_1 cP_5_2 cP_5_3 lP_5 Q_5 cQ_5_0 cQ_5_1 cQ_5_2 lQ_5 HD_5 R_5 cR_5_0 cR_5_1 cR_5_2 cR_5_3 lR_5 T_5 cT_5_0 cT_5_1 cT_5_2 lT_5
    go_wp2_with fail
    refine (gc_sameG (CGv.gv HB_6) (CGv.gv HD_6)).mono ?_; rintro e w7 ⟨rfl, hb7⟩
    have BW7 : Below w.heap.size w w7 := BL_th BW6 hb7
    have zz7 : w6.heap.size ≤ w7.heap.size := hb7.size
    have HA_7 := CGv.below (by exact HA_6) hb7
    have X_7 := Blk4.below (by exact X_6) hb7
    obtain ⟨cX_7_0, cX_7_1, cX_7_2, cX_7_3, _⟩ := X_7.cells
    have lX_7 := X_7.lt
    have Y_7 := Blk3.below (by exact Y_6) hb7
    obtain ⟨cY_7_0, cY_7_1, cY_7_2, _⟩ := Y_7.cells
    have lY_7 := Y_7.lt
    have HB_7 := CGv.below (by exact HB_6) hb7
    have P_7 := Blk4.below (by exact P_6) hb7
    obtain ⟨cP_7_0, cP_7_1, cP_7_2, cP_7_3, _⟩ := P_7.cells
    have lP_7 := P_7.lt
    have Q_7 := Blk3.below (by exact Q_6) hb7
    obtain ⟨cQ_7_0, cQ_7_1, cQ_7_2, _⟩ := Q_7.cells
    have lQ_7 := Q_7.lt
    have HD_7 := CGv.below (by exact HD_6) hb7
    have R_7 := Blk4.below (by exact R_6) hb7
    obtain ⟨cR_7_0, cR_7_1, cR_7_2, cR_7_3, _⟩ := R_7.cells
    have lR_7 := R_7.lt
    have T_7 := Blk3.below (by exact T_6) hb7
    obtain ⟨cT_7_0, cT_7_1, cT_7_2, _⟩ := T_7.cells
    have lT_7 := T_7.lt
    clear HA_6 X_6 cX_6_0 cX_6_1 cX_6_2 cX_6_3 lX_6 Y_6 cY_6_0 cY_6_1 cY_6_2 lY_6 HB_6 P_6 cP_6_0 cP_6_1 cP_6_2 cP_6_3 lP_6 Q_6 cQ_6_0 cQ_6_1 cQ_6_2 lQ_6 HD_6 R_6 cR_6_0 cR_6_1 cR_6_2 cR_6_3 lR_6 T_6 cT_6_0 cT_6_1 cT_6_2 lT_6
    go_wp2_with fail
    go_ret
    exact ⟨by simp, BW7⟩
  · have e1 : stepO C ⟨p, cc, a⟩ = some (stepG C ⟨p, cc, a⟩) := stepO_go ho
    rw [e1] at I S
    have hg := (goB_iff.1 ho).1
    have hen := fun (h2 : p = 2) (h3 : (stepG C ⟨p, cc, a⟩).2.p = 3) => step_end (C := C) (G := ⟨p, cc, a⟩) hg h2 h3
    have hcv := (gcB_iff.1 hg).2.1
    obtain ⟨zz1, _⟩ := gcB_sizes hg
    have hrg := (hv_range (stoB_parts hC).1).2.2
    have hpt := (hvB_parts (stoB_parts hC).1)
    generalize stepG C ⟨p, cc, a⟩ = sg at I S hen
    obtain ⟨C2, G2⟩ := sg
    dsimp only at hen hcv zz1
    have hc1 : 1 ≤ cc.length := by have := (gcB_sizes hg).2.1.1; omega
    clear ho e1 hg hpt
    by_cases hp : p = 2 ∧ G2.p = 3
    · obtain ⟨hp2, hp3⟩ := hp
      obtain ⟨h1, h2, h3⟩ := hen hp2 hp3
      subst hp2
      have CC := fun W lo v hW => implCountColor_any W lo v ⟨C.h, cc⟩ hW 1
      have hc0 : countO ⟨C.h, cc⟩ 1 = 0 := by unfold countO; rw [if_pos hcv]; show ((cc.count 1 : Nat) : Int) = 0; rw [h2]; rfl
      rw [hc0] at CC
      have H3 := Lib.hid h3
      obtain ⟨q2, k9', b2⟩ := G2
      dsimp only at hp3 h1
      subst hp3
      have h1' := h1.symm
      subst h1'
      clear hen hc0 hcv h2 h3
      go_wp2_with fail
      refine (I _ _ _ _ ((HA.alloc (.cells #[.slice A0 n0 c0, .slice A1 n1 c1, .slice A2 n2 c2, .slice A3 n3 c3] 27)).alloc (.cells #[.int .i64 2, .slice A4 n4 c4, .int .i64 a] 29))).mono ?_; rintro e w2 ⟨vs, vg, rfl, HB, hb2⟩
      simp only [Option.isSome_some, Option.getD_some] at HB ⊢
      have CX := CGv.mk (lo := 0) (Cv.mono (CGv.cv ((HA.alloc (.cells #[.slice A0 n0 c0, .slice A1 n1 c1, .slice A2 n2 c2, .slice A3 n3 c3] 27)).alloc (.cells #[.int .i64 2, .slice A4 n4 c4, .int .i64 a] 29))) (Nat.zero_le _)) (CGv.gv HB) (Nat.zero_le _) hb2
      obtain ⟨B0, k0, d0, B1, k1, d1, B2, k2, d2, B3, k3, d3, B4, k4, d4, p2, k9, a2, hz2, rfl, rfl, _, _, _, ⟨Bl0, Bl1, Bl2, Bl3, Bl4⟩, _⟩ := CGv.open_ HB
      obtain ⟨rfl, rfl, rfl⟩ : 3 = p2 ∧ cc = k9 ∧ b2 = a2 := by cases hz2; exact ⟨rfl, rfl, rfl⟩
      clear hz2
      have CXc := CGv.col CX
      clear CX
      try dsimp only at CXc
      have BW2 : Below w.heap.size w w2 := BL_th (BL_al (BL_al BW1 (.cells #[.slice A0 n0 c0, .slice A1 n1 c1, .slice A2 n2 c2, .slice A3 n3 c3] 27)) (.cells #[.int .i64 2, .slice A4 n4 c4, .int .i64 a] 29)) hb2
      have zz2 : w1.heap.size + 2 ≤ w2.heap.size := by have := hb2.size; simp at this; omega
      have HA_2 := CGv.below (by exact ((HA.alloc (.cells #[.slice A0 n0 c0, .slice A1 n1 c1, .slice A2 n2 c2, .slice A3 n3 c3] 27)).alloc (.cells #[.int .i64 2, .slice A4 n4 c4, .int .i64 a] 29))) hb2
      have X_2 := Blk4.below (by exact ((Blk4.new w1 (.slice A0 n0 c0) (.slice A1 n1 c1) (.slice A2 n2 c2) (.slice A3 n3 c3) 27).alloc (.cells #[.int .i64 2, .slice A4 n4 c4, .int .i64 a] 29))) hb2
      obtain ⟨cX_2_0, cX_2_1, cX_2_2, cX_2_3, _⟩ := X_2.cells
      have lX_2 := X_2.lt
      have Y_2 := Blk3.below (by exact (Blk3.new_at (w := (w1.alloc (.cells #[.slice A0 n0 c0, .slice A1 n1 c1, .slice A2 n2 c2, .slice A3 n3 c3] 27))) (b := (w1.heap.size + 1)) (by simp) (.int .i64 2) (.slice A4 n4 c4) (.int .i64 a) 29)) hb2
      obtain ⟨cY_2_0, cY_2_1, cY_2_2, _⟩ := Y_2.cells
      have lY_2 := Y_2.lt
      go_wp2_with fail
      refine (S _ _ _ _ ((HA_2.alloc (.cells #[.slice B0 k0 d0, .slice B1 k1 d1, .slice B2 k2 d2, .slice B3 k3 d3] 27)).alloc (.cells #[.int .i64 3, .slice B4 k4 d4, .int .i64 b2] 29))).mono ?_; rintro e w3 ⟨vs, vg, rfl, HD, hb3⟩
      simp only [Option.isSome_some, Option.getD_some] at HD ⊢
      obtain ⟨D0, m0, f0, D1, m1, f1, D2, m2, f2, D3, m3, f3, D4, m4, f4, p3, k8, a3, hz3, rfl, rfl, _⟩ := CGv.open_ HD
      obtain ⟨rfl, rfl, rfl⟩ : 3 = p3 ∧ cc = k8 ∧ b2 = a3 := by cases hz3; exact ⟨rfl, rfl, rfl⟩
      clear hz3
      have BW3 : Below w.heap.size w w3 := BL_th (BL_al (BL_al BW2 (.cells #[.slice B0 k0 d0, .slice B1 k1 d1, .slice B2 k2 d2, .slice B3 k3 d3] 27)) (.cells #[.int .i64 3, .slice B4 k4 d4, .int .i64 b2] 29)) hb3
      have zz3 : w2.heap.size + 2 ≤ w3.heap.size := by have := hb3.size; simp at this; omega
      have HA_3 := CGv.below (by exact ((HA_2.alloc (.cells #[.slice B0 k0 d0, .slice B1 k1 d1, .slice B2 k2 d2, .slice B3 k3 d3] 27)).alloc (.cells #[.int .i64 3, .slice B4 k4 d4, .int .i64 b2] 29))) hb3
      have X_3 := Blk4.below (by exact ((X_2.alloc (.cells #[.slice B0 k0 d0, .slice B1 k1 d1, .slice B2 k2 d2, .slice B3 k3 d3] 27)).alloc (.cells #[.int .i64 3, .slice B4 k4 d4, .int .i64 b2] 29))) hb3
      obtain ⟨cX_3_0, cX_3_1, cX_3_2, cX_3_3, _⟩ := X_3.cells
      have lX_3 := X_3.lt
      have Y_3 := Blk3.below (by exact ((Y_2.alloc (.cells #[.slice B0 k0 d0, .slice B1 k1 d1, .slice B2 k2 d2, .slice B3 k3 d3] 27)).alloc (.cells #[.int .i64 3, .slice B4 k4 d4, .int .i64 b2] 29))) hb3
      obtain ⟨cY_3_0, cY_3_1, cY_3_2, _⟩ := Y_3.cells
      have lY_3 := Y_3.lt
      have HB_3 := CGv.below (by exact ((HB.alloc (.cells #[.slice B0 k0 d0, .slice B1 k1 d1, .slice B2 k2 d2, .slice B3 k3 d3] 27)).alloc (.cells #[.int .i64 3, .slice B4 k4 d4, .int .i64 b2] 29))) hb3
      have CXc_3 := Cv.below (by exact ((CXc.alloc (.cells #[.slice B0 k0 d0, .slice B1 k1 d1, .slice B2 k2 d2, .slice B3 k3 d3] 27)).alloc (.cells #[.int .i64 3, .slice B4 k4 d4, .int .i64 b2] 29))) hb3
      have P_3 := Blk4.below (by exact ((Blk4.new w2 (.slice B0 k0 d0) (.slice B1 k1 d1) (.slice B2 k2 d2) (.slice B3 k3 d3) 27).alloc (.cells #[.int .i64 3, .slice B4 k4 d4, .int .i64 b2] 29))) hb3
      obtain ⟨cP_3_0, cP_3_1, cP_3_2, cP_3_3, _⟩ := P_3.cells
      have lP_3 := P_3.lt
      have Q_3 := Blk3.below (by exact (Blk3.new_at (w := (w2.alloc (.cells #[.slice B0 k0 d0, .slice B1 k1 d1, .slice B2 k2 d2, .slice B3 k3 d3] 27))) (b := (w2.heap.size + 1)) (by simp) (.int .i64 3) (.slice B4 k4 d4) (.int .i64 b2) 29)) hb3
      obtain ⟨cQ_3_0, cQ_3_1, cQ_3_2, _⟩ := Q_3.cells
      have lQ_3 := Q_3.lt
      go_wp2_with fail
      refine (sto_sameG (CGv.cv ((HB_3.alloc (.cells #[.slice D0 m0 f0, .slice D1 m1 f1, .slice D2 m2 f2, .slice D3 m3 f3] 27)).alloc (.cells #[.int .i64 3, .slice D4 m4 f4, .int .i64 b2] 29))) (CGv.cv ((HD.alloc (.cells #[.slice D0 m0 f0, .slice D1 m1 f1, .slice D2 m2 f2, .slice D3 m3 f3] 27)).alloc (.cells #[.int .i64 3, .slice D4 m4 f4, .int .i64 b2] 29)))).mono ?_; rintro e w4 ⟨rfl, hb4⟩
      have BW4 : Below w.heap.size w w4 := BL_th (BL_al (BL_al BW3 (.cells #[.slice D0 m0 f0, .slice D1 m1 f1, .slice D2 m2 f2, .slice D3 m3 f3] 27)) (.cells #[.int .i64 3, .slice D4 m4 f4, .int .i64 b2] 29)) hb4
      have zz4 : w3.heap.size + 2 ≤ w4.heap.size := by have := hb4.size; simp at this; omega
      have HA_4 := CGv.below (by exact ((HA_3.alloc (.cells #[.slice D0 m0 f0, .slice D1 m1 f1, .slice D2 m2 f2, .slice D3 m3 f3] 27)).alloc (.cells #[.int .i64 3, .slice D4 m4 f4, .int .i64 b2] 29))) hb4
      have X_4 := Blk4.below (by exact ((X_3.alloc (.cells #[.slice D0 m0 f0, .slice D1 m1 f1, .slice D2 m2 f2, .slice D3 m3 f3] 27)).alloc (.cells #[.int .i64 3, .slice D4 m4 f4, .int .i64 b2] 29))) hb4
      obtain ⟨cX_4_0, cX_4_1, cX_4_2, cX_4_3, _⟩ := X_4.cells
      have lX_4 := X_4.lt
      have Y_4 := Blk3.below (by exact ((Y_3.alloc (.cells #[.slice D0 m0 f0, .slice D1 m1 f1, .slice D2 m2 f2, .slice D3 m3 f3] 27)).alloc (.cells #[.int .i64 3, .slice D4 m4 f4, .int .i64 b2] 29))) hb4
      obtain ⟨cY_4_0, cY_4_1, cY_4_2, _⟩ := Y_4.cells
      have lY_4 := Y_4.lt
      have HB_4 := CGv.below (by exact ((HB_3.alloc (.cells #[.slice D0 m0 f0, .slice D1 m1 f1, .slice D2 m2 f2, .slice D3 m3 f3] 27)).alloc (.cells #[.int .i64 3, .slice D4 m4 f4, .int .i64 b2] 29))) hb4
      have CXc_4 := Cv.below (by exact ((CXc_3.alloc (.cells #[.slice D0 m0 f0, .slice D1 m1 f1, .slice D2 m2 f2, .slice D3 m3 f3] 27)).alloc (.cells #[.int .i64 3, .slice D4 m4 f4, .int .i64 b2] 29))) hb4
      have P_4 := Blk4.below (by exact ((P_3.alloc (.cells #[.slice D0 m0 f0, .slice D1 m1 f1, .slice D2 m2 f2, .slice D3 m3 f3] 27)).alloc (.cells #[.int .i64 3, .slice D4 m4 f4, .int .i64 b2] 29))) hb4
      obtain ⟨cP_4_0, cP_4_1, cP_4_2, cP_4_3, _⟩ := P_4.cells
      have lP_4 := P_4.lt
      have Q_4 := Blk3.below (by exact ((Q_3.alloc (.cells #[.slice D0 m0 f0, .slice D1 m1 f1, .slice D2 m2 f2, .slice D3 m3 f3] 27)).alloc (.cells #[.int .i64 3, .slice D4 m4 f4, .int .i64 b2] 29))) hb4
      obtain ⟨cQ_4_0, cQ_4_1, cQ_4_2, _⟩ := Q_4.cells
      have lQ_4 := Q_4.lt
      have HD_4 := CGv.below (by exact ((HD.alloc (.cells #[.slice D0 m0 f0, .slice D1 m1 f1, .slice D2 m2 f2, .slice D3 m3 f3] 27)).alloc (.cells #[.int .i64 3, .slice D4 m4 f4, .int .i64 b2] 29))) hb4
      have R_4 := Blk4.below (by exact ((Blk4.new w3 (.slice D0 m0 f0) (.slice D1 m1 f1) (.slice D2 m2 f2) (.slice D3 m3 f3) 27).alloc (.cells #[.int .i64 3, .slice D4 m4 f4, .int .i64 b2] 29))) hb4
      obtain ⟨cR_4_0, cR_4_1, cR_4_2, cR_4_3, _⟩ := R_4.cells
      have lR_4 := R_4.lt
      have T_4 := Blk3.below (by exact (Blk3.new_at (w := (w3.alloc (.cells #[.slice D0 m0 f0, .slice D1 m1 f1, .slice D2 m2 f2, .slice D3 m3 f3] 27))) (b := (w3.heap.size + 1)) (by simp) (.int .i64 3) (.slice D4 m4 f4) (.int .i64 b2) 29)) hb4
      obtain ⟨cT_4_0, cT_4_1, cT_4_2, _⟩ := T_4.cells
      have lT_4 := T_4.lt
      go_wp2_with fail
      refine (gc_sameG (CGv.gv HB_4) (CGv.gv HD_4)).mono ?_; rintro e w5 ⟨rfl, hb5⟩
      have BW5 : Below w.heap.size w w5 := BL_th BW4 hb5
      have zz5 : w4.heap.size ≤ w5.heap.size := hb5.size
      have HA_5 := CGv.below (by exact HA_4) hb5
      have X_5 := Blk4.below (by exact X_4) hb5
      obtain ⟨cX_5_0, cX_5_1, cX_5_2, cX_5_3, _⟩ := X_5.cells
      have lX_5 := X_5.lt
      have Y_5 := Blk3.below (by exact Y_4) hb5
      obtain ⟨cY_5_0, cY_5_1, cY_5_2, _⟩ := Y_5.cells
      have lY_5 := Y_5.lt
      have HB_5 := CGv.below (by exact HB_4) hb5
      have CXc_5 := Cv.below (by exact CXc_4) hb5
      have P_5 := Blk4.below (by exact P_4) hb5
      obtain ⟨cP_5_0, cP_5_1, cP_5_2, cP_5_3, _⟩ := P_5.cells
      have lP_5 := P_5.lt
      have Q_5 := Blk3.below (by exact Q_4) hb5
      obtain ⟨cQ_5_0, cQ_5_1, cQ_5_2, _⟩ := Q_5.cells
      have lQ_5 := Q_5.lt
      have HD_5 := CGv.below (by exact HD_4) hb5
      have R_5 := Blk4.below (by exact R_4) hb5
      obtain ⟨cR_5_0, cR_5_1, cR_5_2, cR_5_3, _⟩ := R_5.cells
      have lR_5 := R_5.lt
      have T_5 := Blk3.below (by exact T_4) hb5
      obtain ⟨cT_5_0, cT_5_1, cT_5_2, _⟩ := T_5.cells
      have lT_5 := T_5.lt
      clear HA_4 X_4 cX_4_0 cX_4_1 cX_4_2 cX_4_3 lX_4 Y_4 cY_4_0 cY_4_1 cY_4_2 lY_4 HB_4 CXc_4 P_4 cP_4_0 cP_4_1 cP_4_2 cP_4_3 lP_4 Q_4 cQ_4_0 cQ_4_1 cQ_4_2 lQ_4 HD_4 R_4 cR_4_0 cR_4_1 cR_4_2 cR_4_3 lR_4 T_4 cT_4_0 cT_4_1 cT_4_2 lT_4
      have RT := (Cv.rows4 (CGv.cv HA_5)).2.2.1
      have hn2 := Al2.out
      have hn4 := Al4.out
      obtain ⟨rd, erd, hrd⟩ := CGv.gv HA_5
      simp only [Value.agg.injEq, Array.mk.injEq, List.cons.injEq, and_true, true_and] at erd
      subst erd
      obtain ⟨gd, u9, ed, _, hgd, hxd, hcd, _⟩ := hrd.get (k := 0) (by show 0 < cc.length; omega)
      cases ed
      clear hxd hcd
      dsimp only at hrd
      go_wp2_with fail
      go_loopw [11, 12] (fun i _ wr => (∃ j : Nat, j ≤ n2 ∧ i = .int .i64 j) ∧ wr = w5) (fun i _ _ => n2 - (intOf i).toNat)
      case atStart => exact ⟨⟨0, Nat.zero_le _, rfl⟩, rfl⟩
      case round =>
        obtain ⟨⟨j, hj, rfl⟩, rfl⟩ := hrel
        by_cases hlt : j < n2
        · obtain ⟨gt, y, q1, _, _, hy, hcA, _⟩ := RT.get (k := j) (by omega)
          have hji : (j : Int) < (n2 : Int) := by omega
          cases q1
          have hym := List.mem_of_getElem? hy.out
          have hyr := hrg y hym
          by_cases hy1 : y = -1
          · have hy2 : (y != -1) = false := by rw [hy1]; rfl
            clear hy hym hyr hy1 hn2 hn4
            go_wp2_with fail
            go_roundw
            case rel => exact ⟨⟨j + 1, by omega, by go_num⟩, by trivial⟩
            case measure => simp [intOf]; omega
          · have hy2 : (y != -1) = true := by simpa [bne] using hy1
            obtain ⟨m, rfl⟩ := Int.eq_ofNat_of_zero_le (by omega : 0 ≤ y)
            obtain ⟨_, z, q2, _, _, hz, hcB, _⟩ := hrd.get (k := m) (by omega)
            cases q2
            obtain rfl : z = 2 := by have h9 := hz.out; rw [H3.out m hym] at h9; simpa using h9.symm
            have hmn : (m : Int) < (n4 : Int) := by omega
            clear hy hym hyr hy1 hz hn2 hn4
            go_wp2_with fail
            go_roundw
            case rel => exact ⟨⟨j + 1, by omega, by go_num⟩, by trivial⟩
            case measure => simp [intOf]; omega
        · obtain rfl : n2 = j := by omega
          clear hn2 hn4
          go_wp2_with fail
          refine (CC _ _ _ CXc_5).mono ?_; rintro e w6 ⟨rfl, hb6⟩
          have BW6 : Below w.heap.size w w6 := BL_th BW5 hb6
          have zz6 : wr.heap.size ≤ w6.heap.size := hb6.size
          have HA_6 := CGv.below (by exact HA_5) hb6
          have X_6 := Blk4.below (by exact X_5) hb6
          obtain ⟨cX_6_0, cX_6_1, cX_6_2, cX_6_3, _⟩ := X_6.cells
          have lX_6 := X_6.lt
          have Y_6 := Blk3.below (by exact Y_5) hb6
          obtain ⟨cY_6_0, cY_6_1, cY_6_2, _⟩ := Y_6.cells
          have lY_6 := Y_6.lt
          have CXc_6 := Cv.below (by exact CXc_5) hb6
          have P_6 := Blk4.below (by exact P_5) hb6
          obtain ⟨cP_6_0, cP_6_1, cP_6_2, cP_6_3, _⟩ := P_6.cells
          have lP_6 := P_6.lt
          have Q_6 := Blk3.below (by exact Q_5) hb6
          obtain ⟨cQ_6_0, cQ_6_1, cQ_6_2, _⟩ := Q_6.cells
          have lQ_6 := Q_6.lt
          clear HA_5 X_5 cX_5_0 cX_5_1 cX_5_2 cX_5_3 lX_5 Y_5 cY_5_0 cY_5_1 cY_5_2 lY_5 CXc_5 P_5 cP_5_0 cP_5_1 cP_5_2 cP_5_3 lP_5 Q_5 cQ_5_0 cQ_5_1 cQ_5_2 lQ_5
          go_wp2_with fail
          go_ret
          exact ⟨by simp, BW6⟩
    · have hq : Hid ((p != 2) = true ∨ ((p != 2) = false ∧ (G2.p != 3) = true)) := by
        unfold Hid
        by_cases h2 : p = 2
        · exact .inr ⟨by rw [h2]; rfl, by simpa [bne] using fun h3 => hp ⟨h2, h3⟩⟩
        · exact .inl (by simpa [bne] using h2)
      clear hen hp hcv zz1 hrg
      go_wp2_with fail
      refine (I _ _ _ _ ((HA.alloc (.cells #[.slice A0 n0 c0, .slice A1 n1 c1, .slice A2 n2 c2, .slice A3 n3 c3] 27)).alloc (.cells #[.int .i64 p, .slice A4 n4 c4, .int .i64 a] 29))).mono ?_; rintro e w2 ⟨vs, vg, rfl, HB, hb2⟩
      simp only [Option.isSome_some, Option.getD_some] at HB ⊢
      obtain ⟨B0, k0, d0, B1, k1, d1, B2, k2, d2, B3, k3, d3, B4, k4, d4, p2, k9, a2, rfl, rfl, rfl, _, _, ⟨Br0, Br1, Br2, Br3, Br4⟩, ⟨Bl0, Bl1, Bl2, Bl3, Bl4⟩, ⟨Bm0, Bm1, Bm2, Bm3, Bm4⟩⟩ := CGv.open_ HB
      clear Br0 Br1 Br2 Br3 Br4
      try dsimp only at HB ⊢
      have BW2 : Below w.heap.size w w2 := BL_th (BL_al (BL_al BW1 (.cells #[.slice A0 n0 c0, .slice A1 n1 c1, .slice A2 n2 c2, .slice A3 n3 c3] 27)) (.cells #[.int .i64 p, .slice A4 n4 c4, .int .i64 a] 29)) hb2
      have zz2 : w1.heap.size + 2 ≤ w2.heap.size := by have := hb2.size; simp at this; omega
      have HA_2 := CGv.below (by exact ((HA.alloc (.cells #[.slice A0 n0 c0, .slice A1 n1 c1, .slice A2 n2 c2, .slice A3 n3 c3] 27)).alloc (.cells #[.int .i64 p, .slice A4 n4 c4, .int .i64 a] 29))) hb2
      have X_2 := Blk4.below (by exact ((Blk4.new w1 (.slice A0 n0 c0) (.slice A1 n1 c1) (.slice A2 n2 c2) (.slice A3 n3 c3) 27).alloc (.cells #[.int .i64 p, .slice A4 n4 c4, .int .i64 a] 29))) hb2
      obtain ⟨cX_2_0, cX_2_1, cX_2_2, cX_2_3, _⟩ := X_2.cells
      have lX_2 := X_2.lt
      have Y_2 := Blk3.below (by exact (Blk3.new_at (w := (w1.alloc (.cells #[.slice A0 n0 c0, .slice A1 n1 c1, .slice A2 n2 c2, .slice A3 n3 c3] 27))) (b := (w1.heap.size + 1)) (by simp) (.int .i64 p) (.slice A4 n4 c4) (.int .i64 a) 29)) hb2
      obtain ⟨cY_2_0, cY_2_1, cY_2_2, _⟩ := Y_2.cells
      have lY_2 := Y_2.lt
      go_wp2_with fail
      refine (S _ _ _ _ ((HA_2.alloc (.cells #[.slice B0 k0 d0, .slice B1 k1 d1, .slice B2 k2 d2, .slice B3 k3 d3] 27)).alloc (.cells #[.int .i64 p2, .slice B4 k4 d4, .int .i64 a2] 29))).mono ?_; rintro e w3 ⟨vs, vg, rfl, HD, hb3⟩
      simp only [Option.isSome_some, Option.getD_some] at HD ⊢
      obtain ⟨D0, m0, f0, D1, m1, f1, D2, m2, f2, D3, m3, f3, D4, m4, f4, p3, k8, a3, hz3, rfl, rfl, _, _, ⟨Dr0, Dr1, Dr2, Dr3, Dr4⟩, ⟨Dl0, Dl1, Dl2, Dl3, Dl4⟩, ⟨Dm0, Dm1, Dm2, Dm3, Dm4⟩⟩ := CGv.open_ HD
      clear Dr0 Dr1 Dr2 Dr3 Dr4
      obtain ⟨rfl, rfl, rfl⟩ : p2 = p3 ∧ k9 = k8 ∧ a2 = a3 := by cases hz3; exact ⟨rfl, rfl, rfl⟩
      clear hz3
      try dsimp only at HD ⊢
      have BW3 : Below w.heap.size w w3 := BL_th (BL_al (BL_al BW2 (.cells #[.slice B0 k0 d0, .slice B1 k1 d1, .slice B2 k2 d2, .slice B3 k3 d3] 27)) (.cells #[.int .i64 p2, .slice B4 k4 d4, .int .i64 a2] 29)) hb3
      have zz3 : w2.heap.size + 2 ≤ w3.heap.size := by have := hb3.size; simp at this; omega
      have HA_3 := CGv.below (by exact ((HA_2.alloc (.cells #[.slice B0 k0 d0, .slice B1 k1 d1, .slice B2 k2 d2, .slice B3 k3 d3] 27)).alloc (.cells #[.int .i64 p2, .slice B4 k4 d4, .int .i64 a2] 29))) hb3
      have X_3 := Blk4.below (by exact ((X_2.alloc (.cells #[.slice B0 k0 d0, .slice B1 k1 d1, .slice B2 k2 d2, .slice B3 k3 d3] 27)).alloc (.cells #[.int .i64 p2, .slice B4 k4 d4, .int .i64 a2] 29))) hb3
      obtain ⟨cX_3_0, cX_3_1, cX_3_2, cX_3_3, _⟩ := X_3.cells
      have lX_3 := X_3.lt
      have Y_3 := Blk3.below (by exact ((Y_2.alloc (.cells #[.slice B0 k0 d0, .slice B1 k1 d1, .slice B2 k2 d2, .slice B3 k3 d3] 27)).alloc (.cells #[.int .i64 p2, .slice B4 k4 d4, .int .i64 a2] 29))) hb3
      obtain ⟨cY_3_0, cY_3_1, cY_3_2, _⟩ := Y_3.cells
      have lY_3 := Y_3.lt
      have HB_3 := CGv.below (by exact ((HB.alloc (.cells #[.slice B0 k0 d0, .slice B1 k1 d1, .slice B2 k2 d2, .slice B3 k3 d3] 27)).alloc (.cells #[.int .i64 p2, .slice B4 k4 d4, .int .i64 a2] 29))) hb3
      have P_3 := Blk4.below (by exact ((Blk4.new w2 (.slice B0 k0 d0) (.slice B1 k1 d1) (.slice B2 k2 d2) (.slice B3 k3 d3) 27).alloc (.cells #[.int .i64 p2, .slice B4 k4 d4, .int .i64 a2] 29))) hb3
      obtain ⟨cP_3_0, cP_3_1, cP_3_2, cP_3_3, _⟩ := P_3.cells
      have lP_3 := P_3.lt
      have Q_3 := Blk3.below (by exact (Blk3.new_at (w := (w2.alloc (.cells #[.slice B0 k0 d0, .slice B1 k1 d1, .slice B2 k2 d2, .slice B3 k3 d3] 27))) (b := (w2.heap.size + 1)) (by simp) (.int .i64 p2) (.slice B4 k4 d4) (.int .i64 a2) 29)) hb3
      obtain ⟨cQ_3_0, cQ_3_1, cQ_3_2, _⟩ := Q_3.cells
      have lQ_3 := Q_3.lt
      try dsimp only at hq
      go_wp2_with fail
      refine (sto_sameG (CGv.cv ((HB_3.alloc (.cells #[.slice D0 m0 f0, .slice D1 m1 f1, .slice D2 m2 f2, .slice D3 m3 f3] 27)).alloc (.cells #[.int .i64 p2, .slice D4 m4 f4, .int .i64 a2] 29))) (CGv.cv ((HD.alloc (.cells #[.slice D0 m0 f0, .slice D1 m1 f1, .slice D2 m2 f2, .slice D3 m3 f3] 27)).alloc (.cells #[.int .i64 p2, .slice D4 m4 f4, .int .i64 a2] 29)))).mono ?_; rintro e w4 ⟨rfl, hb4⟩
      have BW4 : Below w.heap.size w w4 := BL_th (BL_al (BL_al BW3 (.cells #[.slice D0 m0 f0, .slice D1 m1 f1, .slice D2 m2 f2, .slice D3 m3 f3] 27)) (.cells #[.int .i64 p2, .slice D4 m4 f4, .int .i64 a2] 29)) hb4
      have zz4 : w3.heap.size + 2 ≤ w4.heap.size := by have := hb4.size; simp at this; omega
      have HA_4 := CGv.below (by exact ((HA_3.alloc (.cells #[.slice D0 m0 f0, .slice D1 m1 f1, .slice D2 m2 f2, .slice D3 m3 f3] 27)).alloc (.cells #[.int .i64 p2, .slice D4 m4 f4, .int .i64 a2] 29))) hb4
      have X_4 := Blk4.below (by exact ((X_3.alloc (.cells #[.slice D0 m0 f0, .slice D1 m1 f1, .slice D2 m2 f2, .slice D3 m3 f3] 27)).alloc (.cells #[.int .i64 p2, .slice D4 m4 f4, .int .i64 a2] 29))) hb4
      obtain ⟨cX_4_0, cX_4_1, cX_4_2, cX_4_3, _⟩ := X_4.cells
      have lX_4 := X_4.lt
      have Y_4 := Blk3.below (by exact ((Y_3.alloc (.cells #[.slice D0 m0 f0, .slice D1 m1 f1, .slice D2 m2 f2, .slice D3 m3 f3] 27)).alloc (.cells #[.int .i64 p2, .slice D4 m4 f4, .int .i64 a2] 29))) hb4
      obtain ⟨cY_4_0, cY_4_1, cY_4_2, _⟩ := Y_4.cells
      have lY_4 := Y_4.lt
      have HB_4 := CGv.below (by exact ((HB_3.alloc (.cells #[.slice D0 m0 f0, .slice D1 m1 f1, .slice D2 m2 f2, .slice D3 m3 f3] 27)).alloc (.cells #[.int .i64 p2, .slice D4 m4 f4, .int .i64 a2] 29))) hb4
      have P_4 := Blk4.below (by exact ((P_3.alloc (.cells #[.slice D0 m0 f0, .slice D1 m1 f1, .slice D2 m2 f2, .slice D3 m3 f3] 27)).alloc (.cells #[.int .i64 p2, .slice D4 m4 f4, .int .i64 a2] 29))) hb4
      obtain ⟨cP_4_0, cP_4_1, cP_4_2, cP_4_3, _⟩ := P_4.cells
      have lP_4 := P_4.lt
      have Q_4 := Blk3.below (by exact ((Q_3.alloc (.cells #[.slice D0 m0 f0, .slice D1 m1 f1, .slice D2 m2 f2, .slice D3 m3 f3] 27)).alloc (.cells #[.int .i64 p2, .slice D4 m4 f4, .int .i64 a2] 29))) hb4
      obtain ⟨cQ_4_0, cQ_4_1, cQ_4_2, _⟩ := Q_4.cells
      have lQ_4 := Q_4.lt
      have HD_4 := CGv.below (by exact ((HD.alloc (.cells #[.slice D0 m0 f0, .slice D1 m1 f1, .slice D2 m2 f2, .slice D3 m3 f3] 27)).alloc (.cells #[.int .i64 p2, .slice D4 m4 f4, .int .i64 a2] 29))) hb4
      have R_4 := Blk4.below (by exact ((Blk4.new w3 (.slice D0 m0 f0) (.slice D1 m1 f1) (.slice D2 m2 f2) (.slice D3 m3 f3) 27).alloc (.cells #[.int .i64 p2, .slice D4 m4 f4, .int .i64 a2] 29))) hb4
      obtain ⟨cR_4_0, cR_4_1, cR_4_2, cR_4_3, _⟩ := R_4.cells
      have lR_4 := R_4.lt
      have T_4 := Blk3.below (by exact (Blk3.new_at (w := (w3.alloc (.cells #[.slice D0 m0 f0, .slice D1 m1 f1, .slice D2 m2 f2, .slice D3 m3 f3] 27))) (b := (w3.heap.size + 1)) (by simp) (.int .i64 p2) (.slice D4 m4 f4) (.int .i64 a2) 29)) hb4
      obtain ⟨cT_4_0, cT_4_1, cT_4_2, _⟩ := T_4.cells
      have lT_4 := T_4.lt
      go_wp2_with fail
      refine (gc_sameG (CGv.gv HB_4) (CGv.gv HD_4)).mono ?_; rintro e w5 ⟨rfl, hb5⟩
      have BW5 : Below w.heap.size w w5 := BL_th BW4 hb5
      have zz5 : w4.heap.size ≤ w5.heap.size := hb5.size
      have HA_5 := CGv.below (by exact HA_4) hb5
      have X_5 := Blk4.below (by exact X_4) hb5
      obtain ⟨cX_5_0, cX_5_1, cX_5_2, cX_5_3, _⟩ := X_5.cells
      have lX_5 := X_5.lt
      have Y_5 := Blk3.below (by exact Y_4) hb5
      obtain ⟨cY_5_0, cY_5_1, cY_5_2, _⟩ := Y_5.cells
      have lY_5 := Y_5.lt
      have HB_5 := CGv.below (by exact HB_4) hb5
      have P_5 := Blk4.below (by exact P_4) hb5
      obtain ⟨cP_5_0, cP_5_1, cP_5_2, cP_5_3, _⟩ := P_5.cells
      have lP_5 := P_5.lt
      have Q_5 := Blk3.below (by exact Q_4) hb5
      obtain ⟨cQ_5_0, cQ_5_1, cQ_5_2, _⟩ := Q_5.cells
      have lQ_5 := Q_5.lt
      have HD_5 := CGv.below (by exact HD_4) hb5
      have R_5 := Blk4.below (by exact R_4) hb5
      obtain ⟨cR_5_0, cR_5_1, cR_5_2, cR_5_3, _⟩ := R_5.cells
      have lR_5 := R_5.lt
      have T_5 := Blk3.below (by exact T_4) hb5
      obtain ⟨cT_5_0, cT_5_1, cT_5_2, _⟩ := T_5.cells
      have lT_5 := T_5.lt
      clear HA_4 X_4 cX_4_0 cX_4_1 cX_4_2 cX_4_3 lX_4 Y_4 cY_4_0 cY_4_1 cY_4_2 lY_4 HB_4 P_4 cP_4_0 cP_4_1 cP_4_2 cP_4_3 lP_4 Q_4 cQ_4_0 cQ_4_1 cQ_4_2 lQ_4 HD_4 R_4 cR_4_0 cR_4_1 cR_4_2 cR_4_3 lR_4 T_4 cT_4_0 cT_4_1 cT_4_2 lT_4
      rcases hq.out with hq1 | ⟨hq1, hq2⟩
      · go_wp2_with fail
        refine (sto_sameG (CGv.cv HB_5) (CGv.cv HD_5)).mono ?_; rintro e w6 ⟨rfl, hb6⟩
        have BW6 : Below w.heap.size w w6 := BL_th BW5 hb6
        have zz6 : w5.heap.size ≤ w6.heap.size := hb6.size
        have HA_6 := CGv.below (by exact HA_5) hb6
        have X_6 := Blk4.below (by exact X_5) hb6
        obtain ⟨cX_6_0, cX_6_1, cX_6_2, cX_6_3, _⟩ := X_6.cells
        have lX_6 := X_6.lt
        have Y_6 := Blk3.below (by exact Y_5) hb6
        obtain ⟨cY_6_0, cY_6_1, cY_6_2, _⟩ := Y_6.cells
        have lY_6 := Y_6.lt
        have HB_6 := CGv.below (by exact HB_5) hb6
        have P_6 := Blk4.below (by exact P_5) hb6
        obtain ⟨cP_6_0, cP_6_1, cP_6_2, cP_6_3, _⟩ := P_6.cells
        have lP_6 := P_6.lt
        have Q_6 := Blk3.below (by exact Q_5) hb6
        obtain ⟨cQ_6_0, cQ_6_1, cQ_6_2, _⟩ := Q_6.cells
        have lQ_6 := Q_6.lt
        have HD_6 := CGv.below (by exact HD_5) hb6
        have R_6 := Blk4.below (by exact R_5) hb6
        obtain ⟨cR_6_0, cR_6_1, cR_6_2, cR_6_3, _⟩ := R_6.cells
        have lR_6 := R_6.lt
        have T_6 := Blk3.below (by exact T_5) hb6
        obtain ⟨cT_6_0, cT_6_1, cT_6_2, _⟩ := T_6.cells
        have lT_6 := T_6.lt
        clear HA_5 X_5 cX_5_0 cX_5_1 cX_5_2 cX_5_3 lX_5 Y_5 cY_5_0 cY_5_1 cY_5_2 lY_5 HB_5 P_5 cP_5_0 cP_5_1 cP_5_2 cP_5_3 lP_5 Q_5 cQ_5_0 cQ_5_1 cQ_5_2 lQ_5 HD_5 R_5 cR_5_0 cR_5_1 cR_5_2 cR_5_3 lR_5 T_5 cT_5_0 cT_5_1 cT_5_2 lT_5
        go_wp2_with fail
        refine (gc_sameG (CGv.gv HB_6) (CGv.gv HD_6)).mono ?_; rintro e w7 ⟨rfl, hb7⟩
        have BW7 : Below w.heap.size w w7 := BL_th BW6 hb7
        have zz7 : w6.heap.size ≤ w7.heap.size := hb7.size
        have HA_7 := CGv.below (by exact HA_6) hb7
        have X_7 := Blk4.below (by exact X_6) hb7
        obtain ⟨cX_7_0, cX_7_1, cX_7_2, cX_7_3, _⟩ := X_7.cells
        have lX_7 := X_7.lt
        have Y_7 := Blk3.below (by exact Y_6) hb7
        obtain ⟨cY_7_0, cY_7_1, cY_7_2, _⟩ := Y_7.cells
        have lY_7 := Y_7.lt
        have HB_7 := CGv.below (by exact HB_6) hb7
        have P_7 := Blk4.below (by exact P_6) hb7
        obtain ⟨cP_7_0, cP_7_1, cP_7_2, cP_7_3, _⟩ := P_7.cells
        have lP_7 := P_7.lt
        have Q_7 := Blk3.below (by exact Q_6) hb7
        obtain ⟨cQ_7_0, cQ_7_1, cQ_7_2, _⟩ := Q_7.cells
        have lQ_7 := Q_7.lt
        have HD_7 := CGv.below (by exact HD_6) hb7
        have R_7 := Blk4.below (by exact R_6) hb7
        obtain ⟨cR_7_0, cR_7_1, cR_7_2, cR_7_3, _⟩ := R_7.cells
        have lR_7 := R_7.lt
        have T_7 := Blk3.below (by exact T_6) hb7
        obtain ⟨cT_7_0, cT_7_1, cT_7_2, _⟩ := T_7.cells
        have lT_7 := T_7.lt
        clear HA_6 X_6 cX_6_0 cX_6_1 cX_6_2 cX_6_3 lX_6 Y_6 cY_6_0 cY_6_1 cY_6_2 lY_6 HB_6 P_6 cP_6_0 cP_6_1 cP_6_2 cP_6_3 lP_6 Q_6 cQ_6_0 cQ_6_1 cQ_6_2 lQ_6 HD_6 R_6 cR_6_0 cR_6_1 cR_6_2 cR_6_3 lR_6 T_6 cT_6_0 cT_6_1 cT_6_2 lT_6
        go_wp2_with fail
        go_ret
        exact ⟨by simp, BW7⟩
      · go_wp2_with fail
        refine (sto_sameG (CGv.cv HB_5) (CGv.cv HD_5)).mono ?_; rintro e w6 ⟨rfl, hb6⟩
        have BW6 : Below w.heap.size w w6 := BL_th BW5 hb6
        have zz6 : w5.heap.size ≤ w6.heap.size := hb6.size
        have HA_6 := CGv.below (by exact HA_5) hb6
        have X_6 := Blk4.below (by exact X_5) hb6
        obtain ⟨cX_6_0, cX_6_1, cX_6_2, cX_6_3, _⟩ := X_6.cells
        have lX_6 := X_6.lt
        have Y_6 := Blk3.below (by exact Y_5) hb6
        obtain ⟨cY_6_0, cY_6_1, cY_6_2, _⟩ := Y_6.cells
        have lY_6 := Y_6.lt
        have HB_6 := CGv.below (by exact HB_5) hb6
        have P_6 := Blk4.below (by exact P_5) hb6
        obtain ⟨cP_6_0, cP_6_1, cP_6_2, cP_6_3, _⟩ := P_6.cells
        have lP_6 := P_6.lt
        have Q_6 := Blk3.below (by exact Q_5) hb6
        obtain ⟨cQ_6_0, cQ_6_1, cQ_6_2, _⟩ := Q_6.cells
        have lQ_6 := Q_6.lt
        have HD_6 := CGv.below (by exact HD_5) hb6
        have R_6 := Blk4.below (by exact R_5) hb6
        obtain ⟨cR_6_0, cR_6_1, cR_6_2, cR_6_3, _⟩ := R_6.cells
        have lR_6 := R_6.lt
        have T_6 := Blk3.below (by exact T_5) hb6
        obtain ⟨cT_6_0, cT_6_1, cT_6_2, _⟩ := T_6.cells
        have lT_6 := T_6.lt
        clear HA_5 X_5 cX_5_0 cX_5_1 cX_5_2 cX_5_3 lX_5 Y_5 cY_5_0 cY_5_1 cY_5_2 lY_5 HB_5 P_5 cP_5_0 cP_5_1 cP_5_2 cP_5_3 lP_5 Q_5 cQ_5_0 cQ_5_1 cQ_5_2 lQ_5 HD_5 R_5 cR_5_0 cR_5_1 cR_5_2 cR_5_3 lR_5 T_5 cT_5_0 cT_5_1 cT_5_2 lT_5
        go_wp2_with fail
        refine (gc_sameG (CGv.gv HB_6) (CGv.gv HD_6)).mono ?_; rintro e w7 ⟨rfl, hb7⟩
        have BW7 : Below w.heap.size w w7 := BL_th BW6 hb7
        have zz7 : w6.heap.size ≤ w7.heap.size := hb7.size
        have HA_7 := CGv.below (by exact HA_6) hb7
        have X_7 := Blk4.below (by exact X_6) hb7
        obtain ⟨cX_7_0, cX_7_1, cX_7_2, cX_7_3, _⟩ := X_7.cells
        have lX_7 := X_7.lt
        have Y_7 := Blk3.below (by exact Y_6) hb7
        obtain ⟨cY_7_0, cY_7_1, cY_7_2, _⟩ := Y_7.cells
        have lY_7 := Y_7.lt
        have HB_7 := CGv.below (by exact HB_6) hb7
        have P_7 := Blk4.below (by exact P_6) hb7
        obtain ⟨cP_7_0, cP_7_1, cP_7_2, cP_7_3, _⟩ := P_7.cells
        have lP_7 := P_7.lt
        have Q_7 := Blk3.below (by exact Q_6) hb7
        obtain ⟨cQ_7_0, cQ_7_1, cQ_7_2, _⟩ := Q_7.cells
        have lQ_7 := Q_7.lt
        have HD_7 := CGv.below (by exact HD_6) hb7
        have R_7 := Blk4.below (by exact R_6) hb7
        obtain ⟨cR_7_0, cR_7_1, cR_7_2, cR_7_3, _⟩ := R_7.cells
        have lR_7 := R_7.lt
        have T_7 := Blk3.below (by exact T_6) hb7
        obtain ⟨cT_7_0, cT_7_1, cT_7_2, _⟩ := T_7.cells
        have lT_7 := T_7.lt
        clear HA_6 X_6 cX_6_0 cX_6_1 cX_6_2 cX_6_3 lX_6 Y_6 cY_6_0 cY_6_1 cY_6_2 lY_6 HB_6 P_6 cP_6_0 cP_6_1 cP_6_2 cP_6_3 lP_6 Q_6 cQ_6_0 cQ_6_1 cQ_6_2 lQ_6 HD_6 R_6 cR_6_0 cR_6_1 cR_6_2 cR_6_3 lR_6 T_6 cT_6_0 cT_6_1 cT_6_2 lT_6
        go_wp2_with fail
        go_ret
        exact ⟨by simp, BW7⟩
end Go.Proofs.Ytdakmbheokcpdaa
