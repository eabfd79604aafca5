/- The law FnGcValid, walked. -/
import Derived.Test.YtdedffdmppckiaaGSps
import Derived.Test.YtdedffdmppckiaaCsG
import Derived.Test.YtdedffdmppckiaaLwG
import Derived.Test.YtdedffdmppckiaaGMets
import Derived.Test.YtdedffdmppckiaaGSms
import Derived.Test.YtdedffdmppckiaaLaws0
import Derived.Test.YtdedffdmppckiaaIStos
import Derived.Test.YtdedffdmppckiaaLawH
namespace Go.Proofs.Ytdedffdmppckiaa
open Go.RowKit

def rtB (t : List Int) (x : Int) (j : Nat) : Bool := decide (x ≠ -1 ∧ x ∈ t.take j)
theorem rtB_succ {t : List Int} {x y : Int} {j : Nat} (h : t[j]? = some y) : rtB t x (j + 1) = (rtB t x j || ((x != -1) && (y == x))) := by
  have e : t.take (j + 1) = t.take j ++ [y] := by rw [List.take_add_one, h]; rfl
  unfold rtB
  rw [e, Bool.eq_iff_iff]
  simp only [decide_eq_true_eq, List.mem_append, List.mem_singleton, Bool.or_eq_true, Bool.and_eq_true, bne_iff_ne, ne_eq, beq_iff_eq]
  constructor
  · rintro ⟨h1, h2 | h2⟩
    · exact .inl ⟨h1, h2⟩
    · exact .inr ⟨h1, h2.symm⟩
  · rintro (⟨h1, h2⟩ | ⟨h1, h2⟩)
    · exact ⟨h1, .inl h2⟩
    · exact ⟨h1, .inr h2.symm⟩
theorem rtB_end (C : Cp) (G : Gp) : (goB C G == (gcB C G && !rtB C.h.t (swO C G) C.h.t.length)) = true := by
  rw [beq_iff_eq]
  unfold rtB swO
  rw [List.take_length]
  rcases e : gcB C G
  · unfold goB; rw [e]; simp
  · unfold goB badB; rw [e]; simp

set_option maxRecDepth 100000 in
set_option maxHeartbeats 6000000 in
theorem lawGcValid_walk (w : World) (A : Option Addr) (n c : Nat) (h : Inp w A n c) :
    Calls Try.prog 10 #[.slice A n c] w (LawTrue w) := by
  by_cases hbig : 1048576 < n
  · go_enter Try.func10, Try.ntmps10
    go_wp2_with fail
    go_ret
    exact ⟨rfl, Below.refl _ _⟩
  go_enter Try.func10, Try.ntmps10
  go_wp2_with fail
  refine (drawGcValid_any _ _ _ _ h).mono ?_; rintro e w1 ⟨vs, vg, C, G, rfl, HA, hC, hn, hb1⟩
  obtain ⟨A0, n0, c0, A1, n1, c1, A2, n2, c2, A3, n3, c3, A4, n4, c4, p, cc, a, rfl, rfl, rfl, _, _, ⟨Ar0, Ar1, Ar2, Ar3, Ar4⟩, ⟨Al0, Al1, Al2, Al3, Al4⟩, ⟨Am0, Am1, Am2, Am3, Am4⟩⟩ := CGv.open_ HA
  clear Ar0 Ar1 Ar2 Ar3 Ar4
  dsimp only at hn HA
  have BW1 : Below w.heap.size w w1 := BL_th (Below.refl w.heap.size w) hb1
  have zz1 : w.heap.size ≤ w1.heap.size := hb1.size
  have V := fun W lo vs vg hW => implGcValid_any W lo vs vg C ⟨p, cc, a⟩ hW
  have V2 := fun W lo vs vg hW => specGcValid_any W lo vs vg C ⟨p, cc, a⟩ hW
  have I := fun W lo vs vg hW => implStepGc_any W lo vs vg C ⟨p, cc, a⟩ hW
  have Q := fun W lo vs vg hW => implSwept_any W lo vs vg C ⟨p, cc, a⟩ hW
  have hst : (stepO C ⟨p, cc, a⟩).isSome = goB C ⟨p, cc, a⟩ := by
    rcases e : goB C ⟨p, cc, a⟩
    · rw [stepO_bad e]; rfl
    · rw [stepO_go e]; rfl
  have hgg : goB C ⟨p, cc, a⟩ = true → gcB C ⟨p, cc, a⟩ = true := fun h9 => (goB_iff.1 h9).1
  have HE := Lib.hid (rtB_end C ⟨p, cc, a⟩)
  generalize swO C ⟨p, cc, a⟩ = x at Q HE
  generalize hz : (stepO C ⟨p, cc, a⟩).getD (Cp.zero, Gp.zero) = sg at *
  have hne : (gcB C ⟨p, cc, a⟩ != gcB C ⟨p, cc, a⟩) = false := by simp
  generalize gcB C ⟨p, cc, a⟩ = bv at V V2 HE hgg hne
  generalize goB C ⟨p, cc, a⟩ = bs at hst HE hgg
  go_wp2_with fail
  refine (V _ _ _ _ ((HA.alloc (.cells #[.slice A0 n0 c0, .slice A1 n1 c1, .slice A2 n2 c2, .slice A3 n3 c3] 27)).alloc (.cells #[.int .i64 p, .slice A4 n4 c4, .int .i64 a] 29))).mono ?_; rintro e w2 ⟨rfl, hb2⟩
  have BW2 : Below w.heap.size w w2 := BL_th (BL_al (BL_al BW1 (.cells #[.slice A0 n0 c0, .slice A1 n1 c1, .slice A2 n2 c2, .slice A3 n3 c3] 27)) (.cells #[.int .i64 p, .slice A4 n4 c4, .int .i64 a] 29)) hb2
  have zz2 : w1.heap.size + 2 ≤ w2.heap.size := by have := hb2.size; simp at this; omega
  have HA_2 := CGv.below (by exact ((HA.alloc (.cells #[.slice A0 n0 c0, .slice A1 n1 c1, .slice A2 n2 c2, .slice A3 n3 c3] 27)).alloc (.cells #[.int .i64 p, .slice A4 n4 c4, .int .i64 a] 29))) hb2
  have X_2 := Blk4.below (by exact ((Blk4.new w1 (.slice A0 n0 c0) (.slice A1 n1 c1) (.slice A2 n2 c2) (.slice A3 n3 c3) 27).alloc (.cells #[.int .i64 p, .slice A4 n4 c4, .int .i64 a] 29))) hb2
  obtain ⟨cX_2_0, cX_2_1, cX_2_2, cX_2_3, _⟩ := X_2.cells
  have lX_2 := X_2.lt
  have Y_2 := Blk3.below (by exact (Blk3.new_at (w := (w1.alloc (.cells #[.slice A0 n0 c0, .slice A1 n1 c1, .slice A2 n2 c2, .slice A3 n3 c3] 27))) (b := (w1.heap.size + 1)) (by simp) (.int .i64 p) (.slice A4 n4 c4) (.int .i64 a) 29)) hb2
  obtain ⟨cY_2_0, cY_2_1, cY_2_2, _⟩ := Y_2.cells
  have lY_2 := Y_2.lt
  go_wp2_with fail
  refine (I _ _ _ _ HA_2).mono ?_; rintro e w3 ⟨vs, vg, rfl, HB, hb3⟩
  rw [hst]
  rw [hz] at HB
  obtain ⟨C2, G2⟩ := sg
  dsimp only at HB
  obtain ⟨B0, k0, d0, B1, k1, d1, B2, k2, d2, B3, k3, d3, B4, k4, d4, p2, k9, a2, hz2, rfl, rfl, _, _, ⟨Br0, Br1, Br2, Br3, Br4⟩, ⟨Bl0, Bl1, Bl2, Bl3, Bl4⟩, ⟨Bm0, Bm1, Bm2, Bm3, Bm4⟩⟩ := CGv.open_ HB
  clear Br0 Br1 Br2 Br3 Br4
  clear hz hst hz2
  have BW3 : Below w.heap.size w w3 := BL_th BW2 hb3
  have zz3 : w2.heap.size ≤ w3.heap.size := hb3.size
  have HA_3 := CGv.below (by exact HA_2) hb3
  have X_3 := Blk4.below (by exact X_2) hb3
  obtain ⟨cX_3_0, cX_3_1, cX_3_2, cX_3_3, _⟩ := X_3.cells
  have lX_3 := X_3.lt
  have Y_3 := Blk3.below (by exact Y_2) hb3
  obtain ⟨cY_3_0, cY_3_1, cY_3_2, _⟩ := Y_3.cells
  have lY_3 := Y_3.lt
  clear HA_2 X_2 cX_2_0 cX_2_1 cX_2_2 cX_2_3 lX_2 Y_2 cY_2_0 cY_2_1 cY_2_2 lY_2
  have hcond : (bs && !bv) = false := by rcases bs <;> rcases bv <;> first | rfl | (have := hgg rfl; cases this)
  rcases bs
  · clear hgg hcond
    go_wp2_with fail
    refine (V2 _ _ _ _ ((HA_3.alloc (.cells #[.slice B0 k0 d0, .slice B1 k1 d1, .slice B2 k2 d2, .slice B3 k3 d3] 27)).alloc (.cells #[.int .i64 p2, .slice B4 k4 d4, .int .i64 a2] 29))).mono ?_; rintro e w4 ⟨rfl, hb4⟩
    have BW4 : Below w.heap.size w w4 := BL_th (BL_al (BL_al BW3 (.cells #[.slice B0 k0 d0, .slice B1 k1 d1, .slice B2 k2 d2, .slice B3 k3 d3] 27)) (.cells #[.int .i64 p2, .slice B4 k4 d4, .int .i64 a2] 29)) hb4
    have zz4 : w3.heap.size + 2 ≤ w4.heap.size := by have := hb4.size; simp at this; omega
    have HA_4 := CGv.below (by exact ((HA_3.alloc (.cells #[.slice B0 k0 d0, .slice B1 k1 d1, .slice B2 k2 d2, .slice B3 k3 d3] 27)).alloc (.cells #[.int .i64 p2, .slice B4 k4 d4, .int .i64 a2] 29))) hb4
    have X_4 := Blk4.below (by exact ((X_3.alloc (.cells #[.slice B0 k0 d0, .slice B1 k1 d1, .slice B2 k2 d2, .slice B3 k3 d3] 27)).alloc (.cells #[.int .i64 p2, .slice B4 k4 d4, .int .i64 a2] 29))) hb4
    obtain ⟨cX_4_0, cX_4_1, cX_4_2, cX_4_3, _⟩ := X_4.cells
    have lX_4 := X_4.lt
    have Y_4 := Blk3.below (by exact ((Y_3.alloc (.cells #[.slice B0 k0 d0, .slice B1 k1 d1, .slice B2 k2 d2, .slice B3 k3 d3] 27)).alloc (.cells #[.int .i64 p2, .slice B4 k4 d4, .int .i64 a2] 29))) hb4
    obtain ⟨cY_4_0, cY_4_1, cY_4_2, _⟩ := Y_4.cells
    have lY_4 := Y_4.lt
    have P_4 := Blk4.below (by exact ((Blk4.new w3 (.slice B0 k0 d0) (.slice B1 k1 d1) (.slice B2 k2 d2) (.slice B3 k3 d3) 27).alloc (.cells #[.int .i64 p2, .slice B4 k4 d4, .int .i64 a2] 29))) hb4
    obtain ⟨cP_4_0, cP_4_1, cP_4_2, cP_4_3, _⟩ := P_4.cells
    have lP_4 := P_4.lt
    have Q_4 := Blk3.below (by exact (Blk3.new_at (w := (w3.alloc (.cells #[.slice B0 k0 d0, .slice B1 k1 d1, .slice B2 k2 d2, .slice B3 k3 d3] 27))) (b := (w3.heap.size + 1)) (by simp) (.int .i64 p2) (.slice B4 k4 d4) (.int .i64 a2) 29)) hb4
    obtain ⟨cQ_4_0, cQ_4_1, cQ_4_2, _⟩ := Q_4.cells
    have lQ_4 := Q_4.lt
    go_wp2_with fail
    refine (Q _ _ _ _ HA_4).mono ?_; rintro e w5 ⟨rfl, hb5⟩
    have BW5 : Below w.heap.size w w5 := BL_th BW4 hb5
    have zz5 : w4.heap.size ≤ w5.heap.size := hb5.size
    have HA_5 := CGv.below (by exact HA_4) hb5
    have X_5 := Blk4.below (by exact X_4) hb5
    obtain ⟨cX_5_0, cX_5_1, cX_5_2, cX_5_3, _⟩ := X_5.cells
    have lX_5 := X_5.lt
    have Y_5 := Blk3.below (by exact Y_4) hb5
    obtain ⟨cY_5_0, cY_5_1, cY_5_2, _⟩ := Y_5.cells
    have lY_5 := Y_5.lt
    have P_5 := Blk4.below (by exact P_4) hb5
    obtain ⟨cP_5_0, cP_5_1, cP_5_2, cP_5_3, _⟩ := P_5.cells
    have lP_5 := P_5.lt
    have Q_5 := Blk3.below (by exact Q_4) hb5
    obtain ⟨cQ_5_0, cQ_5_1, cQ_5_2, _⟩ := Q_5.cells
    have lQ_5 := Q_5.lt
    clear HA_4 X_4 cX_4_0 cX_4_1 cX_4_2 cX_4_3 lX_4 Y_4 cY_4_0 cY_4_1 cY_4_2 lY_4 P_4 cP_4_0 cP_4_1 cP_4_2 cP_4_3 lP_4 Q_4 cQ_4_0 cQ_4_1 cQ_4_2 lQ_4
    have RT := (Cv.rows4 (CGv.cv HA_5)).2.2.1
    have hn2 := Al2.out
    go_wp2_with fail
    go_loopw [10, 11] (fun q i wr => (∃ j : Nat, j ≤ n2 ∧ i = .int .i64 j ∧ q = .bool (rtB C.h.t x j)) ∧ wr = w5) (fun _ i _ => n2 - (intOf i).toNat)
    case atStart => exact ⟨⟨0, Nat.zero_le _, rfl, by unfold rtB; simp⟩, rfl⟩
    case round =>
      obtain ⟨⟨j, hj, rfl, rfl⟩, rfl⟩ := hrel
      by_cases hlt : j < n2
      · obtain ⟨gt, y, q1, _, _, hy, hcA, _⟩ := RT.get (k := j) (by omega)
        have hsu := Lib.hid (rtB_succ (x := x) hy.out)
        have hji : (j : Int) < (n2 : Int) := by omega
        cases q1
        clear hy
        generalize hq : rtB C.h.t x j = q at hsu
        rcases q
        · by_cases hx1 : x = -1
          · have hx2 : (x != -1) = false := by rw [hx1]; rfl
            clear hx1
            go_wp2_with fail
            go_roundw
            case rel => exact ⟨⟨j + 1, by omega, by go_num, by rw [hsu.out, hx2]; rfl⟩, by trivial⟩
            case measure => simp [intOf]; omega
          · have hx2 : (x != -1) = true := by simpa [bne] using hx1
            clear hx1
            rcases hyx : (y == x)
            · go_wp2_with fail
              go_roundw
              case rel => exact ⟨⟨j + 1, by omega, by go_num, by rw [hsu.out, hx2, hyx]; rfl⟩, by trivial⟩
              case measure => simp [intOf]; omega
            · go_wp2_with fail
              go_roundw
              case rel => exact ⟨⟨j + 1, by omega, by go_num, by rw [hsu.out, hx2, hyx]; rfl⟩, by trivial⟩
              case measure => simp [intOf]; omega
        · go_wp2_with fail
          go_roundw
          case rel => exact ⟨⟨j + 1, by omega, by go_num, by rw [hsu.out]; rfl⟩, by trivial⟩
          case measure => simp [intOf]; omega
      · obtain rfl : n2 = j := by omega
        have he := HE.out
        rw [hn2] at he
        generalize rtB C.h.t x n2 = q at he ⊢
        rcases bv <;> rcases q <;> (first | (exfalso; revert he; decide) | skip)
        all_goals clear he
        all_goals go_wp2_with fail
        all_goals go_ret
        all_goals exact ⟨by simp, BW5⟩
  · obtain rfl : bv = true := hgg rfl
    clear hgg hcond
    go_wp2_with fail
    refine (V2 _ _ _ _ ((HA_3.alloc (.cells #[.slice B0 k0 d0, .slice B1 k1 d1, .slice B2 k2 d2, .slice B3 k3 d3] 27)).alloc (.cells #[.int .i64 p2, .slice B4 k4 d4, .int .i64 a2] 29))).mono ?_; rintro e w4 ⟨rfl, hb4⟩
    have BW4 : Below w.heap.size w w4 := BL_th (BL_al (BL_al BW3 (.cells #[.slice B0 k0 d0, .slice B1 k1 d1, .slice B2 k2 d2, .slice B3 k3 d3] 27)) (.cells #[.int .i64 p2, .slice B4 k4 d4, .int .i64 a2] 29)) hb4
    have zz4 : w3.heap.size + 2 ≤ w4.heap.size := by have := hb4.size; simp at this; omega
    have HA_4 := CGv.below (by exact ((HA_3.alloc (.cells #[.slice B0 k0 d0, .slice B1 k1 d1, .slice B2 k2 d2, .slice B3 k3 d3] 27)).alloc (.cells #[.int .i64 p2, .slice B4 k4 d4, .int .i64 a2] 29))) hb4
    have X_4 := Blk4.below (by exact ((X_3.alloc (.cells #[.slice B0 k0 d0, .slice B1 k1 d1, .slice B2 k2 d2, .slice B3 k3 d3] 27)).alloc (.cells #[.int .i64 p2, .slice B4 k4 d4, .int .i64 a2] 29))) hb4
    obtain ⟨cX_4_0, cX_4_1, cX_4_2, cX_4_3, _⟩ := X_4.cells
    have lX_4 := X_4.lt
    have Y_4 := Blk3.below (by exact ((Y_3.alloc (.cells #[.slice B0 k0 d0, .slice B1 k1 d1, .slice B2 k2 d2, .slice B3 k3 d3] 27)).alloc (.cells #[.int .i64 p2, .slice B4 k4 d4, .int .i64 a2] 29))) hb4
    obtain ⟨cY_4_0, cY_4_1, cY_4_2, _⟩ := Y_4.cells
    have lY_4 := Y_4.lt
    have P_4 := Blk4.below (by exact ((Blk4.new w3 (.slice B0 k0 d0) (.slice B1 k1 d1) (.slice B2 k2 d2) (.slice B3 k3 d3) 27).alloc (.cells #[.int .i64 p2, .slice B4 k4 d4, .int .i64 a2] 29))) hb4
    obtain ⟨cP_4_0, cP_4_1, cP_4_2, cP_4_3, _⟩ := P_4.cells
    have lP_4 := P_4.lt
    have Q_4 := Blk3.below (by exact (Blk3.new_at (w := (w3.alloc (.cells #[.slice B0 k0 d0, .slice B1 k1 d1, .slice B2 k2 d2, .slice B3 k3 d3] 27))) (b := (w3.heap.size + 1)) (by simp) (.int .i64 p2) (.slice B4 k4 d4) (.int .i64 a2) 29)) hb4
    obtain ⟨cQ_4_0, cQ_4_1, cQ_4_2, _⟩ := Q_4.cells
    have lQ_4 := Q_4.lt
    go_wp2_with fail
    refine (Q _ _ _ _ HA_4).mono ?_; rintro e w5 ⟨rfl, hb5⟩
    have BW5 : Below w.heap.size w w5 := BL_th BW4 hb5
    have zz5 : w4.heap.size ≤ w5.heap.size := hb5.size
    have HA_5 := CGv.below (by exact HA_4) hb5
    have X_5 := Blk4.below (by exact X_4) hb5
    obtain ⟨cX_5_0, cX_5_1, cX_5_2, cX_5_3, _⟩ := X_5.cells
    have lX_5 := X_5.lt
    have Y_5 := Blk3.below (by exact Y_4) hb5
    obtain ⟨cY_5_0, cY_5_1, cY_5_2, _⟩ := Y_5.cells
    have lY_5 := Y_5.lt
    have P_5 := Blk4.below (by exact P_4) hb5
    obtain ⟨cP_5_0, cP_5_1, cP_5_2, cP_5_3, _⟩ := P_5.cells
    have lP_5 := P_5.lt
    have Q_5 := Blk3.below (by exact Q_4) hb5
    obtain ⟨cQ_5_0, cQ_5_1, cQ_5_2, _⟩ := Q_5.cells
    have lQ_5 := Q_5.lt
    clear HA_4 X_4 cX_4_0 cX_4_1 cX_4_2 cX_4_3 lX_4 Y_4 cY_4_0 cY_4_1 cY_4_2 lY_4 P_4 cP_4_0 cP_4_1 cP_4_2 cP_4_3 lP_4 Q_4 cQ_4_0 cQ_4_1 cQ_4_2 lQ_4
    have RT := (Cv.rows4 (CGv.cv HA_5)).2.2.1
    have hn2 := Al2.out
    go_wp2_with fail
    go_loopw [10, 11] (fun q i wr => (∃ j : Nat, j ≤ n2 ∧ i = .int .i64 j ∧ q = .bool (rtB C.h.t x j)) ∧ wr = w5) (fun _ i _ => n2 - (intOf i).toNat)
    case atStart => exact ⟨⟨0, Nat.zero_le _, rfl, by unfold rtB; simp⟩, rfl⟩
    case round =>
      obtain ⟨⟨j, hj, rfl, rfl⟩, rfl⟩ := hrel
      by_cases hlt : j < n2
      · obtain ⟨gt, y, q1, _, _, hy, hcA, _⟩ := RT.get (k := j) (by omega)
        have hsu := Lib.hid (rtB_succ (x := x) hy.out)
        have hji : (j : Int) < (n2 : Int) := by omega
        cases q1
        clear hy
        generalize hq : rtB C.h.t x j = q at hsu
        rcases q
        · by_cases hx1 : x = -1
          · have hx2 : (x != -1) = false := by rw [hx1]; rfl
            clear hx1
            go_wp2_with fail
            go_roundw
            case rel => exact ⟨⟨j + 1, by omega, by go_num, by rw [hsu.out, hx2]; rfl⟩, by trivial⟩
            case measure => simp [intOf]; omega
          · have hx2 : (x != -1) = true := by simpa [bne] using hx1
            clear hx1
            rcases hyx : (y == x)
            · go_wp2_with fail
              go_roundw
              case rel => exact ⟨⟨j + 1, by omega, by go_num, by rw [hsu.out, hx2, hyx]; rfl⟩, by trivial⟩
              case measure => simp [intOf]; omega
            · go_wp2_with fail
              go_roundw
              case rel => exact ⟨⟨j + 1, by omega, by go_num, by rw [hsu.out, hx2, hyx]; rfl⟩, by trivial⟩
              case measure => simp [intOf]; omega
        · go_wp2_with fail
          go_roundw
          case rel => exact ⟨⟨j + 1, by omega, by go_num, by rw [hsu.out]; rfl⟩, by trivial⟩
          case measure => simp [intOf]; omega
      · obtain rfl : n2 = j := by omega
        have he := HE.out
        rw [hn2] at he
        generalize rtB C.h.t x n2 = q at he ⊢
        rcases q <;> (first | (exfalso; revert he; decide) | skip)
        all_goals clear he
        all_goals go_wp2_with fail
        all_goals go_ret
        all_goals exact ⟨by simp, BW5⟩
end Go.Proofs.Ytdedffdmppckiaa
