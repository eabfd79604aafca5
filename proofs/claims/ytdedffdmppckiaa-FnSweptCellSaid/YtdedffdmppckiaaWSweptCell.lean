/- The law FnSweptCell, walked. -/
import Derived.Test.YtdedffdmppckiaaGSps
import Derived.Test.YtdedffdmppckiaaCsG
import Derived.Test.YtdedffdmppckiaaLwG
import Derived.Test.YtdedffdmppckiaaGMets
import Derived.Test.YtdedffdmppckiaaGSms
import Derived.Test.YtdedffdmppckiaaLaws0
import Derived.Test.YtdedffdmppckiaaIStos
import Derived.Test.YtdedffdmppckiaaLawSs
namespace Go.Proofs.Ytdedffdmppckiaa
open Go.RowKit

set_option maxRecDepth 100000 in
set_option maxHeartbeats 6000000 in
theorem lawSweptCell_walk (w : World) (A : Option Addr) (n c : Nat) (h : Inp w A n c) :
    Calls Try.prog 8 #[.slice A n c] w (LawTrue w) := by
  by_cases hbig : 1048576 < n
  · go_enter Try.func8, Try.ntmps8
    go_wp2_with fail
    go_ret
    exact ⟨rfl, Below.refl _ _⟩
  go_enter Try.func8, Try.ntmps8
  go_wp2_with fail
  refine (drawSweptCell_any _ _ _ _ h).mono ?_; rintro e w1 ⟨vs, vg, C, G, rfl, HA, hC, hn, hb1⟩
  obtain ⟨A0, n0, c0, A1, n1, c1, A2, n2, c2, A3, n3, c3, A4, n4, c4, p, cc, a, rfl, rfl, rfl, _, _, ⟨Ar0, Ar1, Ar2, Ar3, Ar4⟩, ⟨Al0, Al1, Al2, Al3, Al4⟩, ⟨Am0, Am1, Am2, Am3, Am4⟩⟩ := CGv.open_ HA
  clear Ar0 Ar1 Ar2 Ar3 Ar4
  dsimp only at hn HA
  have BW1 : Below w.heap.size w w1 := BL_th (Below.refl w.heap.size w) hb1
  have zz1 : w.heap.size ≤ w1.heap.size := hb1.size
  have I := fun W lo vs vg hW => implSwept_any W lo vs vg C ⟨p, cc, a⟩ hW
  have S := fun W lo vs vg hW => specSwept_any W lo vs vg C ⟨p, cc, a⟩ hW
  have V := fun W lo vs vg hW => implGcValid_any W lo vs vg C ⟨p, cc, a⟩ hW
  by_cases ho : swO C ⟨p, cc, a⟩ = -1
  · rw [ho] at I S
    clear ho V
    go_wp2_with fail
    refine (I _ _ _ _ ((HA.alloc (.cells #[.slice A0 n0 c0, .slice A1 n1 c1, .slice A2 n2 c2, .slice A3 n3 c3] 27)).alloc (.cells #[.int .i64 p, .slice A4 n4 c4, .int .i64 a] 29))).mono ?_; rintro e w2 ⟨rfl, hb2⟩
    have BW2 : Below w.heap.size w w2 := BL_th (BL_al (BL_al BW1 (.cells #[.slice A0 n0 c0, .slice A1 n1 c1, .slice A2 n2 c2, .slice A3 n3 c3] 27)) (.cells #[.int .i64 p, .slice A4 n4 c4, .int .i64 a] 29)) hb2
    have zz2 : w1.heap.size + 2 ≤ w2.heap.size := by have := hb2.size; simp at this; omega
    have HA_2 := CGv.below (by exact ((HA.alloc (.cells #[.slice A0 n0 c0, .slice A1 n1 c1, .slice A2 n2 c2, .slice A3 n3 c3] 27)).alloc (.cells #[.int .i64 p, .slice A4 n4 c4, .int .i64 a] 29))) hb2
    have X_2 := Blk4.below (by exact ((Blk4.new w1 (.slice A0 n0 c0) (.slice A1 n1 c1) (.slice A2 n2 c2) (.slice A3 n3 c3) 27).alloc (.cells #[.int .i64 p, .slice A4 n4 c4, .int .i64 a] 29))) hb2
    obtain ⟨cX_2_0, cX_2_1, cX_2_2, cX_2_3, _⟩ := X_2.cells
    have lX_2 := X_2.lt
    have Y_2 := Blk3.below (by exact (Blk3.new_at (w := (w1.alloc (.cells #[.slice A0 n0 c0, .slice A1 n1 c1, .slice A2 n2 c2, .slice A3 n3 c3] 27))) (b := (w1.heap.size + 1)) (by simp) (.int .i64 p) (.slice A4 n4 c4) (.int .i64 a) 29)) hb2
    obtain ⟨cY_2_0, cY_2_1, cY_2_2, _⟩ := Y_2.cells
    have lY_2 := Y_2.lt
    go_wp2_with fail
    refine (S _ _ _ _ HA_2).mono ?_; rintro e w3 ⟨rfl, hb3⟩
    have BW3 : Below w.heap.size w w3 := BL_th BW2 hb3
    have zz3 : w2.heap.size ≤ w3.heap.size := hb3.size
    have HA_3 := CGv.below (by exact HA_2) hb3
    have X_3 := Blk4.below (by exact X_2) hb3
    obtain ⟨cX_3_0, cX_3_1, cX_3_2, cX_3_3, _⟩ := X_3.cells
    have lX_3 := X_3.lt
    have Y_3 := Blk3.below (by exact Y_2) hb3
    obtain ⟨cY_3_0, cY_3_1, cY_3_2, _⟩ := Y_3.cells
    have lY_3 := Y_3.lt
    clear HA_2 X_2 cX_2_0 cX_2_1 cX_2_2 cX_2_3 lX_2 Y_2 cY_2_0 cY_2_1 cY_2_2 lY_2
    go_wp2_with fail
    refine (S _ _ _ _ HA_3).mono ?_; rintro e w4 ⟨rfl, hb4⟩
    have BW4 : Below w.heap.size w w4 := BL_th BW3 hb4
    have zz4 : w3.heap.size ≤ w4.heap.size := hb4.size
    have HA_4 := CGv.below (by exact HA_3) hb4
    have X_4 := Blk4.below (by exact X_3) hb4
    obtain ⟨cX_4_0, cX_4_1, cX_4_2, cX_4_3, _⟩ := X_4.cells
    have lX_4 := X_4.lt
    have Y_4 := Blk3.below (by exact Y_3) hb4
    obtain ⟨cY_4_0, cY_4_1, cY_4_2, _⟩ := Y_4.cells
    have lY_4 := Y_4.lt
    clear HA_3 X_3 cX_3_0 cX_3_1 cX_3_2 cX_3_3 lX_3 Y_3 cY_3_0 cY_3_1 cY_3_2 lY_3
    go_wp2_with fail
    go_ret
    exact ⟨by simp, BW4⟩
  · have hg : gcB C ⟨p, cc, a⟩ = true := by
      rcases e : gcB C ⟨p, cc, a⟩
      · exact absurd (by unfold swO; rw [e]; rfl) ho
      · rfl
    have eo : swO C ⟨p, cc, a⟩ = swI C ⟨p, cc, a⟩ := by unfold swO; rw [if_pos hg]
    rw [hg] at V
    rcases swI_cases C ⟨p, cc, a⟩ with h1 | ⟨h1, h3, h4, h5⟩
    · exact absurd (eo.trans h1) ho
    dsimp only at h1 h3 h4 h5
    have hp := phB_iff.1 (gcB_iff.1 hg).2.2
    dsimp only at hp
    subst h3
    obtain ⟨zz1, _⟩ := gcB_sizes hg
    dsimp only at zz1
    have ha : 0 ≤ a ∧ a < C.h.l.length := by omega
    obtain ⟨k, rfl⟩ := Int.eq_ofNat_of_zero_le ha.1
    rw [eo, h1] at I S
    have FR := fun W lo v hW => implIsFree_any W lo v C hW (k : Int)
    rw [isFree_out h5] at FR
    have hkn : ((k : Int) == -1) = false := by rw [beq_eq_false_iff_ne]; omega
    have hkk : ((k : Int) != (k : Int)) = false := by simp
    have hke : ((k : Int) == (k : Int)) = true := by simp
    have hl4 := Al4.out
    have hkl : k < cc.length := by omega
    have hk4 : (k : Int) < (n4 : Int) := by omega
    have HC := Lib.hid (show cc[k]? = some 0 by simpa using h4)
    clear ho eo h1 h4 h5 hp zz1 ha hg
    go_wp2_with fail
    refine (I _ _ _ _ ((HA.alloc (.cells #[.slice A0 n0 c0, .slice A1 n1 c1, .slice A2 n2 c2, .slice A3 n3 c3] 27)).alloc (.cells #[.int .i64 3, .slice A4 n4 c4, .int .i64 (k : Int)] 29))).mono ?_; rintro e w2 ⟨rfl, hb2⟩
    have BW2 : Below w.heap.size w w2 := BL_th (BL_al (BL_al BW1 (.cells #[.slice A0 n0 c0, .slice A1 n1 c1, .slice A2 n2 c2, .slice A3 n3 c3] 27)) (.cells #[.int .i64 3, .slice A4 n4 c4, .int .i64 (k : Int)] 29)) hb2
    have zz2 : w1.heap.size + 2 ≤ w2.heap.size := by have := hb2.size; simp at this; omega
    have HA_2 := CGv.below (by exact ((HA.alloc (.cells #[.slice A0 n0 c0, .slice A1 n1 c1, .slice A2 n2 c2, .slice A3 n3 c3] 27)).alloc (.cells #[.int .i64 3, .slice A4 n4 c4, .int .i64 (k : Int)] 29))) hb2
    have X_2 := Blk4.below (by exact ((Blk4.new w1 (.slice A0 n0 c0) (.slice A1 n1 c1) (.slice A2 n2 c2) (.slice A3 n3 c3) 27).alloc (.cells #[.int .i64 3, .slice A4 n4 c4, .int .i64 (k : Int)] 29))) hb2
    obtain ⟨cX_2_0, cX_2_1, cX_2_2, cX_2_3, _⟩ := X_2.cells
    have lX_2 := X_2.lt
    have Y_2 := Blk3.below (by exact (Blk3.new_at (w := (w1.alloc (.cells #[.slice A0 n0 c0, .slice A1 n1 c1, .slice A2 n2 c2, .slice A3 n3 c3] 27))) (b := (w1.heap.size + 1)) (by simp) (.int .i64 3) (.slice A4 n4 c4) (.int .i64 (k : Int)) 29)) hb2
    obtain ⟨cY_2_0, cY_2_1, cY_2_2, _⟩ := Y_2.cells
    have lY_2 := Y_2.lt
    go_wp2_with fail
    refine (S _ _ _ _ HA_2).mono ?_; rintro e w3 ⟨rfl, hb3⟩
    have BW3 : Below w.heap.size w w3 := BL_th BW2 hb3
    have zz3 : w2.heap.size ≤ w3.heap.size := hb3.size
    have HA_3 := CGv.below (by exact HA_2) hb3
    have X_3 := Blk4.below (by exact X_2) hb3
    obtain ⟨cX_3_0, cX_3_1, cX_3_2, cX_3_3, _⟩ := X_3.cells
    have lX_3 := X_3.lt
    have Y_3 := Blk3.below (by exact Y_2) hb3
    obtain ⟨cY_3_0, cY_3_1, cY_3_2, _⟩ := Y_3.cells
    have lY_3 := Y_3.lt
    clear HA_2 X_2 cX_2_0 cX_2_1 cX_2_2 cX_2_3 lX_2 Y_2 cY_2_0 cY_2_1 cY_2_2 lY_2
    go_wp2_with fail
    refine (V _ _ _ _ HA_3).mono ?_; rintro e w4 ⟨rfl, hb4⟩
    have BW4 : Below w.heap.size w w4 := BL_th BW3 hb4
    have zz4 : w3.heap.size ≤ w4.heap.size := hb4.size
    have HA_4 := CGv.below (by exact HA_3) hb4
    have X_4 := Blk4.below (by exact X_3) hb4
    obtain ⟨cX_4_0, cX_4_1, cX_4_2, cX_4_3, _⟩ := X_4.cells
    have lX_4 := X_4.lt
    have Y_4 := Blk3.below (by exact Y_3) hb4
    obtain ⟨cY_4_0, cY_4_1, cY_4_2, _⟩ := Y_4.cells
    have lY_4 := Y_4.lt
    clear HA_3 X_3 cX_3_0 cX_3_1 cX_3_2 cX_3_3 lX_3 Y_3 cY_3_0 cY_3_1 cY_3_2 lY_3
    obtain ⟨r4, er4, hr4⟩ := CGv.gv HA_4
    simp only [Value.agg.injEq, Array.mk.injEq, List.cons.injEq, and_true, true_and] at er4
    subst er4
    obtain ⟨g4, x4, e4, _, hg4, hx4, hc4, _⟩ := hr4.get (k := k) hkl
    cases e4
    obtain rfl : x4 = 0 := by have h9 := hx4.out; rw [HC.out] at h9; simpa using h9.symm
    clear hx4 hr4
    go_wp2_with fail
    refine (FR _ _ _ (CGv.cv HA_4)).mono ?_; rintro e w5 ⟨rfl, hb5⟩
    have BW5 : Below w.heap.size w w5 := BL_th BW4 hb5
    have zz5 : w4.heap.size ≤ w5.heap.size := hb5.size
    have HA_5 := CGv.below (by exact HA_4) hb5
    have X_5 := Blk4.below (by exact X_4) hb5
    obtain ⟨cX_5_0, cX_5_1, cX_5_2, cX_5_3, _⟩ := X_5.cells
    have lX_5 := X_5.lt
    have Y_5 := Blk3.below (by exact Y_4) hb5
    obtain ⟨cY_5_0, cY_5_1, cY_5_2, _⟩ := Y_5.cells
    have lY_5 := Y_5.lt
    clear HA_4 X_4 cX_4_0 cX_4_1 cX_4_2 cX_4_3 lX_4 Y_4 cY_4_0 cY_4_1 cY_4_2 lY_4
    go_wp2_with fail
    go_ret
    exact ⟨by simp, BW5⟩
end Go.Proofs.Ytdedffdmppckiaa
