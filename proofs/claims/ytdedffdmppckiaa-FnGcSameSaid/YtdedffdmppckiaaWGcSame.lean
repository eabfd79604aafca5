/- The law FnGcSame, walked. -/
import Derived.Test.YtdedffdmppckiaaDrwSame
import Derived.Test.YtdedffdmppckiaaGSms
import Derived.Test.YtdedffdmppckiaaLaws0
import Derived.Test.YtdedffdmppckiaaLwG
namespace Go.Proofs.Ytdedffdmppckiaa
open Go.RowKit

set_option maxRecDepth 100000 in
set_option maxHeartbeats 6000000 in
theorem lawGcSame_walk (w : World) (A : Option Addr) (n c : Nat) (h : Inp w A n c) :
    Calls Try.prog 9 #[.slice A n c] w (LawTrue w) := by
  by_cases hbig : 1048576 < n
  · go_enter Try.func9, Try.ntmps9
    go_wp2_with fail
    go_ret
    exact ⟨rfl, Below.refl _ _⟩
  go_enter Try.func9, Try.ntmps9
  go_wp2_with fail
  refine (drawGcSame_any _ _ _ _ h).mono ?_; rintro e w1 ⟨va, vb, ⟨p, cc, a⟩, ⟨q, dd, b⟩, rfl, HA, HB, hb1⟩
  obtain ⟨A4, n4, c4, rfl, _⟩ := HA.open_
  obtain ⟨B4, k4, d4, rfl, _⟩ := HB.open_
  dsimp only at HA HB ⊢
  have BW1 : Below w.heap.size w w1 := BL_th (Below.refl w.heap.size w) hb1
  have zz1 : w.heap.size ≤ w1.heap.size := hb1.size
  have I := fun W lo lo' v v' h9 h8 => implGcSame_any W lo lo' v v' ⟨p, cc, a⟩ ⟨q, dd, b⟩ h9 h8
  have S := fun W lo lo' v v' h9 h8 => specGcSame_any W lo lo' v v' ⟨p, cc, a⟩ ⟨q, dd, b⟩ h9 h8
  have J := fun W lo lo' v v' h9 h8 => implGcSame_any W lo lo' v v' ⟨q, dd, b⟩ ⟨p, cc, a⟩ h9 h8
  rw [sameG_comm] at J
  have hp : Hid (sameG ⟨p, cc, a⟩ ⟨q, dd, b⟩ = true → p = q) := fun h9 => by have := sameG_iff.1 h9; cases this; rfl
  generalize sameG ⟨p, cc, a⟩ ⟨q, dd, b⟩ = r at I S J hp
  have hrr : (r == r) = true := by simp
  go_wp2_with fail
  refine (I _ _ _ _ _ ((HA.alloc (.cells #[.int .i64 p, .slice A4 n4 c4, .int .i64 a] 29)).alloc (.cells #[.int .i64 q, .slice B4 k4 d4, .int .i64 b] 29)) ((HB.alloc (.cells #[.int .i64 p, .slice A4 n4 c4, .int .i64 a] 29)).alloc (.cells #[.int .i64 q, .slice B4 k4 d4, .int .i64 b] 29))).mono ?_; rintro e w2 ⟨rfl, hb2⟩
  have BW2 : Below w.heap.size w w2 := BL_th (BL_al (BL_al BW1 (.cells #[.int .i64 p, .slice A4 n4 c4, .int .i64 a] 29)) (.cells #[.int .i64 q, .slice B4 k4 d4, .int .i64 b] 29)) hb2
  have zz2 : w1.heap.size + 2 ≤ w2.heap.size := by have := hb2.size; simp at this; omega
  have HA_2 := Gv.below (by exact ((HA.alloc (.cells #[.int .i64 p, .slice A4 n4 c4, .int .i64 a] 29)).alloc (.cells #[.int .i64 q, .slice B4 k4 d4, .int .i64 b] 29))) hb2
  have HB_2 := Gv.below (by exact ((HB.alloc (.cells #[.int .i64 p, .slice A4 n4 c4, .int .i64 a] 29)).alloc (.cells #[.int .i64 q, .slice B4 k4 d4, .int .i64 b] 29))) hb2
  have X_2 := Blk3.below (by exact ((Blk3.new w1 (.int .i64 p) (.slice A4 n4 c4) (.int .i64 a) 29).alloc (.cells #[.int .i64 q, .slice B4 k4 d4, .int .i64 b] 29))) hb2
  obtain ⟨cX_2_0, cX_2_1, cX_2_2, _⟩ := X_2.cells
  have lX_2 := X_2.lt
  have Y_2 := Blk3.below (by exact (Blk3.new_at (w := (w1.alloc (.cells #[.int .i64 p, .slice A4 n4 c4, .int .i64 a] 29))) (b := (w1.heap.size + 1)) (by simp) (.int .i64 q) (.slice B4 k4 d4) (.int .i64 b) 29)) hb2
  obtain ⟨cY_2_0, cY_2_1, cY_2_2, _⟩ := Y_2.cells
  have lY_2 := Y_2.lt
  go_wp2_with fail
  refine (S _ _ _ _ _ HA_2 HB_2).mono ?_; rintro e w3 ⟨rfl, hb3⟩
  have BW3 : Below w.heap.size w w3 := BL_th BW2 hb3
  have zz3 : w2.heap.size ≤ w3.heap.size := hb3.size
  have HA_3 := Gv.below (by exact HA_2) hb3
  have HB_3 := Gv.below (by exact HB_2) hb3
  have X_3 := Blk3.below (by exact X_2) hb3
  obtain ⟨cX_3_0, cX_3_1, cX_3_2, _⟩ := X_3.cells
  have lX_3 := X_3.lt
  have Y_3 := Blk3.below (by exact Y_2) hb3
  obtain ⟨cY_3_0, cY_3_1, cY_3_2, _⟩ := Y_3.cells
  have lY_3 := Y_3.lt
  clear HA_2 HB_2 X_2 cX_2_0 cX_2_1 cX_2_2 lX_2 Y_2 cY_2_0 cY_2_1 cY_2_2 lY_2
  go_wp2_with fail
  refine (J _ _ _ _ _ HB_3 HA_3).mono ?_; rintro e w4 ⟨rfl, hb4⟩
  have BW4 : Below w.heap.size w w4 := BL_th BW3 hb4
  have zz4 : w3.heap.size ≤ w4.heap.size := hb4.size
  have HA_4 := Gv.below (by exact HA_3) hb4
  have HB_4 := Gv.below (by exact HB_3) hb4
  have X_4 := Blk3.below (by exact X_3) hb4
  obtain ⟨cX_4_0, cX_4_1, cX_4_2, _⟩ := X_4.cells
  have lX_4 := X_4.lt
  have Y_4 := Blk3.below (by exact Y_3) hb4
  obtain ⟨cY_4_0, cY_4_1, cY_4_2, _⟩ := Y_4.cells
  have lY_4 := Y_4.lt
  clear HA_3 HB_3 X_3 cX_3_0 cX_3_1 cX_3_2 lX_3 Y_3 cY_3_0 cY_3_1 cY_3_2 lY_3
  go_wp2_with fail
  refine (gc_sameG HA_4 HA_4).mono ?_; rintro e w5 ⟨rfl, hb5⟩
  have BW5 : Below w.heap.size w w5 := BL_th BW4 hb5
  have zz5 : w4.heap.size ≤ w5.heap.size := hb5.size
  have HA_5 := Gv.below (by exact HA_4) hb5
  have HB_5 := Gv.below (by exact HB_4) hb5
  have X_5 := Blk3.below (by exact X_4) hb5
  obtain ⟨cX_5_0, cX_5_1, cX_5_2, _⟩ := X_5.cells
  have lX_5 := X_5.lt
  have Y_5 := Blk3.below (by exact Y_4) hb5
  obtain ⟨cY_5_0, cY_5_1, cY_5_2, _⟩ := Y_5.cells
  have lY_5 := Y_5.lt
  clear HA_4 HB_4 X_4 cX_4_0 cX_4_1 cX_4_2 lX_4 Y_4 cY_4_0 cY_4_1 cY_4_2 lY_4
  rcases r
  · go_wp2_with fail
    go_ret
    exact ⟨by simp, BW5⟩
  · have hpq := hp.out rfl
    have hpe : (p == q) = true := by rw [beq_iff_eq]; exact hpq
    clear hpq hp
    go_wp2_with fail
    go_ret
    exact ⟨by simp, BW5⟩
end Go.Proofs.Ytdedffdmppckiaa
