/- The law FnLeakedOf, walked. -/
import Derived.Test.YtmpcgegbfbkmnaaLawR
import Derived.Test.YtmpcgegbfbkmnaaWLaw
import Derived.Test.YtmpcgegbfbkmnaaIStoL
import Derived.Test.YtmpcgegbfbkmnaaLives
namespace Go.Proofs.Ytmpcgegbfbkmnaa
open Go.RowKit

set_option maxRecDepth 100000 in
set_option maxHeartbeats 4000000 in
theorem lawLeakedOf_walk (w : World) (A : Option Addr) (n c : Nat) (h : Inp w A n c) :
    Calls Try.prog 6 #[.slice A n c] w (LawTrue w) := by
  by_cases hbig : 1048576 < n
  · go_enter Try.func6, Try.ntmps6
    go_wp2_with fail
    go_ret
    exact ⟨rfl, Below.refl _ _⟩
  go_enter Try.func6, Try.ntmps6
  go_wp2_with fail
  refine (drawLeakedOf_any _ _ _ _ h).mono ?_; rintro e w1 ⟨v, C, rfl, HA, hb1⟩
  have BW1 : Below w.heap.size w w1 := (Below.refl w.heap.size w).trans (hb1.mono (Below.refl w.heap.size w).size)
  have zz1 : w.heap.size ≤ w1.heap.size := hb1.size
  have HAo := HA
  obtain ⟨A0, n0, c0, A1, n1, c1, A2, n2, c2, A3, n3, c3, rfl, hh, ⟨r0, r1, r2, r3⟩, ⟨l0, l1, l2, l3⟩, ⟨mm0, mm1, mm2, mm3⟩, _⟩ := HAo.open_
  have I := fun W lo v hW => implLeaked_any W lo v C hW
  have S := fun W lo v hW => specLeaked_any W lo v C hW
  have V := fun W lo v hW => implStoreValid_any W lo v C hW
  rcases ho : stoB C
  · rw [ho] at V
    rw [leak_bad ho] at I S
    clear ho
    go_wp2_with fail
    refine (I _ _ _ (HA.alloc (.cells #[.slice A0 n0 c0, .slice A1 n1 c1, .slice A2 n2 c2, .slice A3 n3 c3] 27))).mono ?_; rintro e w2 ⟨AR2, kR2, rfl, R2, hb2⟩
    have BW2 : Below w.heap.size w w2 := (BW1.alloc BW1.size (.cells #[.slice A0 n0 c0, .slice A1 n1 c1, .slice A2 n2 c2, .slice A3 n3 c3] 27)).trans (hb2.mono (BW1.alloc BW1.size (.cells #[.slice A0 n0 c0, .slice A1 n1 c1, .slice A2 n2 c2, .slice A3 n3 c3] 27)).size)
    have zz2 : w1.heap.size + 1 ≤ w2.heap.size := by have := hb2.size; simp at this; omega
    have HA_2 := Cv.below (by exact (HA.alloc (.cells #[.slice A0 n0 c0, .slice A1 n1 c1, .slice A2 n2 c2, .slice A3 n3 c3] 27))) hb2
    have X_2 := Blk4.below (by exact (Blk4.new w1 (.slice A0 n0 c0) (.slice A1 n1 c1) (.slice A2 n2 c2) (.slice A3 n3 c3) 27)) hb2
    obtain ⟨cX_2_0, cX_2_1, cX_2_2, cX_2_3, _⟩ := X_2.cells
    have lX_2 := X_2.lt
    go_wp2_with fail
    refine (S _ _ _ HA_2).mono ?_; rintro e w3 ⟨AR3, kR3, rfl, R3, hb3⟩
    have BW3 : Below w.heap.size w w3 := BW2.trans (hb3.mono BW2.size)
    have zz3 : w2.heap.size ≤ w3.heap.size := hb3.size
    have HA_3 := Cv.below (by exact HA_2) hb3
    have X_3 := Blk4.below (by exact X_2) hb3
    obtain ⟨cX_3_0, cX_3_1, cX_3_2, cX_3_3, _⟩ := X_3.cells
    have lX_3 := X_3.lt
    have R2_3 := Row.below (by exact R2) hb3
    go_wp2_with fail
    refine (ccInts_eqL _ _ _ _ _ _ _ _ [] rfl R2_3 R3).mono ?_; rintro e w4 ⟨rfl, hb4⟩
    have BW4 : Below w.heap.size w w4 := BW3.trans (hb4.mono BW3.size)
    have zz4 : w3.heap.size ≤ w4.heap.size := hb4.size
    have HA_4 := Cv.below (by exact HA_3) hb4
    have X_4 := Blk4.below (by exact X_3) hb4
    obtain ⟨cX_4_0, cX_4_1, cX_4_2, cX_4_3, _⟩ := X_4.cells
    have lX_4 := X_4.lt
    have R2_4 := Row.below (by exact R2_3) hb4
    have R3_4 := Row.below (by exact R3) hb4
    go_wp2_with fail
    refine (V _ _ _ HA_4).mono ?_; rintro e w5 ⟨rfl, hb5⟩
    have BW5 : Below w.heap.size w w5 := BW4.trans (hb5.mono BW4.size)
    have zz5 : w4.heap.size ≤ w5.heap.size := hb5.size
    have HA_5 := Cv.below (by exact HA_4) hb5
    have X_5 := Blk4.below (by exact X_4) hb5
    obtain ⟨cX_5_0, cX_5_1, cX_5_2, cX_5_3, _⟩ := X_5.cells
    have lX_5 := X_5.lt
    have R2_5 := Row.below (by exact R2_4) hb5
    go_wp2_with fail
    refine (S _ _ _ HA_5).mono ?_; rintro e w6 ⟨AR6, kR6, rfl, R6, hb6⟩
    have BW6 : Below w.heap.size w w6 := BW5.trans (hb6.mono BW5.size)
    have zz6 : w5.heap.size ≤ w6.heap.size := hb6.size
    have HA_6 := Cv.below (by exact HA_5) hb6
    have X_6 := Blk4.below (by exact X_5) hb6
    obtain ⟨cX_6_0, cX_6_1, cX_6_2, cX_6_3, _⟩ := X_6.cells
    have lX_6 := X_6.lt
    have R2_6 := Row.below (by exact R2_5) hb6
    go_wp2_with fail
    refine (ccInts_eqL _ _ _ _ _ _ _ _ [] rfl R2_6 R6).mono ?_; rintro e w7 ⟨rfl, hb7⟩
    have BW7 : Below w.heap.size w w7 := BW6.trans (hb7.mono BW6.size)
    have zz7 : w6.heap.size ≤ w7.heap.size := hb7.size
    have HA_7 := Cv.below (by exact HA_6) hb7
    have X_7 := Blk4.below (by exact X_6) hb7
    obtain ⟨cX_7_0, cX_7_1, cX_7_2, cX_7_3, _⟩ := X_7.cells
    have lX_7 := X_7.lt
    have R2_7 := Row.below (by exact R2_6) hb7
    have R6_7 := Row.below (by exact R6) hb7
    go_wp2_with fail
    go_ret
    exact ⟨by simp, BW7⟩
  · rw [ho] at V
    have HN := Lib.hid (fun y (hy : y ∈ leakL C) => isFree_out (C := C) (x := y) (mem_leak hy).2.2)
    have FF := fun W lo v hW y => implIsFree_any W lo v C hW y
    have LV := fun W lo v hW => implLive_any W lo v C.h hW
    have hct := leak_count ho
    obtain ⟨hlk, hn8⟩ := leak_bds ho
    have hlen := l3.out
    have hl0 := l0.out
    have hb0 := liveL_bd C.h
    have hcb := cntB_bd (liveL C.h)
    rw [hl0] at hct
    rw [hlen] at hct
    have hn3 : n3 ≤ 8 := by omega
    generalize leakL C = gs at I S HN hct hlk
    generalize cntB (liveL C.h) = N at LV hct hcb
    have hNb : 0 ≤ N ∧ N ≤ 8 := by omega
    obtain ⟨hN0, hN8⟩ := hNb
    clear ho hb0 hcb hn8
    go_wp2_with fail
    refine (I _ _ _ (HA.alloc (.cells #[.slice A0 n0 c0, .slice A1 n1 c1, .slice A2 n2 c2, .slice A3 n3 c3] 27))).mono ?_; rintro e w2 ⟨AR2, kR2, rfl, R2, hb2⟩
    have BW2 : Below w.heap.size w w2 := (BW1.alloc BW1.size (.cells #[.slice A0 n0 c0, .slice A1 n1 c1, .slice A2 n2 c2, .slice A3 n3 c3] 27)).trans (hb2.mono (BW1.alloc BW1.size (.cells #[.slice A0 n0 c0, .slice A1 n1 c1, .slice A2 n2 c2, .slice A3 n3 c3] 27)).size)
    have zz2 : w1.heap.size + 1 ≤ w2.heap.size := by have := hb2.size; simp at this; omega
    have HA_2 := Cv.below (by exact (HA.alloc (.cells #[.slice A0 n0 c0, .slice A1 n1 c1, .slice A2 n2 c2, .slice A3 n3 c3] 27))) hb2
    have X_2 := Blk4.below (by exact (Blk4.new w1 (.slice A0 n0 c0) (.slice A1 n1 c1) (.slice A2 n2 c2) (.slice A3 n3 c3) 27)) hb2
    obtain ⟨cX_2_0, cX_2_1, cX_2_2, cX_2_3, _⟩ := X_2.cells
    have lX_2 := X_2.lt
    go_wp2_with fail
    refine (S _ _ _ HA_2).mono ?_; rintro e w3 ⟨AR3, kR3, rfl, R3, hb3⟩
    have BW3 : Below w.heap.size w w3 := BW2.trans (hb3.mono BW2.size)
    have zz3 : w2.heap.size ≤ w3.heap.size := hb3.size
    have HA_3 := Cv.below (by exact HA_2) hb3
    have X_3 := Blk4.below (by exact X_2) hb3
    obtain ⟨cX_3_0, cX_3_1, cX_3_2, cX_3_3, _⟩ := X_3.cells
    have lX_3 := X_3.lt
    have R2_3 := Row.below (by exact R2) hb3
    go_wp2_with fail
    refine (ccInts_eqL _ _ _ _ _ _ _ _ gs rfl R2_3 R3).mono ?_; rintro e w4 ⟨rfl, hb4⟩
    have BW4 : Below w.heap.size w w4 := BW3.trans (hb4.mono BW3.size)
    have zz4 : w3.heap.size ≤ w4.heap.size := hb4.size
    have HA_4 := Cv.below (by exact HA_3) hb4
    have X_4 := Blk4.below (by exact X_3) hb4
    obtain ⟨cX_4_0, cX_4_1, cX_4_2, cX_4_3, _⟩ := X_4.cells
    have lX_4 := X_4.lt
    have R2_4 := Row.below (by exact R2_3) hb4
    have R3_4 := Row.below (by exact R3) hb4
    go_wp2_with fail
    refine (V _ _ _ HA_4).mono ?_; rintro e w5 ⟨rfl, hb5⟩
    have BW5 : Below w.heap.size w w5 := BW4.trans (hb5.mono BW4.size)
    have zz5 : w4.heap.size ≤ w5.heap.size := hb5.size
    have HA_5 := Cv.below (by exact HA_4) hb5
    have X_5 := Blk4.below (by exact X_4) hb5
    obtain ⟨cX_5_0, cX_5_1, cX_5_2, cX_5_3, _⟩ := X_5.cells
    have lX_5 := X_5.lt
    have R2_5 := Row.below (by exact R2_4) hb5
    generalize hgl : gs.length = ng at *
    have HGL := Lib.hid hgl
    have HCT := Lib.hid hct
    clear hgl hct
    go_wp2_with fail
    go_loopw [5] (fun i wr => ∃ k : Nat, k ≤ ng ∧ i = .int .i64 k ∧ Blk4 wr w1.heap.size (.slice A0 n0 c0) (.slice A1 n1 c1) (.slice A2 n2 c2) (.slice A3 n3 c3) 27 ∧ Row wr 0 (.slice AR2 ng kR2) gs ∧ Cv wr 0 (.agg #[.slice A0 n0 c0, .slice A1 n1 c1, .slice A2 n2 c2, .slice A3 n3 c3]) C ∧ Below w.heap.size w wr) (fun i _ => ng - (intOf i).toNat)
    case atStart => exact ⟨0, Nat.zero_le _, rfl, X_5, R2_5.mono (Nat.zero_le _), HA_5.mono (Nat.zero_le _), BW5⟩
    case round =>
      obtain ⟨k, hk, rfl, XR, RR, HR, BR⟩ := hrel
      obtain ⟨x0, x1, x2, x3, _⟩ := XR.cells
      by_cases hlt : k < ng
      · have hki : (k : Int) < (ng : Int) := by omega
        obtain ⟨g, y, eg, _, hgl, hy, hcell, _⟩ := RR.get (k := k) (by have := HGL.out; omega)
        cases eg
        have F9 := fun W lo v hW => FF W lo v hW y
        rw [HN.out y (List.mem_of_getElem? hy.out)] at F9
        clear hy
        obtain ⟨cXR_0, cXR_1, cXR_2, cXR_3, _⟩ := XR.cells
        go_wp2_with fail
        go_region_held3 (fun w' => w'.cell? ⟨w1.heap.size, 0, none⟩ = some (.slice A0 n0 c0) ∧ w'.cell? ⟨w1.heap.size, 1, none⟩ = some (.slice A1 n1 c1) ∧ w'.cell? ⟨w1.heap.size, 2, none⟩ = some (.slice A2 n2 c2) ∧ w'.cell? ⟨w1.heap.size, 3, none⟩ = some (.slice A3 n3 c3) ∧ w'.cell? ⟨g, k, none⟩ = some (.int .i64 y))
          (((try dsimp only); (repeat' apply And.intro) <;> (with_reducible (first | exact hcell_w6 | exact cXR_61_3 | exact cXR_61_2 | exact cXR_61_1 | exact cXR_61_0 | exact cellD hcell | exact cellD cXR_3 | exact cellD cXR_2 | exact cellD cXR_1 | exact cellD cXR_0 | exact hcell | exact cXR_3 | exact cXR_2 | exact cXR_1 | exact cXR_0))))
          (first
            | (go_at_call 20; (with_reducible refine (F9 _ _ _ (HR.drew)).mono ?_); rintro e w6 ⟨rfl, hb6⟩; have BW61 : Below w.heap.size w w6 := (Below.drew BR).trans (hb6.mono (Below.drew BR).size); have zz61 : wr.heap.size ≤ w6.heap.size := hb6.size; have XR_61 := Blk4.below (by exact (XR.drew)) hb6; obtain ⟨cXR_61_0, cXR_61_1, cXR_61_2, cXR_61_3, _⟩ := XR_61.cells; have lXR_61 := XR_61.lt; have HR_61 := Cv.below (by exact (HR.drew)) hb6; have RR_61 := Row.below (by exact (RR.drew)) hb6; have hcell_w6 : w6.cell? ⟨g, k, none⟩ = some (.int .i64 y) := (hb6.cell (p := ⟨g, k, none⟩) (by simp <;> omega)).trans (by exact hcell)))
        rename_i hHeld1
        clear hHeld1
        have XR6 := XR_61
        have RR6 := RR_61
        have HR6 := HR_61
        have BWR6 := BW61
        have X6 := XR6
        have R6 := RR6
        have H6 := HR6
        have B6 := BWR6
        go_wp2_with fail
        go_roundw
        case rel => exact ⟨k + 1, by omega, by go_num, X6, R6, H6, B6⟩
        case measure => simp [intOf]; omega
      · obtain rfl : ng = k := by omega
        have hw1 : IntKind.i64.wrap ((ng : Int) + (n3 : Int)) = (ng : Int) + (n3 : Int) := IntWalk.i64_in _ (by omega)
        have hw2 : IntKind.i64.wrap ((ng : Int) + (n3 : Int) + N) = (ng : Int) + (n3 : Int) + N := IntWalk.i64_in _ (by omega)
        have he : (((ng : Int) + (n3 : Int) + N) == (n0 : Int)) = true := by simp; have := HCT.out; omega
        have L9 := LV _ _ _ HR.hvS
        have keep : ∀ W, Below wr.heap.size wr W → Below w.heap.size w W := fun W h9 => BR.trans (h9.mono BR.size)
        clear hlt hk
        go_wp2_with fail
        obtain ⟨cXR_0, cXR_1, cXR_2, cXR_3, _⟩ := XR.cells
        go_region_held3 (fun w' => w'.cell? ⟨w1.heap.size, 0, none⟩ = some (.slice A0 n0 c0) ∧ w'.cell? ⟨w1.heap.size, 1, none⟩ = some (.slice A1 n1 c1) ∧ w'.cell? ⟨w1.heap.size, 2, none⟩ = some (.slice A2 n2 c2) ∧ w'.cell? ⟨w1.heap.size, 3, none⟩ = some (.slice A3 n3 c3))
          (((try dsimp only); (repeat' apply And.intro) <;> (with_reducible (first | exact cX_41_3 | exact cX_41_2 | exact cX_41_1 | exact cX_41_0 | exact cellD cXR_3 | exact cellD cXR_2 | exact cellD cXR_1 | exact cellD cXR_0 | exact cXR_3 | exact cXR_2 | exact cXR_1 | exact cXR_0))))
          (first
            | (go_at_call 33; (with_reducible refine (LV _ _ _ ((HR.drew)).hvS).mono ?_); rintro e w7 ⟨rfl, hb7⟩; have BW41 : Below w.heap.size w w7 := (Below.drew BR).trans (hb7.mono (Below.drew BR).size); have zz41 : wr.heap.size ≤ w7.heap.size := hb7.size; have X_41 := Blk4.below (by exact (XR.drew)) hb7; obtain ⟨cX_41_0, cX_41_1, cX_41_2, cX_41_3, _⟩ := X_41.cells; have lX_41 := X_41.lt; have HR_41 := Cv.below (by exact (HR.drew)) hb7))
        rename_i hHeld1
        clear hHeld1
        go_wp2_with fail
        go_ret
        exact ⟨by simp, BW41⟩
end Go.Proofs.Ytmpcgegbfbkmnaa
