/- The law FnIsFree, walked. -/
import Derived.Test.YtmpcgegbfbkmnaaLawR
import Derived.Test.YtmpcgegbfbkmnaaWLaw
import Derived.Test.YtmpcgegbfbkmnaaIStoL
import Derived.Test.YtmpcgegbfbkmnaaSFree
import Derived.Test.YtmpcgegbfbkmnaaLives
import Derived.Test.YtmpcgegbfbkmnaaSrc
import Derived.Test.YtmpcgegbfbkmnaaPureS
namespace Go.Proofs.Ytmpcgegbfbkmnaa
open Go.RowKit

set_option maxRecDepth 100000 in
set_option maxHeartbeats 4000000 in
theorem lawIsFree_walk (w : World) (A : Option Addr) (n c : Nat) (h : Inp w A n c) :
    Calls Try.prog 12 #[.slice A n c] w (LawTrue w) := by
  by_cases hbig : 1048576 < n
  · go_enter Try.func12, Try.ntmps12
    go_wp2_with fail
    go_ret
    exact ⟨rfl, Below.refl _ _⟩
  go_enter Try.func12, Try.ntmps12
  go_wp2_with fail
  refine (drawIsFree_any _ _ _ _ h).mono ?_; rintro e w1 ⟨v, C, x, rfl, HA, hb1⟩
  have BW1 : Below w.heap.size w w1 := (Below.refl w.heap.size w).trans (hb1.mono (Below.refl w.heap.size w).size)
  have zz1 : w.heap.size ≤ w1.heap.size := hb1.size
  have HAo := HA
  obtain ⟨A0, n0, c0, A1, n1, c1, A2, n2, c2, A3, n3, c3, rfl, hh, ⟨r0, r1, r2, r3⟩, ⟨l0, l1, l2, l3⟩, ⟨mm0, mm1, mm2, mm3⟩, _⟩ := HAo.open_
  have I := fun W lo v hW => implIsFree_any W lo v C hW x
  have S := fun W lo v hW => specIsFree_any W lo v C hW x
  rcases ho : isFreeB C x
  · rw [ho] at I S
    clear ho
    go_wp2_with fail
    refine (I _ _ _ (HA.alloc (.cells #[.slice A0 n0 c0, .slice A1 n1 c1, .slice A2 n2 c2, .slice A3 n3 c3] 27))).mono ?_; rintro e w2 ⟨rfl, hb2⟩
    have BW2 : Below w.heap.size w w2 := (BW1.alloc BW1.size (.cells #[.slice A0 n0 c0, .slice A1 n1 c1, .slice A2 n2 c2, .slice A3 n3 c3] 27)).trans (hb2.mono (BW1.alloc BW1.size (.cells #[.slice A0 n0 c0, .slice A1 n1 c1, .slice A2 n2 c2, .slice A3 n3 c3] 27)).size)
    have zz2 : w1.heap.size + 1 ≤ w2.heap.size := by have := hb2.size; simp at this; omega
    have HA_2 := Cv.below (by exact (HA.alloc (.cells #[.slice A0 n0 c0, .slice A1 n1 c1, .slice A2 n2 c2, .slice A3 n3 c3] 27))) hb2
    have X_2 := Blk4.below (by exact (Blk4.new w1 (.slice A0 n0 c0) (.slice A1 n1 c1) (.slice A2 n2 c2) (.slice A3 n3 c3) 27)) hb2
    obtain ⟨cX_2_0, cX_2_1, cX_2_2, cX_2_3, _⟩ := X_2.cells
    have lX_2 := X_2.lt
    go_wp2_with fail
    refine (S _ _ _ HA_2).mono ?_; rintro e w3 ⟨rfl, hb3⟩
    have BW3 : Below w.heap.size w w3 := BW2.trans (hb3.mono BW2.size)
    have zz3 : w2.heap.size ≤ w3.heap.size := hb3.size
    have HA_3 := Cv.below (by exact HA_2) hb3
    have X_3 := Blk4.below (by exact X_2) hb3
    obtain ⟨cX_3_0, cX_3_1, cX_3_2, cX_3_3, _⟩ := X_3.cells
    have lX_3 := X_3.lt
    go_wp2_with fail
    refine (S _ _ _ HA_3).mono ?_; rintro e w4 ⟨rfl, hb4⟩
    have BW4 : Below w.heap.size w w4 := BW3.trans (hb4.mono BW3.size)
    have zz4 : w3.heap.size ≤ w4.heap.size := hb4.size
    have HA_4 := Cv.below (by exact HA_3) hb4
    have X_4 := Blk4.below (by exact X_3) hb4
    obtain ⟨cX_4_0, cX_4_1, cX_4_2, cX_4_3, _⟩ := X_4.cells
    have lX_4 := X_4.lt
    go_wp2_with fail
    go_ret
    exact ⟨rfl, BW4⟩
  · rw [ho] at I S
    obtain ⟨hv, k, rfl, hkl, f1, f2, hun, hsr⟩ := isFree_facts ho
    have RR := fun W lo v hW => implReach_any W lo v C.h hW
    have SO := fun W lo v hW => implSources_any W lo v C.h hW (k : Int)
    rw [hsr] at SO
    have hyl : (liveL C.h).length = n0 := by rw [liveL_len hv]; exact l0.out
    have hkn : k < n0 := by have := l0.out; omega
    have h8 := hvB_len hv
    have hkr : k < C.h.r.length := by omega
    have hkr2 : k < n1 := by have := l1.out; omega
    have HU := Lib.hid hun
    have HF1 := Lib.hid f1
    have HF2 := Lib.hid f2
    have hki : (k : Int) < (n0 : Int) := by omega
    have hki2 : (k : Int) < (n1 : Int) := by omega
    generalize liveL C.h = ys at RR hyl HU
    have HYL := Lib.hid hyl
    clear ho hsr f1 f2 hun h8 hv hyl
    go_wp2_with fail
    refine (I _ _ _ (HA.alloc (.cells #[.slice A0 n0 c0, .slice A1 n1 c1, .slice A2 n2 c2, .slice A3 n3 c3] 27))).mono ?_; rintro e w2 ⟨rfl, hb2⟩
    have BW2 : Below w.heap.size w w2 := (BW1.alloc BW1.size (.cells #[.slice A0 n0 c0, .slice A1 n1 c1, .slice A2 n2 c2, .slice A3 n3 c3] 27)).trans (hb2.mono (BW1.alloc BW1.size (.cells #[.slice A0 n0 c0, .slice A1 n1 c1, .slice A2 n2 c2, .slice A3 n3 c3] 27)).size)
    have zz2 : w1.heap.size + 1 ≤ w2.heap.size := by have := hb2.size; simp at this; omega
    have HA_2 := Cv.below (by exact (HA.alloc (.cells #[.slice A0 n0 c0, .slice A1 n1 c1, .slice A2 n2 c2, .slice A3 n3 c3] 27))) hb2
    have X_2 := Blk4.below (by exact (Blk4.new w1 (.slice A0 n0 c0) (.slice A1 n1 c1) (.slice A2 n2 c2) (.slice A3 n3 c3) 27)) hb2
    obtain ⟨cX_2_0, cX_2_1, cX_2_2, cX_2_3, _⟩ := X_2.cells
    have lX_2 := X_2.lt
    go_wp2_with fail
    refine (S _ _ _ HA_2).mono ?_; rintro e w3 ⟨rfl, hb3⟩
    have BW3 : Below w.heap.size w w3 := BW2.trans (hb3.mono BW2.size)
    have zz3 : w2.heap.size ≤ w3.heap.size := hb3.size
    have HA_3 := Cv.below (by exact HA_2) hb3
    have X_3 := Blk4.below (by exact X_2) hb3
    obtain ⟨cX_3_0, cX_3_1, cX_3_2, cX_3_3, _⟩ := X_3.cells
    have lX_3 := X_3.lt
    go_wp2_with fail
    refine (RR _ _ _ (HA_3).hvS).mono ?_; rintro e w4 ⟨A4, k4, rfl, R4, hb4⟩
    have BW4 : Below w.heap.size w w4 := BW3.trans (hb4.mono BW3.size)
    have zz4 : w3.heap.size ≤ w4.heap.size := hb4.size
    have HA_4 := Cv.below (by exact HA_3) hb4
    have X_4 := Blk4.below (by exact X_3) hb4
    obtain ⟨cX_4_0, cX_4_1, cX_4_2, cX_4_3, _⟩ := X_4.cells
    have lX_4 := X_4.lt
    rw [HYL.out] at R4 ⊢
    obtain ⟨gr, b, er, _, _, hb, hcb, _⟩ := R4.get (k := k) (by have := HYL.out; omega)
    cases er
    obtain rfl : b = false := by have h9 := hb.out; rw [HU.out] at h9; simpa using h9.symm
    obtain ⟨q0, q1, _, _⟩ := (HA_4).rowsS
    obtain ⟨g0, x0, e0, _, _, hx0, hc0, _⟩ := q0.get hkl
    cases e0
    obtain rfl : x0 = -1 := by have h9 := hx0.out; rw [HF1.out] at h9; simpa using h9.symm
    obtain ⟨g1, x1, e1, _, _, hx1, hc1, _⟩ := q1.get hkr
    cases e1
    obtain rfl : x1 = -1 := by have h9 := hx1.out; rw [HF2.out] at h9; simpa using h9.symm
    clear hb hx0 hx1 q0 q1
    go_wp2_with fail
    refine (SO _ _ _ (HA_4).hvS).mono ?_; rintro e w5 ⟨A5, k5, rfl, R5, hb5⟩
    have BW5 : Below w.heap.size w w5 := BW4.trans (hb5.mono BW4.size)
    have zz5 : w4.heap.size ≤ w5.heap.size := hb5.size
    have HA_5 := Cv.below (by exact HA_4) hb5
    have X_5 := Blk4.below (by exact X_4) hb5
    obtain ⟨cX_5_0, cX_5_1, cX_5_2, cX_5_3, _⟩ := X_5.cells
    have lX_5 := X_5.lt
    have R4_5 := RowB.below (by exact R4) hb5
    go_wp2_with fail
    go_ret
    exact ⟨by simp, BW5⟩
end Go.Proofs.Ytmpcgegbfbkmnaa
