/- The law FnCollectCount, walked. -/
import Derived.Test.YtmpcgegbfbkmnaaLawR
import Derived.Test.YtmpcgegbfbkmnaaWLaw
import Derived.Test.YtmpcgegbfbkmnaaICollect
import Derived.Test.YtmpcgegbfbkmnaaIStoL
import Derived.Test.YtmpcgegbfbkmnaaLives
import Derived.Test.YtmpcgegbfbkmnaaCcs
namespace Go.Proofs.Ytmpcgegbfbkmnaa
open Go.RowKit

set_option maxRecDepth 100000 in
set_option maxHeartbeats 4000000 in
theorem lawCollectCount_walk (w : World) (A : Option Addr) (n c : Nat) (h : Inp w A n c) :
    Calls Try.prog 11 #[.slice A n c] w (LawTrue w) := by
  by_cases hbig : 1048576 < n
  · go_enter Try.func11, Try.ntmps11
    go_wp2_with fail
    go_ret
    exact ⟨rfl, Below.refl _ _⟩
  go_enter Try.func11, Try.ntmps11
  go_wp2_with fail
  refine (drawCollectStore_any _ _ _ _ h).mono ?_; rintro e w1 ⟨v, C, rfl, HA, hb1⟩
  have BW1 : Below w.heap.size w w1 := (Below.refl w.heap.size w).trans (hb1.mono (Below.refl w.heap.size w).size)
  have zz1 : w.heap.size ≤ w1.heap.size := hb1.size
  have HAo := HA
  obtain ⟨A0, n0, c0, A1, n1, c1, A2, n2, c2, A3, n3, c3, rfl, hh, ⟨r0, r1, r2, r3⟩, ⟨l0, l1, l2, l3⟩, ⟨mm0, mm1, mm2, mm3⟩, _⟩ := HAo.open_
  have I := fun W lo v hW => implCollect_any W lo v C hW
  have S := fun W lo v hW => specCollect_any W lo v C hW
  rcases ho : collectO C with _ | C2
  · rw [ho] at I S
    go_wp2_with fail
    refine (I _ _ _ (HA.alloc (.cells #[.slice A0 n0 c0, .slice A1 n1 c1, .slice A2 n2 c2, .slice A3 n3 c3] 27))).mono ?_; rintro e w2 ⟨v, rfl, HB, hb2⟩
    simp only [Option.isSome_none, Option.getD_none] at HB ⊢
    have HBb := HB
    obtain ⟨B0, k0, d0, B1, k1, d1, B2, k2, d2, B3, k3, d3, rfl, _, ⟨_, _, _, br3⟩, ⟨_, _, _, bl3⟩, _⟩ := HBb.open_
    have BW2 : Below w.heap.size w w2 := (BW1.alloc BW1.size (.cells #[.slice A0 n0 c0, .slice A1 n1 c1, .slice A2 n2 c2, .slice A3 n3 c3] 27)).trans (hb2.mono (BW1.alloc BW1.size (.cells #[.slice A0 n0 c0, .slice A1 n1 c1, .slice A2 n2 c2, .slice A3 n3 c3] 27)).size)
    have zz2 : w1.heap.size + 1 ≤ w2.heap.size := by have := hb2.size; simp at this; omega
    have HA_2 := Cv.below (by exact (HA.alloc (.cells #[.slice A0 n0 c0, .slice A1 n1 c1, .slice A2 n2 c2, .slice A3 n3 c3] 27))) hb2
    have X_2 := Blk4.below (by exact (Blk4.new w1 (.slice A0 n0 c0) (.slice A1 n1 c1) (.slice A2 n2 c2) (.slice A3 n3 c3) 27)) hb2
    obtain ⟨cX_2_0, cX_2_1, cX_2_2, cX_2_3, _⟩ := X_2.cells
    have lX_2 := X_2.lt
    go_wp2_with fail
    refine (S _ _ _ (HA_2.alloc (.cells #[.slice B0 k0 d0, .slice B1 k1 d1, .slice B2 k2 d2, .slice B3 k3 d3] 27))).mono ?_; rintro e w3 ⟨v, rfl, HC, hb3⟩
    simp only [Option.isSome_none, Option.getD_none] at HC ⊢
    have HCb := HC
    obtain ⟨K0, m0, e0, K1, m1, e1, K2, m2, e2, K3, m3, e3, rfl, _⟩ := HCb.open_
    have BW3 : Below w.heap.size w w3 := (BW2.alloc BW2.size (.cells #[.slice B0 k0 d0, .slice B1 k1 d1, .slice B2 k2 d2, .slice B3 k3 d3] 27)).trans (hb3.mono (BW2.alloc BW2.size (.cells #[.slice B0 k0 d0, .slice B1 k1 d1, .slice B2 k2 d2, .slice B3 k3 d3] 27)).size)
    have zz3 : w2.heap.size + 1 ≤ w3.heap.size := by have := hb3.size; simp at this; omega
    have HA_3 := Cv.below (by exact (HA_2.alloc (.cells #[.slice B0 k0 d0, .slice B1 k1 d1, .slice B2 k2 d2, .slice B3 k3 d3] 27))) hb3
    have X_3 := Blk4.below (by exact (X_2.alloc (.cells #[.slice B0 k0 d0, .slice B1 k1 d1, .slice B2 k2 d2, .slice B3 k3 d3] 27))) hb3
    obtain ⟨cX_3_0, cX_3_1, cX_3_2, cX_3_3, _⟩ := X_3.cells
    have lX_3 := X_3.lt
    have HB_3 := Cv.below (by exact (HB.alloc (.cells #[.slice B0 k0 d0, .slice B1 k1 d1, .slice B2 k2 d2, .slice B3 k3 d3] 27))) hb3
    have P_3 := Blk4.below (by exact (Blk4.new w2 (.slice B0 k0 d0) (.slice B1 k1 d1) (.slice B2 k2 d2) (.slice B3 k3 d3) 27)) hb3
    obtain ⟨cP_3_0, cP_3_1, cP_3_2, cP_3_3, _⟩ := P_3.cells
    have lP_3 := P_3.lt
    have E1 := implStoreSame_any _ _ _ _ _ _ _ (HB_3.alloc (.cells #[.slice K0 m0 e0, .slice K1 m1 e1, .slice K2 m2 e2, .slice K3 m3 e3] 27)) (HC.alloc (.cells #[.slice K0 m0 e0, .slice K1 m1 e1, .slice K2 m2 e2, .slice K3 m3 e3] 27))
    rw [sameC_self] at E1
    go_wp2_with fail
    refine (E1).mono ?_; rintro e w4 ⟨rfl, hb4⟩
    have BW4 : Below w.heap.size w w4 := (BW3.alloc BW3.size (.cells #[.slice K0 m0 e0, .slice K1 m1 e1, .slice K2 m2 e2, .slice K3 m3 e3] 27)).trans (hb4.mono (BW3.alloc BW3.size (.cells #[.slice K0 m0 e0, .slice K1 m1 e1, .slice K2 m2 e2, .slice K3 m3 e3] 27)).size)
    have zz4 : w3.heap.size + 1 ≤ w4.heap.size := by have := hb4.size; simp at this; omega
    have HA_4 := Cv.below (by exact (HA_3.alloc (.cells #[.slice K0 m0 e0, .slice K1 m1 e1, .slice K2 m2 e2, .slice K3 m3 e3] 27))) hb4
    have X_4 := Blk4.below (by exact (X_3.alloc (.cells #[.slice K0 m0 e0, .slice K1 m1 e1, .slice K2 m2 e2, .slice K3 m3 e3] 27))) hb4
    obtain ⟨cX_4_0, cX_4_1, cX_4_2, cX_4_3, _⟩ := X_4.cells
    have lX_4 := X_4.lt
    have HB_4 := Cv.below (by exact (HB_3.alloc (.cells #[.slice K0 m0 e0, .slice K1 m1 e1, .slice K2 m2 e2, .slice K3 m3 e3] 27))) hb4
    have P_4 := Blk4.below (by exact (P_3.alloc (.cells #[.slice K0 m0 e0, .slice K1 m1 e1, .slice K2 m2 e2, .slice K3 m3 e3] 27))) hb4
    obtain ⟨cP_4_0, cP_4_1, cP_4_2, cP_4_3, _⟩ := P_4.cells
    have lP_4 := P_4.lt
    have HC_4 := Cv.below (by exact (HC.alloc (.cells #[.slice K0 m0 e0, .slice K1 m1 e1, .slice K2 m2 e2, .slice K3 m3 e3] 27))) hb4
    have Q_4 := Blk4.below (by exact (Blk4.new w3 (.slice K0 m0 e0) (.slice K1 m1 e1) (.slice K2 m2 e2) (.slice K3 m3 e3) 27)) hb4
    obtain ⟨cQ_4_0, cQ_4_1, cQ_4_2, cQ_4_3, _⟩ := Q_4.cells
    have lQ_4 := Q_4.lt
    have E2 := implStoreSame_any _ _ _ _ _ _ _ HB_4 HC_4
    rw [sameC_self] at E2
    go_wp2_with fail
    refine (E2).mono ?_; rintro e w5 ⟨rfl, hb5⟩
    have BW5 : Below w.heap.size w w5 := BW4.trans (hb5.mono BW4.size)
    have zz5 : w4.heap.size ≤ w5.heap.size := hb5.size
    have HA_5 := Cv.below (by exact HA_4) hb5
    have X_5 := Blk4.below (by exact X_4) hb5
    obtain ⟨cX_5_0, cX_5_1, cX_5_2, cX_5_3, _⟩ := X_5.cells
    have lX_5 := X_5.lt
    have HB_5 := Cv.below (by exact HB_4) hb5
    have P_5 := Blk4.below (by exact P_4) hb5
    obtain ⟨cP_5_0, cP_5_1, cP_5_2, cP_5_3, _⟩ := P_5.cells
    have lP_5 := P_5.lt
    have HC_5 := Cv.below (by exact HC_4) hb5
    have Q_5 := Blk4.below (by exact Q_4) hb5
    obtain ⟨cQ_5_0, cQ_5_1, cQ_5_2, cQ_5_3, _⟩ := Q_5.cells
    have lQ_5 := Q_5.lt
    go_wp2_with fail
    go_ret
    exact ⟨rfl, BW5⟩
  · rw [ho] at I S
    obtain ⟨hk, hc2, _, _, _, hlv, _⟩ := collectO_again ho
    have G := fun W lo v hW => implLeaked_any W lo v C hW
    have L1 := fun W lo v hW => implLive_any W lo v C2.h hW
    have L2 := fun W lo v hW => implLive_any W lo v C.h hW
    rw [hlv] at L1
    obtain ⟨hlk, hn8⟩ := leak_bds hk
    generalize cntB (liveL C.h) = N at L1 L2
    generalize leakL C = gs at G hc2 hlk
    have hlen := l3.out
    have HC2 := Lib.hid hc2
    have hNN : (N == N) = true := by simp
    clear ho hk hc2 hlv
    go_wp2_with fail
    refine (I _ _ _ (HA.alloc (.cells #[.slice A0 n0 c0, .slice A1 n1 c1, .slice A2 n2 c2, .slice A3 n3 c3] 27))).mono ?_; rintro e w2 ⟨v, rfl, HB, hb2⟩
    simp only [Option.isSome_some, Option.getD_some] at HB ⊢
    have HBb := HB
    obtain ⟨B0, k0, d0, B1, k1, d1, B2, k2, d2, B3, k3, d3, rfl, _, ⟨_, _, _, br3⟩, ⟨_, _, _, bl3⟩, _⟩ := HBb.open_
    have BW2 : Below w.heap.size w w2 := (BW1.alloc BW1.size (.cells #[.slice A0 n0 c0, .slice A1 n1 c1, .slice A2 n2 c2, .slice A3 n3 c3] 27)).trans (hb2.mono (BW1.alloc BW1.size (.cells #[.slice A0 n0 c0, .slice A1 n1 c1, .slice A2 n2 c2, .slice A3 n3 c3] 27)).size)
    have zz2 : w1.heap.size + 1 ≤ w2.heap.size := by have := hb2.size; simp at this; omega
    have HA_2 := Cv.below (by exact (HA.alloc (.cells #[.slice A0 n0 c0, .slice A1 n1 c1, .slice A2 n2 c2, .slice A3 n3 c3] 27))) hb2
    have X_2 := Blk4.below (by exact (Blk4.new w1 (.slice A0 n0 c0) (.slice A1 n1 c1) (.slice A2 n2 c2) (.slice A3 n3 c3) 27)) hb2
    obtain ⟨cX_2_0, cX_2_1, cX_2_2, cX_2_3, _⟩ := X_2.cells
    have lX_2 := X_2.lt
    go_wp2_with fail
    refine (S _ _ _ (HA_2.alloc (.cells #[.slice B0 k0 d0, .slice B1 k1 d1, .slice B2 k2 d2, .slice B3 k3 d3] 27))).mono ?_; rintro e w3 ⟨v, rfl, HC, hb3⟩
    simp only [Option.isSome_some, Option.getD_some] at HC ⊢
    have HCb := HC
    obtain ⟨K0, m0, e0, K1, m1, e1, K2, m2, e2, K3, m3, e3, rfl, _⟩ := HCb.open_
    have BW3 : Below w.heap.size w w3 := (BW2.alloc BW2.size (.cells #[.slice B0 k0 d0, .slice B1 k1 d1, .slice B2 k2 d2, .slice B3 k3 d3] 27)).trans (hb3.mono (BW2.alloc BW2.size (.cells #[.slice B0 k0 d0, .slice B1 k1 d1, .slice B2 k2 d2, .slice B3 k3 d3] 27)).size)
    have zz3 : w2.heap.size + 1 ≤ w3.heap.size := by have := hb3.size; simp at this; omega
    have HA_3 := Cv.below (by exact (HA_2.alloc (.cells #[.slice B0 k0 d0, .slice B1 k1 d1, .slice B2 k2 d2, .slice B3 k3 d3] 27))) hb3
    have X_3 := Blk4.below (by exact (X_2.alloc (.cells #[.slice B0 k0 d0, .slice B1 k1 d1, .slice B2 k2 d2, .slice B3 k3 d3] 27))) hb3
    obtain ⟨cX_3_0, cX_3_1, cX_3_2, cX_3_3, _⟩ := X_3.cells
    have lX_3 := X_3.lt
    have HB_3 := Cv.below (by exact (HB.alloc (.cells #[.slice B0 k0 d0, .slice B1 k1 d1, .slice B2 k2 d2, .slice B3 k3 d3] 27))) hb3
    have P_3 := Blk4.below (by exact (Blk4.new w2 (.slice B0 k0 d0) (.slice B1 k1 d1) (.slice B2 k2 d2) (.slice B3 k3 d3) 27)) hb3
    obtain ⟨cP_3_0, cP_3_1, cP_3_2, cP_3_3, _⟩ := P_3.cells
    have lP_3 := P_3.lt
    have E1 := implStoreSame_any _ _ _ _ _ _ _ (HB_3.alloc (.cells #[.slice K0 m0 e0, .slice K1 m1 e1, .slice K2 m2 e2, .slice K3 m3 e3] 27)) (HC.alloc (.cells #[.slice K0 m0 e0, .slice K1 m1 e1, .slice K2 m2 e2, .slice K3 m3 e3] 27))
    rw [sameC_self] at E1
    go_wp2_with fail
    refine (E1).mono ?_; rintro e w4 ⟨rfl, hb4⟩
    have BW4 : Below w.heap.size w w4 := (BW3.alloc BW3.size (.cells #[.slice K0 m0 e0, .slice K1 m1 e1, .slice K2 m2 e2, .slice K3 m3 e3] 27)).trans (hb4.mono (BW3.alloc BW3.size (.cells #[.slice K0 m0 e0, .slice K1 m1 e1, .slice K2 m2 e2, .slice K3 m3 e3] 27)).size)
    have zz4 : w3.heap.size + 1 ≤ w4.heap.size := by have := hb4.size; simp at this; omega
    have HA_4 := Cv.below (by exact (HA_3.alloc (.cells #[.slice K0 m0 e0, .slice K1 m1 e1, .slice K2 m2 e2, .slice K3 m3 e3] 27))) hb4
    have X_4 := Blk4.below (by exact (X_3.alloc (.cells #[.slice K0 m0 e0, .slice K1 m1 e1, .slice K2 m2 e2, .slice K3 m3 e3] 27))) hb4
    obtain ⟨cX_4_0, cX_4_1, cX_4_2, cX_4_3, _⟩ := X_4.cells
    have lX_4 := X_4.lt
    have HB_4 := Cv.below (by exact (HB_3.alloc (.cells #[.slice K0 m0 e0, .slice K1 m1 e1, .slice K2 m2 e2, .slice K3 m3 e3] 27))) hb4
    have P_4 := Blk4.below (by exact (P_3.alloc (.cells #[.slice K0 m0 e0, .slice K1 m1 e1, .slice K2 m2 e2, .slice K3 m3 e3] 27))) hb4
    obtain ⟨cP_4_0, cP_4_1, cP_4_2, cP_4_3, _⟩ := P_4.cells
    have lP_4 := P_4.lt
    have HC_4 := Cv.below (by exact (HC.alloc (.cells #[.slice K0 m0 e0, .slice K1 m1 e1, .slice K2 m2 e2, .slice K3 m3 e3] 27))) hb4
    have Q_4 := Blk4.below (by exact (Blk4.new w3 (.slice K0 m0 e0) (.slice K1 m1 e1) (.slice K2 m2 e2) (.slice K3 m3 e3) 27)) hb4
    obtain ⟨cQ_4_0, cQ_4_1, cQ_4_2, cQ_4_3, _⟩ := Q_4.cells
    have lQ_4 := Q_4.lt
    go_wp2_with fail
    refine (G _ _ _ HA_4).mono ?_; rintro e w5 ⟨AR5, kR5, rfl, R5, hb5⟩
    have BW5 : Below w.heap.size w w5 := BW4.trans (hb5.mono BW4.size)
    have zz5 : w4.heap.size ≤ w5.heap.size := hb5.size
    have HA_5 := Cv.below (by exact HA_4) hb5
    have X_5 := Blk4.below (by exact X_4) hb5
    obtain ⟨cX_5_0, cX_5_1, cX_5_2, cX_5_3, _⟩ := X_5.cells
    have lX_5 := X_5.lt
    have HB_5 := Cv.below (by exact HB_4) hb5
    have P_5 := Blk4.below (by exact P_4) hb5
    obtain ⟨cP_5_0, cP_5_1, cP_5_2, cP_5_3, _⟩ := P_5.cells
    have lP_5 := P_5.lt
    have HC_5 := Cv.below (by exact HC_4) hb5
    have Q_5 := Blk4.below (by exact Q_4) hb5
    obtain ⟨cQ_5_0, cQ_5_1, cQ_5_2, cQ_5_3, _⟩ := Q_5.cells
    have lQ_5 := Q_5.lt
    have rB := (HB_5).rowsS.2.2.2
    have lB := lenS rB
    generalize hgl : gs.length = ng at *
    have e9 : k3 = n3 + ng := by rw [← lB, HC2.out, List.length_append, hlen, hgl]
    have HGL := Lib.hid hgl
    have hlc := Row.cap rB
    have hw : IntKind.i64.wrap ((n3 : Int) + (ng : Int)) = (n3 : Int) + (ng : Int) := IntWalk.i64_in _ (by omega)
    have es : ((k3 : Int) == (n3 : Int) + (ng : Int)) = true := by simp; omega
    have hni : (n3 : Int) ≤ (k3 : Int) := by omega
    have hkc : (k3 : Int) ≤ (d3 : Int) := by omega
    have hdr : Hid (C2.c.drop n3 = gs) := by unfold Hid; rw [HC2.out, ← hlen, List.drop_left]
    have E9 := Lib.hid e9
    clear hgl e9
    rcases rB.cases with ⟨rfl, rfl, rfl, _⟩ | ⟨g, rfl⟩
    · obtain rfl : n3 = 0 := by omega
      obtain rfl : ng = 0 := by have := E9.out; omega
      clear hw es hni hkc hlc E9
      have hwz : IntKind.i64.wrap (0 : Int) = 0 := by decide
      go_wp2_with fail
      go_region_held3 (fun w' => w'.cell? ⟨w2.heap.size, 0, none⟩ = some (.slice B0 k0 d0) ∧ w'.cell? ⟨w2.heap.size, 1, none⟩ = some (.slice B1 k1 d1) ∧ w'.cell? ⟨w2.heap.size, 2, none⟩ = some (.slice B2 k2 d2) ∧ w'.cell? ⟨w2.heap.size, 3, none⟩ = some (.slice none 0 0) ∧ w'.cell? ⟨w1.heap.size, 0, none⟩ = some (.slice A0 n0 c0) ∧ w'.cell? ⟨w1.heap.size, 1, none⟩ = some (.slice A1 n1 c1) ∧ w'.cell? ⟨w1.heap.size, 2, none⟩ = some (.slice A2 n2 c2) ∧ w'.cell? ⟨w1.heap.size, 3, none⟩ = some (.slice A3 0 c3))
        (((try dsimp only); (repeat' apply And.intro) <;> (with_reducible (first | exact cX_8_3 | exact cX_8_2 | exact cX_8_1 | exact cX_8_0 | exact cP_8_3 | exact cP_8_2 | exact cP_8_1 | exact cP_8_0 | exact cX_7_3 | exact cX_7_2 | exact cX_7_1 | exact cX_7_0 | exact cP_7_3 | exact cP_7_2 | exact cP_7_1 | exact cP_7_0 | exact cX_6_3 | exact cX_6_2 | exact cX_6_1 | exact cX_6_0 | exact cP_6_3 | exact cP_6_2 | exact cP_6_1 | exact cP_6_0 | exact cellD cX_5_3 | exact cellD cX_5_2 | exact cellD cX_5_1 | exact cellD cX_5_0 | exact cellD cP_5_3 | exact cellD cP_5_2 | exact cellD cP_5_1 | exact cellD cP_5_0 | exact cX_5_3 | exact cX_5_2 | exact cX_5_1 | exact cX_5_0 | exact cP_5_3 | exact cP_5_2 | exact cP_5_1 | exact cP_5_0))))
        (first
          | (go_at_call 23; (with_reducible refine (ccInts_nil _ _ _ _ _).mono ?_); rintro e w6 ⟨rfl, hb6⟩; have BW6 : Below w.heap.size w w6 := (Below.drew BW5).trans (hb6.mono (Below.drew BW5).size); have zz6 : w5.heap.size ≤ w6.heap.size := hb6.size; have HA_6 := Cv.below (by exact (HA_5.drew)) hb6; have X_6 := Blk4.below (by exact (X_5.drew)) hb6; obtain ⟨cX_6_0, cX_6_1, cX_6_2, cX_6_3, _⟩ := X_6.cells; have lX_6 := X_6.lt; have HB_6 := Cv.below (by exact (HB_5.drew)) hb6; have P_6 := Blk4.below (by exact (P_5.drew)) hb6; obtain ⟨cP_6_0, cP_6_1, cP_6_2, cP_6_3, _⟩ := P_6.cells; have lP_6 := P_6.lt; have HC_6 := Cv.below (by exact (HC_5.drew)) hb6; have Q_6 := Blk4.below (by exact (Q_5.drew)) hb6; obtain ⟨cQ_6_0, cQ_6_1, cQ_6_2, cQ_6_3, _⟩ := Q_6.cells; have lQ_6 := Q_6.lt; have RB_6 := Row.below (by exact (rB.drew)) hb6)
          | (go_at_call 33; (with_reducible refine (L1 _ _ _ (HB_6).hvS).mono ?_); rintro e w7 ⟨rfl, hb7⟩; have BW7 : Below w.heap.size w w7 := BW6.trans (hb7.mono BW6.size); have zz7 : w6.heap.size ≤ w7.heap.size := hb7.size; have HA_7 := Cv.below (by exact HA_6) hb7; have X_7 := Blk4.below (by exact X_6) hb7; obtain ⟨cX_7_0, cX_7_1, cX_7_2, cX_7_3, _⟩ := X_7.cells; have lX_7 := X_7.lt; have HB_7 := Cv.below (by exact HB_6) hb7; have P_7 := Blk4.below (by exact P_6) hb7; obtain ⟨cP_7_0, cP_7_1, cP_7_2, cP_7_3, _⟩ := P_7.cells; have lP_7 := P_7.lt; have HC_7 := Cv.below (by exact HC_6) hb7; have Q_7 := Blk4.below (by exact Q_6) hb7; obtain ⟨cQ_7_0, cQ_7_1, cQ_7_2, cQ_7_3, _⟩ := Q_7.cells; have lQ_7 := Q_7.lt; have RB_7 := Row.below (by exact RB_6) hb7)
          | (go_at_call 33; (with_reducible refine (L2 _ _ _ (HA_7).hvS).mono ?_); rintro e w8 ⟨rfl, hb8⟩; have BW8 : Below w.heap.size w w8 := BW7.trans (hb8.mono BW7.size); have zz8 : w7.heap.size ≤ w8.heap.size := hb8.size; have HA_8 := Cv.below (by exact HA_7) hb8; have X_8 := Blk4.below (by exact X_7) hb8; obtain ⟨cX_8_0, cX_8_1, cX_8_2, cX_8_3, _⟩ := X_8.cells; have lX_8 := X_8.lt; have HB_8 := Cv.below (by exact HB_7) hb8; have P_8 := Blk4.below (by exact P_7) hb8; obtain ⟨cP_8_0, cP_8_1, cP_8_2, cP_8_3, _⟩ := P_8.cells; have lP_8 := P_8.lt; have HC_8 := Cv.below (by exact HC_7) hb8; have Q_8 := Blk4.below (by exact Q_7) hb8; obtain ⟨cQ_8_0, cQ_8_1, cQ_8_2, cQ_8_3, _⟩ := Q_8.cells; have lQ_8 := Q_8.lt; have RB_8 := Row.below (by exact RB_7) hb8))
      rename_i hHeld1
      clear hHeld1
      go_wp2_with fail
      go_ret
      exact ⟨by simp, BW8⟩
    · by_cases hd : d3 = n3
      · obtain rfl : k3 = n3 := by have := E9.out; omega
        obtain rfl : d3 = k3 := by omega
        obtain rfl : ng = 0 := by have := E9.out; omega
        clear hw es hni hkc hlc E9
        have hw : IntKind.i64.wrap (d3 : Int) = (d3 : Int) := IntWalk.i64_in _ (by omega)
        go_wp2_with fail
        go_region_held3 (fun w' => w'.cell? ⟨w2.heap.size, 0, none⟩ = some (.slice B0 k0 d0) ∧ w'.cell? ⟨w2.heap.size, 1, none⟩ = some (.slice B1 k1 d1) ∧ w'.cell? ⟨w2.heap.size, 2, none⟩ = some (.slice B2 k2 d2) ∧ w'.cell? ⟨w2.heap.size, 3, none⟩ = some (.slice (some ⟨g, 0, none⟩) d3 d3) ∧ w'.cell? ⟨w1.heap.size, 0, none⟩ = some (.slice A0 n0 c0) ∧ w'.cell? ⟨w1.heap.size, 1, none⟩ = some (.slice A1 n1 c1) ∧ w'.cell? ⟨w1.heap.size, 2, none⟩ = some (.slice A2 n2 c2) ∧ w'.cell? ⟨w1.heap.size, 3, none⟩ = some (.slice A3 d3 c3))
          (((try dsimp only); (repeat' apply And.intro) <;> (with_reducible (first | exact cX_8_3 | exact cX_8_2 | exact cX_8_1 | exact cX_8_0 | exact cP_8_3 | exact cP_8_2 | exact cP_8_1 | exact cP_8_0 | exact cX_7_3 | exact cX_7_2 | exact cX_7_1 | exact cX_7_0 | exact cP_7_3 | exact cP_7_2 | exact cP_7_1 | exact cP_7_0 | exact cX_6_3 | exact cX_6_2 | exact cX_6_1 | exact cX_6_0 | exact cP_6_3 | exact cP_6_2 | exact cP_6_1 | exact cP_6_0 | exact cellD cX_5_3 | exact cellD cX_5_2 | exact cellD cX_5_1 | exact cellD cX_5_0 | exact cellD cP_5_3 | exact cellD cP_5_2 | exact cellD cP_5_1 | exact cellD cP_5_0 | exact cX_5_3 | exact cX_5_2 | exact cX_5_1 | exact cX_5_0 | exact cP_5_3 | exact cP_5_2 | exact cP_5_1 | exact cP_5_0))))
          (first
            | (go_at_call 23; (with_reducible refine (ccInts_nil _ _ _ _ _).mono ?_); rintro e w6 ⟨rfl, hb6⟩; have BW6 : Below w.heap.size w w6 := (Below.drew BW5).trans (hb6.mono (Below.drew BW5).size); have zz6 : w5.heap.size ≤ w6.heap.size := hb6.size; have HA_6 := Cv.below (by exact (HA_5.drew)) hb6; have X_6 := Blk4.below (by exact (X_5.drew)) hb6; obtain ⟨cX_6_0, cX_6_1, cX_6_2, cX_6_3, _⟩ := X_6.cells; have lX_6 := X_6.lt; have HB_6 := Cv.below (by exact (HB_5.drew)) hb6; have P_6 := Blk4.below (by exact (P_5.drew)) hb6; obtain ⟨cP_6_0, cP_6_1, cP_6_2, cP_6_3, _⟩ := P_6.cells; have lP_6 := P_6.lt; have HC_6 := Cv.below (by exact (HC_5.drew)) hb6; have Q_6 := Blk4.below (by exact (Q_5.drew)) hb6; obtain ⟨cQ_6_0, cQ_6_1, cQ_6_2, cQ_6_3, _⟩ := Q_6.cells; have lQ_6 := Q_6.lt; have RB_6 := Row.below (by exact (rB.drew)) hb6)
            | (go_at_call 33; (with_reducible refine (L1 _ _ _ (HB_6).hvS).mono ?_); rintro e w7 ⟨rfl, hb7⟩; have BW7 : Below w.heap.size w w7 := BW6.trans (hb7.mono BW6.size); have zz7 : w6.heap.size ≤ w7.heap.size := hb7.size; have HA_7 := Cv.below (by exact HA_6) hb7; have X_7 := Blk4.below (by exact X_6) hb7; obtain ⟨cX_7_0, cX_7_1, cX_7_2, cX_7_3, _⟩ := X_7.cells; have lX_7 := X_7.lt; have HB_7 := Cv.below (by exact HB_6) hb7; have P_7 := Blk4.below (by exact P_6) hb7; obtain ⟨cP_7_0, cP_7_1, cP_7_2, cP_7_3, _⟩ := P_7.cells; have lP_7 := P_7.lt; have HC_7 := Cv.below (by exact HC_6) hb7; have Q_7 := Blk4.below (by exact Q_6) hb7; obtain ⟨cQ_7_0, cQ_7_1, cQ_7_2, cQ_7_3, _⟩ := Q_7.cells; have lQ_7 := Q_7.lt; have RB_7 := Row.below (by exact RB_6) hb7)
            | (go_at_call 33; (with_reducible refine (L2 _ _ _ (HA_7).hvS).mono ?_); rintro e w8 ⟨rfl, hb8⟩; have BW8 : Below w.heap.size w w8 := BW7.trans (hb8.mono BW7.size); have zz8 : w7.heap.size ≤ w8.heap.size := hb8.size; have HA_8 := Cv.below (by exact HA_7) hb8; have X_8 := Blk4.below (by exact X_7) hb8; obtain ⟨cX_8_0, cX_8_1, cX_8_2, cX_8_3, _⟩ := X_8.cells; have lX_8 := X_8.lt; have HB_8 := Cv.below (by exact HB_7) hb8; have P_8 := Blk4.below (by exact P_7) hb8; obtain ⟨cP_8_0, cP_8_1, cP_8_2, cP_8_3, _⟩ := P_8.cells; have lP_8 := P_8.lt; have HC_8 := Cv.below (by exact HC_7) hb8; have Q_8 := Blk4.below (by exact Q_7) hb8; obtain ⟨cQ_8_0, cQ_8_1, cQ_8_2, cQ_8_3, _⟩ := Q_8.cells; have lQ_8 := Q_8.lt; have RB_8 := Row.below (by exact RB_7) hb8))
        rename_i hHeld1
        clear hHeld1
        go_wp2_with fail
        go_ret
        exact ⟨by simp, BW8⟩
      · obtain rfl : ng = k3 - n3 := by have := E9.out; omega
        have hd4 : d3 - n3 ≠ 0 := by omega
        go_wp2_with fail
        go_region_held3 (fun w' => w'.cell? ⟨w2.heap.size, 0, none⟩ = some (.slice B0 k0 d0) ∧ w'.cell? ⟨w2.heap.size, 1, none⟩ = some (.slice B1 k1 d1) ∧ w'.cell? ⟨w2.heap.size, 2, none⟩ = some (.slice B2 k2 d2) ∧ w'.cell? ⟨w2.heap.size, 3, none⟩ = some (.slice (some ⟨g, 0, none⟩) k3 d3) ∧ w'.cell? ⟨w1.heap.size, 0, none⟩ = some (.slice A0 n0 c0) ∧ w'.cell? ⟨w1.heap.size, 1, none⟩ = some (.slice A1 n1 c1) ∧ w'.cell? ⟨w1.heap.size, 2, none⟩ = some (.slice A2 n2 c2) ∧ w'.cell? ⟨w1.heap.size, 3, none⟩ = some (.slice A3 n3 c3))
          (((try dsimp only); (repeat' apply And.intro) <;> (with_reducible (first | exact cX_8_3 | exact cX_8_2 | exact cX_8_1 | exact cX_8_0 | exact cP_8_3 | exact cP_8_2 | exact cP_8_1 | exact cP_8_0 | exact cX_7_3 | exact cX_7_2 | exact cX_7_1 | exact cX_7_0 | exact cP_7_3 | exact cP_7_2 | exact cP_7_1 | exact cP_7_0 | exact cX_6_3 | exact cX_6_2 | exact cX_6_1 | exact cX_6_0 | exact cP_6_3 | exact cP_6_2 | exact cP_6_1 | exact cP_6_0 | exact cellD cX_5_3 | exact cellD cX_5_2 | exact cellD cX_5_1 | exact cellD cX_5_0 | exact cellD cP_5_3 | exact cellD cP_5_2 | exact cellD cP_5_1 | exact cellD cP_5_0 | exact cX_5_3 | exact cX_5_2 | exact cX_5_1 | exact cX_5_0 | exact cP_5_3 | exact cP_5_2 | exact cP_5_1 | exact cP_5_0))))
          (first
            | (go_at_call 23; (with_reducible refine (ccIntsAt_eq _ _ _ _ _ _ gs HGL.out (by omega) (AtR.dropE (rB.drew) n3 hdr.out) (AtR.of (R5.drew))).mono ?_); rintro e w6 ⟨rfl, hb6⟩; have BW6 : Below w.heap.size w w6 := (Below.drew BW5).trans (hb6.mono (Below.drew BW5).size); have zz6 : w5.heap.size ≤ w6.heap.size := hb6.size; have HA_6 := Cv.below (by exact (HA_5.drew)) hb6; have X_6 := Blk4.below (by exact (X_5.drew)) hb6; obtain ⟨cX_6_0, cX_6_1, cX_6_2, cX_6_3, _⟩ := X_6.cells; have lX_6 := X_6.lt; have HB_6 := Cv.below (by exact (HB_5.drew)) hb6; have P_6 := Blk4.below (by exact (P_5.drew)) hb6; obtain ⟨cP_6_0, cP_6_1, cP_6_2, cP_6_3, _⟩ := P_6.cells; have lP_6 := P_6.lt; have HC_6 := Cv.below (by exact (HC_5.drew)) hb6; have Q_6 := Blk4.below (by exact (Q_5.drew)) hb6; obtain ⟨cQ_6_0, cQ_6_1, cQ_6_2, cQ_6_3, _⟩ := Q_6.cells; have lQ_6 := Q_6.lt; have R5_6 := Row.below (by exact (R5.drew)) hb6; have RB_6 := Row.below (by exact (rB.drew)) hb6)
            | (go_at_call 33; (with_reducible refine (L1 _ _ _ (HB_6).hvS).mono ?_); rintro e w7 ⟨rfl, hb7⟩; have BW7 : Below w.heap.size w w7 := BW6.trans (hb7.mono BW6.size); have zz7 : w6.heap.size ≤ w7.heap.size := hb7.size; have HA_7 := Cv.below (by exact HA_6) hb7; have X_7 := Blk4.below (by exact X_6) hb7; obtain ⟨cX_7_0, cX_7_1, cX_7_2, cX_7_3, _⟩ := X_7.cells; have lX_7 := X_7.lt; have HB_7 := Cv.below (by exact HB_6) hb7; have P_7 := Blk4.below (by exact P_6) hb7; obtain ⟨cP_7_0, cP_7_1, cP_7_2, cP_7_3, _⟩ := P_7.cells; have lP_7 := P_7.lt; have HC_7 := Cv.below (by exact HC_6) hb7; have Q_7 := Blk4.below (by exact Q_6) hb7; obtain ⟨cQ_7_0, cQ_7_1, cQ_7_2, cQ_7_3, _⟩ := Q_7.cells; have lQ_7 := Q_7.lt; have R5_7 := Row.below (by exact R5_6) hb7; have RB_7 := Row.below (by exact RB_6) hb7)
            | (go_at_call 33; (with_reducible refine (L2 _ _ _ (HA_7).hvS).mono ?_); rintro e w8 ⟨rfl, hb8⟩; have BW8 : Below w.heap.size w w8 := BW7.trans (hb8.mono BW7.size); have zz8 : w7.heap.size ≤ w8.heap.size := hb8.size; have HA_8 := Cv.below (by exact HA_7) hb8; have X_8 := Blk4.below (by exact X_7) hb8; obtain ⟨cX_8_0, cX_8_1, cX_8_2, cX_8_3, _⟩ := X_8.cells; have lX_8 := X_8.lt; have HB_8 := Cv.below (by exact HB_7) hb8; have P_8 := Blk4.below (by exact P_7) hb8; obtain ⟨cP_8_0, cP_8_1, cP_8_2, cP_8_3, _⟩ := P_8.cells; have lP_8 := P_8.lt; have HC_8 := Cv.below (by exact HC_7) hb8; have Q_8 := Blk4.below (by exact Q_7) hb8; obtain ⟨cQ_8_0, cQ_8_1, cQ_8_2, cQ_8_3, _⟩ := Q_8.cells; have lQ_8 := Q_8.lt; have R5_8 := Row.below (by exact R5_7) hb8; have RB_8 := Row.below (by exact RB_7) hb8))
        rename_i hHeld1
        clear hHeld1
        go_wp2_with fail
        go_ret
        exact ⟨by simp, BW8⟩
end Go.Proofs.Ytmpcgegbfbkmnaa
