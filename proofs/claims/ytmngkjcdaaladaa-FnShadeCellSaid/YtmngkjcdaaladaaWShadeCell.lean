/- The law FnShadeCell, walked. -/
import Derived.Test.YtmngkjcdaaladaaCaseC
import Derived.Test.YtmngkjcdaaladaaPureD
import Derived.Test.YtmngkjcdaaladaaWLaw
import Derived.Test.YtmngkjcdaaladaaICol2
import Derived.Test.YtmngkjcdaaladaaIShadeCell
import Derived.Test.YtmngkjcdaaladaaSShade
namespace Go.Proofs.Ytmngkjcdaaladaa
open Go.RowKit

set_option maxRecDepth 100000 in
set_option maxHeartbeats 4000000 in
theorem lawShadeCell_walk (w : World) (A : Option Addr) (n c : Nat) (h : Inp w A n c) :
    Calls Try.prog 6 #[.slice A n c] w (LawTrue w) := by
  by_cases hbig : 1048576 < n
  · go_enter Try.func6, Try.ntmps6
    go_wp2_with fail
    go_ret
    exact ⟨rfl, Below.refl _ _⟩
  go_enter Try.func6, Try.ntmps6
  go_wp2_with fail
  refine (drawShadeCell_any _ _ _ _ h).mono ?_; rintro e w1 ⟨v, C, x, rfl, HA, hb1⟩
  have BW1 : Below w.heap.size w w1 := (Below.refl w.heap.size w).trans (hb1.mono (Below.refl w.heap.size w).size)
  have zz1 : w.heap.size ≤ w1.heap.size := hb1.size
  have HAo := HA
  obtain ⟨A0, n0, c0, A1, n1, c1, A2, n2, c2, A3, n3, c3, rfl, hh, ⟨r0, r1, r2, r3⟩, ⟨l0, l1, l2, l3⟩, ⟨mm0, mm1, mm2, mm3⟩, _⟩ := HAo.open_
  have I := fun W lo v hW => implShadeCell_any W lo v C hW x
  have S := fun W lo v hW => specShadeCell_any W lo v C hW x
  rcases ho : shadeO C x with _ | C2
  · rw [ho] at I S
    go_wp2_with fail
    refine (I _ _ _ (HA.alloc (.cells #[.slice A0 n0 c0, .slice A1 n1 c1, .slice A2 n2 c2, .slice A3 n3 c3] 27))).mono ?_; rintro e w2 ⟨v, rfl, HB, hb2⟩
    simp only [Option.isSome_none, Option.getD_none] at HB ⊢
    have HBb := HB
    obtain ⟨B0, k0, d0, B1, k1, d1, B2, k2, d2, B3, k3, d3, rfl, _, ⟨_, _, _, br3⟩, ⟨_, _, _, bl3⟩, _⟩ := HBb.open_
    have BW2 : Below w.heap.size w w2 := (BW1.alloc BW1.size (.cells #[.slice A0 n0 c0, .slice A1 n1 c1, .slice A2 n2 c2, .slice A3 n3 c3] 27)).trans (hb2.mono (BW1.alloc BW1.size (.cells #[.slice A0 n0 c0, .slice A1 n1 c1, .slice A2 n2 c2, .slice A3 n3 c3] 27)).size)
    have zz2 : w1.heap.size + 1 ≤ w2.heap.size := by have := hb2.size; simp at this; omega
    have HA_2 := Cv.below (by exact (HA.alloc (.cells #[.slice A0 n0 c0, .slice A1 n1 c1, .slice A2 n2 c2, .slice A3 n3 c3] 27))) hb2
    have X_2 := Blk4.below (by exact (Blk4.new w1 (.slice A0 n0 c0) (.slice A1 n1 c1) (.slice A2 n2 c2) (.slice A3 n3 c3) 27)) hb2
    obtain ⟨cX_2_0, cX_2_1, cX_2_2, cX_2_3, _⟩ := X_2.cells
    have lX_2 := X_2.lt
    go_wp2_with fail
    refine (S _ _ _ (HA_2.alloc (.cells #[.slice B0 k0 d0, .slice B1 k1 d1, .slice B2 k2 d2, .slice B3 k3 d3] 27))).mono ?_; rintro e w3 ⟨v, rfl, HC, hb3⟩
    simp only [Option.isSome_none, Option.getD_none] at HC ⊢
    have HCb := HC
    obtain ⟨K0, m0, e0, K1, m1, e1, K2, m2, e2, K3, m3, e3, rfl, _⟩ := HCb.open_
    have BW3 : Below w.heap.size w w3 := (BW2.alloc BW2.size (.cells #[.slice B0 k0 d0, .slice B1 k1 d1, .slice B2 k2 d2, .slice B3 k3 d3] 27)).trans (hb3.mono (BW2.alloc BW2.size (.cells #[.slice B0 k0 d0, .slice B1 k1 d1, .slice B2 k2 d2, .slice B3 k3 d3] 27)).size)
    have zz3 : w2.heap.size + 1 ≤ w3.heap.size := by have := hb3.size; simp at this; omega
    have HA_3 := Cv.below (by exact (HA_2.alloc (.cells #[.slice B0 k0 d0, .slice B1 k1 d1, .slice B2 k2 d2, .slice B3 k3 d3] 27))) hb3
    have X_3 := Blk4.below (by exact (X_2.alloc (.cells #[.slice B0 k0 d0, .slice B1 k1 d1, .slice B2 k2 d2, .slice B3 k3 d3] 27))) hb3
    obtain ⟨cX_3_0, cX_3_1, cX_3_2, cX_3_3, _⟩ := X_3.cells
    have lX_3 := X_3.lt
    have HB_3 := Cv.below (by exact (HB.alloc (.cells #[.slice B0 k0 d0, .slice B1 k1 d1, .slice B2 k2 d2, .slice B3 k3 d3] 27))) hb3
    have P_3 := Blk4.below (by exact (Blk4.new w2 (.slice B0 k0 d0) (.slice B1 k1 d1) (.slice B2 k2 d2) (.slice B3 k3 d3) 27)) hb3
    obtain ⟨cP_3_0, cP_3_1, cP_3_2, cP_3_3, _⟩ := P_3.cells
    have lP_3 := P_3.lt
    have E1 := implColoredSame_any _ _ _ _ _ _ _ (HB_3.alloc (.cells #[.slice K0 m0 e0, .slice K1 m1 e1, .slice K2 m2 e2, .slice K3 m3 e3] 27)) (HC.alloc (.cells #[.slice K0 m0 e0, .slice K1 m1 e1, .slice K2 m2 e2, .slice K3 m3 e3] 27))
    rw [sameC_self] at E1
    go_wp2_with fail
    refine (E1).mono ?_; rintro e w4 ⟨rfl, hb4⟩
    have BW4 : Below w.heap.size w w4 := (BW3.alloc BW3.size (.cells #[.slice K0 m0 e0, .slice K1 m1 e1, .slice K2 m2 e2, .slice K3 m3 e3] 27)).trans (hb4.mono (BW3.alloc BW3.size (.cells #[.slice K0 m0 e0, .slice K1 m1 e1, .slice K2 m2 e2, .slice K3 m3 e3] 27)).size)
    have zz4 : w3.heap.size + 1 ≤ w4.heap.size := by have := hb4.size; simp at this; omega
    have HA_4 := Cv.below (by exact (HA_3.alloc (.cells #[.slice K0 m0 e0, .slice K1 m1 e1, .slice K2 m2 e2, .slice K3 m3 e3] 27))) hb4
    have X_4 := Blk4.below (by exact (X_3.alloc (.cells #[.slice K0 m0 e0, .slice K1 m1 e1, .slice K2 m2 e2, .slice K3 m3 e3] 27))) hb4
    obtain ⟨cX_4_0, cX_4_1, cX_4_2, cX_4_3, _⟩ := X_4.cells
    have lX_4 := X_4.lt
    have HB_4 := Cv.below (by exact (HB_3.alloc (.cells #[.slice K0 m0 e0, .slice K1 m1 e1, .slice K2 m2 e2, .slice K3 m3 e3] 27))) hb4
    have P_4 := Blk4.below (by exact (P_3.alloc (.cells #[.slice K0 m0 e0, .slice K1 m1 e1, .slice K2 m2 e2, .slice K3 m3 e3] 27))) hb4
    obtain ⟨cP_4_0, cP_4_1, cP_4_2, cP_4_3, _⟩ := P_4.cells
    have lP_4 := P_4.lt
    have HC_4 := Cv.below (by exact (HC.alloc (.cells #[.slice K0 m0 e0, .slice K1 m1 e1, .slice K2 m2 e2, .slice K3 m3 e3] 27))) hb4
    have Q_4 := Blk4.below (by exact (Blk4.new w3 (.slice K0 m0 e0) (.slice K1 m1 e1) (.slice K2 m2 e2) (.slice K3 m3 e3) 27)) hb4
    obtain ⟨cQ_4_0, cQ_4_1, cQ_4_2, cQ_4_3, _⟩ := Q_4.cells
    have lQ_4 := Q_4.lt
    have E2 := implColoredSame_any _ _ _ _ _ _ _ HB_4 HC_4
    rw [sameC_self] at E2
    go_wp2_with fail
    refine (E2).mono ?_; rintro e w5 ⟨rfl, hb5⟩
    have BW5 : Below w.heap.size w w5 := BW4.trans (hb5.mono BW4.size)
    have zz5 : w4.heap.size ≤ w5.heap.size := hb5.size
    have HA_5 := Cv.below (by exact HA_4) hb5
    have X_5 := Blk4.below (by exact X_4) hb5
    obtain ⟨cX_5_0, cX_5_1, cX_5_2, cX_5_3, _⟩ := X_5.cells
    have lX_5 := X_5.lt
    have HB_5 := Cv.below (by exact HB_4) hb5
    have P_5 := Blk4.below (by exact P_4) hb5
    obtain ⟨cP_5_0, cP_5_1, cP_5_2, cP_5_3, _⟩ := P_5.cells
    have lP_5 := P_5.lt
    have HC_5 := Cv.below (by exact HC_4) hb5
    have Q_5 := Blk4.below (by exact Q_4) hb5
    obtain ⟨cQ_5_0, cQ_5_1, cQ_5_2, cQ_5_3, _⟩ := Q_5.cells
    have lQ_5 := Q_5.lt
    go_wp2_with fail
    go_ret
    exact ⟨rfl, BW5⟩
  · rw [ho] at I S
    obtain ⟨hv, ⟨j, rfl, hj⟩, hC2, hv2⟩ := shadeO_parts ho
    obtain ⟨hvh, hcl, hcol⟩ := cvB_parts hv
    have hlen := l3.out
    have hjn : j < n3 := by omega
    have hji : (j : Int) < (n3 : Int) := by omega
    have JX := fun W lo v hW => implCountColor_any W lo v C2 hW 1
    have JC := fun W lo v hW => implCountColor_any W lo v C hW 1
    rw [countO_valid hv2] at JX
    rw [countO_valid hv] at JC
    obtain ⟨y, hy⟩ : ∃ y, C.c[j]? = some y := ⟨_, List.getElem?_eq_getElem (by omega)⟩
    have hb9 : C.c.count 1 ≤ C.c.length := List.count_le_length
    have h8 := hvB_len hvh
    have HY := Lib.hid hy
    go_wp2_with fail
    refine (I _ _ _ (HA.alloc (.cells #[.slice A0 n0 c0, .slice A1 n1 c1, .slice A2 n2 c2, .slice A3 n3 c3] 27))).mono ?_; rintro e w2 ⟨v, rfl, HB, hb2⟩
    simp only [Option.isSome_some, Option.getD_some] at HB ⊢
    have HBb := HB
    obtain ⟨B0, k0, d0, B1, k1, d1, B2, k2, d2, B3, k3, d3, rfl, _, ⟨_, _, _, br3⟩, ⟨_, _, _, bl3⟩, _⟩ := HBb.open_
    have BW2 : Below w.heap.size w w2 := (BW1.alloc BW1.size (.cells #[.slice A0 n0 c0, .slice A1 n1 c1, .slice A2 n2 c2, .slice A3 n3 c3] 27)).trans (hb2.mono (BW1.alloc BW1.size (.cells #[.slice A0 n0 c0, .slice A1 n1 c1, .slice A2 n2 c2, .slice A3 n3 c3] 27)).size)
    have zz2 : w1.heap.size + 1 ≤ w2.heap.size := by have := hb2.size; simp at this; omega
    have HA_2 := Cv.below (by exact (HA.alloc (.cells #[.slice A0 n0 c0, .slice A1 n1 c1, .slice A2 n2 c2, .slice A3 n3 c3] 27))) hb2
    have X_2 := Blk4.below (by exact (Blk4.new w1 (.slice A0 n0 c0) (.slice A1 n1 c1) (.slice A2 n2 c2) (.slice A3 n3 c3) 27)) hb2
    obtain ⟨cX_2_0, cX_2_1, cX_2_2, cX_2_3, _⟩ := X_2.cells
    have lX_2 := X_2.lt
    go_wp2_with fail
    refine (S _ _ _ (HA_2.alloc (.cells #[.slice B0 k0 d0, .slice B1 k1 d1, .slice B2 k2 d2, .slice B3 k3 d3] 27))).mono ?_; rintro e w3 ⟨v, rfl, HC, hb3⟩
    simp only [Option.isSome_some, Option.getD_some] at HC ⊢
    have HCb := HC
    obtain ⟨K0, m0, e0, K1, m1, e1, K2, m2, e2, K3, m3, e3, rfl, _⟩ := HCb.open_
    have BW3 : Below w.heap.size w w3 := (BW2.alloc BW2.size (.cells #[.slice B0 k0 d0, .slice B1 k1 d1, .slice B2 k2 d2, .slice B3 k3 d3] 27)).trans (hb3.mono (BW2.alloc BW2.size (.cells #[.slice B0 k0 d0, .slice B1 k1 d1, .slice B2 k2 d2, .slice B3 k3 d3] 27)).size)
    have zz3 : w2.heap.size + 1 ≤ w3.heap.size := by have := hb3.size; simp at this; omega
    have HA_3 := Cv.below (by exact (HA_2.alloc (.cells #[.slice B0 k0 d0, .slice B1 k1 d1, .slice B2 k2 d2, .slice B3 k3 d3] 27))) hb3
    have X_3 := Blk4.below (by exact (X_2.alloc (.cells #[.slice B0 k0 d0, .slice B1 k1 d1, .slice B2 k2 d2, .slice B3 k3 d3] 27))) hb3
    obtain ⟨cX_3_0, cX_3_1, cX_3_2, cX_3_3, _⟩ := X_3.cells
    have lX_3 := X_3.lt
    have HB_3 := Cv.below (by exact (HB.alloc (.cells #[.slice B0 k0 d0, .slice B1 k1 d1, .slice B2 k2 d2, .slice B3 k3 d3] 27))) hb3
    have P_3 := Blk4.below (by exact (Blk4.new w2 (.slice B0 k0 d0) (.slice B1 k1 d1) (.slice B2 k2 d2) (.slice B3 k3 d3) 27)) hb3
    obtain ⟨cP_3_0, cP_3_1, cP_3_2, cP_3_3, _⟩ := P_3.cells
    have lP_3 := P_3.lt
    have E1 := implColoredSame_any _ _ _ _ _ _ _ (HB_3.alloc (.cells #[.slice K0 m0 e0, .slice K1 m1 e1, .slice K2 m2 e2, .slice K3 m3 e3] 27)) (HC.alloc (.cells #[.slice K0 m0 e0, .slice K1 m1 e1, .slice K2 m2 e2, .slice K3 m3 e3] 27))
    rw [sameC_self] at E1
    go_wp2_with fail
    refine (E1).mono ?_; rintro e w4 ⟨rfl, hb4⟩
    have BW4 : Below w.heap.size w w4 := (BW3.alloc BW3.size (.cells #[.slice K0 m0 e0, .slice K1 m1 e1, .slice K2 m2 e2, .slice K3 m3 e3] 27)).trans (hb4.mono (BW3.alloc BW3.size (.cells #[.slice K0 m0 e0, .slice K1 m1 e1, .slice K2 m2 e2, .slice K3 m3 e3] 27)).size)
    have zz4 : w3.heap.size + 1 ≤ w4.heap.size := by have := hb4.size; simp at this; omega
    have HA_4 := Cv.below (by exact (HA_3.alloc (.cells #[.slice K0 m0 e0, .slice K1 m1 e1, .slice K2 m2 e2, .slice K3 m3 e3] 27))) hb4
    have X_4 := Blk4.below (by exact (X_3.alloc (.cells #[.slice K0 m0 e0, .slice K1 m1 e1, .slice K2 m2 e2, .slice K3 m3 e3] 27))) hb4
    obtain ⟨cX_4_0, cX_4_1, cX_4_2, cX_4_3, _⟩ := X_4.cells
    have lX_4 := X_4.lt
    have HB_4 := Cv.below (by exact (HB_3.alloc (.cells #[.slice K0 m0 e0, .slice K1 m1 e1, .slice K2 m2 e2, .slice K3 m3 e3] 27))) hb4
    have P_4 := Blk4.below (by exact (P_3.alloc (.cells #[.slice K0 m0 e0, .slice K1 m1 e1, .slice K2 m2 e2, .slice K3 m3 e3] 27))) hb4
    obtain ⟨cP_4_0, cP_4_1, cP_4_2, cP_4_3, _⟩ := P_4.cells
    have lP_4 := P_4.lt
    have HC_4 := Cv.below (by exact (HC.alloc (.cells #[.slice K0 m0 e0, .slice K1 m1 e1, .slice K2 m2 e2, .slice K3 m3 e3] 27))) hb4
    have Q_4 := Blk4.below (by exact (Blk4.new w3 (.slice K0 m0 e0) (.slice K1 m1 e1) (.slice K2 m2 e2) (.slice K3 m3 e3) 27)) hb4
    obtain ⟨cQ_4_0, cQ_4_1, cQ_4_2, cQ_4_3, _⟩ := Q_4.cells
    have lQ_4 := Q_4.lt
    have L2 : C2.c.length = n3 := by rw [hC2]; show (shade C.c j).length = _; rw [shade_len]; exact hlen
    by_cases hy0 : y = 0
    · subst hy0
      have hs : C2.c = C.c.set j 1 := by rw [hC2]; exact shade_white hy
      have HZ : Hid (C2.c[j]? = some 1) := by unfold Hid; rw [hs, List.getElem?_set_self (by omega)]
      have hq : C2.c.count 1 = C.c.count 1 + 1 := by rw [hs, count_set_any 1 1 hy (by omega)]; simp
      generalize C2.c.count 1 = q1 at JX hq
      generalize C.c.count 1 = p1 at JC hq hb9
      have hsub : IntKind.i64.wrap ((q1 : Int) - (p1 : Int)) = 1 := by rw [show (q1 : Int) - (p1 : Int) = 1 by omega]; rfl
      clear hq hs hy ho hC2 hv hv2 hvh hcol h8 hb9 I S
      go_wp2_with fail
      go_region_held3 (fun w' => w'.cell? ⟨w2.heap.size, 0, none⟩ = some (.slice B0 k0 d0) ∧ w'.cell? ⟨w2.heap.size, 1, none⟩ = some (.slice B1 k1 d1) ∧ w'.cell? ⟨w2.heap.size, 2, none⟩ = some (.slice B2 k2 d2) ∧ w'.cell? ⟨w2.heap.size, 3, none⟩ = some (.slice B3 k3 d3) ∧ w'.cell? ⟨w1.heap.size, 0, none⟩ = some (.slice A0 n0 c0) ∧ w'.cell? ⟨w1.heap.size, 1, none⟩ = some (.slice A1 n1 c1) ∧ w'.cell? ⟨w1.heap.size, 2, none⟩ = some (.slice A2 n2 c2) ∧ w'.cell? ⟨w1.heap.size, 3, none⟩ = some (.slice A3 n3 c3))
        (((try dsimp only); (repeat' apply And.intro) <;> (with_reducible (first | exact cX_6_3 | exact cX_6_2 | exact cX_6_1 | exact cX_6_0 | exact cP_6_3 | exact cP_6_2 | exact cP_6_1 | exact cP_6_0 | exact cX_5_3 | exact cX_5_2 | exact cX_5_1 | exact cX_5_0 | exact cP_5_3 | exact cP_5_2 | exact cP_5_1 | exact cP_5_0 | exact cellD cX_4_3 | exact cellD cX_4_2 | exact cellD cX_4_1 | exact cellD cX_4_0 | exact cellD cP_4_3 | exact cellD cP_4_2 | exact cellD cP_4_1 | exact cellD cP_4_0 | exact cX_4_3 | exact cX_4_2 | exact cX_4_1 | exact cX_4_0 | exact cP_4_3 | exact cP_4_2 | exact cP_4_1 | exact cP_4_0))))
        (first
          | (go_at_call 19; (with_reducible refine (JX _ _ _ (HB_4.drew)).mono ?_); rintro e w5 ⟨rfl, hb5⟩; have BW5 : Below w.heap.size w w5 := (Below.drew BW4).trans (hb5.mono (Below.drew BW4).size); have zz5 : w4.heap.size ≤ w5.heap.size := hb5.size; have HA_5 := Cv.below (by exact (HA_4.drew)) hb5; have X_5 := Blk4.below (by exact (X_4.drew)) hb5; obtain ⟨cX_5_0, cX_5_1, cX_5_2, cX_5_3, _⟩ := X_5.cells; have lX_5 := X_5.lt; have HB_5 := Cv.below (by exact (HB_4.drew)) hb5; have P_5 := Blk4.below (by exact (P_4.drew)) hb5; obtain ⟨cP_5_0, cP_5_1, cP_5_2, cP_5_3, _⟩ := P_5.cells; have lP_5 := P_5.lt; have HC_5 := Cv.below (by exact (HC_4.drew)) hb5; have Q_5 := Blk4.below (by exact (Q_4.drew)) hb5; obtain ⟨cQ_5_0, cQ_5_1, cQ_5_2, cQ_5_3, _⟩ := Q_5.cells; have lQ_5 := Q_5.lt)
          | (go_at_call 19; (with_reducible refine (JC _ _ _ HA_5).mono ?_); rintro e w6 ⟨rfl, hb6⟩; have BW6 : Below w.heap.size w w6 := BW5.trans (hb6.mono BW5.size); have zz6 : w5.heap.size ≤ w6.heap.size := hb6.size; have HA_6 := Cv.below (by exact HA_5) hb6; have X_6 := Blk4.below (by exact X_5) hb6; obtain ⟨cX_6_0, cX_6_1, cX_6_2, cX_6_3, _⟩ := X_6.cells; have lX_6 := X_6.lt; have HB_6 := Cv.below (by exact HB_5) hb6; have P_6 := Blk4.below (by exact P_5) hb6; obtain ⟨cP_6_0, cP_6_1, cP_6_2, cP_6_3, _⟩ := P_6.cells; have lP_6 := P_6.lt; have HC_6 := Cv.below (by exact HC_5) hb6; have Q_6 := Blk4.below (by exact Q_5) hb6; obtain ⟨cQ_6_0, cQ_6_1, cQ_6_2, cQ_6_3, _⟩ := Q_6.cells; have lQ_6 := Q_6.lt))
      rename_i hHeld1
      clear hHeld1
      obtain ⟨rA, lA⟩ := (HA_6).last'
      obtain ⟨rB, lB⟩ := (HB_6).last'
      obtain ⟨gA, y', rfl, _, _, hy', hcA, _⟩ := rA.get (k := j) (by omega)
      obtain ⟨gB, z', rfl, _, _, hz', hcB, _⟩ := rB.get (k := j) (by omega)
      have ey := hy'.out
      rw [HY.out] at ey
      obtain rfl : y' = 0 := by simpa using ey.symm
      have ez := hz'.out
      rw [HZ.out] at ez
      obtain rfl : z' = 1 := by simpa using ez.symm
      have hjk : (j : Int) < (k3 : Int) := by omega
      clear ey ez hy' hz'
      go_wp2_with fail
      go_ret
      exact ⟨by simp, BW6⟩
    · have hy1 : (y == 0) = false := by simp [hy0]
      have hy2 : (y != 0) = true := by simp [hy0]
      have hs : C2.c = C.c := by rw [hC2]; exact shade_other hy hy0
      have HZ : Hid (C2.c[j]? = some y) := by unfold Hid; rw [hs]; exact hy
      have hq : C2.c.count 1 = C.c.count 1 := by rw [hs]
      generalize C2.c.count 1 = q1 at JX hq
      generalize C.c.count 1 = p1 at JC hq hb9
      subst hq
      have hsub : IntKind.i64.wrap ((q1 : Int) - (q1 : Int)) = 0 := by rw [Int.sub_self]; rfl
      clear hs hy ho hC2 hv hv2 hvh hcol h8 hb9 I S
      go_wp2_with fail
      go_region_held3 (fun w' => w'.cell? ⟨w2.heap.size, 0, none⟩ = some (.slice B0 k0 d0) ∧ w'.cell? ⟨w2.heap.size, 1, none⟩ = some (.slice B1 k1 d1) ∧ w'.cell? ⟨w2.heap.size, 2, none⟩ = some (.slice B2 k2 d2) ∧ w'.cell? ⟨w2.heap.size, 3, none⟩ = some (.slice B3 k3 d3) ∧ w'.cell? ⟨w1.heap.size, 0, none⟩ = some (.slice A0 n0 c0) ∧ w'.cell? ⟨w1.heap.size, 1, none⟩ = some (.slice A1 n1 c1) ∧ w'.cell? ⟨w1.heap.size, 2, none⟩ = some (.slice A2 n2 c2) ∧ w'.cell? ⟨w1.heap.size, 3, none⟩ = some (.slice A3 n3 c3))
        (((try dsimp only); (repeat' apply And.intro) <;> (with_reducible (first | exact cX_6_3 | exact cX_6_2 | exact cX_6_1 | exact cX_6_0 | exact cP_6_3 | exact cP_6_2 | exact cP_6_1 | exact cP_6_0 | exact cX_5_3 | exact cX_5_2 | exact cX_5_1 | exact cX_5_0 | exact cP_5_3 | exact cP_5_2 | exact cP_5_1 | exact cP_5_0 | exact cellD cX_4_3 | exact cellD cX_4_2 | exact cellD cX_4_1 | exact cellD cX_4_0 | exact cellD cP_4_3 | exact cellD cP_4_2 | exact cellD cP_4_1 | exact cellD cP_4_0 | exact cX_4_3 | exact cX_4_2 | exact cX_4_1 | exact cX_4_0 | exact cP_4_3 | exact cP_4_2 | exact cP_4_1 | exact cP_4_0))))
        (first
          | (go_at_call 19; (with_reducible refine (JX _ _ _ (HB_4.drew)).mono ?_); rintro e w5 ⟨rfl, hb5⟩; have BW5 : Below w.heap.size w w5 := (Below.drew BW4).trans (hb5.mono (Below.drew BW4).size); have zz5 : w4.heap.size ≤ w5.heap.size := hb5.size; have HA_5 := Cv.below (by exact (HA_4.drew)) hb5; have X_5 := Blk4.below (by exact (X_4.drew)) hb5; obtain ⟨cX_5_0, cX_5_1, cX_5_2, cX_5_3, _⟩ := X_5.cells; have lX_5 := X_5.lt; have HB_5 := Cv.below (by exact (HB_4.drew)) hb5; have P_5 := Blk4.below (by exact (P_4.drew)) hb5; obtain ⟨cP_5_0, cP_5_1, cP_5_2, cP_5_3, _⟩ := P_5.cells; have lP_5 := P_5.lt; have HC_5 := Cv.below (by exact (HC_4.drew)) hb5; have Q_5 := Blk4.below (by exact (Q_4.drew)) hb5; obtain ⟨cQ_5_0, cQ_5_1, cQ_5_2, cQ_5_3, _⟩ := Q_5.cells; have lQ_5 := Q_5.lt)
          | (go_at_call 19; (with_reducible refine (JC _ _ _ HA_5).mono ?_); rintro e w6 ⟨rfl, hb6⟩; have BW6 : Below w.heap.size w w6 := BW5.trans (hb6.mono BW5.size); have zz6 : w5.heap.size ≤ w6.heap.size := hb6.size; have HA_6 := Cv.below (by exact HA_5) hb6; have X_6 := Blk4.below (by exact X_5) hb6; obtain ⟨cX_6_0, cX_6_1, cX_6_2, cX_6_3, _⟩ := X_6.cells; have lX_6 := X_6.lt; have HB_6 := Cv.below (by exact HB_5) hb6; have P_6 := Blk4.below (by exact P_5) hb6; obtain ⟨cP_6_0, cP_6_1, cP_6_2, cP_6_3, _⟩ := P_6.cells; have lP_6 := P_6.lt; have HC_6 := Cv.below (by exact HC_5) hb6; have Q_6 := Blk4.below (by exact Q_5) hb6; obtain ⟨cQ_6_0, cQ_6_1, cQ_6_2, cQ_6_3, _⟩ := Q_6.cells; have lQ_6 := Q_6.lt))
      rename_i hHeld1
      clear hHeld1
      obtain ⟨rA, lA⟩ := (HA_6).last'
      obtain ⟨rB, lB⟩ := (HB_6).last'
      obtain ⟨gA, y', rfl, _, _, hy', hcA, _⟩ := rA.get (k := j) (by omega)
      obtain ⟨gB, z', rfl, _, _, hz', hcB, _⟩ := rB.get (k := j) (by omega)
      have ey := hy'.out
      rw [HY.out] at ey
      obtain rfl : y = y' := by simpa using ey
      have ez := hz'.out
      rw [HZ.out] at ez
      obtain rfl : y = z' := by simpa using ez
      have hjk : (j : Int) < (k3 : Int) := by omega
      clear ey ez hy' hz'
      go_wp2_with fail
      go_ret
      exact ⟨by simp, BW6⟩
end Go.Proofs.Ytmngkjcdaaladaa
