/- The law FnHeapSame, walked. -/
import Derived.Test.YtpimndfafibgeaaDHeapSame
import Derived.Test.YtpimndfafibgeaaFmt
import Derived.Test.YtpimndfafibgeaaSame
import Derived.Test.YtpimndfafibgeaaWLaw
namespace Go.Proofs.Ytpimndfafibgeaa
open Go.RowKit

theorem sameB_refl (a : Hp) : sameB a a = true := (sameB_iff a a).2 rfl
theorem sameB_comm (a b : Hp) : sameB b a = sameB a b := by
  unfold sameB
  simp only [eq_comm]
theorem implSameE (w : World) (lo lo' : Nat) (v v' : Value) (a b : Hp) (r : Bool) (e : sameB a b = r) (hv : Hv w lo v a) (hv' : Hv w lo' v' b) : Calls Try.prog 15 #[v, v'] w (RetB w r) := by
  rw [← e]; exact implHeapSame_any w lo lo' v v' a b hv hv'
theorem specSameE (w : World) (lo lo' : Nat) (v v' : Value) (a b : Hp) (r : Bool) (e : sameB a b = r) (hv : Hv w lo v a) (hv' : Hv w lo' v' b) : Calls Try.prog 19 #[v, v'] w (RetB w r) := by
  rw [← e]; exact specHeapSame_any w lo lo' v v' a b hv hv'

set_option maxRecDepth 100000 in
set_option maxHeartbeats 4000000 in
theorem lawHeapSame_walk (w : World) (A : Option Addr) (n c : Nat) (h : Inp w A n c) :
    Calls Try.prog 4 #[.slice A n c] w (LawTrue w) := by
  by_cases hbig : 1048576 < n
  · go_enter Try.func4, Try.ntmps4
    go_wp2_with fail
    go_ret
    exact ⟨rfl, Below.refl _ _⟩
  go_enter Try.func4, Try.ntmps4
  go_wp2_with fail
  refine (drawHeapSame_any _ _ _ _ h).mono ?_; rintro e w1 ⟨v, ha, v', hb, rfl, HA, HB, hb1⟩
  have BW1 : Below w.heap.size w w1 := (Below.refl w.heap.size w).trans (hb1.mono (Below.refl w.heap.size w).size)
  have zz1 := hb1.size
  have HAo := HA
  obtain ⟨A0, n0, c0, A1, n1, c1, A2, n2, c2, rfl, _⟩ := HAo.open_
  have HBo := HB
  obtain ⟨B0, k0, d0, B1, k1, d1, B2, k2, d2, rfl, _⟩ := HBo.open_
  have Ynew : Blk3 ((w1.alloc (.cells #[.slice A0 n0 c0, .slice A1 n1 c1, .slice A2 n2 c2] 25)).alloc (.cells #[.slice B0 k0 d0, .slice B1 k1 d1, .slice B2 k2 d2] 25)) (w1.heap.size + 1) (.slice B0 k0 d0) (.slice B1 k1 d1) (.slice B2 k2 d2) 25 := Blk3.new_at (by simp) _ _ _ _
  rcases hs : sameB ha hb
  · have E1 := implHeapSame_any _ _ _ _ _ _ _ ((HA.alloc (.cells #[.slice A0 n0 c0, .slice A1 n1 c1, .slice A2 n2 c2] 25)).alloc (.cells #[.slice B0 k0 d0, .slice B1 k1 d1, .slice B2 k2 d2] 25)) ((HB.alloc (.cells #[.slice A0 n0 c0, .slice A1 n1 c1, .slice A2 n2 c2] 25)).alloc (.cells #[.slice B0 k0 d0, .slice B1 k1 d1, .slice B2 k2 d2] 25))
    rw [hs] at E1
    go_wp2_with fail
    refine E1.mono ?_; rintro e w2 ⟨rfl, hb2⟩
    have BW2 : Below w.heap.size w w2 := ((BW1.alloc BW1.size (.cells #[.slice A0 n0 c0, .slice A1 n1 c1, .slice A2 n2 c2] 25)).alloc (BW1.alloc BW1.size (.cells #[.slice A0 n0 c0, .slice A1 n1 c1, .slice A2 n2 c2] 25)).size (.cells #[.slice B0 k0 d0, .slice B1 k1 d1, .slice B2 k2 d2] 25)).trans (hb2.mono ((BW1.alloc BW1.size (.cells #[.slice A0 n0 c0, .slice A1 n1 c1, .slice A2 n2 c2] 25)).alloc (BW1.alloc BW1.size (.cells #[.slice A0 n0 c0, .slice A1 n1 c1, .slice A2 n2 c2] 25)).size (.cells #[.slice B0 k0 d0, .slice B1 k1 d1, .slice B2 k2 d2] 25)).size)
    have zz2 := hb2.size
    have HA_2 := Hv.below (by exact ((HA.alloc (.cells #[.slice A0 n0 c0, .slice A1 n1 c1, .slice A2 n2 c2] 25)).alloc (.cells #[.slice B0 k0 d0, .slice B1 k1 d1, .slice B2 k2 d2] 25))) hb2
    have HB_2 := Hv.below (by exact ((HB.alloc (.cells #[.slice A0 n0 c0, .slice A1 n1 c1, .slice A2 n2 c2] 25)).alloc (.cells #[.slice B0 k0 d0, .slice B1 k1 d1, .slice B2 k2 d2] 25))) hb2
    have X_2 := Blk3.below (by exact ((Blk3.new w1 (.slice A0 n0 c0) (.slice A1 n1 c1) (.slice A2 n2 c2) 25).alloc (.cells #[.slice B0 k0 d0, .slice B1 k1 d1, .slice B2 k2 d2] 25))) hb2
    obtain ⟨cX_2_0, cX_2_1, cX_2_2, _⟩ := X_2.cells
    have lX_2 := X_2.lt
    have Y_2 := Blk3.below (by exact Ynew) hb2
    obtain ⟨cY_2_0, cY_2_1, cY_2_2, _⟩ := Y_2.cells
    have lY_2 := Y_2.lt
    go_wp2_with fail
    go_region_law (first
        | (go_simp; go_at_call 19; (with_reducible refine (specSameE _ _ _ _ _ _ _ false hs (HA_2.drew) (HB_2.drew)).mono ?_); rintro e w3 ⟨rfl, hb3⟩; have BW3 : Below w.heap.size w w3 := (Below.drew BW2).trans (hb3.mono (Below.drew BW2).size); have zz3 := hb3.size; have HA_3 := Hv.below (by exact (HA_2.drew)) hb3; have HB_3 := Hv.below (by exact (HB_2.drew)) hb3; have X_3 := Blk3.below (by exact (X_2.drew)) hb3; obtain ⟨cX_3_0, cX_3_1, cX_3_2, _⟩ := X_3.cells; have lX_3 := X_3.lt; have Y_3 := Blk3.below (by exact (Y_2.drew)) hb3; obtain ⟨cY_3_0, cY_3_1, cY_3_2, _⟩ := Y_3.cells; have lY_3 := Y_3.lt)
        | (go_simp; go_at_call 15; (with_reducible refine (implSameE _ _ _ _ _ _ _ false ((sameB_comm _ _).trans hs) HB_3 HA_3).mono ?_); rintro e w4 ⟨rfl, hb4⟩; have BW4 : Below w.heap.size w w4 := BW3.trans (hb4.mono BW3.size); have zz4 := hb4.size; have HA_4 := Hv.below (by exact HA_3) hb4; have HB_4 := Hv.below (by exact HB_3) hb4; have X_4 := Blk3.below (by exact X_3) hb4; obtain ⟨cX_4_0, cX_4_1, cX_4_2, _⟩ := X_4.cells; have lX_4 := X_4.lt; have Y_4 := Blk3.below (by exact Y_3) hb4; obtain ⟨cY_4_0, cY_4_1, cY_4_2, _⟩ := Y_4.cells; have lY_4 := Y_4.lt)
        | (go_simp; go_at_call 15; (with_reducible refine (implSameE _ _ _ _ _ _ _ true (sameB_refl _) HA_4 HA_4).mono ?_); rintro e w5 ⟨rfl, hb5⟩; have BW5 : Below w.heap.size w w5 := BW4.trans (hb5.mono BW4.size); have zz5 := hb5.size; have HA_5 := Hv.below (by exact HA_4) hb5; have HB_5 := Hv.below (by exact HB_4) hb5; have X_5 := Blk3.below (by exact X_4) hb5; obtain ⟨cX_5_0, cX_5_1, cX_5_2, _⟩ := X_5.cells; have lX_5 := X_5.lt; have Y_5 := Blk3.below (by exact Y_4) hb5; obtain ⟨cY_5_0, cY_5_1, cY_5_2, _⟩ := Y_5.cells; have lY_5 := Y_5.lt))
    all_goals go_wp2_with fail
    all_goals go_ret
    all_goals exact ⟨by first | rfl | simp, BW5⟩
  · obtain rfl := (sameB_iff _ _).1 hs
    have E1 := implHeapSame_any _ _ _ _ _ _ _ ((HA.alloc (.cells #[.slice A0 n0 c0, .slice A1 n1 c1, .slice A2 n2 c2] 25)).alloc (.cells #[.slice B0 k0 d0, .slice B1 k1 d1, .slice B2 k2 d2] 25)) ((HB.alloc (.cells #[.slice A0 n0 c0, .slice A1 n1 c1, .slice A2 n2 c2] 25)).alloc (.cells #[.slice B0 k0 d0, .slice B1 k1 d1, .slice B2 k2 d2] 25))
    rw [hs] at E1
    go_wp2_with fail
    refine E1.mono ?_; rintro e w2 ⟨rfl, hb2⟩
    have BW2 : Below w.heap.size w w2 := ((BW1.alloc BW1.size (.cells #[.slice A0 n0 c0, .slice A1 n1 c1, .slice A2 n2 c2] 25)).alloc (BW1.alloc BW1.size (.cells #[.slice A0 n0 c0, .slice A1 n1 c1, .slice A2 n2 c2] 25)).size (.cells #[.slice B0 k0 d0, .slice B1 k1 d1, .slice B2 k2 d2] 25)).trans (hb2.mono ((BW1.alloc BW1.size (.cells #[.slice A0 n0 c0, .slice A1 n1 c1, .slice A2 n2 c2] 25)).alloc (BW1.alloc BW1.size (.cells #[.slice A0 n0 c0, .slice A1 n1 c1, .slice A2 n2 c2] 25)).size (.cells #[.slice B0 k0 d0, .slice B1 k1 d1, .slice B2 k2 d2] 25)).size)
    have zz2 := hb2.size
    have HA_2 := Hv.below (by exact ((HA.alloc (.cells #[.slice A0 n0 c0, .slice A1 n1 c1, .slice A2 n2 c2] 25)).alloc (.cells #[.slice B0 k0 d0, .slice B1 k1 d1, .slice B2 k2 d2] 25))) hb2
    have HB_2 := Hv.below (by exact ((HB.alloc (.cells #[.slice A0 n0 c0, .slice A1 n1 c1, .slice A2 n2 c2] 25)).alloc (.cells #[.slice B0 k0 d0, .slice B1 k1 d1, .slice B2 k2 d2] 25))) hb2
    have X_2 := Blk3.below (by exact ((Blk3.new w1 (.slice A0 n0 c0) (.slice A1 n1 c1) (.slice A2 n2 c2) 25).alloc (.cells #[.slice B0 k0 d0, .slice B1 k1 d1, .slice B2 k2 d2] 25))) hb2
    obtain ⟨cX_2_0, cX_2_1, cX_2_2, _⟩ := X_2.cells
    have lX_2 := X_2.lt
    have Y_2 := Blk3.below (by exact Ynew) hb2
    obtain ⟨cY_2_0, cY_2_1, cY_2_2, _⟩ := Y_2.cells
    have lY_2 := Y_2.lt
    go_wp2_with fail
    go_region_held3 (fun w' => w'.cell? ⟨w1.heap.size, 0, none⟩ = some (.slice A0 n0 c0) ∧ w'.cell? ⟨w1.heap.size, 1, none⟩ = some (.slice A1 n1 c1) ∧ w'.cell? ⟨w1.heap.size, 2, none⟩ = some (.slice A2 n2 c2) ∧ w'.cell? ⟨w1.heap.size + 1, 0, none⟩ = some (.slice B0 k0 d0) ∧ w'.cell? ⟨w1.heap.size + 1, 1, none⟩ = some (.slice B1 k1 d1) ∧ w'.cell? ⟨w1.heap.size + 1, 2, none⟩ = some (.slice B2 k2 d2))
      (((try dsimp only); (repeat' apply And.intro) <;> (with_reducible (first | exact cY_7_2 | exact cY_7_1 | exact cY_7_0 | exact cX_7_2 | exact cX_7_1 | exact cX_7_0 | exact cY_6_2 | exact cY_6_1 | exact cY_6_0 | exact cX_6_2 | exact cX_6_1 | exact cX_6_0 | exact cY_5_2 | exact cY_5_1 | exact cY_5_0 | exact cX_5_2 | exact cX_5_1 | exact cX_5_0 | exact cY_4_2 | exact cY_4_1 | exact cY_4_0 | exact cX_4_2 | exact cX_4_1 | exact cX_4_0 | exact cY_3_2 | exact cY_3_1 | exact cY_3_0 | exact cX_3_2 | exact cX_3_1 | exact cX_3_0 | exact cellD cY_2_2 | exact cellD cY_2_1 | exact cellD cY_2_0 | exact cellD cX_2_2 | exact cellD cX_2_1 | exact cellD cX_2_0 | exact cY_2_2 | exact cY_2_1 | exact cY_2_0 | exact cX_2_2 | exact cX_2_1 | exact cX_2_0))))
      (first
        | (go_at_call 19; (with_reducible refine (specSameE _ _ _ _ _ _ _ true hs (HA_2.drew) (HB_2.drew)).mono ?_); rintro e w3 ⟨rfl, hb3⟩; have BW3 : Below w.heap.size w w3 := (Below.drew BW2).trans (hb3.mono (Below.drew BW2).size); have zz3 := hb3.size; have HA_3 := Hv.below (by exact (HA_2.drew)) hb3; have HB_3 := Hv.below (by exact (HB_2.drew)) hb3; have X_3 := Blk3.below (by exact (X_2.drew)) hb3; obtain ⟨cX_3_0, cX_3_1, cX_3_2, _⟩ := X_3.cells; have lX_3 := X_3.lt; have Y_3 := Blk3.below (by exact (Y_2.drew)) hb3; obtain ⟨cY_3_0, cY_3_1, cY_3_2, _⟩ := Y_3.cells; have lY_3 := Y_3.lt)
        | (go_at_call 15; (with_reducible refine (implSameE _ _ _ _ _ _ _ true hs HB_3 HA_3).mono ?_); rintro e w4 ⟨rfl, hb4⟩; have BW4 : Below w.heap.size w w4 := BW3.trans (hb4.mono BW3.size); have zz4 := hb4.size; have HA_4 := Hv.below (by exact HA_3) hb4; have HB_4 := Hv.below (by exact HB_3) hb4; have X_4 := Blk3.below (by exact X_3) hb4; obtain ⟨cX_4_0, cX_4_1, cX_4_2, _⟩ := X_4.cells; have lX_4 := X_4.lt; have Y_4 := Blk3.below (by exact Y_3) hb4; obtain ⟨cY_4_0, cY_4_1, cY_4_2, _⟩ := Y_4.cells; have lY_4 := Y_4.lt)
        | (go_at_call 15; (with_reducible refine (implSameE _ _ _ _ _ _ _ true (sameB_refl _) HA_4 HA_4).mono ?_); rintro e w5 ⟨rfl, hb5⟩; have BW5 : Below w.heap.size w w5 := BW4.trans (hb5.mono BW4.size); have zz5 := hb5.size; have HA_5 := Hv.below (by exact HA_4) hb5; have HB_5 := Hv.below (by exact HB_4) hb5; have X_5 := Blk3.below (by exact X_4) hb5; obtain ⟨cX_5_0, cX_5_1, cX_5_2, _⟩ := X_5.cells; have lX_5 := X_5.lt; have Y_5 := Blk3.below (by exact Y_4) hb5; obtain ⟨cY_5_0, cY_5_1, cY_5_2, _⟩ := Y_5.cells; have lY_5 := Y_5.lt)
        | (go_at_call 10; (with_reducible refine (implFmt_any _ _ _ _ HA_5).mono ?_); rintro e w6 ⟨rfl, hb6⟩; have BW6 : Below w.heap.size w w6 := BW5.trans (hb6.mono BW5.size); have zz6 := hb6.size; have HA_6 := Hv.below (by exact HA_5) hb6; have HB_6 := Hv.below (by exact HB_5) hb6; have X_6 := Blk3.below (by exact X_5) hb6; obtain ⟨cX_6_0, cX_6_1, cX_6_2, _⟩ := X_6.cells; have lX_6 := X_6.lt; have Y_6 := Blk3.below (by exact Y_5) hb6; obtain ⟨cY_6_0, cY_6_1, cY_6_2, _⟩ := Y_6.cells; have lY_6 := Y_6.lt)
        | (go_at_call 10; (with_reducible refine (implFmt_any _ _ _ _ HB_6).mono ?_); rintro e w7 ⟨rfl, hb7⟩; have BW7 : Below w.heap.size w w7 := BW6.trans (hb7.mono BW6.size); have zz7 := hb7.size; have HA_7 := Hv.below (by exact HA_6) hb7; have HB_7 := Hv.below (by exact HB_6) hb7; have X_7 := Blk3.below (by exact X_6) hb7; obtain ⟨cX_7_0, cX_7_1, cX_7_2, _⟩ := X_7.cells; have lX_7 := X_7.lt; have Y_7 := Blk3.below (by exact Y_6) hb7; obtain ⟨cY_7_0, cY_7_1, cY_7_2, _⟩ := Y_7.cells; have lY_7 := Y_7.lt))
    rename_i hHeld1
    clear hHeld1
    go_wp2_with fail
    go_ret
    exact ⟨by simp, BW7⟩
end Go.Proofs.Ytpimndfafibgeaa
