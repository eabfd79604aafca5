/- The law FnMoveLive, walked. -/
import Derived.Test.YtgooohapdjgmpaaDMove
import Derived.Test.YtgooohapdjgmpaaMvI
import Derived.Test.YtgooohapdjgmpaaMoveT
import Derived.Test.YtgooohapdjgmpaaOrdS
import Derived.Test.YtgooohapdjgmpaaCc
import Derived.Test.YtgooohapdjgmpaaCyc
import Derived.Test.YtgooohapdjgmpaaLives
import Derived.Test.YtgooohapdjgmpaaLaws0
namespace Go.Proofs.Ytgooohapdjgmpaa
open Go.RowKit

theorem row_maxO {w : World} {lo n c : Nat} {A : Option Addr} {xs : List Int} (h : Row w lo (.slice A n c) xs) : xs.length ≤ 9223372036854775807 := by
  obtain ⟨A', c', _, h1, h2⟩ := h.form
  unfold maxLen at h2; omega
theorem ccInts_sameO (w : World) (lo lo' : Nat) (A A' : Option Addr) (c c' : Nat) (xs : List Int) (h : Row w lo (.slice A xs.length c) xs) (h' : Row w lo' (.slice A' xs.length c') xs) :
    Calls Try.prog 16 #[.slice A xs.length c, .slice A' xs.length c'] w (RetB w true) :=
  (ccInts_any w lo lo' A A' xs.length c xs.length c' xs xs h rfl (row_maxO h) h' rfl (row_maxO h')).mono fun _ _ ⟨he, nq, hw⟩ => ⟨by rw [he]; simp, by rw [hw]; exact below_drewN (Below.refl _ _) _⟩
theorem moveO_someM {h hx : Hp} {tz : List Int} (e : moveO h tz = some hx) : hvB h = true ∧ Perm h.l.length tz ∧ hx = moveH h tz := by
  unfold moveO at e
  split at e
  · rename_i hc
    exact ⟨hc.1, Perm.of hc.2.1 hc.2.2, by simpa using e.symm⟩
  · cases e
theorem RowB.cellAtM {w : World} {lo g n c : Nat} {xs : List Bool} {k : Nat} {x : Bool} (h : RowB w lo (.slice (some ⟨g, 0, none⟩) n c) xs) (hx : xs[k]? = some x) : w.cell? ⟨g, k, none⟩ = some (.bool x) := by
  obtain ⟨g', y, e, _, _, hy, hc, _⟩ := h.get (k := k) ((List.getElem?_eq_some_iff.1 hx).1)
  obtain rfl : g = g' := by simpa using e
  have := hy.out; rw [hx] at this
  simp at this; rw [this]; exact hc
theorem Row.cellAtM {w : World} {lo g n c : Nat} {xs : List Int} {k : Nat} {x : Int} (h : Row w lo (.slice (some ⟨g, 0, none⟩) n c) xs) (hx : xs[k]? = some x) : w.cell? ⟨g, k, none⟩ = some (.int .i64 x) := by
  obtain ⟨g', y, e, _, _, hy, hc, _⟩ := h.get (k := k) ((List.getElem?_eq_some_iff.1 hx).1)
  obtain rfl : g = g' := by simpa using e
  have := hy.out; rw [hx] at this
  rw [hc]; simp at this; rw [this]
theorem moved_live {h : Hp} {tz : List Int} (hv : hvB h = true) (P : Perm h.l.length tz) {k : Nat} {y : Int} (hy : tz[k]? = some y) (hk : k < h.l.length) : ∃ j : Nat, y = j ∧ j < h.l.length ∧ (liveL (moveH h tz))[j]? = (liveL h)[k]? ∧ cycB (moveH h tz) (j : Int) = cycB h (k : Int) := by
  obtain ⟨j, e1, hj, e2, _⟩ := P.get hk
  rw [hy] at e2
  refine ⟨j, by simpa using e2, hj, move_live hv P hk e1, ?_⟩
  rw [← e1]; exact move_cyc hv P hk
set_option maxRecDepth 100000 in
set_option maxHeartbeats 4000000 in
theorem lawMoveLive_walk (w : World) (A : Option Addr) (n c : Nat) (h : Inp w A n c) :
    Calls Try.prog 11 #[.slice A n c] w (LawTrue w) := by
  by_cases hbig : 1048576 < n
  · go_enter Try.func11, Try.ntmps11
    go_wp2_with fail
    go_ret
    exact ⟨rfl, Below.refl _ _⟩
  go_enter Try.func11, Try.ntmps11
  go_wp2_with fail
  refine (drawMoveCells_any _ _ _ _ h).mono ?_; rintro e w1 ⟨v, hp, AT, nt, ct, tz, rfl, HA, hlt, ht8, RT, hb1⟩
  have BW1 : Below w.heap.size w w1 := (Below.refl w.heap.size w).trans (hb1.mono (Below.refl w.heap.size w).size)
  have zz1 := hb1.size
  have C := fun W lo lo' v (hW : Hv W lo v hp) A c (hr : Row W lo' (.slice A nt c) tz) => implMove_any W lo lo' v hp hW A nt c tz hr hlt (by omega)
  have D := fun W lo lo' v (hW : Hv W lo v hp) A c (hr : Row W lo' (.slice A nt c) tz) => specMove_any W lo lo' v hp hW A nt c tz hr hlt (by omega)
  have HAo := HA
  obtain ⟨A0, n0, c0, A1, n1, c1, A2, n2, c2, rfl, ⟨r0, r1, r2⟩, ⟨l0, l1, l2⟩, _⟩ := HAo.open_
  rcases em : moveO hp tz with _ | hx
  · rw [em] at C D
    unfold OptHv at C D
    simp only [Option.isSome_none, Option.getD_none] at C D
    clear em r0 r1 r2
    have HS0 := fun W lo lo' v v' h1 h2 => implHeapSame_any W lo lo' v v' Hp.zero Hp.zero h1 h2
    have hss : sameB Hp.zero Hp.zero = true := (sameB_iff _ _).2 rfl
    rw [hss] at HS0
    clear hss
    go_wp2_with fail
    refine (C _ _ _ _ (HA.alloc (.cells #[.slice A0 n0 c0, .slice A1 n1 c1, .slice A2 n2 c2] 25)) _ _ (RT.alloc (.cells #[.slice A0 n0 c0, .slice A1 n1 c1, .slice A2 n2 c2] 25))).mono ?_; rintro e w2 ⟨vC, rfl, HC, hb2⟩
    have BW2 : Below w.heap.size w w2 := (BW1.alloc BW1.size (.cells #[.slice A0 n0 c0, .slice A1 n1 c1, .slice A2 n2 c2] 25)).trans (hb2.mono (BW1.alloc BW1.size (.cells #[.slice A0 n0 c0, .slice A1 n1 c1, .slice A2 n2 c2] 25)).size)
    have zz2 := hb2.size
    have HA_2 := Hv.below (by exact (HA.alloc (.cells #[.slice A0 n0 c0, .slice A1 n1 c1, .slice A2 n2 c2] 25))) hb2
    have RT_2 := Row.below (by exact (RT.alloc (.cells #[.slice A0 n0 c0, .slice A1 n1 c1, .slice A2 n2 c2] 25))) hb2
    have X_2 := Blk3.below (by exact (Blk3.new w1 (.slice A0 n0 c0) (.slice A1 n1 c1) (.slice A2 n2 c2) 25)) hb2
    obtain ⟨cX_2_0, cX_2_1, cX_2_2, _⟩ := X_2.cells
    have lX_2 := X_2.lt
    obtain ⟨cA0, cn0, ck0, cA1, cn1, ck1, cA2, cn2, ck2, rfl, _⟩ := Hv.open_ HC
    go_wp2_with fail
    refine (D _ _ _ _ (HA_2.alloc (.cells #[.slice cA0 cn0 ck0, .slice cA1 cn1 ck1, .slice cA2 cn2 ck2] 25)) _ _ (RT_2.alloc (.cells #[.slice cA0 cn0 ck0, .slice cA1 cn1 ck1, .slice cA2 cn2 ck2] 25))).mono ?_; rintro e w3 ⟨vD, rfl, HD, hb3⟩
    have BW3 : Below w.heap.size w w3 := (BW2.alloc BW2.size (.cells #[.slice cA0 cn0 ck0, .slice cA1 cn1 ck1, .slice cA2 cn2 ck2] 25)).trans (hb3.mono (BW2.alloc BW2.size (.cells #[.slice cA0 cn0 ck0, .slice cA1 cn1 ck1, .slice cA2 cn2 ck2] 25)).size)
    have zz3 := hb3.size
    have HA_3 := Hv.below (by exact (HA_2.alloc (.cells #[.slice cA0 cn0 ck0, .slice cA1 cn1 ck1, .slice cA2 cn2 ck2] 25))) hb3
    have RT_3 := Row.below (by exact (RT_2.alloc (.cells #[.slice cA0 cn0 ck0, .slice cA1 cn1 ck1, .slice cA2 cn2 ck2] 25))) hb3
    have X_3 := Blk3.below (by exact (X_2.alloc (.cells #[.slice cA0 cn0 ck0, .slice cA1 cn1 ck1, .slice cA2 cn2 ck2] 25))) hb3
    obtain ⟨cX_3_0, cX_3_1, cX_3_2, _⟩ := X_3.cells
    have lX_3 := X_3.lt
    have HC_3 := Hv.below (by exact (HC.alloc (.cells #[.slice cA0 cn0 ck0, .slice cA1 cn1 ck1, .slice cA2 cn2 ck2] 25))) hb3
    have XC_3 := Blk3.below (by exact (Blk3.new w2 (.slice cA0 cn0 ck0) (.slice cA1 cn1 ck1) (.slice cA2 cn2 ck2) 25)) hb3
    obtain ⟨cXC_3_0, cXC_3_1, cXC_3_2, _⟩ := XC_3.cells
    have lXC_3 := XC_3.lt
    obtain ⟨dA0, dn0, dk0, dA1, dn1, dk1, dA2, dn2, dk2, rfl, _⟩ := Hv.open_ HD
    go_wp2_with fail
    refine (HS0 _ _ _ _ _ (HC_3.alloc (.cells #[.slice dA0 dn0 dk0, .slice dA1 dn1 dk1, .slice dA2 dn2 dk2] 25)) (HD.alloc (.cells #[.slice dA0 dn0 dk0, .slice dA1 dn1 dk1, .slice dA2 dn2 dk2] 25))).mono ?_; rintro e w4 ⟨rfl, hb4⟩
    have BW4 : Below w.heap.size w w4 := (BW3.alloc BW3.size (.cells #[.slice dA0 dn0 dk0, .slice dA1 dn1 dk1, .slice dA2 dn2 dk2] 25)).trans (hb4.mono (BW3.alloc BW3.size (.cells #[.slice dA0 dn0 dk0, .slice dA1 dn1 dk1, .slice dA2 dn2 dk2] 25)).size)
    have zz4 := hb4.size
    have HA_4 := Hv.below (by exact (HA_3.alloc (.cells #[.slice dA0 dn0 dk0, .slice dA1 dn1 dk1, .slice dA2 dn2 dk2] 25))) hb4
    have RT_4 := Row.below (by exact (RT_3.alloc (.cells #[.slice dA0 dn0 dk0, .slice dA1 dn1 dk1, .slice dA2 dn2 dk2] 25))) hb4
    have X_4 := Blk3.below (by exact (X_3.alloc (.cells #[.slice dA0 dn0 dk0, .slice dA1 dn1 dk1, .slice dA2 dn2 dk2] 25))) hb4
    obtain ⟨cX_4_0, cX_4_1, cX_4_2, _⟩ := X_4.cells
    have lX_4 := X_4.lt
    have HC_4 := Hv.below (by exact (HC_3.alloc (.cells #[.slice dA0 dn0 dk0, .slice dA1 dn1 dk1, .slice dA2 dn2 dk2] 25))) hb4
    have XC_4 := Blk3.below (by exact (XC_3.alloc (.cells #[.slice dA0 dn0 dk0, .slice dA1 dn1 dk1, .slice dA2 dn2 dk2] 25))) hb4
    obtain ⟨cXC_4_0, cXC_4_1, cXC_4_2, _⟩ := XC_4.cells
    have lXC_4 := XC_4.lt
    have HD_4 := Hv.below (by exact (HD.alloc (.cells #[.slice dA0 dn0 dk0, .slice dA1 dn1 dk1, .slice dA2 dn2 dk2] 25))) hb4
    have XD_4 := Blk3.below (by exact (Blk3.new w3 (.slice dA0 dn0 dk0) (.slice dA1 dn1 dk1) (.slice dA2 dn2 dk2) 25)) hb4
    obtain ⟨cXD_4_0, cXD_4_1, cXD_4_2, _⟩ := XD_4.cells
    have lXD_4 := XD_4.lt
    go_wp2_with fail
    refine (HS0 _ _ _ _ _ HC_4 HD_4).mono ?_; rintro e w5 ⟨rfl, hb5⟩
    have BW5 : Below w.heap.size w w5 := BW4.trans (hb5.mono BW4.size)
    have zz5 := hb5.size
    have HA_5 := Hv.below (by exact HA_4) hb5
    have RT_5 := Row.below (by exact RT_4) hb5
    have X_5 := Blk3.below (by exact X_4) hb5
    obtain ⟨cX_5_0, cX_5_1, cX_5_2, _⟩ := X_5.cells
    have lX_5 := X_5.lt
    have HC_5 := Hv.below (by exact HC_4) hb5
    have XC_5 := Blk3.below (by exact XC_4) hb5
    obtain ⟨cXC_5_0, cXC_5_1, cXC_5_2, _⟩ := XC_5.cells
    have lXC_5 := XC_5.lt
    have HD_5 := Hv.below (by exact HD_4) hb5
    have XD_5 := Blk3.below (by exact XD_4) hb5
    obtain ⟨cXD_5_0, cXD_5_1, cXD_5_2, _⟩ := XD_5.cells
    have lXD_5 := XD_5.lt
    go_wp2_with fail
    go_ret
    exact ⟨rfl, BW5⟩
  · rw [em] at C D
    unfold OptHv at C D
    simp only [Option.isSome_some, Option.getD_some] at C D
    obtain ⟨ev, P, rfl⟩ := moveO_someM em
    have RA := fun W lo v (hW : Hv W lo v hp) => implReach_any W lo v hp hW
    have RB := fun W lo v (hW : Hv W lo v (moveH hp tz)) => implReach_any W lo v (moveH hp tz) hW
    have CYA := fun W lo v (hW : Hv W lo v hp) c => implCyc_any W lo v hp hW c
    have CYB := fun W lo v (hW : Hv W lo v (moveH hp tz)) c => implCyc_any W lo v (moveH hp tz) hW c
    have F0 := fun k y (hy : tz[k]? = some y) hk => moved_live ev P hy hk
    have h8 := hvB_len ev
    have htl : hp.l.length = nt := by rw [← P.len]; exact hlt.out
    have al0 := liveL_len ev
    have bl0 := liveL_len (move_valid ev P)
    rw [move_len P] at bl0
    rw [htl] at F0 h8 al0 bl0
    have HAL := Lib.hid al0
    have HBL := Lib.hid bl0
    have HTL := hlt
    have HF := Lib.hid F0
    clear F0 al0 bl0 h8 htl P ev
    generalize liveL hp = ys at RA HAL HF
    generalize liveL (moveH hp tz) = zs at RB HBL HF
    generalize cycB hp = fa at CYA HF
    generalize cycB (moveH hp tz) = fb at CYB HF
    generalize moveH hp tz = cx at C D RB CYB
    clear em r0 r1 r2
    have HS0 := fun W lo lo' v v' h1 h2 => implHeapSame_any W lo lo' v v' cx cx h1 h2
    have hss : sameB cx cx = true := (sameB_iff _ _).2 rfl
    rw [hss] at HS0
    clear hss
    go_wp2_with fail
    refine (C _ _ _ _ (HA.alloc (.cells #[.slice A0 n0 c0, .slice A1 n1 c1, .slice A2 n2 c2] 25)) _ _ (RT.alloc (.cells #[.slice A0 n0 c0, .slice A1 n1 c1, .slice A2 n2 c2] 25))).mono ?_; rintro e w2 ⟨vC, rfl, HC, hb2⟩
    have BW2 : Below w.heap.size w w2 := (BW1.alloc BW1.size (.cells #[.slice A0 n0 c0, .slice A1 n1 c1, .slice A2 n2 c2] 25)).trans (hb2.mono (BW1.alloc BW1.size (.cells #[.slice A0 n0 c0, .slice A1 n1 c1, .slice A2 n2 c2] 25)).size)
    have zz2 := hb2.size
    have HA_2 := Hv.below (by exact (HA.alloc (.cells #[.slice A0 n0 c0, .slice A1 n1 c1, .slice A2 n2 c2] 25))) hb2
    have RT_2 := Row.below (by exact (RT.alloc (.cells #[.slice A0 n0 c0, .slice A1 n1 c1, .slice A2 n2 c2] 25))) hb2
    have X_2 := Blk3.below (by exact (Blk3.new w1 (.slice A0 n0 c0) (.slice A1 n1 c1) (.slice A2 n2 c2) 25)) hb2
    obtain ⟨cX_2_0, cX_2_1, cX_2_2, _⟩ := X_2.cells
    have lX_2 := X_2.lt
    obtain ⟨cA0, cn0, ck0, cA1, cn1, ck1, cA2, cn2, ck2, rfl, _⟩ := Hv.open_ HC
    go_wp2_with fail
    refine (D _ _ _ _ (HA_2.alloc (.cells #[.slice cA0 cn0 ck0, .slice cA1 cn1 ck1, .slice cA2 cn2 ck2] 25)) _ _ (RT_2.alloc (.cells #[.slice cA0 cn0 ck0, .slice cA1 cn1 ck1, .slice cA2 cn2 ck2] 25))).mono ?_; rintro e w3 ⟨vD, rfl, HD, hb3⟩
    have BW3 : Below w.heap.size w w3 := (BW2.alloc BW2.size (.cells #[.slice cA0 cn0 ck0, .slice cA1 cn1 ck1, .slice cA2 cn2 ck2] 25)).trans (hb3.mono (BW2.alloc BW2.size (.cells #[.slice cA0 cn0 ck0, .slice cA1 cn1 ck1, .slice cA2 cn2 ck2] 25)).size)
    have zz3 := hb3.size
    have HA_3 := Hv.below (by exact (HA_2.alloc (.cells #[.slice cA0 cn0 ck0, .slice cA1 cn1 ck1, .slice cA2 cn2 ck2] 25))) hb3
    have RT_3 := Row.below (by exact (RT_2.alloc (.cells #[.slice cA0 cn0 ck0, .slice cA1 cn1 ck1, .slice cA2 cn2 ck2] 25))) hb3
    have X_3 := Blk3.below (by exact (X_2.alloc (.cells #[.slice cA0 cn0 ck0, .slice cA1 cn1 ck1, .slice cA2 cn2 ck2] 25))) hb3
    obtain ⟨cX_3_0, cX_3_1, cX_3_2, _⟩ := X_3.cells
    have lX_3 := X_3.lt
    have HC_3 := Hv.below (by exact (HC.alloc (.cells #[.slice cA0 cn0 ck0, .slice cA1 cn1 ck1, .slice cA2 cn2 ck2] 25))) hb3
    have XC_3 := Blk3.below (by exact (Blk3.new w2 (.slice cA0 cn0 ck0) (.slice cA1 cn1 ck1) (.slice cA2 cn2 ck2) 25)) hb3
    obtain ⟨cXC_3_0, cXC_3_1, cXC_3_2, _⟩ := XC_3.cells
    have lXC_3 := XC_3.lt
    obtain ⟨dA0, dn0, dk0, dA1, dn1, dk1, dA2, dn2, dk2, rfl, _⟩ := Hv.open_ HD
    go_wp2_with fail
    refine (HS0 _ _ _ _ _ (HC_3.alloc (.cells #[.slice dA0 dn0 dk0, .slice dA1 dn1 dk1, .slice dA2 dn2 dk2] 25)) (HD.alloc (.cells #[.slice dA0 dn0 dk0, .slice dA1 dn1 dk1, .slice dA2 dn2 dk2] 25))).mono ?_; rintro e w4 ⟨rfl, hb4⟩
    have BW4 : Below w.heap.size w w4 := (BW3.alloc BW3.size (.cells #[.slice dA0 dn0 dk0, .slice dA1 dn1 dk1, .slice dA2 dn2 dk2] 25)).trans (hb4.mono (BW3.alloc BW3.size (.cells #[.slice dA0 dn0 dk0, .slice dA1 dn1 dk1, .slice dA2 dn2 dk2] 25)).size)
    have zz4 := hb4.size
    have HA_4 := Hv.below (by exact (HA_3.alloc (.cells #[.slice dA0 dn0 dk0, .slice dA1 dn1 dk1, .slice dA2 dn2 dk2] 25))) hb4
    have RT_4 := Row.below (by exact (RT_3.alloc (.cells #[.slice dA0 dn0 dk0, .slice dA1 dn1 dk1, .slice dA2 dn2 dk2] 25))) hb4
    have X_4 := Blk3.below (by exact (X_3.alloc (.cells #[.slice dA0 dn0 dk0, .slice dA1 dn1 dk1, .slice dA2 dn2 dk2] 25))) hb4
    obtain ⟨cX_4_0, cX_4_1, cX_4_2, _⟩ := X_4.cells
    have lX_4 := X_4.lt
    have HC_4 := Hv.below (by exact (HC_3.alloc (.cells #[.slice dA0 dn0 dk0, .slice dA1 dn1 dk1, .slice dA2 dn2 dk2] 25))) hb4
    have XC_4 := Blk3.below (by exact (XC_3.alloc (.cells #[.slice dA0 dn0 dk0, .slice dA1 dn1 dk1, .slice dA2 dn2 dk2] 25))) hb4
    obtain ⟨cXC_4_0, cXC_4_1, cXC_4_2, _⟩ := XC_4.cells
    have lXC_4 := XC_4.lt
    have HD_4 := Hv.below (by exact (HD.alloc (.cells #[.slice dA0 dn0 dk0, .slice dA1 dn1 dk1, .slice dA2 dn2 dk2] 25))) hb4
    have XD_4 := Blk3.below (by exact (Blk3.new w3 (.slice dA0 dn0 dk0) (.slice dA1 dn1 dk1) (.slice dA2 dn2 dk2) 25)) hb4
    obtain ⟨cXD_4_0, cXD_4_1, cXD_4_2, _⟩ := XD_4.cells
    have lXD_4 := XD_4.lt
    go_wp2_with fail
    refine (RA _ _ _ HA_4).mono ?_; rintro e w5 ⟨A5, k5, rfl, R5, hb5⟩
    have BW5 : Below w.heap.size w w5 := BW4.trans (hb5.mono BW4.size)
    have zz5 := hb5.size
    have HA_5 := Hv.below (by exact HA_4) hb5
    have RT_5 := Row.below (by exact RT_4) hb5
    have X_5 := Blk3.below (by exact X_4) hb5
    obtain ⟨cX_5_0, cX_5_1, cX_5_2, _⟩ := X_5.cells
    have lX_5 := X_5.lt
    have HC_5 := Hv.below (by exact HC_4) hb5
    have XC_5 := Blk3.below (by exact XC_4) hb5
    obtain ⟨cXC_5_0, cXC_5_1, cXC_5_2, _⟩ := XC_5.cells
    have lXC_5 := XC_5.lt
    rw [HAL.out] at R5 ⊢
    go_wp2_with fail
    refine (RB _ _ _ HC_5).mono ?_; rintro e w6 ⟨A6, k6, rfl, R6, hb6⟩
    have BW6 : Below w.heap.size w w6 := BW5.trans (hb6.mono BW5.size)
    have zz6 := hb6.size
    have HA_6 := Hv.below (by exact HA_5) hb6
    have RT_6 := Row.below (by exact RT_5) hb6
    have X_6 := Blk3.below (by exact X_5) hb6
    obtain ⟨cX_6_0, cX_6_1, cX_6_2, _⟩ := X_6.cells
    have lX_6 := X_6.lt
    have HC_6 := Hv.below (by exact HC_5) hb6
    have XC_6 := Blk3.below (by exact XC_5) hb6
    obtain ⟨cXC_6_0, cXC_6_1, cXC_6_2, _⟩ := XC_6.cells
    have lXC_6 := XC_6.lt
    have R5_6 := RowB.below (by exact R5) hb6
    rw [HBL.out] at R6 ⊢
    go_wp2_with fail
    go_loopw [11] (fun i wr => ∃ k : Nat, k ≤ nt ∧ i = .int .i64 k ∧ Below w6.heap.size w6 wr) (fun i _ => nt - (intOf i).toNat)
    case atStart => exact ⟨0, Nat.zero_le _, rfl, Below.refl _ _⟩
    case round =>
      obtain ⟨k, hk, rfl, hbr⟩ := hrel
      have BR := BW6.trans (hbr.mono BW6.size)
      by_cases hlt : k < nt
      · obtain ⟨g1x, b, e1, _, hg1, hx, _, _⟩ := RowB.get R5_6 (k := k) (by rw [HAL.out]; exact hlt)
        cases e1
        obtain ⟨g3x, y, e3, _, hg3, hz, _, _⟩ := Row.get RT_6 (k := k) (by rw [HTL.out]; exact hlt)
        cases e3
        obtain ⟨j, rfl, hj, hjy, hcy⟩ := HF.out k y hz.out hlt
        obtain ⟨g2x, b2, e2, _, hg2, hy, _, _⟩ := RowB.get R6 (k := j) (by rw [HBL.out]; exact hj)
        cases e2
        obtain rfl : b = b2 := by have h9 := hy.out; rw [hjy, hx.out] at h9; simpa using h9
        have c1w6 := RowB.cellAtM R5_6 hx.out
        have c2w6 := RowB.cellAtM R6 hy.out
        have c3w6 := Row.cellAtM RT_6 hz.out
        have c1wr := (hbr.cell (p := ⟨g1x, k, none⟩) hg1).trans c1w6
        have c2wr := (hbr.cell (p := ⟨g2x, j, none⟩) hg2).trans c2w6
        have c3wr := (hbr.cell (p := ⟨g3x, k, none⟩) hg3).trans c3w6
        have lc1wr : g1x < wr.heap.size := Nat.lt_of_lt_of_le hg1 hbr.size
        have lc2wr : g2x < wr.heap.size := Nat.lt_of_lt_of_le hg2 hbr.size
        have lc3wr : g3x < wr.heap.size := Nat.lt_of_lt_of_le hg3 hbr.size
        have HAQwr := Hv.below (by exact HA_6) hbr
        have HCQwr := Hv.below (by exact HC_6) hbr
        have XQwr := Blk3.below (by exact X_6) hbr
        have XCQwr := Blk3.below (by exact XC_6) hbr
        obtain ⟨xwr0, xwr1, xwr2, _⟩ := XQwr.cells
        obtain ⟨ywr0, ywr1, ywr2, _⟩ := XCQwr.cells
        have CA := fun W lo v hW => CYA W lo v hW (k : Int)
        have CB := fun W lo v hW => CYB W lo v hW (j : Int)
        rw [hcy] at CB
        generalize hcq : fa (k : Int) = cy at CA CB
        have hbb : (b != b) = false := by simp
        have hcc : (cy != cy) = false := by simp
        clear hx hy hz hjy hcy hcq c1w6 c2w6 c3w6
        go_wp2_with fail
        go_region_held3 (fun w' => w'.cell? ⟨w1.heap.size, 0, none⟩ = some (.slice A0 n0 c0) ∧ w'.cell? ⟨w1.heap.size, 1, none⟩ = some (.slice A1 n1 c1) ∧ w'.cell? ⟨w1.heap.size, 2, none⟩ = some (.slice A2 n2 c2) ∧ w'.cell? ⟨w2.heap.size, 0, none⟩ = some (.slice cA0 cn0 ck0) ∧ w'.cell? ⟨w2.heap.size, 1, none⟩ = some (.slice cA1 cn1 ck1) ∧ w'.cell? ⟨w2.heap.size, 2, none⟩ = some (.slice cA2 cn2 ck2) ∧ w'.cell? ⟨g1x, k, none⟩ = some (.bool b) ∧ w'.cell? ⟨g2x, j, none⟩ = some (.bool b) ∧ w'.cell? ⟨g3x, k, none⟩ = some (.int .i64 j))
          (((try dsimp only); (repeat' apply And.intro) <;> (with_reducible (first | exact xw100 | exact xw101 | exact xw102 | exact yw100 | exact yw101 | exact yw102 | exact c1w10 | exact c2w10 | exact c3w10 | exact xw90 | exact xw91 | exact xw92 | exact yw90 | exact yw91 | exact yw92 | exact c1w9 | exact c2w9 | exact c3w9 | exact xwr0 | exact cellD xwr0 | exact xwr1 | exact cellD xwr1 | exact xwr2 | exact cellD xwr2 | exact ywr0 | exact cellD ywr0 | exact ywr1 | exact cellD ywr1 | exact ywr2 | exact cellD ywr2 | exact c1wr | exact cellD c1wr | exact c2wr | exact cellD c2wr | exact c3wr | exact cellD c3wr))))
          (first
            | (go_at_call 31; (with_reducible refine (CA _ _ _ (Hv.drew HAQwr)).mono ?_); rintro e w9 ⟨rfl, hbw9⟩; (have hbw9' : Below wr.heap.size wr w9 := (Below.refl _ _).drew.trans hbw9); (have XQw9 := Blk3.below (by exact XQwr) hbw9'); obtain ⟨xw90, xw91, xw92, _⟩ := XQw9.cells; (have XCQw9 := Blk3.below (by exact XCQwr) hbw9'); obtain ⟨yw90, yw91, yw92, _⟩ := XCQw9.cells; (have HCQw9 := Hv.below (by exact HCQwr) hbw9'); (have c1w9 : w9.cell? ⟨g1x, k, none⟩ = some (.bool b) := (hbw9'.cell (p := ⟨g1x, k, none⟩) lc1wr).trans (by exact c1wr)); (have lc1w9 : g1x < w9.heap.size := Nat.lt_of_lt_of_le lc1wr hbw9'.size); (have c2w9 : w9.cell? ⟨g2x, j, none⟩ = some (.bool b) := (hbw9'.cell (p := ⟨g2x, j, none⟩) lc2wr).trans (by exact c2wr)); (have lc2w9 : g2x < w9.heap.size := Nat.lt_of_lt_of_le lc2wr hbw9'.size); (have c3w9 : w9.cell? ⟨g3x, k, none⟩ = some (.int .i64 j) := (hbw9'.cell (p := ⟨g3x, k, none⟩) lc3wr).trans (by exact c3wr)); (have lc3w9 : g3x < w9.heap.size := Nat.lt_of_lt_of_le lc3wr hbw9'.size))
            | (go_at_call 31; (with_reducible refine (CB _ _ _ HCQw9).mono ?_); rintro e w10 ⟨rfl, hbw10⟩; (have hbw10' : Below w9.heap.size w9 w10 := hbw10); (have XQw10 := Blk3.below (by exact XQw9) hbw10'); obtain ⟨xw100, xw101, xw102, _⟩ := XQw10.cells; (have XCQw10 := Blk3.below (by exact XCQw9) hbw10'); obtain ⟨yw100, yw101, yw102, _⟩ := XCQw10.cells; (have HCQw10 := Hv.below (by exact HCQw9) hbw10'); (have c1w10 : w10.cell? ⟨g1x, k, none⟩ = some (.bool b) := (hbw10'.cell (p := ⟨g1x, k, none⟩) lc1w9).trans (by exact c1w9)); (have lc1w10 : g1x < w10.heap.size := Nat.lt_of_lt_of_le lc1w9 hbw10'.size); (have c2w10 : w10.cell? ⟨g2x, j, none⟩ = some (.bool b) := (hbw10'.cell (p := ⟨g2x, j, none⟩) lc2w9).trans (by exact c2w9)); (have lc2w10 : g2x < w10.heap.size := Nat.lt_of_lt_of_le lc2w9 hbw10'.size); (have c3w10 : w10.cell? ⟨g3x, k, none⟩ = some (.int .i64 j) := (hbw10'.cell (p := ⟨g3x, k, none⟩) lc3w9).trans (by exact c3w9)); (have lc3w10 : g3x < w10.heap.size := Nat.lt_of_lt_of_le lc3w9 hbw10'.size)))
        rename_i hHeld
        clear hHeld
        go_wp2_with fail
        go_roundw
        case rel => exact ⟨k + 1, by omega, by go_num, hbr.trans ((hbw9'.trans (hbw10'.mono hbw9'.size)).mono hbr.size)⟩
        case measure => simp [intOf]; omega
      · obtain rfl : nt = k := by omega
        go_wp2_with fail
        go_ret
        exact ⟨rfl, BR⟩
end Go.Proofs.Ytgooohapdjgmpaa
