/- The law FnMoveCells, walked. -/
import Derived.Test.YtgooohapdjgmpaaDMove
import Derived.Test.YtgooohapdjgmpaaMvI
import Derived.Test.YtgooohapdjgmpaaMoveT
import Derived.Test.YtgooohapdjgmpaaOrdS
import Derived.Test.YtgooohapdjgmpaaCc
import Derived.Test.YtgooohapdjgmpaaCntA
import Derived.Test.YtgooohapdjgmpaaShI
import Derived.Test.YtgooohapdjgmpaaLaws0
namespace Go.Proofs.Ytgooohapdjgmpaa
open Go.RowKit

theorem row_maxO {w : World} {lo n c : Nat} {A : Option Addr} {xs : List Int} (h : Row w lo (.slice A n c) xs) : xs.length ≤ 9223372036854775807 := by
  obtain ⟨A', c', _, h1, h2⟩ := h.form
  unfold maxLen at h2; omega
theorem ccInts_sameO (w : World) (lo lo' : Nat) (A A' : Option Addr) (c c' : Nat) (xs : List Int) (h : Row w lo (.slice A xs.length c) xs) (h' : Row w lo' (.slice A' xs.length c') xs) :
    Calls Try.prog 16 #[.slice A xs.length c, .slice A' xs.length c'] w (RetB w true) :=
  (ccInts_any w lo lo' A A' xs.length c xs.length c' xs xs h rfl (row_maxO h) h' rfl (row_maxO h')).mono fun _ _ ⟨he, nq, hw⟩ => ⟨by rw [he]; simp, by rw [hw]; exact below_drewN (Below.refl _ _) _⟩
theorem moveO_someM {h hx : Hp} {tz : List Int} (e : moveO h tz = some hx) : hvB h = true ∧ Perm h.l.length tz ∧ hx = moveH h tz := by
  unfold moveO at e
  split at e
  · rename_i hc
    exact ⟨hc.1, Perm.of hc.2.1 hc.2.2, by simpa using e.symm⟩
  · cases e
/-- The way back, as it is laid. -/
def bkL (tz : List Int) (n : Nat) : Nat → List Int
  | 0 => List.replicate n 0
  | k + 1 => (bkL tz n k).set (gd tz (k : Int)).toNat (k : Int)
theorem bkL_len (tz : List Int) (n k : Nat) : (bkL tz n k).length = n := by
  induction k with
  | zero => simp [bkL]
  | succ k ih => simp [bkL, ih]
theorem bkL_at {n : Nat} {tz : List Int} (P : Perm n tz) {k : Nat} (hk : k ≤ n) : ∀ i : Nat, i < k → (bkL tz n k)[(gd tz (i : Int)).toNat]? = some (i : Int) := by
  induction k with
  | zero => intro i hi; omega
  | succ k ih =>
    intro i hi
    obtain ⟨j, e, hj, _⟩ := P.get (k := k) (by omega)
    obtain ⟨j2, e2, hj2, _⟩ := P.get (k := i) (by omega)
    show ((bkL tz n k).set (gd tz (k : Int)).toNat (k : Int))[_]? = _
    by_cases hik : i = k
    · subst hik
      rw [e]
      rw [List.getElem?_set_self (by rw [bkL_len]; simpa using hj)]
    · have hne : (gd tz (k : Int)).toNat ≠ (gd tz (i : Int)).toNat := by
        intro h9
        have := P.inj (a := (k : Int)) (b := (i : Int)) (by omega) (by omega) (by omega)
        omega
      rw [List.getElem?_set_ne hne]
      exact ih (by omega) i (by omega)
theorem bkL_end {n : Nat} {tz : List Int} (P : Perm n tz) : bkL tz n n = backL tz := by
  apply List.ext_getElem?
  intro j
  rcases Nat.lt_or_ge j n with hj | hj
  · obtain ⟨k, hk, e, g, _⟩ := P.onto hj
    have h9 := bkL_at P (Nat.le_refl n) k hk
    rw [g] at h9
    simp only [Int.toNat_natCast] at h9
    rw [h9]
    unfold backL
    rw [List.getElem?_map, List.getElem?_range (by rw [P.len]; exact hj), Option.map_some, e]
  · rw [List.getElem?_eq_none (by rw [bkL_len]; exact hj), List.getElem?_eq_none (by simp [backL, P.len]; exact hj)]
theorem bkL_next {n : Nat} {tz : List Int} (P : Perm n tz) {k : Nat} {y : Int} (hy : tz[k]? = some y) (hk : k < n) : ∃ j : Nat, y = j ∧ j < n ∧ bkL tz n (k + 1) = (bkL tz n k).set j (k : Int) := by
  obtain ⟨j, e1, hj, e2, _⟩ := P.get hk
  rw [hy] at e2
  refine ⟨j, by simpa using e2, hj, ?_⟩
  show (bkL tz n k).set (gd tz (k : Int)).toNat (k : Int) = _
  rw [e1]; rfl
theorem moveO_back {h : Hp} {tz : List Int} (hv : hvB h = true) (P : Perm h.l.length tz) : moveO (moveH h tz) (backL tz) = some h := by
  have Q := back_perm P
  have hd : difB h.l.length (backL tz) = true := by unfold difB; rw [decide_eq_true_eq]; exact ⟨Q.rng, Q.nd⟩
  unfold moveO
  rw [move_len P, if_pos ⟨move_valid hv P, Q.len, hd⟩, move_back hv P]
set_option maxRecDepth 100000 in
set_option maxHeartbeats 4000000 in
theorem lawMoveCells_walk (w : World) (A : Option Addr) (n c : Nat) (h : Inp w A n c) :
    Calls Try.prog 5 #[.slice A n c] w (LawTrue w) := by
  by_cases hbig : 1048576 < n
  · go_enter Try.func5, Try.ntmps5
    go_wp2_with fail
    go_ret
    exact ⟨rfl, Below.refl _ _⟩
  go_enter Try.func5, Try.ntmps5
  go_wp2_with fail
  refine (drawMoveCells_any _ _ _ _ h).mono ?_; rintro e w1 ⟨v, hp, AT, nt, ct, tz, rfl, HA, hlt, ht8, RT, hb1⟩
  have BW1 : Below w.heap.size w w1 := (Below.refl w.heap.size w).trans (hb1.mono (Below.refl w.heap.size w).size)
  have zz1 := hb1.size
  have C := fun W lo lo' v (hW : Hv W lo v hp) A c (hr : Row W lo' (.slice A nt c) tz) => implMove_any W lo lo' v hp hW A nt c tz hr hlt (by omega)
  have D := fun W lo lo' v (hW : Hv W lo v hp) A c (hr : Row W lo' (.slice A nt c) tz) => specMove_any W lo lo' v hp hW A nt c tz hr hlt (by omega)
  have HAo := HA
  obtain ⟨A0, n0, c0, A1, n1, c1, A2, n2, c2, rfl, ⟨r0, r1, r2⟩, ⟨l0, l1, l2⟩, _⟩ := HAo.open_
  rcases em : moveO hp tz with _ | hx
  · rw [em] at C D
    unfold OptHv at C D
    simp only [Option.isSome_none, Option.getD_none] at C D
    clear em r0 r1 r2
    have HS0 := fun W lo lo' v v' h1 h2 => implHeapSame_any W lo lo' v v' Hp.zero Hp.zero h1 h2
    have hss : sameB Hp.zero Hp.zero = true := (sameB_iff _ _).2 rfl
    rw [hss] at HS0
    clear hss
    go_wp2_with fail
    refine (C _ _ _ _ (HA.alloc (.cells #[.slice A0 n0 c0, .slice A1 n1 c1, .slice A2 n2 c2] 25)) _ _ (RT.alloc (.cells #[.slice A0 n0 c0, .slice A1 n1 c1, .slice A2 n2 c2] 25))).mono ?_; rintro e w2 ⟨vC, rfl, HC, hb2⟩
    have BW2 : Below w.heap.size w w2 := (BW1.alloc BW1.size (.cells #[.slice A0 n0 c0, .slice A1 n1 c1, .slice A2 n2 c2] 25)).trans (hb2.mono (BW1.alloc BW1.size (.cells #[.slice A0 n0 c0, .slice A1 n1 c1, .slice A2 n2 c2] 25)).size)
    have zz2 := hb2.size
    have HA_2 := Hv.below (by exact (HA.alloc (.cells #[.slice A0 n0 c0, .slice A1 n1 c1, .slice A2 n2 c2] 25))) hb2
    have RT_2 := Row.below (by exact (RT.alloc (.cells #[.slice A0 n0 c0, .slice A1 n1 c1, .slice A2 n2 c2] 25))) hb2
    have X_2 := Blk3.below (by exact (Blk3.new w1 (.slice A0 n0 c0) (.slice A1 n1 c1) (.slice A2 n2 c2) 25)) hb2
    obtain ⟨cX_2_0, cX_2_1, cX_2_2, _⟩ := X_2.cells
    have lX_2 := X_2.lt
    obtain ⟨cA0, cn0, ck0, cA1, cn1, ck1, cA2, cn2, ck2, rfl, _⟩ := Hv.open_ HC
    go_wp2_with fail
    refine (D _ _ _ _ (HA_2.alloc (.cells #[.slice cA0 cn0 ck0, .slice cA1 cn1 ck1, .slice cA2 cn2 ck2] 25)) _ _ (RT_2.alloc (.cells #[.slice cA0 cn0 ck0, .slice cA1 cn1 ck1, .slice cA2 cn2 ck2] 25))).mono ?_; rintro e w3 ⟨vD, rfl, HD, hb3⟩
    have BW3 : Below w.heap.size w w3 := (BW2.alloc BW2.size (.cells #[.slice cA0 cn0 ck0, .slice cA1 cn1 ck1, .slice cA2 cn2 ck2] 25)).trans (hb3.mono (BW2.alloc BW2.size (.cells #[.slice cA0 cn0 ck0, .slice cA1 cn1 ck1, .slice cA2 cn2 ck2] 25)).size)
    have zz3 := hb3.size
    have HA_3 := Hv.below (by exact (HA_2.alloc (.cells #[.slice cA0 cn0 ck0, .slice cA1 cn1 ck1, .slice cA2 cn2 ck2] 25))) hb3
    have RT_3 := Row.below (by exact (RT_2.alloc (.cells #[.slice cA0 cn0 ck0, .slice cA1 cn1 ck1, .slice cA2 cn2 ck2] 25))) hb3
    have X_3 := Blk3.below (by exact (X_2.alloc (.cells #[.slice cA0 cn0 ck0, .slice cA1 cn1 ck1, .slice cA2 cn2 ck2] 25))) hb3
    obtain ⟨cX_3_0, cX_3_1, cX_3_2, _⟩ := X_3.cells
    have lX_3 := X_3.lt
    have HC_3 := Hv.below (by exact (HC.alloc (.cells #[.slice cA0 cn0 ck0, .slice cA1 cn1 ck1, .slice cA2 cn2 ck2] 25))) hb3
    have XC_3 := Blk3.below (by exact (Blk3.new w2 (.slice cA0 cn0 ck0) (.slice cA1 cn1 ck1) (.slice cA2 cn2 ck2) 25)) hb3
    obtain ⟨cXC_3_0, cXC_3_1, cXC_3_2, _⟩ := XC_3.cells
    have lXC_3 := XC_3.lt
    obtain ⟨dA0, dn0, dk0, dA1, dn1, dk1, dA2, dn2, dk2, rfl, _⟩ := Hv.open_ HD
    go_wp2_with fail
    refine (HS0 _ _ _ _ _ (HC_3.alloc (.cells #[.slice dA0 dn0 dk0, .slice dA1 dn1 dk1, .slice dA2 dn2 dk2] 25)) (HD.alloc (.cells #[.slice dA0 dn0 dk0, .slice dA1 dn1 dk1, .slice dA2 dn2 dk2] 25))).mono ?_; rintro e w4 ⟨rfl, hb4⟩
    have BW4 : Below w.heap.size w w4 := (BW3.alloc BW3.size (.cells #[.slice dA0 dn0 dk0, .slice dA1 dn1 dk1, .slice dA2 dn2 dk2] 25)).trans (hb4.mono (BW3.alloc BW3.size (.cells #[.slice dA0 dn0 dk0, .slice dA1 dn1 dk1, .slice dA2 dn2 dk2] 25)).size)
    have zz4 := hb4.size
    have HA_4 := Hv.below (by exact (HA_3.alloc (.cells #[.slice dA0 dn0 dk0, .slice dA1 dn1 dk1, .slice dA2 dn2 dk2] 25))) hb4
    have RT_4 := Row.below (by exact (RT_3.alloc (.cells #[.slice dA0 dn0 dk0, .slice dA1 dn1 dk1, .slice dA2 dn2 dk2] 25))) hb4
    have X_4 := Blk3.below (by exact (X_3.alloc (.cells #[.slice dA0 dn0 dk0, .slice dA1 dn1 dk1, .slice dA2 dn2 dk2] 25))) hb4
    obtain ⟨cX_4_0, cX_4_1, cX_4_2, _⟩ := X_4.cells
    have lX_4 := X_4.lt
    have HC_4 := Hv.below (by exact (HC_3.alloc (.cells #[.slice dA0 dn0 dk0, .slice dA1 dn1 dk1, .slice dA2 dn2 dk2] 25))) hb4
    have XC_4 := Blk3.below (by exact (XC_3.alloc (.cells #[.slice dA0 dn0 dk0, .slice dA1 dn1 dk1, .slice dA2 dn2 dk2] 25))) hb4
    obtain ⟨cXC_4_0, cXC_4_1, cXC_4_2, _⟩ := XC_4.cells
    have lXC_4 := XC_4.lt
    have HD_4 := Hv.below (by exact (HD.alloc (.cells #[.slice dA0 dn0 dk0, .slice dA1 dn1 dk1, .slice dA2 dn2 dk2] 25))) hb4
    have XD_4 := Blk3.below (by exact (Blk3.new w3 (.slice dA0 dn0 dk0) (.slice dA1 dn1 dk1) (.slice dA2 dn2 dk2) 25)) hb4
    obtain ⟨cXD_4_0, cXD_4_1, cXD_4_2, _⟩ := XD_4.cells
    have lXD_4 := XD_4.lt
    go_wp2_with fail
    refine (HS0 _ _ _ _ _ HC_4 HD_4).mono ?_; rintro e w5 ⟨rfl, hb5⟩
    have BW5 : Below w.heap.size w w5 := BW4.trans (hb5.mono BW4.size)
    have zz5 := hb5.size
    have HA_5 := Hv.below (by exact HA_4) hb5
    have RT_5 := Row.below (by exact RT_4) hb5
    have X_5 := Blk3.below (by exact X_4) hb5
    obtain ⟨cX_5_0, cX_5_1, cX_5_2, _⟩ := X_5.cells
    have lX_5 := X_5.lt
    have HC_5 := Hv.below (by exact HC_4) hb5
    have XC_5 := Blk3.below (by exact XC_4) hb5
    obtain ⟨cXC_5_0, cXC_5_1, cXC_5_2, _⟩ := XC_5.cells
    have lXC_5 := XC_5.lt
    have HD_5 := Hv.below (by exact HD_4) hb5
    have XD_5 := Blk3.below (by exact XD_4) hb5
    obtain ⟨cXD_5_0, cXD_5_1, cXD_5_2, _⟩ := XD_5.cells
    have lXD_5 := XD_5.lt
    go_wp2_with fail
    go_ret
    exact ⟨rfl, BW5⟩
  · rw [em] at C D
    unfold OptHv at C D
    simp only [Option.isSome_some, Option.getD_some] at C D
    obtain ⟨ev, P, rfl⟩ := moveO_someM em
    obtain ⟨i0, hi, hz0, hz1, hz2⟩ := info_parts Try.infoInt
    have h8 := hvB_len ev
    have htl : hp.l.length = nt := by rw [← P.len]; exact hlt.out
    have V := fun W lo v (hW : Hv W lo v (moveH hp tz)) => implHeapValid_any W lo v (moveH hp tz) hW
    rw [move_valid ev P] at V
    have AL := fun W lo lo2 v v2 h1 h2 => implAlike_any W lo lo2 v v2 hp (moveH hp tz) h1 h2
    rw [alike_ren (move_ren ev P)] at AL
    have NC := fun W lo v (hW : Hv W lo v (moveH hp tz)) => implCount_any W lo v (moveH hp tz) hW
    rw [move_count ev P] at NC
    have NA := fun W lo v (hW : Hv W lo v hp) => implCount_any W lo v hp hW
    have hbl : Hid ((backL tz).length = nt) := by unfold Hid; rw [(back_perm P).len]; exact htl
    have E := fun W lo lo' v (hW : Hv W lo v (moveH hp tz)) A c (hr : Row W lo' (.slice A nt c) (backL tz)) => implMove_any W lo lo' v (moveH hp tz) hW A nt c (backL tz) hr hbl (by omega)
    rw [moveO_back ev P] at E
    unfold OptHv at E
    simp only [Option.isSome_some, Option.getD_some] at E
    have HSA := fun W lo lo' v v' h1 h2 => implHeapSame_any W lo lo' v v' hp hp h1 h2
    have hsa : sameB hp hp = true := (sameB_iff _ _).2 rfl
    rw [hsa] at HSA
    clear hsa
    rw [htl] at P
    have F0 := fun k y (hy : tz[k]? = some y) hk => bkL_next P hy hk
    have HF := Lib.hid F0
    have HBK := Lib.hid (bkL_end P)
    have HTL := hlt
    have n8 : nt ≤ 8 := by omega
    clear F0 h8 htl P ev hbl
    generalize cntH hp = q at NC NA
    have hqq : (q == q) = true := by simp
    generalize backL tz = bs at E HBK
    generalize moveH hp tz = cx at C D V AL NC E
    clear em r0 r1 r2
    have HS0 := fun W lo lo' v v' h1 h2 => implHeapSame_any W lo lo' v v' cx cx h1 h2
    have hss : sameB cx cx = true := (sameB_iff _ _).2 rfl
    rw [hss] at HS0
    clear hss
    go_wp2_with fail
    refine (C _ _ _ _ (HA.alloc (.cells #[.slice A0 n0 c0, .slice A1 n1 c1, .slice A2 n2 c2] 25)) _ _ (RT.alloc (.cells #[.slice A0 n0 c0, .slice A1 n1 c1, .slice A2 n2 c2] 25))).mono ?_; rintro e w2 ⟨vC, rfl, HC, hb2⟩
    have BW2 : Below w.heap.size w w2 := (BW1.alloc BW1.size (.cells #[.slice A0 n0 c0, .slice A1 n1 c1, .slice A2 n2 c2] 25)).trans (hb2.mono (BW1.alloc BW1.size (.cells #[.slice A0 n0 c0, .slice A1 n1 c1, .slice A2 n2 c2] 25)).size)
    have zz2 := hb2.size
    have HA_2 := Hv.below (by exact (HA.alloc (.cells #[.slice A0 n0 c0, .slice A1 n1 c1, .slice A2 n2 c2] 25))) hb2
    have RT_2 := Row.below (by exact (RT.alloc (.cells #[.slice A0 n0 c0, .slice A1 n1 c1, .slice A2 n2 c2] 25))) hb2
    have X_2 := Blk3.below (by exact (Blk3.new w1 (.slice A0 n0 c0) (.slice A1 n1 c1) (.slice A2 n2 c2) 25)) hb2
    obtain ⟨cX_2_0, cX_2_1, cX_2_2, _⟩ := X_2.cells
    have lX_2 := X_2.lt
    obtain ⟨cA0, cn0, ck0, cA1, cn1, ck1, cA2, cn2, ck2, rfl, _⟩ := Hv.open_ HC
    go_wp2_with fail
    refine (D _ _ _ _ (HA_2.alloc (.cells #[.slice cA0 cn0 ck0, .slice cA1 cn1 ck1, .slice cA2 cn2 ck2] 25)) _ _ (RT_2.alloc (.cells #[.slice cA0 cn0 ck0, .slice cA1 cn1 ck1, .slice cA2 cn2 ck2] 25))).mono ?_; rintro e w3 ⟨vD, rfl, HD, hb3⟩
    have BW3 : Below w.heap.size w w3 := (BW2.alloc BW2.size (.cells #[.slice cA0 cn0 ck0, .slice cA1 cn1 ck1, .slice cA2 cn2 ck2] 25)).trans (hb3.mono (BW2.alloc BW2.size (.cells #[.slice cA0 cn0 ck0, .slice cA1 cn1 ck1, .slice cA2 cn2 ck2] 25)).size)
    have zz3 := hb3.size
    have HA_3 := Hv.below (by exact (HA_2.alloc (.cells #[.slice cA0 cn0 ck0, .slice cA1 cn1 ck1, .slice cA2 cn2 ck2] 25))) hb3
    have RT_3 := Row.below (by exact (RT_2.alloc (.cells #[.slice cA0 cn0 ck0, .slice cA1 cn1 ck1, .slice cA2 cn2 ck2] 25))) hb3
    have X_3 := Blk3.below (by exact (X_2.alloc (.cells #[.slice cA0 cn0 ck0, .slice cA1 cn1 ck1, .slice cA2 cn2 ck2] 25))) hb3
    obtain ⟨cX_3_0, cX_3_1, cX_3_2, _⟩ := X_3.cells
    have lX_3 := X_3.lt
    have HC_3 := Hv.below (by exact (HC.alloc (.cells #[.slice cA0 cn0 ck0, .slice cA1 cn1 ck1, .slice cA2 cn2 ck2] 25))) hb3
    have XC_3 := Blk3.below (by exact (Blk3.new w2 (.slice cA0 cn0 ck0) (.slice cA1 cn1 ck1) (.slice cA2 cn2 ck2) 25)) hb3
    obtain ⟨cXC_3_0, cXC_3_1, cXC_3_2, _⟩ := XC_3.cells
    have lXC_3 := XC_3.lt
    obtain ⟨dA0, dn0, dk0, dA1, dn1, dk1, dA2, dn2, dk2, rfl, _⟩ := Hv.open_ HD
    go_wp2_with fail
    refine (HS0 _ _ _ _ _ (HC_3.alloc (.cells #[.slice dA0 dn0 dk0, .slice dA1 dn1 dk1, .slice dA2 dn2 dk2] 25)) (HD.alloc (.cells #[.slice dA0 dn0 dk0, .slice dA1 dn1 dk1, .slice dA2 dn2 dk2] 25))).mono ?_; rintro e w4 ⟨rfl, hb4⟩
    have BW4 : Below w.heap.size w w4 := (BW3.alloc BW3.size (.cells #[.slice dA0 dn0 dk0, .slice dA1 dn1 dk1, .slice dA2 dn2 dk2] 25)).trans (hb4.mono (BW3.alloc BW3.size (.cells #[.slice dA0 dn0 dk0, .slice dA1 dn1 dk1, .slice dA2 dn2 dk2] 25)).size)
    have zz4 := hb4.size
    have HA_4 := Hv.below (by exact (HA_3.alloc (.cells #[.slice dA0 dn0 dk0, .slice dA1 dn1 dk1, .slice dA2 dn2 dk2] 25))) hb4
    have RT_4 := Row.below (by exact (RT_3.alloc (.cells #[.slice dA0 dn0 dk0, .slice dA1 dn1 dk1, .slice dA2 dn2 dk2] 25))) hb4
    have X_4 := Blk3.below (by exact (X_3.alloc (.cells #[.slice dA0 dn0 dk0, .slice dA1 dn1 dk1, .slice dA2 dn2 dk2] 25))) hb4
    obtain ⟨cX_4_0, cX_4_1, cX_4_2, _⟩ := X_4.cells
    have lX_4 := X_4.lt
    have HC_4 := Hv.below (by exact (HC_3.alloc (.cells #[.slice dA0 dn0 dk0, .slice dA1 dn1 dk1, .slice dA2 dn2 dk2] 25))) hb4
    have XC_4 := Blk3.below (by exact (XC_3.alloc (.cells #[.slice dA0 dn0 dk0, .slice dA1 dn1 dk1, .slice dA2 dn2 dk2] 25))) hb4
    obtain ⟨cXC_4_0, cXC_4_1, cXC_4_2, _⟩ := XC_4.cells
    have lXC_4 := XC_4.lt
    have HD_4 := Hv.below (by exact (HD.alloc (.cells #[.slice dA0 dn0 dk0, .slice dA1 dn1 dk1, .slice dA2 dn2 dk2] 25))) hb4
    have XD_4 := Blk3.below (by exact (Blk3.new w3 (.slice dA0 dn0 dk0) (.slice dA1 dn1 dk1) (.slice dA2 dn2 dk2) 25)) hb4
    obtain ⟨cXD_4_0, cXD_4_1, cXD_4_2, _⟩ := XD_4.cells
    have lXD_4 := XD_4.lt
    go_wp2_with (at_make; refine wpList_make_full _ rfl _ _ 23 rfl w4.heap.size 3 i0 (.int .i64 0) 1 Try.underlying23 hi hz0 hz1 _ _ _ _ nt rfl rfl rfl rfl ?b2 ?b3 (Nat.le_refl _) ?_)
    case b2 => rw [hz2]; omega
    case b3 => unfold maxLen; omega
    intro w5 hown5 hgrow5
    rw [mc_int] at hown5
    have RK0 : Row w5 w4.heap.size (.slice (some ⟨w4.heap.size, 0, none⟩) nt nt) (bkL tz nt 0) := by show Row _ _ _ (List.replicate nt 0); unfold Row; simpa using hown5
    have hb5 : Below w4.heap.size w4 w5 := (Below.refl _ _).grown hgrow5 (Nat.le_refl _) (fun k h => by cases h)
    clear hown5 hgrow5 hz0 hz1 hz2
    go_wp2_with fail
    go_loopw [10] (fun i wr => ∃ k : Nat, k ≤ nt ∧ i = .int .i64 k ∧ Row wr w4.heap.size (.slice (some ⟨w4.heap.size, 0, none⟩) nt nt) (bkL tz nt k) ∧ Below w4.heap.size w4 wr) (fun i _ => nt - (intOf i).toNat)
    case atStart => exact ⟨0, Nat.zero_le _, rfl, RK0, hb5⟩
    case round =>
      clear RK0 hb5
      obtain ⟨k, hk, rfl, RK, hbr⟩ := hrel
      by_cases hlt : k < nt
      · obtain ⟨g3x, y, e3, _, hg3, hz, hc3, _⟩ := Row.get (Row.below (by exact RT_4) hbr) (k := k) (by rw [HTL.out]; exact hlt)
        cases e3
        obtain ⟨j, rfl, hj, hnx⟩ := HF.out k y hz.out hlt
        obtain ⟨gq, u, eq, _, _, hu, hcu, hfu⟩ := RK.get (k := j) (by rw [bkL_len]; exact hj)
        cases eq
        have RK1 := RK.set_ j (k : Int)
        rw [← hnx] at RK1
        have hb9 : Below w4.heap.size w4 (wr.setCell ⟨w4.heap.size, j, none⟩ (.int .i64 k)) := hbr.setCell (p := ⟨w4.heap.size, j, none⟩) (Nat.le_refl _) _
        clear hz hnx hu RK
        go_wp2_with fail
        go_roundw
        case rel => exact ⟨k + 1, by omega, by go_num, RK1, hb9⟩
        case measure => simp [intOf]; omega
      · obtain rfl : nt = k := by omega
        rw [HBK.out] at RK
        have BW5 : Below w.heap.size w wr := BW4.trans (hbr.mono BW4.size)
        have zz5 := hbr.size
        have HA_5 := Hv.below (by exact HA_4) hbr
        have RT_5 := Row.below (by exact RT_4) hbr
        have X_5 := Blk3.below (by exact X_4) hbr
        obtain ⟨cX_5_0, cX_5_1, cX_5_2, _⟩ := X_5.cells
        have lX_5 := X_5.lt
        have HC_5 := Hv.below (by exact HC_4) hbr
        have XC_5 := Blk3.below (by exact XC_4) hbr
        obtain ⟨cXC_5_0, cXC_5_1, cXC_5_2, _⟩ := XC_5.cells
        have lXC_5 := XC_5.lt
        go_wp2_with fail
        refine (E _ _ _ _ HC_5 _ _ RK).mono ?_; rintro e w6 ⟨vZ, rfl, HZ, hb6⟩
        have BW6 : Below w.heap.size w w6 := BW5.trans (hb6.mono BW5.size)
        have zz6 := hb6.size
        have HA_6 := Hv.below (by exact HA_5) hb6
        have RT_6 := Row.below (by exact RT_5) hb6
        have X_6 := Blk3.below (by exact X_5) hb6
        obtain ⟨cX_6_0, cX_6_1, cX_6_2, _⟩ := X_6.cells
        have lX_6 := X_6.lt
        have HC_6 := Hv.below (by exact HC_5) hb6
        have XC_6 := Blk3.below (by exact XC_5) hb6
        obtain ⟨cXC_6_0, cXC_6_1, cXC_6_2, _⟩ := XC_6.cells
        have lXC_6 := XC_6.lt
        have RK_6 := Row.below (by exact RK) hb6
        obtain ⟨zA0, zn0, zk0, zA1, zn1, zk1, zA2, zn2, zk2, rfl, _⟩ := Hv.open_ HZ
        have hbz := Below.refl (w6.alloc (.cells #[.slice zA0 zn0 zk0, .slice zA1 zn1 zk1, .slice zA2 zn2 zk2] 25)).heap.size (w6.alloc (.cells #[.slice zA0 zn0 zk0, .slice zA1 zn1 zk1, .slice zA2 zn2 zk2] 25))
        have BW7 : Below w.heap.size w (w6.alloc (.cells #[.slice zA0 zn0 zk0, .slice zA1 zn1 zk1, .slice zA2 zn2 zk2] 25)) := (BW6.alloc BW6.size (.cells #[.slice zA0 zn0 zk0, .slice zA1 zn1 zk1, .slice zA2 zn2 zk2] 25)).trans (hbz.mono (BW6.alloc BW6.size (.cells #[.slice zA0 zn0 zk0, .slice zA1 zn1 zk1, .slice zA2 zn2 zk2] 25)).size)
        have zz7 := hbz.size
        have HA_7 := Hv.below (by exact (HA_6.alloc (.cells #[.slice zA0 zn0 zk0, .slice zA1 zn1 zk1, .slice zA2 zn2 zk2] 25))) hbz
        have RT_7 := Row.below (by exact (RT_6.alloc (.cells #[.slice zA0 zn0 zk0, .slice zA1 zn1 zk1, .slice zA2 zn2 zk2] 25))) hbz
        have X_7 := Blk3.below (by exact (X_6.alloc (.cells #[.slice zA0 zn0 zk0, .slice zA1 zn1 zk1, .slice zA2 zn2 zk2] 25))) hbz
        obtain ⟨cX_7_0, cX_7_1, cX_7_2, _⟩ := X_7.cells
        have lX_7 := X_7.lt
        have HC_7 := Hv.below (by exact (HC_6.alloc (.cells #[.slice zA0 zn0 zk0, .slice zA1 zn1 zk1, .slice zA2 zn2 zk2] 25))) hbz
        have XC_7 := Blk3.below (by exact (XC_6.alloc (.cells #[.slice zA0 zn0 zk0, .slice zA1 zn1 zk1, .slice zA2 zn2 zk2] 25))) hbz
        obtain ⟨cXC_7_0, cXC_7_1, cXC_7_2, _⟩ := XC_7.cells
        have lXC_7 := XC_7.lt
        have RK_7 := Row.below (by exact (RK_6.alloc (.cells #[.slice zA0 zn0 zk0, .slice zA1 zn1 zk1, .slice zA2 zn2 zk2] 25))) hbz
        have HZ_7 := Hv.below (by exact (HZ.alloc (.cells #[.slice zA0 zn0 zk0, .slice zA1 zn1 zk1, .slice zA2 zn2 zk2] 25))) hbz
        have XZ_7 := Blk3.below (by exact (Blk3.new w6 (.slice zA0 zn0 zk0) (.slice zA1 zn1 zk1) (.slice zA2 zn2 zk2) 25)) hbz
        obtain ⟨cXZ_7_0, cXZ_7_1, cXZ_7_2, _⟩ := XZ_7.cells
        have lXZ_7 := XZ_7.lt
        go_wp2_with fail
        go_region_held3 (fun w' => w'.cell? ⟨w1.heap.size, 0, none⟩ = some (.slice A0 n0 c0) ∧ w'.cell? ⟨w1.heap.size, 1, none⟩ = some (.slice A1 n1 c1) ∧ w'.cell? ⟨w1.heap.size, 2, none⟩ = some (.slice A2 n2 c2) ∧ w'.cell? ⟨w2.heap.size, 0, none⟩ = some (.slice cA0 cn0 ck0) ∧ w'.cell? ⟨w2.heap.size, 1, none⟩ = some (.slice cA1 cn1 ck1) ∧ w'.cell? ⟨w2.heap.size, 2, none⟩ = some (.slice cA2 cn2 ck2) ∧ w'.cell? ⟨w6.heap.size, 0, none⟩ = some (.slice zA0 zn0 zk0) ∧ w'.cell? ⟨w6.heap.size, 1, none⟩ = some (.slice zA1 zn1 zk1) ∧ w'.cell? ⟨w6.heap.size, 2, none⟩ = some (.slice zA2 zn2 zk2))
          (((try dsimp only); (repeat' apply And.intro) <;> (with_reducible (first | exact cXZ_12_2 | exact cXZ_12_1 | exact cXZ_12_0 | exact cXC_12_2 | exact cXC_12_1 | exact cXC_12_0 | exact cX_12_2 | exact cX_12_1 | exact cX_12_0 | exact cXZ_11_2 | exact cXZ_11_1 | exact cXZ_11_0 | exact cXC_11_2 | exact cXC_11_1 | exact cXC_11_0 | exact cX_11_2 | exact cX_11_1 | exact cX_11_0 | exact cXZ_10_2 | exact cXZ_10_1 | exact cXZ_10_0 | exact cXC_10_2 | exact cXC_10_1 | exact cXC_10_0 | exact cX_10_2 | exact cX_10_1 | exact cX_10_0 | exact cXZ_9_2 | exact cXZ_9_1 | exact cXZ_9_0 | exact cXC_9_2 | exact cXC_9_1 | exact cXC_9_0 | exact cX_9_2 | exact cX_9_1 | exact cX_9_0 | exact cXZ_8_2 | exact cXZ_8_1 | exact cXZ_8_0 | exact cXC_8_2 | exact cXC_8_1 | exact cXC_8_0 | exact cX_8_2 | exact cX_8_1 | exact cX_8_0 | exact cellD cXZ_7_2 | exact cellD cXZ_7_1 | exact cellD cXZ_7_0 | exact cellD cXC_7_2 | exact cellD cXC_7_1 | exact cellD cXC_7_0 | exact cellD cX_7_2 | exact cellD cX_7_1 | exact cellD cX_7_0 | exact cXZ_7_2 | exact cXZ_7_1 | exact cXZ_7_0 | exact cXC_7_2 | exact cXC_7_1 | exact cXC_7_0 | exact cX_7_2 | exact cX_7_1 | exact cX_7_0))))
          (first
            | (go_at_call 19; (with_reducible refine (V _ _ _ (HC_7.drew)).mono ?_); rintro e w7 ⟨rfl, hb7⟩; have BW8 : Below w.heap.size w w7 := (Below.drew BW7).trans (hb7.mono (Below.drew BW7).size); have zz8 := hb7.size; have HA_8 := Hv.below (by exact (HA_7.drew)) hb7; have RT_8 := Row.below (by exact (RT_7.drew)) hb7; have X_8 := Blk3.below (by exact (X_7.drew)) hb7; obtain ⟨cX_8_0, cX_8_1, cX_8_2, _⟩ := X_8.cells; have lX_8 := X_8.lt; have HC_8 := Hv.below (by exact (HC_7.drew)) hb7; have XC_8 := Blk3.below (by exact (XC_7.drew)) hb7; obtain ⟨cXC_8_0, cXC_8_1, cXC_8_2, _⟩ := XC_8.cells; have lXC_8 := XC_8.lt; have RK_8 := Row.below (by exact (RK_7.drew)) hb7; have HZ_8 := Hv.below (by exact (HZ_7.drew)) hb7; have XZ_8 := Blk3.below (by exact (XZ_7.drew)) hb7; obtain ⟨cXZ_8_0, cXZ_8_1, cXZ_8_2, _⟩ := XZ_8.cells; have lXZ_8 := XZ_8.lt)
            | (go_at_call 20; (with_reducible refine (AL _ _ _ _ _ HA_8 HC_8).mono ?_); rintro e w8 ⟨rfl, hb8⟩; have BW9 : Below w.heap.size w w8 := BW8.trans (hb8.mono BW8.size); have zz9 := hb8.size; have HA_9 := Hv.below (by exact HA_8) hb8; have RT_9 := Row.below (by exact RT_8) hb8; have X_9 := Blk3.below (by exact X_8) hb8; obtain ⟨cX_9_0, cX_9_1, cX_9_2, _⟩ := X_9.cells; have lX_9 := X_9.lt; have HC_9 := Hv.below (by exact HC_8) hb8; have XC_9 := Blk3.below (by exact XC_8) hb8; obtain ⟨cXC_9_0, cXC_9_1, cXC_9_2, _⟩ := XC_9.cells; have lXC_9 := XC_9.lt; have RK_9 := Row.below (by exact RK_8) hb8; have HZ_9 := Hv.below (by exact HZ_8) hb8; have XZ_9 := Blk3.below (by exact XZ_8) hb8; obtain ⟨cXZ_9_0, cXZ_9_1, cXZ_9_2, _⟩ := XZ_9.cells; have lXZ_9 := XZ_9.lt)
            | (go_at_call 24; (with_reducible refine (NC _ _ _ HC_9).mono ?_); rintro e w9 ⟨rfl, hb9⟩; have BW10 : Below w.heap.size w w9 := BW9.trans (hb9.mono BW9.size); have zz10 := hb9.size; have HA_10 := Hv.below (by exact HA_9) hb9; have RT_10 := Row.below (by exact RT_9) hb9; have X_10 := Blk3.below (by exact X_9) hb9; obtain ⟨cX_10_0, cX_10_1, cX_10_2, _⟩ := X_10.cells; have lX_10 := X_10.lt; have HC_10 := Hv.below (by exact HC_9) hb9; have XC_10 := Blk3.below (by exact XC_9) hb9; obtain ⟨cXC_10_0, cXC_10_1, cXC_10_2, _⟩ := XC_10.cells; have lXC_10 := XC_10.lt; have RK_10 := Row.below (by exact RK_9) hb9; have HZ_10 := Hv.below (by exact HZ_9) hb9; have XZ_10 := Blk3.below (by exact XZ_9) hb9; obtain ⟨cXZ_10_0, cXZ_10_1, cXZ_10_2, _⟩ := XZ_10.cells; have lXZ_10 := XZ_10.lt)
            | (go_at_call 24; (with_reducible refine (NA _ _ _ HA_10).mono ?_); rintro e w10 ⟨rfl, hb10⟩; have BW11 : Below w.heap.size w w10 := BW10.trans (hb10.mono BW10.size); have zz11 := hb10.size; have HA_11 := Hv.below (by exact HA_10) hb10; have RT_11 := Row.below (by exact RT_10) hb10; have X_11 := Blk3.below (by exact X_10) hb10; obtain ⟨cX_11_0, cX_11_1, cX_11_2, _⟩ := X_11.cells; have lX_11 := X_11.lt; have HC_11 := Hv.below (by exact HC_10) hb10; have XC_11 := Blk3.below (by exact XC_10) hb10; obtain ⟨cXC_11_0, cXC_11_1, cXC_11_2, _⟩ := XC_11.cells; have lXC_11 := XC_11.lt; have RK_11 := Row.below (by exact RK_10) hb10; have HZ_11 := Hv.below (by exact HZ_10) hb10; have XZ_11 := Blk3.below (by exact XZ_10) hb10; obtain ⟨cXZ_11_0, cXZ_11_1, cXZ_11_2, _⟩ := XZ_11.cells; have lXZ_11 := XZ_11.lt)
            | (go_at_call 15; (with_reducible refine (HSA _ _ _ _ _ HZ_11 HA_11).mono ?_); rintro e w11 ⟨rfl, hb11⟩; have BW12 : Below w.heap.size w w11 := BW11.trans (hb11.mono BW11.size); have zz12 := hb11.size; have HA_12 := Hv.below (by exact HA_11) hb11; have RT_12 := Row.below (by exact RT_11) hb11; have X_12 := Blk3.below (by exact X_11) hb11; obtain ⟨cX_12_0, cX_12_1, cX_12_2, _⟩ := X_12.cells; have lX_12 := X_12.lt; have HC_12 := Hv.below (by exact HC_11) hb11; have XC_12 := Blk3.below (by exact XC_11) hb11; obtain ⟨cXC_12_0, cXC_12_1, cXC_12_2, _⟩ := XC_12.cells; have lXC_12 := XC_12.lt; have RK_12 := Row.below (by exact RK_11) hb11; have HZ_12 := Hv.below (by exact HZ_11) hb11; have XZ_12 := Blk3.below (by exact XZ_11) hb11; obtain ⟨cXZ_12_0, cXZ_12_1, cXZ_12_2, _⟩ := XZ_12.cells; have lXZ_12 := XZ_12.lt))
        rename_i hHeld1
        clear hHeld1
        go_wp2_with fail
        go_ret
        exact ⟨rfl, BW12⟩
end Go.Proofs.Ytgooohapdjgmpaa
