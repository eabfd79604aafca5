/- The law FnMoveOrder, walked. -/
import Derived.Test.YtgooohapdjgmpaaDMove
import Derived.Test.YtgooohapdjgmpaaMvI
import Derived.Test.YtgooohapdjgmpaaMoveT
import Derived.Test.YtgooohapdjgmpaaOrdS
import Derived.Test.YtgooohapdjgmpaaCc
import Derived.Test.YtgooohapdjgmpaaOrdW
import Derived.Test.YtgooohapdjgmpaaLaws0
namespace Go.Proofs.Ytgooohapdjgmpaa
open Go.RowKit

theorem row_maxO {w : World} {lo n c : Nat} {A : Option Addr} {xs : List Int} (h : Row w lo (.slice A n c) xs) : xs.length ≤ 9223372036854775807 := by
  obtain ⟨A', c', _, h1, h2⟩ := h.form
  unfold maxLen at h2; omega
theorem ccInts_sameO (w : World) (lo lo' : Nat) (A A' : Option Addr) (c c' : Nat) (xs : List Int) (h : Row w lo (.slice A xs.length c) xs) (h' : Row w lo' (.slice A' xs.length c') xs) :
    Calls Try.prog 16 #[.slice A xs.length c, .slice A' xs.length c'] w (RetB w true) :=
  (ccInts_any w lo lo' A A' xs.length c xs.length c' xs xs h rfl (row_maxO h) h' rfl (row_maxO h')).mono fun _ _ ⟨he, nq, hw⟩ => ⟨by rw [he]; simp, by rw [hw]; exact below_drewN (Below.refl _ _) _⟩
theorem moveO_someM {h hx : Hp} {tz : List Int} (e : moveO h tz = some hx) : hvB h = true ∧ Perm h.l.length tz ∧ hx = moveH h tz := by
  unfold moveO at e
  split at e
  · rename_i hc
    exact ⟨hc.1, Perm.of hc.2.1 hc.2.2, by simpa using e.symm⟩
  · cases e
theorem moved_at {h : Hp} {tz : List Int} (hv : hvB h = true) (P : Perm h.l.length tz) {k : Nat} {c : Int} (hc : (order h)[k]? = some c) : ∃ j : Nat, c = j ∧ j < h.l.length ∧ (order (moveH h tz))[k]? = tz[j]? := by
  have hb := order_cell hv (List.mem_of_getElem? hc)
  obtain ⟨j, rfl⟩ : ∃ j : Nat, c = j := ⟨c.toNat, by omega⟩
  refine ⟨j, rfl, by omega, ?_⟩
  obtain ⟨u, e1, _, e2, _⟩ := P.get (k := j) (by omega)
  rw [(move_ren hv P).ord_, List.getElem?_map, hc, e2]
  simp [e1]
set_option maxRecDepth 100000 in
set_option maxHeartbeats 4000000 in
theorem lawMoveOrder_walk (w : World) (A : Option Addr) (n c : Nat) (h : Inp w A n c) :
    Calls Try.prog 10 #[.slice A n c] w (LawTrue w) := by
  by_cases hbig : 1048576 < n
  · go_enter Try.func10, Try.ntmps10
    go_wp2_with fail
    go_ret
    exact ⟨rfl, Below.refl _ _⟩
  go_enter Try.func10, Try.ntmps10
  go_wp2_with fail
  refine (drawMoveCells_any _ _ _ _ h).mono ?_; rintro e w1 ⟨v, hp, AT, nt, ct, tz, rfl, HA, hlt, ht8, RT, hb1⟩
  have BW1 : Below w.heap.size w w1 := (Below.refl w.heap.size w).trans (hb1.mono (Below.refl w.heap.size w).size)
  have zz1 := hb1.size
  have C := fun W lo lo' v (hW : Hv W lo v hp) A c (hr : Row W lo' (.slice A nt c) tz) => implMove_any W lo lo' v hp hW A nt c tz hr hlt (by omega)
  have D := fun W lo lo' v (hW : Hv W lo v hp) A c (hr : Row W lo' (.slice A nt c) tz) => specMove_any W lo lo' v hp hW A nt c tz hr hlt (by omega)
  have HAo := HA
  obtain ⟨A0, n0, c0, A1, n1, c1, A2, n2, c2, rfl, ⟨r0, r1, r2⟩, ⟨l0, l1, l2⟩, _⟩ := HAo.open_
  rcases em : moveO hp tz with _ | hx
  · rw [em] at C D
    unfold OptHv at C D
    simp only [Option.isSome_none, Option.getD_none] at C D
    clear em r0 r1 r2
    have HS0 := fun W lo lo' v v' h1 h2 => implHeapSame_any W lo lo' v v' Hp.zero Hp.zero h1 h2
    have hss : sameB Hp.zero Hp.zero = true := (sameB_iff _ _).2 rfl
    rw [hss] at HS0
    clear hss
    go_wp2_with fail
    refine (C _ _ _ _ (HA.alloc (.cells #[.slice A0 n0 c0, .slice A1 n1 c1, .slice A2 n2 c2] 25)) _ _ (RT.alloc (.cells #[.slice A0 n0 c0, .slice A1 n1 c1, .slice A2 n2 c2] 25))).mono ?_; rintro e w2 ⟨vC, rfl, HC, hb2⟩
    have BW2 : Below w.heap.size w w2 := (BW1.alloc BW1.size (.cells #[.slice A0 n0 c0, .slice A1 n1 c1, .slice A2 n2 c2] 25)).trans (hb2.mono (BW1.alloc BW1.size (.cells #[.slice A0 n0 c0, .slice A1 n1 c1, .slice A2 n2 c2] 25)).size)
    have zz2 := hb2.size
    have HA_2 := Hv.below (by exact (HA.alloc (.cells #[.slice A0 n0 c0, .slice A1 n1 c1, .slice A2 n2 c2] 25))) hb2
    have RT_2 := Row.below (by exact (RT.alloc (.cells #[.slice A0 n0 c0, .slice A1 n1 c1, .slice A2 n2 c2] 25))) hb2
    have X_2 := Blk3.below (by exact (Blk3.new w1 (.slice A0 n0 c0) (.slice A1 n1 c1) (.slice A2 n2 c2) 25)) hb2
    obtain ⟨cX_2_0, cX_2_1, cX_2_2, _⟩ := X_2.cells
    have lX_2 := X_2.lt
    obtain ⟨cA0, cn0, ck0, cA1, cn1, ck1, cA2, cn2, ck2, rfl, _⟩ := Hv.open_ HC
    go_wp2_with fail
    refine (D _ _ _ _ (HA_2.alloc (.cells #[.slice cA0 cn0 ck0, .slice cA1 cn1 ck1, .slice cA2 cn2 ck2] 25)) _ _ (RT_2.alloc (.cells #[.slice cA0 cn0 ck0, .slice cA1 cn1 ck1, .slice cA2 cn2 ck2] 25))).mono ?_; rintro e w3 ⟨vD, rfl, HD, hb3⟩
    have BW3 : Below w.heap.size w w3 := (BW2.alloc BW2.size (.cells #[.slice cA0 cn0 ck0, .slice cA1 cn1 ck1, .slice cA2 cn2 ck2] 25)).trans (hb3.mono (BW2.alloc BW2.size (.cells #[.slice cA0 cn0 ck0, .slice cA1 cn1 ck1, .slice cA2 cn2 ck2] 25)).size)
    have zz3 := hb3.size
    have HA_3 := Hv.below (by exact (HA_2.alloc (.cells #[.slice cA0 cn0 ck0, .slice cA1 cn1 ck1, .slice cA2 cn2 ck2] 25))) hb3
    have RT_3 := Row.below (by exact (RT_2.alloc (.cells #[.slice cA0 cn0 ck0, .slice cA1 cn1 ck1, .slice cA2 cn2 ck2] 25))) hb3
    have X_3 := Blk3.below (by exact (X_2.alloc (.cells #[.slice cA0 cn0 ck0, .slice cA1 cn1 ck1, .slice cA2 cn2 ck2] 25))) hb3
    obtain ⟨cX_3_0, cX_3_1, cX_3_2, _⟩ := X_3.cells
    have lX_3 := X_3.lt
    have HC_3 := Hv.below (by exact (HC.alloc (.cells #[.slice cA0 cn0 ck0, .slice cA1 cn1 ck1, .slice cA2 cn2 ck2] 25))) hb3
    have XC_3 := Blk3.below (by exact (Blk3.new w2 (.slice cA0 cn0 ck0) (.slice cA1 cn1 ck1) (.slice cA2 cn2 ck2) 25)) hb3
    obtain ⟨cXC_3_0, cXC_3_1, cXC_3_2, _⟩ := XC_3.cells
    have lXC_3 := XC_3.lt
    obtain ⟨dA0, dn0, dk0, dA1, dn1, dk1, dA2, dn2, dk2, rfl, _⟩ := Hv.open_ HD
    go_wp2_with fail
    refine (HS0 _ _ _ _ _ (HC_3.alloc (.cells #[.slice dA0 dn0 dk0, .slice dA1 dn1 dk1, .slice dA2 dn2 dk2] 25)) (HD.alloc (.cells #[.slice dA0 dn0 dk0, .slice dA1 dn1 dk1, .slice dA2 dn2 dk2] 25))).mono ?_; rintro e w4 ⟨rfl, hb4⟩
    have BW4 : Below w.heap.size w w4 := (BW3.alloc BW3.size (.cells #[.slice dA0 dn0 dk0, .slice dA1 dn1 dk1, .slice dA2 dn2 dk2] 25)).trans (hb4.mono (BW3.alloc BW3.size (.cells #[.slice dA0 dn0 dk0, .slice dA1 dn1 dk1, .slice dA2 dn2 dk2] 25)).size)
    have zz4 := hb4.size
    have HA_4 := Hv.below (by exact (HA_3.alloc (.cells #[.slice dA0 dn0 dk0, .slice dA1 dn1 dk1, .slice dA2 dn2 dk2] 25))) hb4
    have RT_4 := Row.below (by exact (RT_3.alloc (.cells #[.slice dA0 dn0 dk0, .slice dA1 dn1 dk1, .slice dA2 dn2 dk2] 25))) hb4
    have X_4 := Blk3.below (by exact (X_3.alloc (.cells #[.slice dA0 dn0 dk0, .slice dA1 dn1 dk1, .slice dA2 dn2 dk2] 25))) hb4
    obtain ⟨cX_4_0, cX_4_1, cX_4_2, _⟩ := X_4.cells
    have lX_4 := X_4.lt
    have HC_4 := Hv.below (by exact (HC_3.alloc (.cells #[.slice dA0 dn0 dk0, .slice dA1 dn1 dk1, .slice dA2 dn2 dk2] 25))) hb4
    have XC_4 := Blk3.below (by exact (XC_3.alloc (.cells #[.slice dA0 dn0 dk0, .slice dA1 dn1 dk1, .slice dA2 dn2 dk2] 25))) hb4
    obtain ⟨cXC_4_0, cXC_4_1, cXC_4_2, _⟩ := XC_4.cells
    have lXC_4 := XC_4.lt
    have HD_4 := Hv.below (by exact (HD.alloc (.cells #[.slice dA0 dn0 dk0, .slice dA1 dn1 dk1, .slice dA2 dn2 dk2] 25))) hb4
    have XD_4 := Blk3.below (by exact (Blk3.new w3 (.slice dA0 dn0 dk0) (.slice dA1 dn1 dk1) (.slice dA2 dn2 dk2) 25)) hb4
    obtain ⟨cXD_4_0, cXD_4_1, cXD_4_2, _⟩ := XD_4.cells
    have lXD_4 := XD_4.lt
    go_wp2_with fail
    refine (HS0 _ _ _ _ _ HC_4 HD_4).mono ?_; rintro e w5 ⟨rfl, hb5⟩
    have BW5 : Below w.heap.size w w5 := BW4.trans (hb5.mono BW4.size)
    have zz5 := hb5.size
    have HA_5 := Hv.below (by exact HA_4) hb5
    have RT_5 := Row.below (by exact RT_4) hb5
    have X_5 := Blk3.below (by exact X_4) hb5
    obtain ⟨cX_5_0, cX_5_1, cX_5_2, _⟩ := X_5.cells
    have lX_5 := X_5.lt
    have HC_5 := Hv.below (by exact HC_4) hb5
    have XC_5 := Blk3.below (by exact XC_4) hb5
    obtain ⟨cXC_5_0, cXC_5_1, cXC_5_2, _⟩ := XC_5.cells
    have lXC_5 := XC_5.lt
    have HD_5 := Hv.below (by exact HD_4) hb5
    have XD_5 := Blk3.below (by exact XD_4) hb5
    obtain ⟨cXD_5_0, cXD_5_1, cXD_5_2, _⟩ := XD_5.cells
    have lXD_5 := XD_5.lt
    go_wp2_with fail
    go_ret
    exact ⟨rfl, BW5⟩
  · rw [em] at C D
    unfold OptHv at C D
    simp only [Option.isSome_some, Option.getD_some] at C D
    obtain ⟨ev, P, rfl⟩ := moveO_someM em
    have I := fun W v (hW : Hv W w.heap.size v hp) => implOrder_any W w.heap.size v hp hW
    have J := fun W lo v (hW : Hv W lo v (moveH hp tz)) => implOrder_any W lo v (moveH hp tz) hW
    have pl0 : (order (moveH hp tz)).length = (order hp).length := by rw [(move_ren ev P).ord_, List.length_map]
    have F0 := fun k c (hc : (order hp)[k]? = some c) => moved_at ev P hc
    have hol := order_len ev
    have h8 := hvB_len ev
    have htl : hp.l.length = nt := by rw [← P.len]; exact hlt.out
    rw [htl] at F0 hol h8
    obtain ⟨m, hm⟩ : ∃ m, m = (order hp).length := ⟨_, rfl⟩
    rw [← hm] at hol pl0
    have HGL : Hid ((order hp).length = m) := hm.symm
    have HPL : Hid ((order (moveH hp tz)).length = m) := pl0
    have HTL := hlt
    have m8 : m ≤ 8 := by omega
    have HF := Lib.hid F0
    clear F0 hm pl0 hol h8 htl P ev
    generalize order hp = gs at I HGL HF
    generalize order (moveH hp tz) = ps at J HPL HF
    generalize moveH hp tz = cx at C D J
    clear em r0 r1 r2
    have HS0 := fun W lo lo' v v' h1 h2 => implHeapSame_any W lo lo' v v' cx cx h1 h2
    have hss : sameB cx cx = true := (sameB_iff _ _).2 rfl
    rw [hss] at HS0
    clear hss
    go_wp2_with fail
    refine (C _ _ _ _ (HA.alloc (.cells #[.slice A0 n0 c0, .slice A1 n1 c1, .slice A2 n2 c2] 25)) _ _ (RT.alloc (.cells #[.slice A0 n0 c0, .slice A1 n1 c1, .slice A2 n2 c2] 25))).mono ?_; rintro e w2 ⟨vC, rfl, HC, hb2⟩
    have BW2 : Below w.heap.size w w2 := (BW1.alloc BW1.size (.cells #[.slice A0 n0 c0, .slice A1 n1 c1, .slice A2 n2 c2] 25)).trans (hb2.mono (BW1.alloc BW1.size (.cells #[.slice A0 n0 c0, .slice A1 n1 c1, .slice A2 n2 c2] 25)).size)
    have zz2 := hb2.size
    have HA_2 := Hv.below (by exact (HA.alloc (.cells #[.slice A0 n0 c0, .slice A1 n1 c1, .slice A2 n2 c2] 25))) hb2
    have RT_2 := Row.below (by exact (RT.alloc (.cells #[.slice A0 n0 c0, .slice A1 n1 c1, .slice A2 n2 c2] 25))) hb2
    have X_2 := Blk3.below (by exact (Blk3.new w1 (.slice A0 n0 c0) (.slice A1 n1 c1) (.slice A2 n2 c2) 25)) hb2
    obtain ⟨cX_2_0, cX_2_1, cX_2_2, _⟩ := X_2.cells
    have lX_2 := X_2.lt
    obtain ⟨cA0, cn0, ck0, cA1, cn1, ck1, cA2, cn2, ck2, rfl, _⟩ := Hv.open_ HC
    go_wp2_with fail
    refine (D _ _ _ _ (HA_2.alloc (.cells #[.slice cA0 cn0 ck0, .slice cA1 cn1 ck1, .slice cA2 cn2 ck2] 25)) _ _ (RT_2.alloc (.cells #[.slice cA0 cn0 ck0, .slice cA1 cn1 ck1, .slice cA2 cn2 ck2] 25))).mono ?_; rintro e w3 ⟨vD, rfl, HD, hb3⟩
    have BW3 : Below w.heap.size w w3 := (BW2.alloc BW2.size (.cells #[.slice cA0 cn0 ck0, .slice cA1 cn1 ck1, .slice cA2 cn2 ck2] 25)).trans (hb3.mono (BW2.alloc BW2.size (.cells #[.slice cA0 cn0 ck0, .slice cA1 cn1 ck1, .slice cA2 cn2 ck2] 25)).size)
    have zz3 := hb3.size
    have HA_3 := Hv.below (by exact (HA_2.alloc (.cells #[.slice cA0 cn0 ck0, .slice cA1 cn1 ck1, .slice cA2 cn2 ck2] 25))) hb3
    have RT_3 := Row.below (by exact (RT_2.alloc (.cells #[.slice cA0 cn0 ck0, .slice cA1 cn1 ck1, .slice cA2 cn2 ck2] 25))) hb3
    have X_3 := Blk3.below (by exact (X_2.alloc (.cells #[.slice cA0 cn0 ck0, .slice cA1 cn1 ck1, .slice cA2 cn2 ck2] 25))) hb3
    obtain ⟨cX_3_0, cX_3_1, cX_3_2, _⟩ := X_3.cells
    have lX_3 := X_3.lt
    have HC_3 := Hv.below (by exact (HC.alloc (.cells #[.slice cA0 cn0 ck0, .slice cA1 cn1 ck1, .slice cA2 cn2 ck2] 25))) hb3
    have XC_3 := Blk3.below (by exact (Blk3.new w2 (.slice cA0 cn0 ck0) (.slice cA1 cn1 ck1) (.slice cA2 cn2 ck2) 25)) hb3
    obtain ⟨cXC_3_0, cXC_3_1, cXC_3_2, _⟩ := XC_3.cells
    have lXC_3 := XC_3.lt
    obtain ⟨dA0, dn0, dk0, dA1, dn1, dk1, dA2, dn2, dk2, rfl, _⟩ := Hv.open_ HD
    go_wp2_with fail
    refine (HS0 _ _ _ _ _ (HC_3.alloc (.cells #[.slice dA0 dn0 dk0, .slice dA1 dn1 dk1, .slice dA2 dn2 dk2] 25)) (HD.alloc (.cells #[.slice dA0 dn0 dk0, .slice dA1 dn1 dk1, .slice dA2 dn2 dk2] 25))).mono ?_; rintro e w4 ⟨rfl, hb4⟩
    have BW4 : Below w.heap.size w w4 := (BW3.alloc BW3.size (.cells #[.slice dA0 dn0 dk0, .slice dA1 dn1 dk1, .slice dA2 dn2 dk2] 25)).trans (hb4.mono (BW3.alloc BW3.size (.cells #[.slice dA0 dn0 dk0, .slice dA1 dn1 dk1, .slice dA2 dn2 dk2] 25)).size)
    have zz4 := hb4.size
    have HA_4 := Hv.below (by exact (HA_3.alloc (.cells #[.slice dA0 dn0 dk0, .slice dA1 dn1 dk1, .slice dA2 dn2 dk2] 25))) hb4
    have RT_4 := Row.below (by exact (RT_3.alloc (.cells #[.slice dA0 dn0 dk0, .slice dA1 dn1 dk1, .slice dA2 dn2 dk2] 25))) hb4
    have X_4 := Blk3.below (by exact (X_3.alloc (.cells #[.slice dA0 dn0 dk0, .slice dA1 dn1 dk1, .slice dA2 dn2 dk2] 25))) hb4
    obtain ⟨cX_4_0, cX_4_1, cX_4_2, _⟩ := X_4.cells
    have lX_4 := X_4.lt
    have HC_4 := Hv.below (by exact (HC_3.alloc (.cells #[.slice dA0 dn0 dk0, .slice dA1 dn1 dk1, .slice dA2 dn2 dk2] 25))) hb4
    have XC_4 := Blk3.below (by exact (XC_3.alloc (.cells #[.slice dA0 dn0 dk0, .slice dA1 dn1 dk1, .slice dA2 dn2 dk2] 25))) hb4
    obtain ⟨cXC_4_0, cXC_4_1, cXC_4_2, _⟩ := XC_4.cells
    have lXC_4 := XC_4.lt
    have HD_4 := Hv.below (by exact (HD.alloc (.cells #[.slice dA0 dn0 dk0, .slice dA1 dn1 dk1, .slice dA2 dn2 dk2] 25))) hb4
    have XD_4 := Blk3.below (by exact (Blk3.new w3 (.slice dA0 dn0 dk0) (.slice dA1 dn1 dk1) (.slice dA2 dn2 dk2) 25)) hb4
    obtain ⟨cXD_4_0, cXD_4_1, cXD_4_2, _⟩ := XD_4.cells
    have lXD_4 := XD_4.lt
    go_wp2_with fail
    refine (I _ _ HA_4).mono ?_; rintro e w5 ⟨ARO, kRO, rfl, RO, hb5⟩
    have BW5 : Below w.heap.size w w5 := BW4.trans (hb5.mono BW4.size)
    have zz5 := hb5.size
    have HA_5 := Hv.below (by exact HA_4) hb5
    have RT_5 := Row.below (by exact RT_4) hb5
    have X_5 := Blk3.below (by exact X_4) hb5
    obtain ⟨cX_5_0, cX_5_1, cX_5_2, _⟩ := X_5.cells
    have lX_5 := X_5.lt
    have HC_5 := Hv.below (by exact HC_4) hb5
    have XC_5 := Blk3.below (by exact XC_4) hb5
    obtain ⟨cXC_5_0, cXC_5_1, cXC_5_2, _⟩ := XC_5.cells
    have lXC_5 := XC_5.lt
    rw [HGL.out] at RO ⊢
    go_wp2_with fail
    refine (J _ _ _ HC_5).mono ?_; rintro e w6 ⟨ARP, kRP, rfl, RP, hb6⟩
    have BW6 : Below w.heap.size w w6 := BW5.trans (hb6.mono BW5.size)
    have zz6 := hb6.size
    have HA_6 := Hv.below (by exact HA_5) hb6
    have RT_6 := Row.below (by exact RT_5) hb6
    have X_6 := Blk3.below (by exact X_5) hb6
    obtain ⟨cX_6_0, cX_6_1, cX_6_2, _⟩ := X_6.cells
    have lX_6 := X_6.lt
    have HC_6 := Hv.below (by exact HC_5) hb6
    have XC_6 := Blk3.below (by exact XC_5) hb6
    obtain ⟨cXC_6_0, cXC_6_1, cXC_6_2, _⟩ := XC_6.cells
    have lXC_6 := XC_6.lt
    have RO_6 := Row.below (by exact RO) hb6
    rw [HPL.out] at RP ⊢
    go_wp2_with fail
    go_loopw [11] (fun i wr => (∃ k : Nat, k ≤ m ∧ i = .int .i64 k) ∧ ∃ nq, wr = w6.drewN nq) (fun i _ => m - (intOf i).toNat)
    case atStart => exact ⟨⟨0, Nat.zero_le _, rfl⟩, 0, rfl⟩
    case round =>
      obtain ⟨⟨k, hk, rfl⟩, nq, rfl⟩ := hrel
      by_cases hlt : k < m
      · obtain ⟨g1x, x, e1, _, _, hx, hcx, _⟩ := Row.get RO_6 (k := k) (by rw [HGL.out]; exact hlt)
        cases e1
        obtain ⟨g2x, y, e2, _, _, hy, hcy, _⟩ := Row.get RP (k := k) (by rw [HPL.out]; exact hlt)
        cases e2
        obtain ⟨j, rfl, hj, hjy⟩ := HF.out k x hx.out
        obtain ⟨g3x, z, e3, _, _, hz, hcz, _⟩ := Row.get RT_6 (k := j) (by rw [HTL.out]; exact hj)
        cases e3
        obtain rfl : y = z := by have h9 := hy.out; rw [hjy, hz.out] at h9; simpa using h9.symm
        have hyy : (y != y) = false := by simp
        clear hx hy hz hjy
        go_wp2_with fail
        go_quiet (fail)
        go_wp2_with fail
        go_roundw
        case rel => exact ⟨⟨k + 1, by omega, by go_num⟩, _, by first | rfl | (rw [World.drewN_drewN])⟩
        case measure => simp [intOf]; omega
      · obtain rfl : m = k := by omega
        go_wp2_with fail
        go_ret
        exact ⟨ret_bool (by simp), below_drewN BW6 _⟩
end Go.Proofs.Ytgooohapdjgmpaa
