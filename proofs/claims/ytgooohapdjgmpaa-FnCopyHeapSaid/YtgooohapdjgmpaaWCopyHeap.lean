/- The law FnCopyHeap, walked. -/
import Derived.Test.YtgooohapdjgmpaaDCopyH
import Derived.Test.YtgooohapdjgmpaaCopyT
import Derived.Test.YtgooohapdjgmpaaCc
import Derived.Test.YtgooohapdjgmpaaOrdW
import Derived.Test.YtgooohapdjgmpaaShI
import Derived.Test.YtgooohapdjgmpaaLives
import Derived.Test.YtgooohapdjgmpaaLaws0
namespace Go.Proofs.Ytgooohapdjgmpaa
open Go.RowKit

theorem row_maxO {w : World} {lo n c : Nat} {A : Option Addr} {xs : List Int} (h : Row w lo (.slice A n c) xs) : xs.length ≤ 9223372036854775807 := by
  obtain ⟨A', c', _, h1, h2⟩ := h.form
  unfold maxLen at h2; omega
theorem ccInts_sameO (w : World) (lo lo' : Nat) (A A' : Option Addr) (c c' : Nat) (xs : List Int) (h : Row w lo (.slice A xs.length c) xs) (h' : Row w lo' (.slice A' xs.length c') xs) :
    Calls Try.prog 16 #[.slice A xs.length c, .slice A' xs.length c'] w (RetB w true) :=
  (ccInts_any w lo lo' A A' xs.length c xs.length c' xs xs h rfl (row_maxO h) h' rfl (row_maxO h')).mono fun _ _ ⟨he, nq, hw⟩ => ⟨by rw [he]; simp, by rw [hw]; exact below_drewN (Below.refl _ _) _⟩
theorem Hv.rows3 {w : World} {lo : Nat} {v0 v1 v2 : Value} {h : Hp} (hv : Hv w lo (.agg #[v0, v1, v2]) h) : Row w lo v0 h.l ∧ Row w lo v1 h.r ∧ Row w lo v2 h.t := by
  obtain ⟨u0, u1, u2, e, r0, r1, r2, _⟩ := hv
  simp at e
  obtain ⟨rfl, rfl, rfl⟩ := e
  exact ⟨r0, r1, r2⟩
theorem copy_live {h : Hp} (hv : hvB h = true) : (liveL (copyH h)).length = h.l.length ∧ ∀ k, k < h.l.length → (liveL (copyH h))[k]? = some (decide ((k : Int) < ((order h).length : Int))) := by
  have hx := copy_valid hv
  have hl := copy_len hv
  refine ⟨by rw [liveL_len hx, hl], fun k hk => ?_⟩
  rw [live_at hx (by rw [hl]; exact hk), copy_order hv]
  congr 1
  apply bool_ext
  rw [decide_eq_true_eq, decide_eq_true_eq, upto_mem]
  omega
set_option maxRecDepth 100000 in
set_option maxHeartbeats 4000000 in
theorem lawCopyHeap_walk (w : World) (A : Option Addr) (n c : Nat) (h : Inp w A n c) :
    Calls Try.prog 3 #[.slice A n c] w (LawTrue w) := by
  by_cases hbig : 1048576 < n
  · go_enter Try.func3, Try.ntmps3
    go_wp2_with fail
    go_ret
    exact ⟨rfl, Below.refl _ _⟩
  go_enter Try.func3, Try.ntmps3
  go_wp2_with fail
  refine (drawCopyHeap_any _ _ _ _ h).mono ?_; rintro e w1 ⟨v, hp, rfl, HA, hb1⟩
  have BW1 : Below w.heap.size w w1 := (Below.refl w.heap.size w).trans (hb1.mono (Below.refl w.heap.size w).size)
  have zz1 := hb1.size
  have C := fun W v hW => implCopy_any W w.heap.size v hp hW
  have D := fun W v hW => specCopy_any W w.heap.size v hp hW
  have LC := fun W v hW => implLive_any W w.heap.size v hp hW
  have HAo := HA
  obtain ⟨A0, n0, c0, A1, n1, c1, A2, n2, c2, rfl, ⟨r0, r1, r2⟩, ⟨l0, l1, l2⟩, _⟩ := HAo.open_
  rcases ev : hvB hp
  · rw [ev] at C D
    have hcz : copyV hp = Hp.zero := by unfold copyV; rw [ev]; simp
    have hcw : whereV hp = [] := by unfold whereV; rw [ev]; simp
    clear r0 r1 r2
    rw [hcz, hcw] at C D
    clear hcz hcw
    have HS0 := fun W lo lo' v v' h1 h2 => implHeapSame_any W lo lo' v v' Hp.zero Hp.zero h1 h2
    have hss : sameB Hp.zero Hp.zero = true := (sameB_iff _ _).2 rfl
    rw [hss] at HS0
    clear hss
    go_wp2_with fail
    refine (C _ _ (HA.alloc (.cells #[.slice A0 n0 c0, .slice A1 n1 c1, .slice A2 n2 c2] 25))).mono ?_; rintro e w2 ⟨vC, AC, kC, rfl, HC, RC, NIC, hb2⟩
    have BW2 : Below w.heap.size w w2 := (BW1.alloc BW1.size (.cells #[.slice A0 n0 c0, .slice A1 n1 c1, .slice A2 n2 c2] 25)).trans (hb2.mono (BW1.alloc BW1.size (.cells #[.slice A0 n0 c0, .slice A1 n1 c1, .slice A2 n2 c2] 25)).size)
    have zz2 := hb2.size
    have HA_2 := Hv.below (by exact (HA.alloc (.cells #[.slice A0 n0 c0, .slice A1 n1 c1, .slice A2 n2 c2] 25))) hb2
    have X_2 := Blk3.below (by exact (Blk3.new w1 (.slice A0 n0 c0) (.slice A1 n1 c1) (.slice A2 n2 c2) 25)) hb2
    obtain ⟨cX_2_0, cX_2_1, cX_2_2, _⟩ := X_2.cells
    have lX_2 := X_2.lt
    obtain ⟨cA0, cn0, ck0, cA1, cn1, ck1, cA2, cn2, ck2, rfl, _⟩ := Hv.open_ HC
    go_wp2_with fail
    refine (D _ _ (HA_2.alloc (.cells #[.slice cA0 cn0 ck0, .slice cA1 cn1 ck1, .slice cA2 cn2 ck2] 25))).mono ?_; rintro e w3 ⟨vD, AD, kD, rfl, HD, RD, NID, hb3⟩
    have BW3 : Below w.heap.size w w3 := (BW2.alloc BW2.size (.cells #[.slice cA0 cn0 ck0, .slice cA1 cn1 ck1, .slice cA2 cn2 ck2] 25)).trans (hb3.mono (BW2.alloc BW2.size (.cells #[.slice cA0 cn0 ck0, .slice cA1 cn1 ck1, .slice cA2 cn2 ck2] 25)).size)
    have zz3 := hb3.size
    have HA_3 := Hv.below (by exact (HA_2.alloc (.cells #[.slice cA0 cn0 ck0, .slice cA1 cn1 ck1, .slice cA2 cn2 ck2] 25))) hb3
    have X_3 := Blk3.below (by exact (X_2.alloc (.cells #[.slice cA0 cn0 ck0, .slice cA1 cn1 ck1, .slice cA2 cn2 ck2] 25))) hb3
    obtain ⟨cX_3_0, cX_3_1, cX_3_2, _⟩ := X_3.cells
    have lX_3 := X_3.lt
    have HC_3 := Hv.below (by exact (HC.alloc (.cells #[.slice cA0 cn0 ck0, .slice cA1 cn1 ck1, .slice cA2 cn2 ck2] 25))) hb3
    have RC_3 := Row.below (by exact (RC.alloc (.cells #[.slice cA0 cn0 ck0, .slice cA1 cn1 ck1, .slice cA2 cn2 ck2] 25))) hb3
    have XC_3 := Blk3.below (by exact (Blk3.new w2 (.slice cA0 cn0 ck0) (.slice cA1 cn1 ck1) (.slice cA2 cn2 ck2) 25)) hb3
    obtain ⟨cXC_3_0, cXC_3_1, cXC_3_2, _⟩ := XC_3.cells
    have lXC_3 := XC_3.lt
    obtain ⟨dA0, dn0, dk0, dA1, dn1, dk1, dA2, dn2, dk2, rfl, _⟩ := Hv.open_ HD
    go_wp2_with fail
    refine (HS0 _ _ _ _ _ (HC_3.alloc (.cells #[.slice dA0 dn0 dk0, .slice dA1 dn1 dk1, .slice dA2 dn2 dk2] 25)) (HD.alloc (.cells #[.slice dA0 dn0 dk0, .slice dA1 dn1 dk1, .slice dA2 dn2 dk2] 25))).mono ?_; rintro e w4 ⟨rfl, hb4⟩
    have BW4 : Below w.heap.size w w4 := (BW3.alloc BW3.size (.cells #[.slice dA0 dn0 dk0, .slice dA1 dn1 dk1, .slice dA2 dn2 dk2] 25)).trans (hb4.mono (BW3.alloc BW3.size (.cells #[.slice dA0 dn0 dk0, .slice dA1 dn1 dk1, .slice dA2 dn2 dk2] 25)).size)
    have zz4 := hb4.size
    have HA_4 := Hv.below (by exact (HA_3.alloc (.cells #[.slice dA0 dn0 dk0, .slice dA1 dn1 dk1, .slice dA2 dn2 dk2] 25))) hb4
    have X_4 := Blk3.below (by exact (X_3.alloc (.cells #[.slice dA0 dn0 dk0, .slice dA1 dn1 dk1, .slice dA2 dn2 dk2] 25))) hb4
    obtain ⟨cX_4_0, cX_4_1, cX_4_2, _⟩ := X_4.cells
    have lX_4 := X_4.lt
    have HC_4 := Hv.below (by exact (HC_3.alloc (.cells #[.slice dA0 dn0 dk0, .slice dA1 dn1 dk1, .slice dA2 dn2 dk2] 25))) hb4
    have RC_4 := Row.below (by exact (RC_3.alloc (.cells #[.slice dA0 dn0 dk0, .slice dA1 dn1 dk1, .slice dA2 dn2 dk2] 25))) hb4
    have XC_4 := Blk3.below (by exact (XC_3.alloc (.cells #[.slice dA0 dn0 dk0, .slice dA1 dn1 dk1, .slice dA2 dn2 dk2] 25))) hb4
    obtain ⟨cXC_4_0, cXC_4_1, cXC_4_2, _⟩ := XC_4.cells
    have lXC_4 := XC_4.lt
    have HD_4 := Hv.below (by exact (HD.alloc (.cells #[.slice dA0 dn0 dk0, .slice dA1 dn1 dk1, .slice dA2 dn2 dk2] 25))) hb4
    have RD_4 := Row.below (by exact (RD.alloc (.cells #[.slice dA0 dn0 dk0, .slice dA1 dn1 dk1, .slice dA2 dn2 dk2] 25))) hb4
    have XD_4 := Blk3.below (by exact (Blk3.new w3 (.slice dA0 dn0 dk0) (.slice dA1 dn1 dk1) (.slice dA2 dn2 dk2) 25)) hb4
    obtain ⟨cXD_4_0, cXD_4_1, cXD_4_2, _⟩ := XD_4.cells
    have lXD_4 := XD_4.lt
    go_wp2_with fail
    refine (ccInts_sameO _ _ _ _ _ _ _ ([] : List Int) RC_4 RD_4).mono ?_; rintro e w5 ⟨rfl, hb5⟩
    have BW5 : Below w.heap.size w w5 := BW4.trans (hb5.mono BW4.size)
    have zz5 := hb5.size
    have HA_5 := Hv.below (by exact HA_4) hb5
    have X_5 := Blk3.below (by exact X_4) hb5
    obtain ⟨cX_5_0, cX_5_1, cX_5_2, _⟩ := X_5.cells
    have lX_5 := X_5.lt
    have HC_5 := Hv.below (by exact HC_4) hb5
    have RC_5 := Row.below (by exact RC_4) hb5
    have XC_5 := Blk3.below (by exact XC_4) hb5
    obtain ⟨cXC_5_0, cXC_5_1, cXC_5_2, _⟩ := XC_5.cells
    have lXC_5 := XC_5.lt
    have HD_5 := Hv.below (by exact HD_4) hb5
    have RD_5 := Row.below (by exact RD_4) hb5
    have XD_5 := Blk3.below (by exact XD_4) hb5
    obtain ⟨cXD_5_0, cXD_5_1, cXD_5_2, _⟩ := XD_5.cells
    have lXD_5 := XD_5.lt
    go_wp2_with fail
    refine (HS0 _ _ _ _ _ HC_5 HD_5).mono ?_; rintro e w6 ⟨rfl, hb6⟩
    have BW6 : Below w.heap.size w w6 := BW5.trans (hb6.mono BW5.size)
    have zz6 := hb6.size
    have HA_6 := Hv.below (by exact HA_5) hb6
    have X_6 := Blk3.below (by exact X_5) hb6
    obtain ⟨cX_6_0, cX_6_1, cX_6_2, _⟩ := X_6.cells
    have lX_6 := X_6.lt
    have HC_6 := Hv.below (by exact HC_5) hb6
    have RC_6 := Row.below (by exact RC_5) hb6
    have XC_6 := Blk3.below (by exact XC_5) hb6
    obtain ⟨cXC_6_0, cXC_6_1, cXC_6_2, _⟩ := XC_6.cells
    have lXC_6 := XC_6.lt
    have HD_6 := Hv.below (by exact HD_5) hb6
    have RD_6 := Row.below (by exact RD_5) hb6
    have XD_6 := Blk3.below (by exact XD_5) hb6
    obtain ⟨cXD_6_0, cXD_6_1, cXD_6_2, _⟩ := XD_6.cells
    have lXD_6 := XD_6.lt
    go_wp2_with fail
    refine (ccInts_sameO _ _ _ _ _ _ _ ([] : List Int) RC_6 RD_6).mono ?_; rintro e w7 ⟨rfl, hb7⟩
    have BW7 : Below w.heap.size w w7 := BW6.trans (hb7.mono BW6.size)
    have zz7 := hb7.size
    have HA_7 := Hv.below (by exact HA_6) hb7
    have X_7 := Blk3.below (by exact X_6) hb7
    obtain ⟨cX_7_0, cX_7_1, cX_7_2, _⟩ := X_7.cells
    have lX_7 := X_7.lt
    have HC_7 := Hv.below (by exact HC_6) hb7
    have RC_7 := Row.below (by exact RC_6) hb7
    have XC_7 := Blk3.below (by exact XC_6) hb7
    obtain ⟨cXC_7_0, cXC_7_1, cXC_7_2, _⟩ := XC_7.cells
    have lXC_7 := XC_7.lt
    have HD_7 := Hv.below (by exact HD_6) hb7
    have RD_7 := Row.below (by exact RD_6) hb7
    have XD_7 := Blk3.below (by exact XD_6) hb7
    obtain ⟨cXD_7_0, cXD_7_1, cXD_7_2, _⟩ := XD_7.cells
    have lXD_7 := XD_7.lt
    go_wp2_with fail
    go_ret
    exact ⟨rfl, BW7⟩
  · rw [ev] at C D
    have hcz : copyV hp = copyH hp := by unfold copyV; rw [if_pos ev]
    have hcw : whereV hp = whereL hp := by unfold whereV; rw [if_pos ev]
    rw [hcz, hcw] at C D
    clear hcz hcw
    obtain ⟨lv1, lv2⟩ := copy_live ev
    have hl0 := l0.out
    have h8 := hvB_len ev
    have hol := order_len ev
    obtain ⟨nl, hnl⟩ : ∃ nl, nl = hp.l.length := ⟨_, rfl⟩
    rw [← hnl] at lv1 lv2 h8 hol
    have RR := fun W lo v hW => implReach_any W lo v (copyH hp) hW
    have V := fun W lo v hW => implHeapValid_any W lo v (copyH hp) hW
    rw [copy_valid ev] at V
    have C2 := fun W lo v hW => implCopy_any W lo v (copyH hp) hW
    have hc2 : copyV (copyH hp) = copyH hp := by unfold copyV; rw [if_pos (copy_valid ev), copy_again ev]
    rw [hc2, copy_valid ev] at C2
    have AL := fun W lo lo2 v v2 h1 h2 => implAlike_any W lo lo2 v v2 hp (copyH hp) h1 h2
    rw [alike_ren (copy_ren ev)] at AL
    rw [cnt_order ev] at LC
    obtain ⟨m, hm⟩ : ∃ m, m = (order hp).length := ⟨_, rfl⟩
    rw [← hm] at LC lv2 hol
    generalize whereV (copyH hp) = w2s at C2
    generalize copyH hp = cx at C D RR V C2 AL lv1 lv2
    generalize whereL hp = ws at C D
    generalize liveL cx = ys at RR lv1 lv2
    have HYL := Lib.hid lv1
    have HYG := Lib.hid lv2
    clear ev hm hnl hl0 lv1 lv2 hc2 r0 r1 r2
    have HS0 := fun W lo lo' v v' h1 h2 => implHeapSame_any W lo lo' v v' cx cx h1 h2
    have hss : sameB cx cx = true := (sameB_iff _ _).2 rfl
    rw [hss] at HS0
    clear hss
    go_wp2_with fail
    refine (C _ _ (HA.alloc (.cells #[.slice A0 n0 c0, .slice A1 n1 c1, .slice A2 n2 c2] 25))).mono ?_; rintro e w2 ⟨vC, AC, kC, rfl, HC, RC, NIC, hb2⟩
    have BW2 : Below w.heap.size w w2 := (BW1.alloc BW1.size (.cells #[.slice A0 n0 c0, .slice A1 n1 c1, .slice A2 n2 c2] 25)).trans (hb2.mono (BW1.alloc BW1.size (.cells #[.slice A0 n0 c0, .slice A1 n1 c1, .slice A2 n2 c2] 25)).size)
    have zz2 := hb2.size
    have HA_2 := Hv.below (by exact (HA.alloc (.cells #[.slice A0 n0 c0, .slice A1 n1 c1, .slice A2 n2 c2] 25))) hb2
    have X_2 := Blk3.below (by exact (Blk3.new w1 (.slice A0 n0 c0) (.slice A1 n1 c1) (.slice A2 n2 c2) 25)) hb2
    obtain ⟨cX_2_0, cX_2_1, cX_2_2, _⟩ := X_2.cells
    have lX_2 := X_2.lt
    obtain ⟨cA0, cn0, ck0, cA1, cn1, ck1, cA2, cn2, ck2, rfl, _⟩ := Hv.open_ HC
    go_wp2_with fail
    refine (D _ _ (HA_2.alloc (.cells #[.slice cA0 cn0 ck0, .slice cA1 cn1 ck1, .slice cA2 cn2 ck2] 25))).mono ?_; rintro e w3 ⟨vD, AD, kD, rfl, HD, RD, NID, hb3⟩
    have BW3 : Below w.heap.size w w3 := (BW2.alloc BW2.size (.cells #[.slice cA0 cn0 ck0, .slice cA1 cn1 ck1, .slice cA2 cn2 ck2] 25)).trans (hb3.mono (BW2.alloc BW2.size (.cells #[.slice cA0 cn0 ck0, .slice cA1 cn1 ck1, .slice cA2 cn2 ck2] 25)).size)
    have zz3 := hb3.size
    have HA_3 := Hv.below (by exact (HA_2.alloc (.cells #[.slice cA0 cn0 ck0, .slice cA1 cn1 ck1, .slice cA2 cn2 ck2] 25))) hb3
    have X_3 := Blk3.below (by exact (X_2.alloc (.cells #[.slice cA0 cn0 ck0, .slice cA1 cn1 ck1, .slice cA2 cn2 ck2] 25))) hb3
    obtain ⟨cX_3_0, cX_3_1, cX_3_2, _⟩ := X_3.cells
    have lX_3 := X_3.lt
    have HC_3 := Hv.below (by exact (HC.alloc (.cells #[.slice cA0 cn0 ck0, .slice cA1 cn1 ck1, .slice cA2 cn2 ck2] 25))) hb3
    have RC_3 := Row.below (by exact (RC.alloc (.cells #[.slice cA0 cn0 ck0, .slice cA1 cn1 ck1, .slice cA2 cn2 ck2] 25))) hb3
    have XC_3 := Blk3.below (by exact (Blk3.new w2 (.slice cA0 cn0 ck0) (.slice cA1 cn1 ck1) (.slice cA2 cn2 ck2) 25)) hb3
    obtain ⟨cXC_3_0, cXC_3_1, cXC_3_2, _⟩ := XC_3.cells
    have lXC_3 := XC_3.lt
    obtain ⟨dA0, dn0, dk0, dA1, dn1, dk1, dA2, dn2, dk2, rfl, _⟩ := Hv.open_ HD
    go_wp2_with fail
    refine (HS0 _ _ _ _ _ (HC_3.alloc (.cells #[.slice dA0 dn0 dk0, .slice dA1 dn1 dk1, .slice dA2 dn2 dk2] 25)) (HD.alloc (.cells #[.slice dA0 dn0 dk0, .slice dA1 dn1 dk1, .slice dA2 dn2 dk2] 25))).mono ?_; rintro e w4 ⟨rfl, hb4⟩
    have BW4 : Below w.heap.size w w4 := (BW3.alloc BW3.size (.cells #[.slice dA0 dn0 dk0, .slice dA1 dn1 dk1, .slice dA2 dn2 dk2] 25)).trans (hb4.mono (BW3.alloc BW3.size (.cells #[.slice dA0 dn0 dk0, .slice dA1 dn1 dk1, .slice dA2 dn2 dk2] 25)).size)
    have zz4 := hb4.size
    have HA_4 := Hv.below (by exact (HA_3.alloc (.cells #[.slice dA0 dn0 dk0, .slice dA1 dn1 dk1, .slice dA2 dn2 dk2] 25))) hb4
    have X_4 := Blk3.below (by exact (X_3.alloc (.cells #[.slice dA0 dn0 dk0, .slice dA1 dn1 dk1, .slice dA2 dn2 dk2] 25))) hb4
    obtain ⟨cX_4_0, cX_4_1, cX_4_2, _⟩ := X_4.cells
    have lX_4 := X_4.lt
    have HC_4 := Hv.below (by exact (HC_3.alloc (.cells #[.slice dA0 dn0 dk0, .slice dA1 dn1 dk1, .slice dA2 dn2 dk2] 25))) hb4
    have RC_4 := Row.below (by exact (RC_3.alloc (.cells #[.slice dA0 dn0 dk0, .slice dA1 dn1 dk1, .slice dA2 dn2 dk2] 25))) hb4
    have XC_4 := Blk3.below (by exact (XC_3.alloc (.cells #[.slice dA0 dn0 dk0, .slice dA1 dn1 dk1, .slice dA2 dn2 dk2] 25))) hb4
    obtain ⟨cXC_4_0, cXC_4_1, cXC_4_2, _⟩ := XC_4.cells
    have lXC_4 := XC_4.lt
    have HD_4 := Hv.below (by exact (HD.alloc (.cells #[.slice dA0 dn0 dk0, .slice dA1 dn1 dk1, .slice dA2 dn2 dk2] 25))) hb4
    have RD_4 := Row.below (by exact (RD.alloc (.cells #[.slice dA0 dn0 dk0, .slice dA1 dn1 dk1, .slice dA2 dn2 dk2] 25))) hb4
    have XD_4 := Blk3.below (by exact (Blk3.new w3 (.slice dA0 dn0 dk0) (.slice dA1 dn1 dk1) (.slice dA2 dn2 dk2) 25)) hb4
    obtain ⟨cXD_4_0, cXD_4_1, cXD_4_2, _⟩ := XD_4.cells
    have lXD_4 := XD_4.lt
    go_wp2_with fail
    refine (ccInts_sameO _ _ _ _ _ _ _ ws RC_4 RD_4).mono ?_; rintro e w5 ⟨rfl, hb5⟩
    have BW5 : Below w.heap.size w w5 := BW4.trans (hb5.mono BW4.size)
    have zz5 := hb5.size
    have HA_5 := Hv.below (by exact HA_4) hb5
    have X_5 := Blk3.below (by exact X_4) hb5
    obtain ⟨cX_5_0, cX_5_1, cX_5_2, _⟩ := X_5.cells
    have lX_5 := X_5.lt
    have HC_5 := Hv.below (by exact HC_4) hb5
    have RC_5 := Row.below (by exact RC_4) hb5
    have XC_5 := Blk3.below (by exact XC_4) hb5
    obtain ⟨cXC_5_0, cXC_5_1, cXC_5_2, _⟩ := XC_5.cells
    have lXC_5 := XC_5.lt
    have HD_5 := Hv.below (by exact HD_4) hb5
    have RD_5 := Row.below (by exact RD_4) hb5
    have XD_5 := Blk3.below (by exact XD_4) hb5
    obtain ⟨cXD_5_0, cXD_5_1, cXD_5_2, _⟩ := XD_5.cells
    have lXD_5 := XD_5.lt
    clear NIC NID
    go_wp2_with fail
    refine (RR _ _ _ HC_5).mono ?_; rintro e w6 ⟨A6, k6, rfl, R6, hb6⟩
    have BW6 : Below w.heap.size w w6 := BW5.trans (hb6.mono BW5.size)
    have zz6 := hb6.size
    have HA_6 := Hv.below (by exact HA_5) hb6
    have X_6 := Blk3.below (by exact X_5) hb6
    obtain ⟨cX_6_0, cX_6_1, cX_6_2, _⟩ := X_6.cells
    have lX_6 := X_6.lt
    have HC_6 := Hv.below (by exact HC_5) hb6
    have RC_6 := Row.below (by exact RC_5) hb6
    have XC_6 := Blk3.below (by exact XC_5) hb6
    obtain ⟨cXC_6_0, cXC_6_1, cXC_6_2, _⟩ := XC_6.cells
    have lXC_6 := XC_6.lt
    rw [HYL.out] at R6 ⊢
    go_wp2_with fail
    refine (LC _ _ HA_6).mono ?_; rintro e w7 ⟨rfl, hb7⟩
    have BW7 : Below w.heap.size w w7 := BW6.trans (hb7.mono BW6.size)
    have zz7 := hb7.size
    have HA_7 := Hv.below (by exact HA_6) hb7
    have X_7 := Blk3.below (by exact X_6) hb7
    obtain ⟨cX_7_0, cX_7_1, cX_7_2, _⟩ := X_7.cells
    have lX_7 := X_7.lt
    have HC_7 := Hv.below (by exact HC_6) hb7
    have RC_7 := Row.below (by exact RC_6) hb7
    have XC_7 := Blk3.below (by exact XC_6) hb7
    obtain ⟨cXC_7_0, cXC_7_1, cXC_7_2, _⟩ := XC_7.cells
    have lXC_7 := XC_7.lt
    have R6_7 := RowB.below (by exact R6) hb7
    go_wp2_with fail
    go_loopw [12] (fun i wr => (∃ k : Nat, k ≤ nl ∧ i = .int .i64 k) ∧ ∃ nq, wr = w7.drewN nq) (fun i _ => nl - (intOf i).toNat)
    case atStart => exact ⟨⟨0, Nat.zero_le _, rfl⟩, 0, rfl⟩
    case round =>
      obtain ⟨⟨k, hk, rfl⟩, nq, rfl⟩ := hrel
      by_cases hlt : k < nl
      · obtain ⟨g1x, b, e1, _, _, hx, hcx, _⟩ := RowB.get R6_7 (k := k) (by rw [HYL.out]; exact hlt)
        cases e1
        have hbe := HYG.out k hlt
        rw [hx.out] at hbe
        by_cases hkm : (k : Int) < (m : Int)
        · obtain rfl : b = true := by simpa [hkm] using hbe
          have hd : decide ((k : Int) < (m : Int)) = true := by simpa using hkm
          clear hx hbe
          go_wp2_with fail
          go_roundw
          case rel => exact ⟨⟨k + 1, by omega, by go_num⟩, _, by first | rfl | (rw [World.drewN_drewN])⟩
          case measure => simp [intOf]; omega
        · obtain rfl : b = false := by simpa [hkm] using hbe
          have hd : decide ((k : Int) < (m : Int)) = false := by simpa using hkm
          clear hx hbe
          go_wp2_with fail
          go_roundw
          case rel => exact ⟨⟨k + 1, by omega, by go_num⟩, _, by first | rfl | (rw [World.drewN_drewN])⟩
          case measure => simp [intOf]; omega
      · obtain rfl : nl = k := by omega
        have hbq : Below w7.heap.size w7 (w7.drewN nq) := below_drewN (Below.refl _ _) nq
        generalize w7.drewN nq = wq at hbq ⊢
        have BW8 : Below w.heap.size w wq := BW7.trans (hbq.mono BW7.size)
        have zz8 := hbq.size
        have HA_8 := Hv.below (by exact HA_7) hbq
        have X_8 := Blk3.below (by exact X_7) hbq
        obtain ⟨cX_8_0, cX_8_1, cX_8_2, _⟩ := X_8.cells
        have lX_8 := X_8.lt
        have HC_8 := Hv.below (by exact HC_7) hbq
        have XC_8 := Blk3.below (by exact XC_7) hbq
        obtain ⟨cXC_8_0, cXC_8_1, cXC_8_2, _⟩ := XC_8.cells
        have lXC_8 := XC_8.lt
        go_wp2_with fail
        refine (C2 _ _ _ HC_8).mono ?_; rintro e w8 ⟨vZ, AZ, kZ, rfl, HZ, RZ, NIZ, hb8⟩
        have BW9 : Below w.heap.size w w8 := BW8.trans (hb8.mono BW8.size)
        have zz9 := hb8.size
        have HA_9 := Hv.below (by exact HA_8) hb8
        have X_9 := Blk3.below (by exact X_8) hb8
        obtain ⟨cX_9_0, cX_9_1, cX_9_2, _⟩ := X_9.cells
        have lX_9 := X_9.lt
        have HC_9 := Hv.below (by exact HC_8) hb8
        have XC_9 := Blk3.below (by exact XC_8) hb8
        obtain ⟨cXC_9_0, cXC_9_1, cXC_9_2, _⟩ := XC_9.cells
        have lXC_9 := XC_9.lt
        obtain ⟨zA0, zn0, zk0, zA1, zn1, zk1, zA2, zn2, zk2, rfl, _⟩ := Hv.open_ HZ
        go_wp2_with fail
        refine (V _ _ _ (HC_9.alloc (.cells #[.slice zA0 zn0 zk0, .slice zA1 zn1 zk1, .slice zA2 zn2 zk2] 25))).mono ?_; rintro e w9 ⟨rfl, hb9⟩
        have BW10 : Below w.heap.size w w9 := (BW9.alloc BW9.size (.cells #[.slice zA0 zn0 zk0, .slice zA1 zn1 zk1, .slice zA2 zn2 zk2] 25)).trans (hb9.mono (BW9.alloc BW9.size (.cells #[.slice zA0 zn0 zk0, .slice zA1 zn1 zk1, .slice zA2 zn2 zk2] 25)).size)
        have zz10 := hb9.size
        have HA_10 := Hv.below (by exact (HA_9.alloc (.cells #[.slice zA0 zn0 zk0, .slice zA1 zn1 zk1, .slice zA2 zn2 zk2] 25))) hb9
        have X_10 := Blk3.below (by exact (X_9.alloc (.cells #[.slice zA0 zn0 zk0, .slice zA1 zn1 zk1, .slice zA2 zn2 zk2] 25))) hb9
        obtain ⟨cX_10_0, cX_10_1, cX_10_2, _⟩ := X_10.cells
        have lX_10 := X_10.lt
        have HC_10 := Hv.below (by exact (HC_9.alloc (.cells #[.slice zA0 zn0 zk0, .slice zA1 zn1 zk1, .slice zA2 zn2 zk2] 25))) hb9
        have XC_10 := Blk3.below (by exact (XC_9.alloc (.cells #[.slice zA0 zn0 zk0, .slice zA1 zn1 zk1, .slice zA2 zn2 zk2] 25))) hb9
        obtain ⟨cXC_10_0, cXC_10_1, cXC_10_2, _⟩ := XC_10.cells
        have lXC_10 := XC_10.lt
        have HZ_10 := Hv.below (by exact (HZ.alloc (.cells #[.slice zA0 zn0 zk0, .slice zA1 zn1 zk1, .slice zA2 zn2 zk2] 25))) hb9
        have RZ_10 := Row.below (by exact (RZ.alloc (.cells #[.slice zA0 zn0 zk0, .slice zA1 zn1 zk1, .slice zA2 zn2 zk2] 25))) hb9
        have XZ_10 := Blk3.below (by exact (Blk3.new w8 (.slice zA0 zn0 zk0) (.slice zA1 zn1 zk1) (.slice zA2 zn2 zk2) 25)) hb9
        obtain ⟨cXZ_10_0, cXZ_10_1, cXZ_10_2, _⟩ := XZ_10.cells
        have lXZ_10 := XZ_10.lt
        go_wp2_with fail
        refine (AL _ _ _ _ _ HA_10 HC_10).mono ?_; rintro e w10 ⟨rfl, hb10⟩
        have BW11 : Below w.heap.size w w10 := BW10.trans (hb10.mono BW10.size)
        have zz11 := hb10.size
        have HA_11 := Hv.below (by exact HA_10) hb10
        have X_11 := Blk3.below (by exact X_10) hb10
        obtain ⟨cX_11_0, cX_11_1, cX_11_2, _⟩ := X_11.cells
        have lX_11 := X_11.lt
        have HC_11 := Hv.below (by exact HC_10) hb10
        have XC_11 := Blk3.below (by exact XC_10) hb10
        obtain ⟨cXC_11_0, cXC_11_1, cXC_11_2, _⟩ := XC_11.cells
        have lXC_11 := XC_11.lt
        have HZ_11 := Hv.below (by exact HZ_10) hb10
        have RZ_11 := Row.below (by exact RZ_10) hb10
        have XZ_11 := Blk3.below (by exact XZ_10) hb10
        obtain ⟨cXZ_11_0, cXZ_11_1, cXZ_11_2, _⟩ := XZ_11.cells
        have lXZ_11 := XZ_11.lt
        go_wp2_with fail
        refine (HS0 _ _ _ _ _ HZ_11 HC_11).mono ?_; rintro e w11 ⟨rfl, hb11⟩
        have BW12 : Below w.heap.size w w11 := BW11.trans (hb11.mono BW11.size)
        have zz12 := hb11.size
        have HA_12 := Hv.below (by exact HA_11) hb11
        have X_12 := Blk3.below (by exact X_11) hb11
        obtain ⟨cX_12_0, cX_12_1, cX_12_2, _⟩ := X_12.cells
        have lX_12 := X_12.lt
        have HC_12 := Hv.below (by exact HC_11) hb11
        have XC_12 := Blk3.below (by exact XC_11) hb11
        obtain ⟨cXC_12_0, cXC_12_1, cXC_12_2, _⟩ := XC_12.cells
        have lXC_12 := XC_12.lt
        have HZ_12 := Hv.below (by exact HZ_11) hb11
        have RZ_12 := Row.below (by exact RZ_11) hb11
        have XZ_12 := Blk3.below (by exact XZ_11) hb11
        obtain ⟨cXZ_12_0, cXZ_12_1, cXZ_12_2, _⟩ := XZ_12.cells
        have lXZ_12 := XZ_12.lt
        go_wp2_with fail
        go_ret
        exact ⟨rfl, BW12⟩
end Go.Proofs.Ytgooohapdjgmpaa
