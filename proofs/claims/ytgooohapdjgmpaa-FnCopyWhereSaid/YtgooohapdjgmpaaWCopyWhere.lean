/- The law FnCopyWhere, walked. -/
import Derived.Test.YtgooohapdjgmpaaDCopyH
import Derived.Test.YtgooohapdjgmpaaCopyT
import Derived.Test.YtgooohapdjgmpaaCc
import Derived.Test.YtgooohapdjgmpaaOrdW
import Derived.Test.YtgooohapdjgmpaaLaws0
namespace Go.Proofs.Ytgooohapdjgmpaa
open Go.RowKit

theorem row_maxO {w : World} {lo n c : Nat} {A : Option Addr} {xs : List Int} (h : Row w lo (.slice A n c) xs) : xs.length ≤ 9223372036854775807 := by
  obtain ⟨A', c', _, h1, h2⟩ := h.form
  unfold maxLen at h2; omega
theorem ccInts_sameO (w : World) (lo lo' : Nat) (A A' : Option Addr) (c c' : Nat) (xs : List Int) (h : Row w lo (.slice A xs.length c) xs) (h' : Row w lo' (.slice A' xs.length c') xs) :
    Calls Try.prog 16 #[.slice A xs.length c, .slice A' xs.length c'] w (RetB w true) :=
  (ccInts_any w lo lo' A A' xs.length c xs.length c' xs xs h rfl (row_maxO h) h' rfl (row_maxO h')).mono fun _ _ ⟨he, nq, hw⟩ => ⟨by rw [he]; simp, by rw [hw]; exact below_drewN (Below.refl _ _) _⟩
theorem Hv.rows3 {w : World} {lo : Nat} {v0 v1 v2 : Value} {h : Hp} (hv : Hv w lo (.agg #[v0, v1, v2]) h) : Row w lo v0 h.l ∧ Row w lo v1 h.r ∧ Row w lo v2 h.t := by
  obtain ⟨u0, u1, u2, e, r0, r1, r2, _⟩ := hv
  simp at e
  obtain ⟨rfl, rfl, rfl⟩ := e
  exact ⟨r0, r1, r2⟩
theorem where_facts {h : Hp} (hv : hvB h = true) {k : Nat} {lx rx : Int} (hk : k < h.l.length) (hlx : h.l[k]? = some lx) (hrx : h.r[k]? = some rx) :
    ((liveL h)[k]? = some false ∧ (whereL h)[k]? = some (-1)) ∨ ((liveL h)[k]? = some true ∧ ∃ q : Nat, q < h.l.length ∧ (whereL h)[k]? = some (q : Int) ∧ (lx ≠ -1 → ∃ lj : Nat, lx = lj ∧ lj < h.l.length ∧ (whereL h)[lj]? = (copyH h).l[q]?) ∧ (rx = -1 → (copyH h).r[q]? = some (-1))) := by
  have hw : ∀ j : Nat, j < h.l.length → (whereL h)[j]? = some (at_ (order h) (j : Int)) := fun j hj => by
    unfold whereL
    rw [List.getElem?_map, List.getElem?_range hj]; rfl
  rw [live_at hv hk, hw k hk]
  by_cases hm : (k : Int) ∈ order h
  · right
    obtain ⟨q, e, g, hq⟩ := at_mem hm
    have hol := order_len hv
    rw [e]
    have hcl : (copyH h).l[q]? = some (ren (at_ (order h)) (gd h.l (k : Int))) := by
      show (cpL (order h) h.l h.l.length)[q]? = _
      unfold cpL
      rw [List.getElem?_append_left (by rw [shL_len]; exact hq), shL_get g]
    have hcr : (copyH h).r[q]? = some (ren (at_ (order h)) (gd h.r (k : Int))) := by
      show (cpL (order h) h.r h.l.length)[q]? = _
      unfold cpL
      rw [List.getElem?_append_left (by rw [shL_len]; exact hq), shL_get g]
    rw [gdx_some hlx] at hcl
    rw [gdx_some hrx] at hcr
    refine ⟨by simp [hm], q, by omega, rfl, fun hne => ?_, fun e9 => ?_⟩
    · have hin := order_closed hv hm (.inl (gdx_some hlx).symm) hne
      have hb := order_cell hv hin
      obtain ⟨lj, rfl⟩ : ∃ lj : Nat, lx = lj := ⟨lx.toNat, by omega⟩
      refine ⟨lj, rfl, by omega, ?_⟩
      rw [hw lj (by omega), hcl, ren_ne hne]
    · subst e9
      rw [hcr]; simp [ren_no]
  · left
    rw [at_not hm]
    exact ⟨by simp [hm], rfl⟩
set_option maxRecDepth 100000 in
set_option maxHeartbeats 4000000 in
theorem lawCopyWhere_walk (w : World) (A : Option Addr) (n c : Nat) (h : Inp w A n c) :
    Calls Try.prog 4 #[.slice A n c] w (LawTrue w) := by
  by_cases hbig : 1048576 < n
  · go_enter Try.func4, Try.ntmps4
    go_wp2_with fail
    go_ret
    exact ⟨rfl, Below.refl _ _⟩
  go_enter Try.func4, Try.ntmps4
  go_wp2_with fail
  refine (drawCopyHeap_any _ _ _ _ h).mono ?_; rintro e w1 ⟨v, hp, rfl, HA, hb1⟩
  have BW1 : Below w.heap.size w w1 := (Below.refl w.heap.size w).trans (hb1.mono (Below.refl w.heap.size w).size)
  have zz1 := hb1.size
  have C := fun W v hW => implCopy_any W w.heap.size v hp hW
  have D := fun W v hW => specCopy_any W w.heap.size v hp hW
  have HAo := HA
  obtain ⟨A0, n0, c0, A1, n1, c1, A2, n2, c2, rfl, ⟨r0, r1, r2⟩, ⟨l0, l1, l2⟩, _⟩ := HAo.open_
  rcases ev : hvB hp
  · rw [ev] at C D
    have hcz : copyV hp = Hp.zero := by unfold copyV; rw [ev]; simp
    have hcw : whereV hp = [] := by unfold whereV; rw [ev]; simp
    clear r0 r1 r2
    rw [hcz, hcw] at C D
    clear hcz hcw
    have HS0 := fun W lo lo' v v' h1 h2 => implHeapSame_any W lo lo' v v' Hp.zero Hp.zero h1 h2
    have hss : sameB Hp.zero Hp.zero = true := (sameB_iff _ _).2 rfl
    rw [hss] at HS0
    clear hss
    go_wp2_with fail
    refine (C _ _ (HA.alloc (.cells #[.slice A0 n0 c0, .slice A1 n1 c1, .slice A2 n2 c2] 25))).mono ?_; rintro e w2 ⟨vC, AC, kC, rfl, HC, RC, NIC, hb2⟩
    have BW2 : Below w.heap.size w w2 := (BW1.alloc BW1.size (.cells #[.slice A0 n0 c0, .slice A1 n1 c1, .slice A2 n2 c2] 25)).trans (hb2.mono (BW1.alloc BW1.size (.cells #[.slice A0 n0 c0, .slice A1 n1 c1, .slice A2 n2 c2] 25)).size)
    have zz2 := hb2.size
    have HA_2 := Hv.below (by exact (HA.alloc (.cells #[.slice A0 n0 c0, .slice A1 n1 c1, .slice A2 n2 c2] 25))) hb2
    have X_2 := Blk3.below (by exact (Blk3.new w1 (.slice A0 n0 c0) (.slice A1 n1 c1) (.slice A2 n2 c2) 25)) hb2
    obtain ⟨cX_2_0, cX_2_1, cX_2_2, _⟩ := X_2.cells
    have lX_2 := X_2.lt
    obtain ⟨cA0, cn0, ck0, cA1, cn1, ck1, cA2, cn2, ck2, rfl, _⟩ := Hv.open_ HC
    go_wp2_with fail
    refine (D _ _ (HA_2.alloc (.cells #[.slice cA0 cn0 ck0, .slice cA1 cn1 ck1, .slice cA2 cn2 ck2] 25))).mono ?_; rintro e w3 ⟨vD, AD, kD, rfl, HD, RD, NID, hb3⟩
    have BW3 : Below w.heap.size w w3 := (BW2.alloc BW2.size (.cells #[.slice cA0 cn0 ck0, .slice cA1 cn1 ck1, .slice cA2 cn2 ck2] 25)).trans (hb3.mono (BW2.alloc BW2.size (.cells #[.slice cA0 cn0 ck0, .slice cA1 cn1 ck1, .slice cA2 cn2 ck2] 25)).size)
    have zz3 := hb3.size
    have HA_3 := Hv.below (by exact (HA_2.alloc (.cells #[.slice cA0 cn0 ck0, .slice cA1 cn1 ck1, .slice cA2 cn2 ck2] 25))) hb3
    have X_3 := Blk3.below (by exact (X_2.alloc (.cells #[.slice cA0 cn0 ck0, .slice cA1 cn1 ck1, .slice cA2 cn2 ck2] 25))) hb3
    obtain ⟨cX_3_0, cX_3_1, cX_3_2, _⟩ := X_3.cells
    have lX_3 := X_3.lt
    have HC_3 := Hv.below (by exact (HC.alloc (.cells #[.slice cA0 cn0 ck0, .slice cA1 cn1 ck1, .slice cA2 cn2 ck2] 25))) hb3
    have RC_3 := Row.below (by exact (RC.alloc (.cells #[.slice cA0 cn0 ck0, .slice cA1 cn1 ck1, .slice cA2 cn2 ck2] 25))) hb3
    have XC_3 := Blk3.below (by exact (Blk3.new w2 (.slice cA0 cn0 ck0) (.slice cA1 cn1 ck1) (.slice cA2 cn2 ck2) 25)) hb3
    obtain ⟨cXC_3_0, cXC_3_1, cXC_3_2, _⟩ := XC_3.cells
    have lXC_3 := XC_3.lt
    obtain ⟨dA0, dn0, dk0, dA1, dn1, dk1, dA2, dn2, dk2, rfl, _⟩ := Hv.open_ HD
    go_wp2_with fail
    refine (HS0 _ _ _ _ _ (HC_3.alloc (.cells #[.slice dA0 dn0 dk0, .slice dA1 dn1 dk1, .slice dA2 dn2 dk2] 25)) (HD.alloc (.cells #[.slice dA0 dn0 dk0, .slice dA1 dn1 dk1, .slice dA2 dn2 dk2] 25))).mono ?_; rintro e w4 ⟨rfl, hb4⟩
    have BW4 : Below w.heap.size w w4 := (BW3.alloc BW3.size (.cells #[.slice dA0 dn0 dk0, .slice dA1 dn1 dk1, .slice dA2 dn2 dk2] 25)).trans (hb4.mono (BW3.alloc BW3.size (.cells #[.slice dA0 dn0 dk0, .slice dA1 dn1 dk1, .slice dA2 dn2 dk2] 25)).size)
    have zz4 := hb4.size
    have HA_4 := Hv.below (by exact (HA_3.alloc (.cells #[.slice dA0 dn0 dk0, .slice dA1 dn1 dk1, .slice dA2 dn2 dk2] 25))) hb4
    have X_4 := Blk3.below (by exact (X_3.alloc (.cells #[.slice dA0 dn0 dk0, .slice dA1 dn1 dk1, .slice dA2 dn2 dk2] 25))) hb4
    obtain ⟨cX_4_0, cX_4_1, cX_4_2, _⟩ := X_4.cells
    have lX_4 := X_4.lt
    have HC_4 := Hv.below (by exact (HC_3.alloc (.cells #[.slice dA0 dn0 dk0, .slice dA1 dn1 dk1, .slice dA2 dn2 dk2] 25))) hb4
    have RC_4 := Row.below (by exact (RC_3.alloc (.cells #[.slice dA0 dn0 dk0, .slice dA1 dn1 dk1, .slice dA2 dn2 dk2] 25))) hb4
    have XC_4 := Blk3.below (by exact (XC_3.alloc (.cells #[.slice dA0 dn0 dk0, .slice dA1 dn1 dk1, .slice dA2 dn2 dk2] 25))) hb4
    obtain ⟨cXC_4_0, cXC_4_1, cXC_4_2, _⟩ := XC_4.cells
    have lXC_4 := XC_4.lt
    have HD_4 := Hv.below (by exact (HD.alloc (.cells #[.slice dA0 dn0 dk0, .slice dA1 dn1 dk1, .slice dA2 dn2 dk2] 25))) hb4
    have RD_4 := Row.below (by exact (RD.alloc (.cells #[.slice dA0 dn0 dk0, .slice dA1 dn1 dk1, .slice dA2 dn2 dk2] 25))) hb4
    have XD_4 := Blk3.below (by exact (Blk3.new w3 (.slice dA0 dn0 dk0) (.slice dA1 dn1 dk1) (.slice dA2 dn2 dk2) 25)) hb4
    obtain ⟨cXD_4_0, cXD_4_1, cXD_4_2, _⟩ := XD_4.cells
    have lXD_4 := XD_4.lt
    go_wp2_with fail
    refine (ccInts_sameO _ _ _ _ _ _ _ ([] : List Int) RC_4 RD_4).mono ?_; rintro e w5 ⟨rfl, hb5⟩
    have BW5 : Below w.heap.size w w5 := BW4.trans (hb5.mono BW4.size)
    have zz5 := hb5.size
    have HA_5 := Hv.below (by exact HA_4) hb5
    have X_5 := Blk3.below (by exact X_4) hb5
    obtain ⟨cX_5_0, cX_5_1, cX_5_2, _⟩ := X_5.cells
    have lX_5 := X_5.lt
    have HC_5 := Hv.below (by exact HC_4) hb5
    have RC_5 := Row.below (by exact RC_4) hb5
    have XC_5 := Blk3.below (by exact XC_4) hb5
    obtain ⟨cXC_5_0, cXC_5_1, cXC_5_2, _⟩ := XC_5.cells
    have lXC_5 := XC_5.lt
    have HD_5 := Hv.below (by exact HD_4) hb5
    have RD_5 := Row.below (by exact RD_4) hb5
    have XD_5 := Blk3.below (by exact XD_4) hb5
    obtain ⟨cXD_5_0, cXD_5_1, cXD_5_2, _⟩ := XD_5.cells
    have lXD_5 := XD_5.lt
    go_wp2_with fail
    refine (HS0 _ _ _ _ _ HC_5 HD_5).mono ?_; rintro e w6 ⟨rfl, hb6⟩
    have BW6 : Below w.heap.size w w6 := BW5.trans (hb6.mono BW5.size)
    have zz6 := hb6.size
    have HA_6 := Hv.below (by exact HA_5) hb6
    have X_6 := Blk3.below (by exact X_5) hb6
    obtain ⟨cX_6_0, cX_6_1, cX_6_2, _⟩ := X_6.cells
    have lX_6 := X_6.lt
    have HC_6 := Hv.below (by exact HC_5) hb6
    have RC_6 := Row.below (by exact RC_5) hb6
    have XC_6 := Blk3.below (by exact XC_5) hb6
    obtain ⟨cXC_6_0, cXC_6_1, cXC_6_2, _⟩ := XC_6.cells
    have lXC_6 := XC_6.lt
    have HD_6 := Hv.below (by exact HD_5) hb6
    have RD_6 := Row.below (by exact RD_5) hb6
    have XD_6 := Blk3.below (by exact XD_5) hb6
    obtain ⟨cXD_6_0, cXD_6_1, cXD_6_2, _⟩ := XD_6.cells
    have lXD_6 := XD_6.lt
    go_wp2_with fail
    refine (ccInts_sameO _ _ _ _ _ _ _ ([] : List Int) RC_6 RD_6).mono ?_; rintro e w7 ⟨rfl, hb7⟩
    have BW7 : Below w.heap.size w w7 := BW6.trans (hb7.mono BW6.size)
    have zz7 := hb7.size
    have HA_7 := Hv.below (by exact HA_6) hb7
    have X_7 := Blk3.below (by exact X_6) hb7
    obtain ⟨cX_7_0, cX_7_1, cX_7_2, _⟩ := X_7.cells
    have lX_7 := X_7.lt
    have HC_7 := Hv.below (by exact HC_6) hb7
    have RC_7 := Row.below (by exact RC_6) hb7
    have XC_7 := Blk3.below (by exact XC_6) hb7
    obtain ⟨cXC_7_0, cXC_7_1, cXC_7_2, _⟩ := XC_7.cells
    have lXC_7 := XC_7.lt
    have HD_7 := Hv.below (by exact HD_6) hb7
    have RD_7 := Row.below (by exact RD_6) hb7
    have XD_7 := Blk3.below (by exact XD_6) hb7
    obtain ⟨cXD_7_0, cXD_7_1, cXD_7_2, _⟩ := XD_7.cells
    have lXD_7 := XD_7.lt
    go_wp2_with fail
    go_ret
    exact ⟨rfl, BW7⟩
  · rw [ev] at C D
    have hcz : copyV hp = copyH hp := by unfold copyV; rw [if_pos ev]
    have hcw : whereV hp = whereL hp := by unfold whereV; rw [if_pos ev]
    rw [hcz, hcw] at C D
    clear hcz hcw
    have HF0 := Lib.hid (fun k lx rx (hk : k < hp.l.length) (hlx : hp.l[k]? = some lx) (hrx : hp.r[k]? = some rx) => where_facts ev hk hlx hrx)
    have h8 := hvB_len ev
    have wl9 := where_len hp
    have cl9 : (copyH hp).l.length = hp.l.length := copy_len ev
    have cr9 : (copyH hp).r.length = hp.l.length := cpL_len (order_len ev)
    have yl9 := liveL_len ev
    obtain ⟨nl, hnl⟩ : ∃ nl, nl = hp.l.length := ⟨_, rfl⟩
    have hnr : hp.r.length = nl := by omega
    rw [← hnl] at HF0 h8 wl9 cl9 cr9 yl9
    have HNL : Hid (hp.l.length = nl) := hnl.symm
    have HNR : Hid (hp.r.length = nl) := hnr
    have RR := fun W lo v hW => implReach_any W lo v hp hW
    generalize copyH hp = cx at C D HF0 cl9 cr9
    generalize whereL hp = ws at C D HF0 wl9
    generalize liveL hp = ys at RR HF0 yl9
    have HF := HF0
    have HWL := Lib.hid wl9
    have HC0 := Lib.hid cl9
    have HC1 := Lib.hid cr9
    have HYL := Lib.hid yl9
    have n8 : nl ≤ 8 := by omega
    clear ev HF0 hnl hnr h8 wl9 cl9 cr9 yl9 r0 r1 r2
    have HS0 := fun W lo lo' v v' h1 h2 => implHeapSame_any W lo lo' v v' cx cx h1 h2
    have hss : sameB cx cx = true := (sameB_iff _ _).2 rfl
    rw [hss] at HS0
    clear hss
    go_wp2_with fail
    refine (C _ _ (HA.alloc (.cells #[.slice A0 n0 c0, .slice A1 n1 c1, .slice A2 n2 c2] 25))).mono ?_; rintro e w2 ⟨vC, AC, kC, rfl, HC, RC, NIC, hb2⟩
    have BW2 : Below w.heap.size w w2 := (BW1.alloc BW1.size (.cells #[.slice A0 n0 c0, .slice A1 n1 c1, .slice A2 n2 c2] 25)).trans (hb2.mono (BW1.alloc BW1.size (.cells #[.slice A0 n0 c0, .slice A1 n1 c1, .slice A2 n2 c2] 25)).size)
    have zz2 := hb2.size
    have HA_2 := Hv.below (by exact (HA.alloc (.cells #[.slice A0 n0 c0, .slice A1 n1 c1, .slice A2 n2 c2] 25))) hb2
    have X_2 := Blk3.below (by exact (Blk3.new w1 (.slice A0 n0 c0) (.slice A1 n1 c1) (.slice A2 n2 c2) 25)) hb2
    obtain ⟨cX_2_0, cX_2_1, cX_2_2, _⟩ := X_2.cells
    have lX_2 := X_2.lt
    obtain ⟨cA0, cn0, ck0, cA1, cn1, ck1, cA2, cn2, ck2, rfl, _⟩ := Hv.open_ HC
    go_wp2_with fail
    refine (D _ _ (HA_2.alloc (.cells #[.slice cA0 cn0 ck0, .slice cA1 cn1 ck1, .slice cA2 cn2 ck2] 25))).mono ?_; rintro e w3 ⟨vD, AD, kD, rfl, HD, RD, NID, hb3⟩
    have BW3 : Below w.heap.size w w3 := (BW2.alloc BW2.size (.cells #[.slice cA0 cn0 ck0, .slice cA1 cn1 ck1, .slice cA2 cn2 ck2] 25)).trans (hb3.mono (BW2.alloc BW2.size (.cells #[.slice cA0 cn0 ck0, .slice cA1 cn1 ck1, .slice cA2 cn2 ck2] 25)).size)
    have zz3 := hb3.size
    have HA_3 := Hv.below (by exact (HA_2.alloc (.cells #[.slice cA0 cn0 ck0, .slice cA1 cn1 ck1, .slice cA2 cn2 ck2] 25))) hb3
    have X_3 := Blk3.below (by exact (X_2.alloc (.cells #[.slice cA0 cn0 ck0, .slice cA1 cn1 ck1, .slice cA2 cn2 ck2] 25))) hb3
    obtain ⟨cX_3_0, cX_3_1, cX_3_2, _⟩ := X_3.cells
    have lX_3 := X_3.lt
    have HC_3 := Hv.below (by exact (HC.alloc (.cells #[.slice cA0 cn0 ck0, .slice cA1 cn1 ck1, .slice cA2 cn2 ck2] 25))) hb3
    have RC_3 := Row.below (by exact (RC.alloc (.cells #[.slice cA0 cn0 ck0, .slice cA1 cn1 ck1, .slice cA2 cn2 ck2] 25))) hb3
    have XC_3 := Blk3.below (by exact (Blk3.new w2 (.slice cA0 cn0 ck0) (.slice cA1 cn1 ck1) (.slice cA2 cn2 ck2) 25)) hb3
    obtain ⟨cXC_3_0, cXC_3_1, cXC_3_2, _⟩ := XC_3.cells
    have lXC_3 := XC_3.lt
    obtain ⟨dA0, dn0, dk0, dA1, dn1, dk1, dA2, dn2, dk2, rfl, _⟩ := Hv.open_ HD
    go_wp2_with fail
    refine (HS0 _ _ _ _ _ (HC_3.alloc (.cells #[.slice dA0 dn0 dk0, .slice dA1 dn1 dk1, .slice dA2 dn2 dk2] 25)) (HD.alloc (.cells #[.slice dA0 dn0 dk0, .slice dA1 dn1 dk1, .slice dA2 dn2 dk2] 25))).mono ?_; rintro e w4 ⟨rfl, hb4⟩
    have BW4 : Below w.heap.size w w4 := (BW3.alloc BW3.size (.cells #[.slice dA0 dn0 dk0, .slice dA1 dn1 dk1, .slice dA2 dn2 dk2] 25)).trans (hb4.mono (BW3.alloc BW3.size (.cells #[.slice dA0 dn0 dk0, .slice dA1 dn1 dk1, .slice dA2 dn2 dk2] 25)).size)
    have zz4 := hb4.size
    have HA_4 := Hv.below (by exact (HA_3.alloc (.cells #[.slice dA0 dn0 dk0, .slice dA1 dn1 dk1, .slice dA2 dn2 dk2] 25))) hb4
    have X_4 := Blk3.below (by exact (X_3.alloc (.cells #[.slice dA0 dn0 dk0, .slice dA1 dn1 dk1, .slice dA2 dn2 dk2] 25))) hb4
    obtain ⟨cX_4_0, cX_4_1, cX_4_2, _⟩ := X_4.cells
    have lX_4 := X_4.lt
    have HC_4 := Hv.below (by exact (HC_3.alloc (.cells #[.slice dA0 dn0 dk0, .slice dA1 dn1 dk1, .slice dA2 dn2 dk2] 25))) hb4
    have RC_4 := Row.below (by exact (RC_3.alloc (.cells #[.slice dA0 dn0 dk0, .slice dA1 dn1 dk1, .slice dA2 dn2 dk2] 25))) hb4
    have XC_4 := Blk3.below (by exact (XC_3.alloc (.cells #[.slice dA0 dn0 dk0, .slice dA1 dn1 dk1, .slice dA2 dn2 dk2] 25))) hb4
    obtain ⟨cXC_4_0, cXC_4_1, cXC_4_2, _⟩ := XC_4.cells
    have lXC_4 := XC_4.lt
    have HD_4 := Hv.below (by exact (HD.alloc (.cells #[.slice dA0 dn0 dk0, .slice dA1 dn1 dk1, .slice dA2 dn2 dk2] 25))) hb4
    have RD_4 := Row.below (by exact (RD.alloc (.cells #[.slice dA0 dn0 dk0, .slice dA1 dn1 dk1, .slice dA2 dn2 dk2] 25))) hb4
    have XD_4 := Blk3.below (by exact (Blk3.new w3 (.slice dA0 dn0 dk0) (.slice dA1 dn1 dk1) (.slice dA2 dn2 dk2) 25)) hb4
    obtain ⟨cXD_4_0, cXD_4_1, cXD_4_2, _⟩ := XD_4.cells
    have lXD_4 := XD_4.lt
    go_wp2_with fail
    refine (ccInts_sameO _ _ _ _ _ _ _ ws RC_4 RD_4).mono ?_; rintro e w5 ⟨rfl, hb5⟩
    have BW5 : Below w.heap.size w w5 := BW4.trans (hb5.mono BW4.size)
    have zz5 := hb5.size
    have HA_5 := Hv.below (by exact HA_4) hb5
    have X_5 := Blk3.below (by exact X_4) hb5
    obtain ⟨cX_5_0, cX_5_1, cX_5_2, _⟩ := X_5.cells
    have lX_5 := X_5.lt
    have HC_5 := Hv.below (by exact HC_4) hb5
    have RC_5 := Row.below (by exact RC_4) hb5
    have XC_5 := Blk3.below (by exact XC_4) hb5
    obtain ⟨cXC_5_0, cXC_5_1, cXC_5_2, _⟩ := XC_5.cells
    have lXC_5 := XC_5.lt
    have HD_5 := Hv.below (by exact HD_4) hb5
    have RD_5 := Row.below (by exact RD_4) hb5
    have XD_5 := Blk3.below (by exact XD_4) hb5
    obtain ⟨cXD_5_0, cXD_5_1, cXD_5_2, _⟩ := XD_5.cells
    have lXD_5 := XD_5.lt
    clear NIC NID
    rw [HWL.out] at RC_5 ⊢
    go_wp2_with fail
    refine (RR _ _ _ HA_5).mono ?_; rintro e w6 ⟨A6, k6, rfl, R6, hb6⟩
    have BW6 : Below w.heap.size w w6 := BW5.trans (hb6.mono BW5.size)
    have zz6 := hb6.size
    have HA_6 := Hv.below (by exact HA_5) hb6
    have X_6 := Blk3.below (by exact X_5) hb6
    obtain ⟨cX_6_0, cX_6_1, cX_6_2, _⟩ := X_6.cells
    have lX_6 := X_6.lt
    have HC_6 := Hv.below (by exact HC_5) hb6
    have RC_6 := Row.below (by exact RC_5) hb6
    have XC_6 := Blk3.below (by exact XC_5) hb6
    obtain ⟨cXC_6_0, cXC_6_1, cXC_6_2, _⟩ := XC_6.cells
    have lXC_6 := XC_6.lt
    rw [HYL.out] at R6 ⊢
    obtain ⟨hr0, hr1, _⟩ := Hv.rows3 HA_6
    obtain ⟨xr0, xr1, _⟩ := Hv.rows3 HC_6
    have cl0 := HC0.out
    have cl1 := HC1.out
    have xl0 : cn0 = nl := by obtain ⟨_, _, e9, _⟩ := xr0.form; cases e9; exact cl0
    have xl1 : cn1 = nl := by obtain ⟨_, _, e9, _⟩ := xr1.form; cases e9; exact cl1
    have hl0 : n0 = nl := by have h8 := l0.out; have h9 := HNL.out; omega
    have hl1 : n1 = nl := by have h8 := l1.out; have h9 := HNR.out; omega
    clear cl0 cl1
    go_wp2_with fail
    go_loopw [11] (fun i wr => (∃ k : Nat, k ≤ nl ∧ i = .int .i64 k) ∧ ∃ nq, wr = w6.drewN nq) (fun i _ => nl - (intOf i).toNat)
    case atStart => exact ⟨⟨0, Nat.zero_le _, rfl⟩, 0, rfl⟩
    case round =>
      obtain ⟨⟨k, hk, rfl⟩, nq, rfl⟩ := hrel
      by_cases hlt : k < nl
      · obtain ⟨g1x, b, e1, _, _, hx, hcx, _⟩ := RowB.get R6 (k := k) (by rw [HYL.out]; exact hlt)
        cases e1
        obtain ⟨g2x, y, e2, _, _, hy, hcy, _⟩ := Row.get RC_6 (k := k) (by rw [HWL.out]; exact hlt)
        cases e2
        obtain ⟨g3x, lx, e3, _, _, hlx, hclx, _⟩ := Row.get hr0 (k := k) (by rw [HNL.out]; exact hlt)
        cases e3
        obtain ⟨g4x, rx, e4, _, _, hrx, hcrx, _⟩ := Row.get hr1 (k := k) (by rw [HNR.out]; exact hlt)
        cases e4
        have kn0 : k < n0 := by omega
        have kn1 : k < n1 := by omega
        have FK := HF.out k lx rx hlt hlx.out hrx.out
        rw [hx.out, hy.out] at FK
        rcases FK with ⟨fb, fy⟩ | ⟨fb, q, fq, fy, fl, fr⟩
        · obtain rfl : b = false := by simpa using fb
          obtain rfl : y = -1 := by simpa using fy
          clear hx hy hlx hrx fb fy
          go_wp2_with fail
          go_quiet (fail)
          go_wp2_with fail
          go_quiet (fail)
          go_wp2_with fail
          go_quiet (fail)
          go_wp2_with fail
          go_roundw
          case rel => exact ⟨⟨k + 1, by omega, by go_num⟩, _, by first | rfl | (rw [World.drewN_drewN])⟩
          case measure => simp [intOf]; omega
        · obtain rfl : b = true := by simpa using fb
          obtain rfl : y = (q : Int) := by simpa using fy
          have hqne : ((q : Int) != -1) = true := by simp
          obtain ⟨g5x, zl, e5, _, _, hzl, hczl, _⟩ := Row.get xr0 (k := q) (by rw [HC0.out]; exact fq)
          cases e5
          obtain ⟨g6x, zr, e6, _, _, hzr, hczr, _⟩ := Row.get xr1 (k := q) (by rw [HC1.out]; exact fq)
          cases e6
          have q0 : q < cn0 := by omega
          have q1 : q < cn1 := by omega
          rw [hzl.out] at fl
          rw [hzr.out] at fr
          have frr : rx = -1 → zr = -1 := fun e => by have := fr e; simpa using this
          by_cases hl1 : lx = -1
          · subst hl1
            by_cases hr2 : rx = -1
            · subst hr2
              obtain rfl : zr = -1 := frr rfl
              clear hx hy hlx hrx fb fy fl fr hzl hzr frr
              go_wp2_with fail
              go_quiet (fail)
              go_wp2_with fail
              go_quiet (fail)
              go_wp2_with fail
              go_quiet (fail)
              go_wp2_with fail
              go_roundw
              case rel => exact ⟨⟨k + 1, by omega, by go_num⟩, _, by first | rfl | (rw [World.drewN_drewN])⟩
              case measure => simp [intOf]; omega
            · have hr3 : (rx == -1) = false := by simpa using hr2
              clear hx hy hlx hrx fb fy fl fr hzl hzr frr hr2
              go_wp2_with fail
              go_quiet (fail)
              go_wp2_with fail
              go_quiet (fail)
              go_wp2_with fail
              go_quiet (fail)
              go_wp2_with fail
              go_roundw
              case rel => exact ⟨⟨k + 1, by omega, by go_num⟩, _, by first | rfl | (rw [World.drewN_drewN])⟩
              case measure => simp [intOf]; omega
          · have hl3 : (lx != -1) = true := by simpa using hl1
            obtain ⟨lj, rfl, hlj, hwj⟩ := fl hl1
            obtain ⟨g7x, wj, e7, _, _, hwx, hcwx, _⟩ := Row.get RC_6 (k := lj) (by rw [HWL.out]; exact hlj)
            cases e7
            obtain rfl : zl = wj := by have h9 := hwx.out; rw [hwj] at h9; simpa using h9
            have hzz : (zl != zl) = false := by simp
            by_cases hr2 : rx = -1
            · subst hr2
              obtain rfl : zr = -1 := frr rfl
              clear hx hy hlx hrx fb fy fl fr hzl hzr frr hwx hwj hl1
              go_wp2_with fail
              go_quiet (fail)
              go_wp2_with fail
              go_quiet (fail)
              go_wp2_with fail
              go_quiet (fail)
              go_wp2_with fail
              go_roundw
              case rel => exact ⟨⟨k + 1, by omega, by go_num⟩, _, by first | rfl | (rw [World.drewN_drewN])⟩
              case measure => simp [intOf]; omega
            · have hr3 : (rx == -1) = false := by simpa using hr2
              clear hx hy hlx hrx fb fy fl fr hzl hzr frr hr2 hwx hwj hl1
              go_wp2_with fail
              go_quiet (fail)
              go_wp2_with fail
              go_quiet (fail)
              go_wp2_with fail
              go_quiet (fail)
              go_wp2_with fail
              go_roundw
              case rel => exact ⟨⟨k + 1, by omega, by go_num⟩, _, by first | rfl | (rw [World.drewN_drewN])⟩
              case measure => simp [intOf]; omega
      · obtain rfl : nl = k := by omega
        go_wp2_with fail
        go_ret
        exact ⟨rfl, below_drewN BW6 _⟩
end Go.Proofs.Ytgooohapdjgmpaa
