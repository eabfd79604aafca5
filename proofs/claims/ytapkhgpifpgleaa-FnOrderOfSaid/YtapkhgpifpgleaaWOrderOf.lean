/- The law FnOrderOf, walked. -/
import Derived.Test.YtapkhgpifpgleaaDOrd
import Derived.Test.YtapkhgpifpgleaaOrdW
import Derived.Test.YtapkhgpifpgleaaCc
import Derived.Test.YtapkhgpifpgleaaDstO
import Derived.Test.YtapkhgpifpgleaaLives
import Derived.Test.YtapkhgpifpgleaaLaws0
namespace Go.Proofs.Ytapkhgpifpgleaa
open Go.RowKit

theorem row_maxO {w : World} {lo n c : Nat} {A : Option Addr} {xs : List Int} (h : Row w lo (.slice A n c) xs) : xs.length ≤ 9223372036854775807 := by
  obtain ⟨A', c', _, h1, h2⟩ := h.form
  unfold maxLen at h2; omega
theorem ccInts_sameO (w : World) (lo lo' : Nat) (A A' : Option Addr) (c c' : Nat) (xs : List Int) (h : Row w lo (.slice A xs.length c) xs) (h' : Row w lo' (.slice A' xs.length c') xs) :
    Calls Try.prog 32 #[.slice A xs.length c, .slice A' xs.length c'] w (RetB w true) :=
  (ccInts_any w lo lo' A A' xs.length c xs.length c' xs xs h rfl (row_maxO h) h' rfl (row_maxO h')).mono fun _ _ ⟨he, nq, hw⟩ => ⟨by rw [he]; simp, by rw [hw]; exact below_drewN (Below.refl _ _) _⟩

theorem order_seen {h : Hp} (hv : hvB h = true) {k : Nat} {c : Int} (hc : (order h)[k]? = some c) : ∃ j : Nat, c = j ∧ j < h.l.length ∧ (liveL h)[j]? = some true ∧ (j : Int) ∉ (order h).take k := by
  have hm := List.mem_of_getElem? hc
  have hb := order_cell hv hm
  obtain ⟨j, rfl⟩ : ∃ j : Nat, c = j := ⟨c.toNat, by omega⟩
  refine ⟨j, rfl, by omega, by rw [live_at hv (by omega)]; simp [hm], ?_⟩
  intro h9
  obtain ⟨q, hq, he⟩ := List.getElem_of_mem h9
  have hq' : q < k := by rw [List.length_take] at hq; omega
  rw [List.getElem_take] at he
  obtain ⟨hk3, ek⟩ := List.getElem?_eq_some_iff.1 hc
  exact (List.pairwise_iff_getElem.1 (order_nodup hv)) q k (by omega) hk3 hq' (he.trans ek.symm)
theorem Row.cellAtO {w : World} {lo g n c : Nat} {xs : List Int} {k : Nat} {x : Int} (h : Row w lo (.slice (some ⟨g, 0, none⟩) n c) xs) (hx : xs[k]? = some x) : w.cell? ⟨g, k, none⟩ = some (.int .i64 x) := by
  obtain ⟨g', y, e, _, _, hy, hc, _⟩ := h.get (k := k) ((List.getElem?_eq_some_iff.1 hx).1)
  obtain rfl : g = g' := by simpa using e
  have := hy.out; rw [hx] at this
  rw [hc]; simp at this; rw [this]
theorem order_dst {h : Hp} (hv : hvB h = true) {c : Int} (hc : c ∈ order h) : dstN h c = gd (dist h h.t) c := by
  have h1 := (ord_live hv (hv_roots hv) (x := c)).1 (by rw [← order_eq hv]; exact hc)
  have hb := order_cell hv hc
  unfold dstN
  have : dokB h c = true := by
    unfold dokB; rw [hv]
    simp [plB, h1.2]; omega
  rw [if_pos this]
theorem order_up {h : Hp} (hv : hvB h = true) {k : Nat} {x y : Int} (hx : (order h)[k]? = some x) (hy : (order h)[k + 1]? = some y) : ¬ (dstN h y < dstN h x) := by
  have hs := ord_sorted hv (hv_roots hv)
  rw [← order_eq hv] at hs
  rw [order_dst hv (List.mem_of_getElem? hx), order_dst hv (List.mem_of_getElem? hy)]
  obtain ⟨h1, e1⟩ := List.getElem?_eq_some_iff.1 hx
  obtain ⟨h2, e2⟩ := List.getElem?_eq_some_iff.1 hy
  have := (List.pairwise_iff_getElem.1 hs) k (k + 1) h1 h2 (by omega)
  rw [e1, e2] at this
  omega
set_option maxRecDepth 100000 in
set_option maxHeartbeats 4000000 in
theorem lawOrderOf_walk (w : World) (A : Option Addr) (n c : Nat) (h : Inp w A n c) :
    Calls Try.prog 11 #[.slice A n c] w (LawTrue w) := by
  by_cases hbig : 1048576 < n
  · go_enter Try.func11, Try.ntmps11
    go_wp2_with fail
    go_ret
    exact ⟨rfl, Below.refl _ _⟩
  go_enter Try.func11, Try.ntmps11
  go_wp2_with fail
  refine (drawOrderOf_any _ _ _ _ h).mono ?_; rintro e w1 ⟨v, hp, rfl, HA, hb1⟩
  have BW1 : Below w.heap.size w w1 := (Below.refl w.heap.size w).trans (hb1.mono (Below.refl w.heap.size w).size)
  have zz1 := hb1.size
  have I := fun W v hW => implOrder_any W w.heap.size v hp hW
  have S := fun W v hW => specOrder_any W w.heap.size v hp hW
  have V := fun W v hW => implHeapValid_any W w.heap.size v hp hW
  have RR := fun W lo v hW => implReach_any W lo v hp hW
  have LC := fun W lo v hW => implLive_any W lo v hp hW
  have DO := fun W lo v hW c hwf => implDst_any W lo v hp hW c hwf
  have HAo := HA
  obtain ⟨A0, n0, c0, A1, n1, c1, A2, n2, c2, rfl, ⟨r0, r1, r2⟩, ⟨l0, l1, l2⟩, _⟩ := HAo.open_
  rcases ev : hvB hp
  · rw [ev] at V
    have hxs : order hp = [] := by unfold order; rw [ev]; simp
    rw [hxs] at I S
    clear ev hxs RR LC DO
    go_wp2_with fail
    refine (I _ _ (HA.alloc (.cells #[.slice A0 n0 c0, .slice A1 n1 c1, .slice A2 n2 c2] 27))).mono ?_; rintro e w2 ⟨AR2, kR2, rfl, R2, hb2⟩
    have BW2 : Below w.heap.size w w2 := (BW1.alloc BW1.size (.cells #[.slice A0 n0 c0, .slice A1 n1 c1, .slice A2 n2 c2] 27)).trans (hb2.mono (BW1.alloc BW1.size (.cells #[.slice A0 n0 c0, .slice A1 n1 c1, .slice A2 n2 c2] 27)).size)
    have zz2 := hb2.size
    have HA_2 := Hv.below (by exact (HA.alloc (.cells #[.slice A0 n0 c0, .slice A1 n1 c1, .slice A2 n2 c2] 27))) hb2
    have X_2 := Blk3.below (by exact (Blk3.new w1 (.slice A0 n0 c0) (.slice A1 n1 c1) (.slice A2 n2 c2) 27)) hb2
    obtain ⟨cX_2_0, cX_2_1, cX_2_2, _⟩ := X_2.cells
    have lX_2 := X_2.lt
    go_wp2_with fail
    refine (S _ _ HA_2).mono ?_; rintro e w3 ⟨AR3, kR3, rfl, R3, hb3⟩
    have BW3 : Below w.heap.size w w3 := BW2.trans (hb3.mono BW2.size)
    have zz3 := hb3.size
    have HA_3 := Hv.below (by exact HA_2) hb3
    have X_3 := Blk3.below (by exact X_2) hb3
    obtain ⟨cX_3_0, cX_3_1, cX_3_2, _⟩ := X_3.cells
    have lX_3 := X_3.lt
    have R2_3 := Row.below (by exact R2) hb3
    go_wp2_with fail
    refine (ccInts_sameO _ _ _ _ _ _ _ [] R2_3 R3).mono ?_; rintro e w4 ⟨rfl, hb4⟩
    have BW4 : Below w.heap.size w w4 := BW3.trans (hb4.mono BW3.size)
    have zz4 := hb4.size
    have HA_4 := Hv.below (by exact HA_3) hb4
    have X_4 := Blk3.below (by exact X_3) hb4
    obtain ⟨cX_4_0, cX_4_1, cX_4_2, _⟩ := X_4.cells
    have lX_4 := X_4.lt
    have R2_4 := Row.below (by exact R2_3) hb4
    have R3_4 := Row.below (by exact R3) hb4
    go_wp2_with fail
    refine (V _ _ HA_4).mono ?_; rintro e w5 ⟨rfl, hb5⟩
    have BW5 : Below w.heap.size w w5 := BW4.trans (hb5.mono BW4.size)
    have zz5 := hb5.size
    have HA_5 := Hv.below (by exact HA_4) hb5
    have X_5 := Blk3.below (by exact X_4) hb5
    obtain ⟨cX_5_0, cX_5_1, cX_5_2, _⟩ := X_5.cells
    have lX_5 := X_5.lt
    have R2_5 := Row.below (by exact R2_4) hb5
    go_wp2_with fail
    refine (S _ _ HA_5).mono ?_; rintro e w6 ⟨AR6, kR6, rfl, R6, hb6⟩
    have BW6 : Below w.heap.size w w6 := BW5.trans (hb6.mono BW5.size)
    have zz6 := hb6.size
    have HA_6 := Hv.below (by exact HA_5) hb6
    have X_6 := Blk3.below (by exact X_5) hb6
    obtain ⟨cX_6_0, cX_6_1, cX_6_2, _⟩ := X_6.cells
    have lX_6 := X_6.lt
    have R2_6 := Row.below (by exact R2_5) hb6
    go_wp2_with fail
    refine (ccInts_sameO _ _ _ _ _ _ _ [] R2_6 R6).mono ?_; rintro e w7 ⟨rfl, hb7⟩
    have BW7 : Below w.heap.size w w7 := BW6.trans (hb7.mono BW6.size)
    have zz7 := hb7.size
    have HA_7 := Hv.below (by exact HA_6) hb7
    have X_7 := Blk3.below (by exact X_6) hb7
    obtain ⟨cX_7_0, cX_7_1, cX_7_2, _⟩ := X_7.cells
    have lX_7 := X_7.lt
    have R2_7 := Row.below (by exact R2_6) hb7
    have R6_7 := Row.below (by exact R6) hb7
    go_wp2_with fail
    go_ret
    exact ⟨rfl, BW7⟩
  · rw [ev] at V
    have F1 := Lib.hid (fun k c (hc : (order hp)[k]? = some c) => order_seen ev hc)
    have F2 := Lib.hid (fun k x y (hx : (order hp)[k]? = some x) (hy : (order hp)[k + 1]? = some y) => order_up ev hx hy)
    have hl0 := l0.out
    have fb := order_len ev
    have h8 := hvB_len ev
    rw [hl0] at fb h8
    rw [hl0] at F1
    have hyl := liveL_len ev
    rw [hl0] at hyl
    rw [cnt_order ev] at LC
    obtain ⟨i0, hi, hz0, hz1, hz2⟩ := info_parts Try.infoBool
    obtain ⟨m, hm⟩ : ∃ m, m = (order hp).length := ⟨_, rfl⟩
    rw [← hm] at LC fb
    have HGL : Hid ((order hp).length = m) := hm.symm
    generalize order hp = gs at I S F1 F2 HGL
    generalize liveL hp = ys at RR F1 hyl
    generalize dstN hp = dd at DO F2
    generalize dokB hp = dk at DO
    have HYL := Lib.hid hyl
    clear ev hm hl0 hyl r0 r1 r2
    go_wp2_with fail
    refine (I _ _ (HA.alloc (.cells #[.slice A0 n0 c0, .slice A1 n1 c1, .slice A2 n2 c2] 27))).mono ?_; rintro e w2 ⟨AR2, kR2, rfl, R2, hb2⟩
    have BW2 : Below w.heap.size w w2 := (BW1.alloc BW1.size (.cells #[.slice A0 n0 c0, .slice A1 n1 c1, .slice A2 n2 c2] 27)).trans (hb2.mono (BW1.alloc BW1.size (.cells #[.slice A0 n0 c0, .slice A1 n1 c1, .slice A2 n2 c2] 27)).size)
    have zz2 := hb2.size
    have HA_2 := Hv.below (by exact (HA.alloc (.cells #[.slice A0 n0 c0, .slice A1 n1 c1, .slice A2 n2 c2] 27))) hb2
    have X_2 := Blk3.below (by exact (Blk3.new w1 (.slice A0 n0 c0) (.slice A1 n1 c1) (.slice A2 n2 c2) 27)) hb2
    obtain ⟨cX_2_0, cX_2_1, cX_2_2, _⟩ := X_2.cells
    have lX_2 := X_2.lt
    go_wp2_with fail
    refine (S _ _ HA_2).mono ?_; rintro e w3 ⟨AR3, kR3, rfl, R3, hb3⟩
    have BW3 : Below w.heap.size w w3 := BW2.trans (hb3.mono BW2.size)
    have zz3 := hb3.size
    have HA_3 := Hv.below (by exact HA_2) hb3
    have X_3 := Blk3.below (by exact X_2) hb3
    obtain ⟨cX_3_0, cX_3_1, cX_3_2, _⟩ := X_3.cells
    have lX_3 := X_3.lt
    have R2_3 := Row.below (by exact R2) hb3
    go_wp2_with fail
    refine (ccInts_sameO _ _ _ _ _ _ _ _ R2_3 R3).mono ?_; rintro e w4 ⟨rfl, hb4⟩
    have BW4 : Below w.heap.size w w4 := BW3.trans (hb4.mono BW3.size)
    have zz4 := hb4.size
    have HA_4 := Hv.below (by exact HA_3) hb4
    have X_4 := Blk3.below (by exact X_3) hb4
    obtain ⟨cX_4_0, cX_4_1, cX_4_2, _⟩ := X_4.cells
    have lX_4 := X_4.lt
    have R2_4 := Row.below (by exact R2_3) hb4
    have R3_4 := Row.below (by exact R3) hb4
    rw [HGL.out] at R2_4 ⊢
    go_wp2_with fail
    refine (V _ _ HA_4).mono ?_; rintro e w5 ⟨rfl, hb5⟩
    have BW5 : Below w.heap.size w w5 := BW4.trans (hb5.mono BW4.size)
    have zz5 := hb5.size
    have HA_5 := Hv.below (by exact HA_4) hb5
    have X_5 := Blk3.below (by exact X_4) hb5
    obtain ⟨cX_5_0, cX_5_1, cX_5_2, _⟩ := X_5.cells
    have lX_5 := X_5.lt
    have R2_5 := Row.below (by exact R2_4) hb5
    go_wp2_with fail
    refine (RR _ _ _ HA_5).mono ?_; rintro e w6 ⟨A6, k6, rfl, R6, hb6⟩
    have BW6 : Below w.heap.size w w6 := BW5.trans (hb6.mono BW5.size)
    have zz6 := hb6.size
    have HA_6 := Hv.below (by exact HA_5) hb6
    have X_6 := Blk3.below (by exact X_5) hb6
    obtain ⟨cX_6_0, cX_6_1, cX_6_2, _⟩ := X_6.cells
    have lX_6 := X_6.lt
    have R2_6 := Row.below (by exact R2_5) hb6
    rw [HYL.out] at R6 ⊢
    go_wp2_with (at_make; refine wpList_make_full _ rfl _ _ 50 rfl w6.heap.size 4 i0 (.bool false) 1 Try.underlying50 hi hz0 hz1 _ _ _ _ n0 rfl rfl rfl rfl ?b2 ?b3 (Nat.le_refl _) ?_)
    case b2 => rw [hz2]; omega
    case b3 => unfold maxLen; omega
    intro w7 hown7 hgrow7
    rw [mc_bool] at hown7
    have RS0 : RowB w7 w6.heap.size (.slice (some ⟨w6.heap.size, 0, none⟩) n0 n0) (markL n0 []) := by rw [markL_nil]; unfold RowB; simpa using hown7
    have hb7 : Below w6.heap.size w6 w7 := (Below.refl _ _).grown hgrow7 (Nat.le_refl _) (fun k h => by cases h)
    clear hown7 hgrow7 hz0 hz1 hz2
    go_wp2_with fail
    go_loopw [7] (fun i wr => ∃ k : Nat, k ≤ m ∧ i = .int .i64 k ∧ RowB wr w6.heap.size (.slice (some ⟨w6.heap.size, 0, none⟩) n0 n0) (markL n0 (gs.take k)) ∧ Below w6.heap.size w6 wr ∧ w6.heap.size < wr.heap.size) (fun i _ => m - (intOf i).toNat)
    case atStart => exact ⟨0, Nat.zero_le _, rfl, RS0, hb7, (RS0.lt w6.heap.size rfl).2⟩
    case round =>
      clear RS0
      obtain ⟨k, hk, rfl, RS, hbr, zwr⟩ := hrel
      have P2o := R2_6
      have P2 := Row.below (by exact R2_6) hbr
      have P6 := RowB.below (by exact R6) hbr
      have PA := Hv.below (by exact HA_6) hbr
      have PX := Blk3.below (by exact X_6) hbr
      have BR := BW6.trans (hbr.mono BW6.size)
      obtain ⟨px0, px1, px2, _⟩ := PX.cells
      have lPX := PX.lt
      by_cases hlt : k < m
      · obtain ⟨go, x, ego, _, hgo, hx, hcx, _⟩ := P2.get (k := k) (by rw [HGL.out]; exact hlt)
        obtain ⟨j, rfl, hj, hlj, hnj⟩ := F1.out k x hx.out
        obtain ⟨gr, b, egr, _, _, hb, hcb, _⟩ := P6.get (k := j) (by rw [HYL.out]; exact hj)
        obtain rfl : b = true := by have h9 := hb.out; rw [hlj] at h9; simpa using h9.symm
        obtain ⟨gq, d, egq, _, _, hd, hcd, hfd⟩ := RS.get (k := j) (by rw [markL_len]; exact hj)
        obtain rfl : d = false := by have h9 := hd.out; rw [markL_at hj] at h9; simp at h9; simpa [hnj] using h9.symm
        cases egq
        have RS1 := RS.set_ j true
        rw [markL_set, ← take_snoc hx.out] at RS1
        subst ego egr
        have hgo2 : go < w6.heap.size := (P2o.lt go rfl).2
        have hgo3 : w6.heap.size ≠ go := by omega
        have DOx := fun W lo v hW => DO W lo v hW (j : Int) (wfI (by omega))
        have hb9 : Below w6.heap.size w6 (wr.setCell ⟨w6.heap.size, j, none⟩ (bv true)) := hbr.setCell (p := ⟨w6.heap.size, j, none⟩) (Nat.le_refl _) _
        have PX9 := Blk3.below (by exact X_6) hb9
        have PA9 := Hv.below (by exact HA_6) hb9
        obtain ⟨qx0, qx1, qx2, _⟩ := PX9.cells
        have hcx9 : (wr.setCell ⟨w6.heap.size, j, none⟩ (bv true)).cell? ⟨go, k, none⟩ = some (.int .i64 j) := (World.cell?_setCell_far _ _ _ _ (by exact hgo3)).trans hcx
        have z9 : w6.heap.size < (wr.setCell ⟨w6.heap.size, j, none⟩ (bv true)).heap.size := (RS1.lt _ rfl).2
        have hgo9 : go < (wr.setCell ⟨w6.heap.size, j, none⟩ (bv true)).heap.size := Nat.lt_trans hgo2 z9
        clear hb hd hlj hnj RS PX px0 px1 px2 lPX
        go_wp2_with fail
        generalize hW9 : wr.setCell ⟨w6.heap.size, j, none⟩ (.bool true) = w9 at *
        clear hW9 hcx hcb hcd hfd P2 P6 PA BR hbr
        go_region_held3 (fun w' => w'.cell? ⟨w1.heap.size, 0, none⟩ = some (.slice A0 n0 c0) ∧ w'.cell? ⟨w1.heap.size, 1, none⟩ = some (.slice A1 n1 c1) ∧ w'.cell? ⟨w1.heap.size, 2, none⟩ = some (.slice A2 n2 c2) ∧ w'.cell? ⟨go, k, none⟩ = some (.int .i64 j))
          (((try dsimp only); (repeat' apply And.intro) <;> (first | ((repeat (with_reducible (first | exact qx0 | exact qx1 | exact qx2 | exact hcx9 | exact ry0 | exact ry1 | exact ry2 | exact hcx10 | refine cellD ?_))); done))))
          (first
            | (go_at_call 36; (with_reducible refine (DOx _ _ _ (Hv.drew PA9)).mono ?_); rintro e w10 ⟨rfl, hb10⟩; (have hb10' : Below w9.heap.size w9 w10 := (Below.refl _ _).drew.trans hb10); (have PX10 := PX9.below hb10'); obtain ⟨ry0, ry1, ry2, _⟩ := PX10.cells; (have hcx10 : w10.cell? ⟨go, k, none⟩ = some (.int .i64 j) := (hb10'.cell (p := ⟨go, k, none⟩) hgo9).trans hcx9)))
        rename_i hHeld
        clear hHeld
        have RS10 := RowB.below (by exact RS1) hb10'
        have hb11 : Below w6.heap.size w6 w10 := hb9.trans (hb10'.mono (Nat.le_of_lt z9))
        have z10 : w6.heap.size < w10.heap.size := Nat.lt_of_lt_of_le z9 hb10'.size
        have PA10 := Hv.below (by exact PA9) hb10'
        clear RS1 PX9 PA9 qx0 qx1 qx2 hcx9 hb9 DOx hb10
        rcases k with _ | k
        · have k00 : ¬ ((0 : Int) < ((0 : Nat) : Int)) := by omega
          clear hx
          go_wp2_with fail
          go_roundw
          case rel => exact ⟨1, by omega, by go_num, RS10, hb11, z10⟩
          case measure => simp [intOf]; omega
        · obtain ⟨go', x', ego', _, _, hx', _, _⟩ := P2o.get (k := k) (by rw [HGL.out]; omega)
          cases ego'
          have hup := F2.out k x' _ hx'.out hx.out
          obtain ⟨j', rfl, hj', _, _⟩ := F1.out k x' hx'.out
          have hcz : w10.cell? ⟨go, k, none⟩ = some (.int .i64 j') := (hb11.cell (p := ⟨go, k, none⟩) hgo2).trans (Row.cellAtO P2o hx'.out)
          have DOy := fun W lo v hW => DO W lo v hW (j' : Int) (wfI (by omega))
          have hk1 : (((k + 1 : Nat) : Int) - 1) = (k : Int) := by omega
          have hk2 : (0 : Int) < ((k + 1 : Nat) : Int) := by omega
          generalize dd (j : Int) = da at hup ⊢
          generalize dd (j' : Int) = db at hup DOy
          generalize dk (j' : Int) = dkb at DOy
          clear hx hx'
          have hw1 : IntKind.i64.wrap (((k : Int) + 1) - 1) = (k : Int) := by rw [show ((k : Int) + 1) - 1 = (k : Int) by omega]; exact IntWalk.i64_in _ (by omega)
          have hw2 : IntKind.i64.wrap (((k + 1 : Nat) : Int) - 1) = (k : Int) := by rw [hk1]; exact IntWalk.i64_in _ (by omega)
          have hw3 : IntKind.i64.wrap (k : Int) = (k : Int) := IntWalk.i64_in _ (by omega)
          have hkm : k < m := by omega
          have hgo10 : go < w10.heap.size := Nat.lt_trans hgo2 z10
          go_wp2_with fail
          go_region_held3 (fun w' => w'.cell? ⟨w1.heap.size, 0, none⟩ = some (.slice A0 n0 c0) ∧ w'.cell? ⟨w1.heap.size, 1, none⟩ = some (.slice A1 n1 c1) ∧ w'.cell? ⟨w1.heap.size, 2, none⟩ = some (.slice A2 n2 c2) ∧ w'.cell? ⟨go, k, none⟩ = some (.int .i64 j'))
            (((try dsimp only); (repeat' apply And.intro) <;> (first | ((repeat (with_reducible (first | exact ry0 | exact ry1 | exact ry2 | exact hcz | exact sy0 | exact sy1 | exact sy2 | exact hcz11 | refine cellD ?_))); done))))
            (first
              | (go_at_call 36; (with_reducible refine (DOy _ _ _ (Hv.drew PA10)).mono ?_); rintro e w11 ⟨rfl, hb11x⟩; (have hb11' : Below w10.heap.size w10 w11 := (Below.refl _ _).drew.trans hb11x); (have PX11 := PX10.below hb11'); obtain ⟨sy0, sy1, sy2, _⟩ := PX11.cells; (have hcz11 : w11.cell? ⟨go, k, none⟩ = some (.int .i64 j') := (hb11'.cell (p := ⟨go, k, none⟩) hgo10).trans hcz)))
          rename_i hHeld
          clear hHeld
          have RS11 := RowB.below (by exact RS10) hb11'
          have hb12 : Below w6.heap.size w6 w11 := hb11.trans (hb11'.mono (Nat.le_of_lt z10))
          have z11 : w6.heap.size < w11.heap.size := Nat.lt_of_lt_of_le z10 hb11'.size
          clear PX10 PX11 RS10
          go_wp2_with fail
          go_roundw
          case rel => exact ⟨k + 1 + 1, by omega, by go_num, RS11, hb12, z11⟩
          case measure => simp [intOf]; omega
      · obtain rfl : m = k := by omega
        clear P6 RS
        go_wp2_with fail
        refine (LC _ _ _ PA).mono ?_; rintro e w12 ⟨rfl, hb12⟩
        go_wp2_with fail
        go_ret
        exact ⟨ret_bool (by simp), BR.trans (hb12.mono BR.size)⟩
end Go.Proofs.Ytapkhgpifpgleaa
