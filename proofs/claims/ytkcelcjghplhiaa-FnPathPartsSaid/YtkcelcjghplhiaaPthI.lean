/- PathTo of impl. -/
import Derived.Test.YtkcelcjghplhiaaFirst
import Derived.Test.YtkcelcjghplhiaaDstO
namespace Go.Proofs.Ytkcelcjghplhiaa
open Go.RowKit Go.Maps

/-- A row of numbers and a Bool come back. -/
def NewRowOk (w : World) (xs : List Int) (b : Bool) (e : Ending) (w' : World) : Prop := ∃ A c, e = .returned (.tuple #[.slice A xs.length c, .bool b]) ∧ Row w' w.heap.size (.slice A xs.length c) xs ∧ Below w.heap.size w w'
def pthL (h : Hp) (c : Int) : List Int := if dokB h c = true then wayL h (dist h h.t) (gd (dist h h.t) c).toNat c else []
structure PInv (h : Hp) (N : Nat) (c : Int) (p : Nat) (cur : Int) (pl : List Int) : Prop where
  lt : p < N
  len : pl.length = N
  way : wayL h (dist h h.t) N c = wayL h (dist h h.t) (p + 1) cur ++ pl.drop (p + 1)
  pos : 0 ≤ cur
  at_ : gd (dist h h.t) cur = (p : Int) + 1
theorem pinv_start {h : Hp} {N : Nat} {c : Int} (h0 : 0 ≤ c) (hN : 1 ≤ N) (hc : gd (dist h h.t) c = (N : Int)) : PInv h N c (N - 1) c (List.replicate N 0) := by
  have e : N - 1 + 1 = N := by omega
  exact ⟨by omega, by simp, by rw [e]; simp, h0, by rw [hc]; omega⟩
theorem set_drop {l : List Int} {p : Nat} (hp : p < l.length) (y : Int) : (l.set p y).drop p = y :: l.drop (p + 1) := by
  rw [List.drop_eq_getElem_cons (by simpa using hp)]
  simp [List.drop_set]
theorem way_succ (h : Hp) (D : List Int) {p : Nat} (hp : 1 ≤ p) (c : Int) : wayL h D (p + 1) c = wayL h D p (prevC h D c p) ++ [c] := by
  rw [wayL, if_neg (by omega)]
theorem pinv_step {h : Hp} {N : Nat} {c : Int} {p : Nat} {cur : Int} {pl : List Int} (hv : hvB h = true) (P : PInv h N c (p + 1) cur pl) : PInv h N c p (prevC h (dist h h.t) cur ((p + 1 : Nat) : Int)) (pl.set (p + 1) cur) := by
  have hl := P.lt
  obtain ⟨q1, q2⟩ := prev_some (k := p + 1) hv P.pos (by omega) (by have := P.at_; omega)
  have q0 : 0 ≤ prevC h (dist h h.t) cur ((p + 1 : Nat) : Int) := by
    unfold srcs at q1
    split at q1
    · unfold srcN at q1
      rw [List.mem_map] at q1
      obtain ⟨j, _, e⟩ := q1
      rw [← e]; omega
    · simp at q1
  refine ⟨by omega, by rw [List.length_set]; exact P.len, ?_, q0, by rw [q2]; omega⟩
  rw [P.way, way_succ h _ (by omega), set_drop (by rw [P.len]; exact hl), List.append_assoc]
  rfl
theorem pinv_end {h : Hp} {N : Nat} {c : Int} {cur : Int} {pl : List Int} (P : PInv h N c 0 cur pl) : pl.set 0 cur = wayL h (dist h h.t) N c := by
  have hl := P.lt
  have e := set_drop (l := pl) (p := 0) (by rw [P.len]; exact hl) cur
  rw [List.drop_zero] at e
  rw [e, P.way]
  rfl
theorem pinv_bd {h : Hp} {N : Nat} {c : Int} {p : Nat} {cur : Int} {pl : List Int} (hv : hvB h = true) (P : PInv h N c p cur pl) : cur ≤ 8 := by
  have h9 := gd_plB P.pos (by have := P.at_; omega : 0 ≤ gd (dist h h.t) cur)
  rw [dist_len] at h9
  have := hvB_len hv
  simp only [plB, decide_eq_true_eq] at h9
  omega
theorem srcs_bd {h : Hp} {c : Int} (hv : hvB h = true) : (srcs h c).length ≤ 8 ∧ ∀ x ∈ srcs h c, 0 ≤ x ∧ x ≤ 8 := by
  have h8 := hvB_len hv
  refine ⟨Nat.le_trans (srcs_len h c) (by omega), fun x hx => ?_⟩
  unfold srcs at hx
  split at hx
  · unfold srcN at hx
    rw [List.mem_map] at hx
    obtain ⟨j, hj, e⟩ := hx
    rw [List.mem_filter, List.mem_range] at hj
    have := hj.1
    omega
  · simp at hx

set_option maxRecDepth 100000 in
set_option maxHeartbeats 3000000 in
theorem implPth_any (w : World) (lo : Nat) (v : Value) (h : Hp) (hv : Hv w lo v h) (c : Int) (hwf : (Lit.int .i64 c).wf = true) :
    Calls Try.prog 8 #[v, .int .i64 c] w (NewRowOk w (pthL h c) (dokB h c)) := by
  obtain ⟨i0, hi, hz0, hz1, hz2⟩ := info_parts Try.infoInt
  obtain ⟨A0, n0, c0, A1, n1, c1, A2, n2, c2, rfl, ⟨h0, h1, h2⟩, ⟨l0, l1, l2⟩, _⟩ := hv.open_
  have X0 := Blk3.new w (.slice A0 n0 c0) (.slice A1 n1 c1) (.slice A2 n2 c2) 25
  have V := implHeapValid_any _ _ _ _ (hv.alloc (.cells #[.slice A0 n0 c0, .slice A1 n1 c1, .slice A2 n2 c2] 25))
  have fin : Below w.heap.size w (w.alloc (.cells #[.slice A0 n0 c0, .slice A1 n1 c1, .slice A2 n2 c2] 25)) := (Below.refl _ _).alloc (Nat.le_refl _) _
  rcases ev : hvB h
  · rw [ev] at V
    have hf : dokB h c = false := by unfold dokB; rw [ev]; simp
    have hf2 : pthL h c = [] := by unfold pthL; rw [hf]; simp
    rw [hf, hf2]
    clear ev hf hf2
    go_enter Try.func8, Try.ntmps8
    go_wp2_with fail
    refine V.mono ?_; rintro e w1 ⟨rfl, hb1⟩
    go_wp2_with fail
    go_ret2
    exact ⟨none, 0, rfl, Row.nil _ _, fin.trans (hb1.mono (by simp))⟩
  · rw [ev] at V
    have EV := Lib.hid ev
    have hpt := (hvB_parts ev).2.2.2
    have hbds := fun h0 hc => dist_bounds ev (c := c) h0 hc
    have hcb := liveL_bd h
    have hcb2 := (cntB_bd (liveL h)).2
    have DD := fun W hW hR => distancesFrom_any W lo (.agg #[.slice A0 n0 c0, .slice A1 n1 c1, .slice A2 n2 c2]) h hW ev A2 n2 c2 h.t lo hR l2.out hpt
    have hok : Hid (dokB h c = decide (0 ≤ c ∧ 0 ≤ gd (dist h h.t) c)) := by
      unfold Hid dokB; rw [ev]
      by_cases hc : 0 ≤ c
      · by_cases hc2 : c < h.l.length
        · simp [plB, hc, hc2]
        · have h9 : gd (dist h h.t) c = -1 := gd_far (by rw [dist_len]; omega)
          rw [h9]; simp
      · simp [plB, hc]
    have hkey : keyOf Try.prog 3 (.int .i64 c) = some (.int .i64 c) := keyOf_int_mk Try.underlying3 hwf
    clear ev hpt
    go_enter Try.func8, Try.ntmps8
    go_wp2_with fail
    refine V.mono ?_; rintro e w1 ⟨rfl, hb1⟩
    have X1 := Blk3.below (by exact X0) hb1
    have H1 := Hv.below (by exact hv.alloc (.cells #[.slice A0 n0 c0, .slice A1 n1 c1, .slice A2 n2 c2] 25)) hb1
    have R1 := Row.below (by exact h2.alloc (.cells #[.slice A0 n0 c0, .slice A1 n1 c1, .slice A2 n2 c2] 25)) hb1
    have B1 : Below w.heap.size w w1 := fin.trans (hb1.mono (by simp))
    obtain ⟨p0, p1, p2, _⟩ := X1.cells
    have D1 := DD w1 H1 R1
    clear V h0 h1 h2 DD H1 R1
    go_wp2_with fail
    refine D1.mono ?_; rintro e w2 ⟨b, m, M, rfl, hbb, hown, hmap, hb2⟩
    have X2 := X1.below hb2
    have B2 := B1.trans (hb2.mono B1.size)
    have x2l := X2.lt
    have hm1 := (hmap c).1
    have hm2 := Lib.hid (hmap c).2
    rw [← hok.out] at hm1
    have HM := Lib.hid hm1
    have HMAP := Lib.hid hmap
    have lb := hown.lt
    clear hmap hm1
    cases hd : dokB h c
    · have hhas : Maps.has M (.int .i64 c) = false := by rw [HM.out, hd]
      have hpe : Hid (pthL h c = []) := by unfold Hid pthL; rw [hd]; simp
      have HDK := Lib.hid hd
      clear hd
      go_wp2_with (first
        | (at_lookup; refine wpList_lookup_own_ok_int _ rfl _ _ 46 rfl 3 3 .i64 lawInt Try.underlying46 Try.underlying3 (zeroInt _) b m M rfl hown _ _ rfl hkey ?_; intro cv hat hwc)
        | go_in)
      go_ret2
      exact ⟨none, 0, by simp [hpe.out, HDK.out], by rw [hpe.out]; exact Row.nil _ _, B2⟩
    · have hhas : Maps.has M (.int .i64 c) = true := by rw [HM.out, hd]
      have h9 : 0 ≤ c ∧ 0 ≤ gd (dist h h.t) c := by have := hok.out; rw [hd] at this; simpa using this.symm
      have h0 := hm2.out h9.1 h9.2
      obtain ⟨b1, b2⟩ := hbds h9.1 h9.2
      obtain ⟨N, hN⟩ : ∃ N : Nat, gd (dist h h.t) c = (N : Int) := ⟨_, (Int.toNat_of_nonneg h9.2).symm⟩
      have hpe : Hid (pthL h c = wayL h (dist h h.t) N c) := by unfold Hid pthL; rw [if_pos hd, hN]; simp
      have hst := Lib.hid (pinv_start h9.1 (by omega : 1 ≤ N) hN)
      rw [hN] at h0 b1 b2
      have hNb : 1 ≤ N ∧ N ≤ 8 := by omega
      have hcvN : Hid (∀ cv : Int, M.atKey (.int .i64 c) (.lit (.int .i64 0)) = .lit (.int .i64 cv) → cv = (N : Int)) := fun cv e => by rw [h0] at e; simpa using e.symm
      have HDK := Lib.hid hd
      clear hd h0 h9 hN b1 b2 hbds hcb hcb2
      go_wp2_with (first
        | (at_lookup; refine wpList_lookup_own_ok_int _ rfl _ _ 46 rfl 3 3 .i64 lawInt Try.underlying46 Try.underlying3 (zeroInt _) b m M rfl hown _ _ rfl hkey ?_; intro cv hat hwc; obtain rfl := hcvN.out cv hat)
        | (at_make; refine wpList_make_full _ rfl _ _ 23 rfl w2.heap.size 3 i0 (.int .i64 0) 1 Try.underlying23 hi hz0 hz1 _ _ _ _ N rfl rfl rfl rfl ?b2 ?b3 (Nat.le_refl _) ?_)
        | go_in)
      case b2 => rw [hz2]; omega
      case b3 => unfold maxLen; omega
      intro w3 hown3 hgrow3
      rw [mc_int] at hown3
      have hrow3 : Row w3 w2.heap.size (.slice (some ⟨w2.heap.size, 0, none⟩) N N) (List.replicate N 0) := by unfold Row; simpa using hown3
      have hb3 : Below w2.heap.size w2 w3 := (Below.refl _ _).grown hgrow3 (Nat.le_refl _) (fun k h => by cases h)
      have hmap3 := hown.kept hgrow3 (by simp)
      have X3 := X2.below hb3
      have B3 := B2.trans (hb3.mono B2.size)
      clear hown3 hgrow3 hz0 hz1 hz2 hown X2
      go_wp2
      go_loopw [1, 10] (fun cu i wr => ∃ (p : Nat) (cur : Int) (pl : List Int), i = .int .i64 p ∧ cu = .int .i64 cur ∧ p ≤ 8 ∧ Hid (PInv h N c p cur pl) ∧ Blk3 wr w.heap.size (.slice A0 n0 c0) (.slice A1 n1 c1) (.slice A2 n2 c2) 25 ∧ Row wr w2.heap.size (.slice (some ⟨w2.heap.size, 0, none⟩) N N) pl ∧ wr.ownsMap Try.prog 3 (plainElem (H := Unit) Try.prog 3) b m M ∧ Below w.heap.size w wr) (fun _ i _ => (intOf i).toNat)
      case atStart => exact ⟨N - 1, c, _, by go_num, rfl, by omega, hst, X3, hrow3, hmap3, B3⟩
      case round =>
        obtain ⟨p, cur, pl, rfl, rfl, hp8, P, X, R, hown, hB⟩ := hrel
        have hpl := P.out.len
        have hlt := P.out.lt
        obtain ⟨g, x, eg, _, hgl, _, hcell, hfr⟩ := R.get (k := p) (by omega)
        cases eg
        have hcur8 := pinv_bd EV.out P.out
        have hcur0 := P.out.pos
        rcases p with _ | p
        · have hend := pinv_end P.out
          have hR := R.set_ 0 cur
          rw [hend, ← hpe.out] at hR
          have hln : (pthL h c).length = N := by rw [hpe.out, wayL_len]
          have HLN := Lib.hid hln
          have hB' := hB.setCell (p := ⟨w2.heap.size, 0, none⟩) B2.size (iv cur)
          clear hend hpl R P hln
          go_wp2_with fail
          go_ret2
          exact ⟨some ⟨w2.heap.size, 0, none⟩, N, by simp [HLN.out, HDK.out], by rw [HLN.out]; exact hR.mono B2.size, hB'⟩
        · have hnext := Lib.hid (pinv_step EV.out P.out)
          have hR := R.set_ (p + 1) cur
          have hB' := hB.setCell (p := ⟨w2.heap.size, p + 1, none⟩) B2.size (iv cur)
          have hown' := hown.setCell (a := ⟨w2.heap.size, p + 1, none⟩) (by simp; omega) (iv cur)
          have X' := X.other (p := ⟨w2.heap.size, p + 1, none⟩) (by simp; omega) (iv cur)
          have hv' := hv.below hB'
          have IS := implSources_any _ lo _ h hv' cur
          obtain ⟨s1, s2⟩ := srcs_bd (c := cur) EV.out
          have S2 := Lib.hid s2
          have hxc := X'.lt
          obtain ⟨y0, y1, y2, _⟩ := X'.cells
          clear hpl R P hown X s2
          go_wp2_with fail
          refine IS.mono ?_; rintro e w5 ⟨A5, k5, rfl, RS, hb5⟩
          have X5 := Blk3.below (by exact X') hb5
          have R5 := Row.below (by exact hR) hb5
          have hown5 := hown'.kept (grown_of_below hb5) (by simp)
          have hB5 := hB'.trans (hb5.mono hB'.size)
          have FA1 := firstAt_any w5 _ A5 (srcs h cur).length k5 (srcs h cur) RS rfl s1 b m M (dist h h.t) hown5 HMAP.out ((p + 1 : Nat) : Int) (by omega) S2.out
          generalize (srcs h cur).length = sn at FA1 RS s1 ⊢
          have hpc : Hid (((srcs h cur).find? (fun y => gd (dist h h.t) y == ((p + 1 : Nat) : Int))).getD (-1) = prevC h (dist h h.t) cur ((p + 1 : Nat) : Int)) := rfl
          rw [hpc.out] at FA1
          generalize prevC h (dist h h.t) cur ((p + 1 : Nat) : Int) = cur2 at FA1 hnext
          clear IS hv' hpc
          go_wp2_with fail
          refine FA1.mono ?_; rintro e w6 ⟨rfl, rfl⟩
          go_wp2_with fail
          go_roundw
          case rel => exact ⟨p, cur2, _, by go_num, rfl, by omega, hnext, X5, R5, hown5, hB5⟩
          case measure => simp [intOf]
end Go.Proofs.Ytkcelcjghplhiaa
