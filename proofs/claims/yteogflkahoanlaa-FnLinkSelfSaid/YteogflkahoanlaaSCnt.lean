/- CountsOf of spec. -/
import Derived.Test.YteogflkahoanlaaCntI
import Derived.Test.YteogflkahoanlaaSCount
import Derived.Test.YteogflkahoanlaaStos
import Derived.RegionTactic
import Derived.BigRegion
namespace Go.Proofs.Yteogflkahoanlaa
open Go.RowKit

set_option maxRecDepth 100000 in
set_option maxHeartbeats 4000000 in
theorem specCountsOf_any (w : World) (lo : Nat) (v : Value) (h : Hp) (hv : Hv w lo v h) :
    Calls Try.prog 62 #[v] w (NewRow w (cntO h)) := by
  have V := fun W v hW => specHeapValid_any W lo v h hW
  rcases ev : hvB h
  · rw [ev] at V
    have hf : Hid (cntO h = []) := by unfold Hid cntO; rw [ev]; simp
    clear ev
    obtain ⟨A0, n0, c0, A1, n1, c1, A2, n2, c2, rfl, _⟩ := hv.open_
    have B0 : Below w.heap.size w (w.alloc (.cells #[.slice A0 n0 c0, .slice A1 n1 c1, .slice A2 n2 c2] 25)) := (Below.refl _ _).alloc (Nat.le_refl _) _
    have E0 := Row.empty (w.alloc (.cells #[.slice A0 n0 c0, .slice A1 n1 c1, .slice A2 n2 c2] 25)) (w.heap.size + 1) (by simp)
    rw [show (w.alloc (.cells #[.slice A0 n0 c0, .slice A1 n1 c1, .slice A2 n2 c2] 25)).heap.size = w.heap.size + 1 from by simp] at E0
    have fin : Below w.heap.size w ((w.alloc (.cells #[.slice A0 n0 c0, .slice A1 n1 c1, .slice A2 n2 c2] 25)).alloc (.cells #[] 3)) := B0.alloc B0.size _
    have V0 := V _ _ ((hv.alloc (.cells #[.slice A0 n0 c0, .slice A1 n1 c1, .slice A2 n2 c2] 25)).alloc (.cells #[] 3))
    clear V
    go_enter Try.func62, Try.ntmps62
    go_wp2_with fail
    refine V0.mono ?_; rintro e w1 ⟨rfl, hb1⟩
    have E1 := Row.below (by exact E0) hb1
    go_wp2_with fail
    go_ret
    exact ⟨_, 0, by rw [hf.out]; rfl, by rw [hf.out]; exact E1.mono (by simp), fin.trans (hb1.mono (by simp; omega))⟩
  · rw [ev] at V
    have hl := hvB_len ev
    obtain ⟨rg0, rg1, rg2⟩ := hv_rng ev
    have hrg : Hid (∀ x ∈ h.l ++ h.r ++ h.t, -1 ≤ x ∧ x < h.l.length) := fun x hx => by
      rcases List.mem_append.1 hx with h9 | h9
      · rcases List.mem_append.1 h9 with h8 | h8
        · exact rg0 x h8
        · exact rg1 x h8
      · exact rg2 x h9
    have hf : Hid (cntO h = bumps (List.replicate h.l.length 0) (h.l ++ h.r ++ h.t)) := by unfold Hid cntO cnts; rw [if_pos ev]
    clear ev rg0 rg1 rg2
    obtain ⟨A0, n0, c0, A1, n1, c1, A2, n2, c2, rfl, ⟨h0, h1, h2⟩, ⟨l0, l1, l2⟩, _⟩ := hv.open_
    obtain ⟨g0, rfl, _, _⟩ := h0.at_ (k := 0) (by omega)
    obtain ⟨g1, rfl, _, _⟩ := h1.at_ (k := 0) (by omega)
    obtain ⟨g2, rfl, _, _⟩ := h2.at_ (k := 0) (by omega)
    obtain ⟨i0, hi, hz0, hz1, hz2⟩ := info_parts Try.infoInt
    have y0 : n0 = h.l.length := l0.out.symm
    have y1 : n1 = h.r.length := l1.out.symm
    have y2 : n2 = h.t.length := l2.out.symm
    have E0 : (h.l.map iv).length = n0 * 1 := by simp; omega
    have E1 : (h.r.map iv).length = n1 * 1 := by simp; omega
    have E2 : (h.t.map iv).length = n2 * 1 := by simp; omega
    have u0 : 0 < n0 ∧ n0 ≤ 8 := by omega
    have u1 : 0 < n1 ∧ n1 ≤ 8 := by omega
    have u2 : 0 < n2 ∧ n2 ≤ 8 := by omega
    obtain ⟨u0a, u0b⟩ := u0
    obtain ⟨u1a, u1b⟩ := u1
    obtain ⟨u2a, u2b⟩ := u2
    have q1 : 0 + n0 ≤ maxLen := by unfold maxLen; omega
    have q2 : n0 + n1 ≤ maxLen := by unfold maxLen; omega
    have q3 : n0 + n1 + n2 ≤ maxLen := by unfold maxLen; omega
    have L0 : Hid (0 + n0 = h.l.length) := by unfold Hid; omega
    have L1 : Hid (n0 + n1 = (h.l ++ h.r).length) := by unfold Hid; simp; omega
    have L2 : Hid (n0 + n1 + n2 = (h.l ++ h.r ++ h.t).length) := by unfold Hid; simp; omega
    rw [← y0] at hf hrg
    clear y0 y1 y2 hl
    have B0 : Below w.heap.size w (w.alloc (.cells #[.slice (some ⟨g0, 0, none⟩) n0 c0, .slice (some ⟨g1, 0, none⟩) n1 c1, .slice (some ⟨g2, 0, none⟩) n2 c2] 25)) := (Below.refl _ _).alloc (Nat.le_refl _) _
    have fin : Below w.heap.size w ((w.alloc (.cells #[.slice (some ⟨g0, 0, none⟩) n0 c0, .slice (some ⟨g1, 0, none⟩) n1 c1, .slice (some ⟨g2, 0, none⟩) n2 c2] 25)).alloc (.cells #[] 3)) := B0.alloc B0.size _
    have X0 := (Blk3.new w (.slice (some ⟨g0, 0, none⟩) n0 c0) (.slice (some ⟨g1, 0, none⟩) n1 c1) (.slice (some ⟨g2, 0, none⟩) n2 c2) 25).alloc (.cells #[] 3)
    have V0 := V _ _ ((hv.alloc (.cells #[.slice (some ⟨g0, 0, none⟩) n0 c0, .slice (some ⟨g1, 0, none⟩) n1 c1, .slice (some ⟨g2, 0, none⟩) n2 c2] 25)).alloc (.cells #[] 3))
    go_enter Try.func62, Try.ntmps62
    go_wp2_with fail
    refine V0.mono ?_; rintro e wm ⟨rfl, hbm⟩
    have Xm := Blk3.below (by exact X0) hbm
    have s0 := Row.below (by exact (h0.alloc (.cells #[.slice (some ⟨g0, 0, none⟩) n0 c0, .slice (some ⟨g1, 0, none⟩) n1 c1, .slice (some ⟨g2, 0, none⟩) n2 c2] 25)).alloc (.cells #[] 3)) hbm
    have s1 := Row.below (by exact (h1.alloc (.cells #[.slice (some ⟨g0, 0, none⟩) n0 c0, .slice (some ⟨g1, 0, none⟩) n1 c1, .slice (some ⟨g2, 0, none⟩) n2 c2] 25)).alloc (.cells #[] 3)) hbm
    have s2 := Row.below (by exact (h2.alloc (.cells #[.slice (some ⟨g0, 0, none⟩) n0 c0, .slice (some ⟨g1, 0, none⟩) n1 c1, .slice (some ⟨g2, 0, none⟩) n2 c2] 25)).alloc (.cells #[] 3)) hbm
    have Bm : Below w.heap.size w wm := fin.trans (hbm.mono fin.size)
    have zm : w.heap.size + 2 ≤ wm.heap.size := by have := hbm.size; simp at this; omega
    obtain ⟨p10, p11, p12, _⟩ := Xm.cells
    clear h0 h1 h2 hv V V0 fin B0 hbm X0
    go_wp2_with (at_make; refine wpList_make_full _ rfl _ _ 23 rfl wm.heap.size 3 i0 (.int .i64 0) 1 Try.underlying23 hi hz0 hz1 _ _ _ _ n0 rfl rfl rfl rfl ?b2 ?b3 (Nat.le_refl _) ?_)
    case b2 => rw [hz2]; omega
    case b3 => unfold maxLen; omega
    intro w1 hown hgrow
    rw [mc_int] at hown
    have ro : Row w1 wm.heap.size (.slice (some ⟨wm.heap.size, 0, none⟩) n0 n0) (List.replicate n0 0) := by unfold Row; simpa using hown
    have hb2 : Below wm.heap.size wm w1 := (Below.refl _ _).grown hgrow (Nat.le_refl _) (fun k h => by cases h)
    have B1 := Bm.trans (hb2.mono Bm.size)
    have X1 := Xm.below hb2
    have r0 := s0.below hb2
    have r1 := s1.below hb2
    have r2 := s2.below hb2
    have z1 : w.heap.size + 1 ≤ w1.heap.size := by have := hb2.size; omega
    have lx1 := X1.lt
    have zm1 : wm.heap.size < w1.heap.size := (ro.lt _ rfl).2
    clear hown hgrow Xm s0 s1 s2 p10 p11 p12
    obtain ⟨p10, p11, p12, _⟩ := X1.cells
    go_wp2_with fail
    go_region_held3 (fun w' => w'.cell? ⟨w.heap.size, 0, none⟩ = some (.slice (some ⟨g0, 0, none⟩) n0 c0) ∧ w'.cell? ⟨w.heap.size, 1, none⟩ = some (.slice (some ⟨g1, 0, none⟩) n1 c1) ∧ w'.cell? ⟨w.heap.size, 2, none⟩ = some (.slice (some ⟨g2, 0, none⟩) n2 c2))
      (((try dsimp only); (repeat' apply And.intro) <;> (with_reducible (first | exact p40 | exact p41 | exact p42 | exact p30 | exact p31 | exact p32 | exact p20 | exact p21 | exact p22 | exact p10 | exact p11 | exact p12 | exact cellD p10 | exact cellD p11 | exact cellD p12 | exact cellA (cellD p10) _ | exact cellA (cellD p11) _ | exact cellA (cellD p12) _ | exact cellD (cellA p10 _) | exact cellD (cellA p11 _) | exact cellD (cellA p12 _)))))
      (first
        | (refine step_append_grows rfl (.tmp 15) (.tmp 17) 23 rfl 3 i0 (.int .i64 0) 1 8 Try.underlying23 hi hz0 hz1 hz2 rfl (by decide) _ 0 0 [] (by rfl) (fun _ => ⟨rfl, rfl⟩) rfl (fun _ _ j u hj => nil_get hj) ⟨g0, 0, none⟩ n0 c0 (h.l.map iv) (by rfl) E0 ?_ (ints_oneCell _ _) (by omega) (by exact q1) (by omega) ?_; (exact Row.cellsV (lo := lo) (n := n0) (c := c0) (xs := h.l) (by repeat (with_reducible (first | refine Row.drew ?_ | refine Row.alloc ?_ _ | exact r0)))); intro v0 w2 hown0 hgr0; obtain ⟨A0', c0', rfl, hr0, hb2⟩ := after_append (xs := h.l) hown0 hgr0 L0.out; have X2 : Blk3 w2 w.heap.size (.slice (some ⟨g0, 0, none⟩) n0 c0) (.slice (some ⟨g1, 0, none⟩) n1 c1) (.slice (some ⟨g2, 0, none⟩) n2 c2) 25 := (by repeat (with_reducible (first | exact X1 | refine Blk3.drew ?_ | refine Blk3.alloc ?_ _ | refine Blk3.below ?_ hb2))); obtain ⟨p20, p21, p22, _⟩ := X2.cells; have s1 : Row w2 lo (.slice (some ⟨g1, 0, none⟩) n1 c1) h.r := (by repeat (with_reducible (first | refine Row.drew ?_ | refine Row.alloc ?_ _ | exact r1 | refine Row.below ?_ hb2))); have s2 : Row w2 lo (.slice (some ⟨g2, 0, none⟩) n2 c2) h.t := (by repeat (with_reducible (first | refine Row.drew ?_ | refine Row.alloc ?_ _ | exact r2 | refine Row.below ?_ hb2))); have B2 : Below w.heap.size w w2 := Below.trans (by repeat (with_reducible (first | exact B1 | refine Below.drew ?_ | refine Below.alloc ?_ (by first | omega | (simp <;> omega)) _))) (hb2.mono (by first | omega | (simp <;> omega))); have z2 : w.heap.size + 1 ≤ w2.heap.size := (by have := hb2.size; simp at this; omega); have hr0' := hr0.mono (lo' := w1.heap.size) (by first | omega | (simp <;> omega)); have z12 : w1.heap.size ≤ w2.heap.size := (by have := hb2.size; simp at this; omega); have o2 := (Row.below (by repeat (with_reducible (first | exact ro | refine Row.drew ?_ | refine Row.alloc ?_ _))) hb2 : Row w2 wm.heap.size (.slice (some ⟨wm.heap.size, 0, none⟩) n0 n0) (List.replicate n0 0)); clear hown0 hgr0)
        | (refine step_append_lies _ rfl (.tmp 18) (.tmp 20) 23 rfl w1.heap.size 3 i0 (.int .i64 0) 1 8 Try.underlying23 hi hz0 hz1 hz2 rfl (by decide) _ n0 (h.l.map iv) (by rfl) (own_of hr0' l0.out) ⟨g1, 0, none⟩ n1 c1 (h.r.map iv) (by rfl) E1 ?_ (ints_oneCell _ _) (by omega) (by exact q2) (by omega) (by first | omega | (simp <;> omega)) _ rfl ?_; (exact Row.cellsV (lo := lo) (n := n1) (c := c1) (xs := h.r) s1); intro ga ca w3 hown1 hgr1 _ _; have hr1 := after_lies hown1 L1.out; have X3 := X2.keptR hgr1 (fun e => by have := (hr0'.lt _ e.symm).1; omega); obtain ⟨p30, p31, p32, _⟩ := X3.cells; have t2 := s2.kept hgr1 (.inr fun e => by have := (hr0'.lt _ e.symm).1; have := (r2.lt _ rfl).2; simp [Value.ownBlock] at e; omega); have B3 : Below w.heap.size w w3 := B2.trans ((hr0'.belowLo z12 hgr1).mono (by omega)); have z3 := hgr1.size; have o3 := o2.kept hgr1 (.inr fun e => by have := (hr0'.lt _ e.symm).1; have := (ro.lt _ rfl).2; simp [Value.ownBlock] at e; omega); clear hown1 hgr1)
        | (refine step_append_lies _ rfl (.tmp 21) (.tmp 23) 23 rfl w1.heap.size 3 i0 (.int .i64 0) 1 8 Try.underlying23 hi hz0 hz1 hz2 rfl (by decide) _ (n0 + n1) ((h.l ++ h.r).map iv) (by rfl) (own_of hr1 L1.out.symm) ⟨g2, 0, none⟩ n2 c2 (h.t.map iv) (by rfl) E2 ?_ (ints_oneCell _ _) (by omega) (by exact q3) (by omega) (by first | omega | (simp <;> omega)) _ rfl ?_; (exact Row.cellsV (lo := lo) (n := n2) (c := c2) (xs := h.t) t2); intro gb cb w4 hown2 hgr2 _ _; have hr2 := after_lies hown2 L2.out; have X4 := X3.keptR hgr2 (fun e => by have := (hr1.lt _ e.symm).1; omega); obtain ⟨p40, p41, p42, _⟩ := X4.cells; have B4 : Below w.heap.size w w4 := B3.trans ((hr1.belowLo (by omega) hgr2).mono (by omega)); have o4 := o3.kept hgr2 (.inr fun e => by have := (hr1.lt _ e.symm).1; have := (ro.lt _ rfl).2; simp [Value.ownBlock] at e; omega); have lw4 : w1.heap.size ≤ w4.heap.size := (by have := hgr2.size; omega); clear hown2 hgr2))
    all_goals
      rename_i hHeld
      clear hHeld p10 p11 p12 p20 p21 p22 p30 p31 p32 p40 p41 p42
      have L3 : Hid ((h.l ++ h.r ++ h.t).length = n0 + n1 + n2) := by unfold Hid; exact L2.out.symm
      have lz : w1.heap.size ≤ gb := (hr2.lt _ rfl).1
      generalize h.l ++ h.r ++ h.t = xs at hr2 hf L3 hrg
      have hm : n0 + n1 + n2 ≤ 24 := by omega
      generalize n0 + n1 + n2 = n at hr2 L3 hm ⊢
      have hg : gb ≠ wm.heap.size := by omega
      have zB := Bm.size
      clear X1 X2 X3 X4 hr0 hr0' hr1 s1 s2 t2 r0 r1 r2 q1 q2 q3 L0 L1 L2 E0 E1 E2 ro o2 o3 hz0 hz1 hz2 hi
      have s3 : Hid ((List.replicate n0 (0 : Int)).length = n0) := by unfold Hid; simp
      have hbd0 : Hid (∀ y ∈ List.replicate n0 (0 : Int), 0 ≤ y ∧ y ≤ 0) := fun x hx => by obtain ⟨_, rfl⟩ := List.mem_replicate.1 hx; omega
      generalize List.replicate n0 (0 : Int) = zs at *
      generalize wm.heap.size = bo at *
      go_wp2_with fail
      go_loopw [5] (fun i wr => ∃ k : Nat, k ≤ n ∧ i = .int .i64 k ∧ Row wr bo (.slice (some ⟨bo, 0, none⟩) n0 n0) (bumps zs (xs.take k)) ∧ Row wr w1.heap.size (.slice (some ⟨gb, 0, none⟩) n cb) xs ∧ Below w.heap.size w wr) (fun i _ => n - (intOf i).toNat)
      case atStart => exact ⟨0, Nat.zero_le _, rfl, o4, hr2, B4⟩
      case round =>
        obtain ⟨k, hk, rfl, R, R', Bk⟩ := hrel
        clear hr2 o4 B4
        by_cases hlt : k < n
        · obtain ⟨_, y, eg, _, _, hy, hcy, _⟩ := R'.get (k := k) (by rw [L3.out]; exact hlt)
          cases eg
          have hbd : (k : Int) < (n : Int) := by omega
          have hyr := hrg.out y (List.mem_of_getElem? hy.out)
          have T := bumps_take (n := zs) hy.out
          by_cases hy1 : y = -1
          · subst hy1
            rw [bump_none] at T
            rw [← T] at R
            clear T hy hyr
            go_wp2_with fail
            go_roundw
            case rel => exact ⟨k + 1, by omega, by go_num, R, R', Bk⟩
            case measure => simp [intOf]; omega
          · obtain ⟨j, rfl⟩ := Int.eq_ofNat_of_zero_le (by omega : 0 ≤ y)
            have hy2 : ((j : Int) != -1) = true := by simp
            have hl : (bumps zs (xs.take k)).length = n0 := by rw [bumps_len]; exact s3.out
            obtain ⟨_, z, e, _, _, hz, hcz, hfz⟩ := R.get (k := j) (by omega)
            cases e
            have hzb := bumps_bd (xs.take k) hbd0.out z (List.mem_of_getElem? hz.out)
            have hz0 : 0 ≤ z := hzb.1
            have hz1 : z ≤ 24 := by
              have : (xs.take k).length ≤ k := List.length_take_le _ _
              omega
            have hj : (j : Int) < (n0 : Int) := hyr.2
            have hw : IntKind.i64.wrap (z + 1) = z + 1 := IntWalk.i64_in _ (by omega)
            rw [bump_at hz.out] at T
            have R2 := R.set_ j (z + 1)
            rw [← T] at R2
            have R3 := R'.other (a := ⟨bo, j, none⟩) (fun e => hg (by simpa [Value.ownBlock] using e)) (iv (z + 1))
            have B2 := Bk.setCell (p := ⟨bo, j, none⟩) (by show w.heap.size ≤ bo; omega) (iv (z + 1))
            clear T hy hyr hz hzb R R' Bk hl
            go_wp2_with fail
            go_region
            go_wp2_with fail
            go_roundw
            case rel => exact ⟨k + 1, by omega, by go_num, R2.drew, R3.drew, B2.drew⟩
            case measure => simp [intOf]; omega
        · obtain rfl : k = n := by omega
          rw [List.take_of_length_le (by rw [L3.out]; omega)] at R
          have s4 : Hid ((bumps zs xs).length = n0) := by unfold Hid; rw [bumps_len]; exact s3.out
          go_wp2_with fail
          go_ret
          exact ⟨some ⟨bo, 0, none⟩, n0, by rw [hf.out, s4.out]; rfl, by rw [hf.out, s4.out]; exact R.mono zB, Bk⟩

end Go.Proofs.Yteogflkahoanlaa
