/- impl.Reachable. -/
import Derived.Test.YthagchhegljphaaMemB
import Derived.Test.YthagchhegljphaaDist
namespace Go.Proofs.Ythagchhegljphaa
open Go.RowKit Go.Maps

theorem set_repB {l : List Bool} {k n : Nat} {x : Bool} (hk : k < n) (hl : l.length = n) (hx : l[k]? = some x) :
    (l.take k ++ List.replicate (n - k) false).set k x = l.take (k + 1) ++ List.replicate (n - (k + 1)) false := by
  have hlk : (l.take k).length = k := by simp; omega
  rw [List.set_append, if_neg (by omega), hlk, Nat.sub_self, show n - k = (n - (k + 1)) + 1 from by omega, List.replicate_succ, List.set_cons_zero, List.take_add_one, hx]
  simp

set_option maxRecDepth 100000 in
set_option maxHeartbeats 2000000 in
theorem implReach_any (w : World) (lo : Nat) (v : Value) (h : Hp) (hv : Hv w lo v h) :
    Calls Try.prog 10 #[v] w (NewRowB w (liveL h)) := by
  obtain ⟨i0, hi, hz0, hz1, hz2⟩ := info_parts Try.infoBool
  obtain ⟨A0, n0, c0, A1, n1, c1, A2, n2, c2, rfl, ⟨h0, h1, h2⟩, ⟨l0, l1, l2⟩, _⟩ := hv.open_
  have X0 := Blk3.new w (.slice A0 n0 c0) (.slice A1 n1 c1) (.slice A2 n2 c2) 25
  have V := implHeapValid_any _ _ _ _ (hv.alloc (.cells #[.slice A0 n0 c0, .slice A1 n1 c1, .slice A2 n2 c2] 25))
  have fin : Below w.heap.size w (w.alloc (.cells #[.slice A0 n0 c0, .slice A1 n1 c1, .slice A2 n2 c2] 25)) := (Below.refl _ _).alloc (Nat.le_refl _) _
  rcases ev : hvB h
  · rw [ev] at V
    have hf : liveL h = [] := by unfold liveL; rw [ev]; simp
    rw [hf]
    clear ev hf
    go_enter Try.func10, Try.ntmps10
    go_wp2_with fail
    refine V.mono ?_; rintro e w1 ⟨rfl, hb1⟩
    go_wp2_with fail
    go_ret
    exact ⟨none, 0, rfl, RowB.nil _ _, fin.trans (hb1.mono (by simp))⟩
  · rw [ev] at V
    have hl := hvB_len ev
    have u0 : 0 < n0 ∧ n0 ≤ 8 := by have := l0.out; omega
    obtain ⟨u0a, u0b⟩ := u0
    have hpt := (hvB_parts ev).2.2.2
    have hlv : Hid (liveL h = (dist h h.t).map (fun u => decide (0 ≤ u))) := by unfold Hid liveL; rw [if_pos ev]
    have hll : Hid ((liveL h).length = n0) := by unfold Hid; rw [liveL_len ev]; exact l0.out
    have DD := fun W hW hR => distancesFrom_any W lo (.agg #[.slice A0 n0 c0, .slice A1 n1 c1, .slice A2 n2 c2]) h hW ev A2 n2 c2 h.t lo hR l2.out hpt
    clear ev hl hpt
    go_enter Try.func10, Try.ntmps10
    go_wp2_with fail
    refine V.mono ?_; rintro e w1 ⟨rfl, hb1⟩
    have X1 := Blk3.below (by exact X0) hb1
    have H1 := Hv.below (by exact hv.alloc (.cells #[.slice A0 n0 c0, .slice A1 n1 c1, .slice A2 n2 c2] 25)) hb1
    have R1 := Row.below (by exact h2.alloc (.cells #[.slice A0 n0 c0, .slice A1 n1 c1, .slice A2 n2 c2] 25)) hb1
    have B1 : Below w.heap.size w w1 := fin.trans (hb1.mono (by simp))
    obtain ⟨p0, p1, p2, _⟩ := X1.cells
    have D1 := DD w1 H1 R1
    clear V hv h0 h1 h2 DD H1 R1
    go_wp2_with fail
    refine D1.mono ?_; rintro e w2 ⟨b, m, M, rfl, hbb, hown, hmap, hb2⟩
    have X2 := X1.below hb2
    have B2 := B1.trans (hb2.mono B1.size)
    obtain ⟨q0, q1, q2, _⟩ := X2.cells
    have lb := hown.lt
    go_wp2_with (at_make; refine wpList_make_full _ rfl _ _ 30 rfl w2.heap.size 4 i0 (.bool false) 1 Try.underlying30 hi hz0 hz1 _ _ _ _ n0 rfl rfl rfl rfl ?b2 ?b3 (Nat.le_refl _) ?_)
    case b2 => rw [hz2]; omega
    case b3 => unfold maxLen; omega
    intro w3 hown3 hgrow3
    rw [mc_bool] at hown3
    have hrow3 : RowB w3 w2.heap.size (.slice (some ⟨w2.heap.size, 0, none⟩) n0 n0) (List.replicate n0 false) := by unfold RowB; simpa using hown3
    have hb3 : Below w2.heap.size w2 w3 := (Below.refl _ _).grown hgrow3 (Nat.le_refl _) (fun k h => by cases h)
    have hmap3 := hown.kept hgrow3 (by simp)
    have B3 := B2.trans (hb3.mono B2.size)
    clear hown3 hgrow3 hz0 hz1 hz2 hown X2 q0 q1 q2
    go_wp2
    go_loopw [19] (fun i wr => ∃ k : Nat, k ≤ n0 ∧ i = .int .i64 k ∧ RowB wr w2.heap.size (.slice (some ⟨w2.heap.size, 0, none⟩) n0 n0) ((liveL h).take k ++ List.replicate (n0 - k) false) ∧ wr.ownsMap Try.prog 3 (plainElem (H := Unit) Try.prog 3) b m M ∧ Below w.heap.size w wr) (fun i _ => n0 - (intOf i).toNat)
    case atStart => exact ⟨0, Nat.zero_le _, rfl, by simpa using hrow3, hmap3, B3⟩
    case round =>
      obtain ⟨k, hk, rfl, hrow, hown, hB⟩ := hrel
      by_cases hlt : k < n0
      · obtain ⟨g, x, e, _, _, _, hcell, hfr⟩ := hrow.get (k := k) (by have := hll.out; simp; omega)
        cases e
        have hkey : keyOf Try.prog 3 (.int .i64 (k : Int)) = some (.int .i64 (k : Int)) := keyOf_int_mk Try.underlying3 (wfI (by omega))
        have hx : (liveL h)[k]? = some (Maps.has M (.int .i64 (k : Int))) := by
          have hkl : k < (dist h h.t).length := by rw [dist_len, l0.out]; exact hlt
          rw [hlv.out, (hmap (k : Int)).1]
          simp [gd, List.getD, List.getElem?_eq_getElem hkl]
        have hnext := hrow.set_ k (Maps.has M (.int .i64 (k : Int)))
        rw [set_repB hlt hll.out hx] at hnext
        have hB' : Below w.heap.size w (wr.setCell ⟨w2.heap.size, k, none⟩ (bv (Maps.has M (.int .i64 (k : Int))))) := hB.setCell (p := ⟨w2.heap.size, k, none⟩) B2.size _
        have hown' := hown.setCell (a := ⟨w2.heap.size, k, none⟩) (by simp; omega) (bv (Maps.has M (.int .i64 (k : Int))))
        clear hrow hrow3 hx hmap3
        generalize hok : Maps.has M (.int .i64 (k : Int)) = ok at hnext hB' hown'
        have HOK := Lib.hid hok
        go_wp2_with (first
          | (at_lookup; refine wpList_lookup_own_ok_int _ rfl _ _ 42 rfl 3 3 .i64 lawInt Try.underlying42 Try.underlying3 (zeroInt _) b m M rfl hown _ _ rfl hkey ?_; intro cv hat hwc)
          | go_in)
        go_roundw
        case rel => exact ⟨k + 1, by omega, by go_num, hnext, hown', hB'⟩
        case measure => simp [intOf]; omega
      · obtain rfl : k = n0 := by omega
        have hrow' : RowB wr w2.heap.size (.slice (some ⟨w2.heap.size, 0, none⟩) (liveL h).length k) (liveL h) := by
          have h9 := hrow; rw [List.take_of_length_le (by rw [hll.out]; omega)] at h9; simpa [hll.out] using h9
        clear hrow hrow3
        go_wp2
        go_ret
        exact ⟨some ⟨w2.heap.size, 0, none⟩, k, by simp [hll.out], hrow'.mono B2.size, hB⟩
end Go.Proofs.Ythagchhegljphaa
