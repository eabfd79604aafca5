/- spec.CountPointers: three appends, then a count. -/
import Derived.Test.YtfgkafbdaalkoaaCopy2
import Derived.Test.YtfgkafbdaalkoaaCount
import Derived.Test.YtfgkafbdaalkoaaExactH
import Derived.Test.YtfgkafbdaalkoaaWrong
import Derived.Deep.AppendLies
namespace Go.Proofs.Ytfgkafbdaalkoaa
open Go.RowKit

theorem cntN_append (l m : List Int) : cntN (l ++ m) = cntN l + cntN m := by
  unfold cntN; simp [List.filter_append]

theorem after_lies {w' : World} {lo g n m cap : Nat} {xs ys : List Int} (hown : w'.ownsRow lo 3 1 (.slice (some ⟨g, 0, none⟩) (n + m) cap) (n + m) (xs.map iv ++ ys.map iv)) (hn : n + m = (xs ++ ys).length) :
    Row w' lo (.slice (some ⟨g, 0, none⟩) (n + m) cap) (xs ++ ys) := Row.of_own hown (by simp) hn

set_option maxRecDepth 100000 in
set_option maxHeartbeats 3200000 in
theorem specCount_any (w : World) (lo : Nat) (v : Value) (h : Hp) (hv : Hv w lo v h) :
    Calls Try.prog 17 #[v] w (RetI w (cntH h)) := by
  have V := fun W v hW => specHeapValid_any W lo v h hW
  rcases ev : hvB h
  · rw [ev] at V
    have hf : Hid (cntH h = 0) := by unfold Hid cntH; rw [ev]; simp
    clear ev
    obtain ⟨A0, n0, c0, A1, n1, c1, A2, n2, c2, rfl, _⟩ := hv.open_
    have fin : Below w.heap.size w (w.alloc (.cells #[.slice A0 n0 c0, .slice A1 n1 c1, .slice A2 n2 c2] 25)) := (Below.refl _ _).alloc (Nat.le_refl _) _
    go_enter Try.func17, Try.ntmps17
    go_wp2_with fail
    refine (V _ _ (hv.alloc _)).mono ?_; rintro e w1 ⟨rfl, hb1⟩
    go_wp2_with fail
    go_ret
    exact ⟨ret_int hf.out.symm, fin.trans (hb1.mono (by simp))⟩
  · rw [ev] at V
    have hl := hvB_len ev
    have hf : Hid (cntH h = cntN (h.l ++ h.r ++ h.t)) := by unfold Hid cntH; rw [ev, cntN_append, cntN_append]; simp
    clear ev
    obtain ⟨A0, n0, c0, A1, n1, c1, A2, n2, c2, rfl, ⟨h0, h1, h2⟩, ⟨l0, l1, l2⟩, _⟩ := hv.open_
    obtain ⟨g0, rfl, _, _⟩ := h0.at_ (k := 0) (by omega)
    obtain ⟨g1, rfl, _, _⟩ := h1.at_ (k := 0) (by omega)
    obtain ⟨g2, rfl, _, _⟩ := h2.at_ (k := 0) (by omega)
    obtain ⟨i0, hi, hz0, hz1, hz2⟩ := info_parts Try.infoInt
    have y0 : n0 = h.l.length := l0.out.symm
    have y1 : n1 = h.r.length := l1.out.symm
    have y2 : n2 = h.t.length := l2.out.symm
    have E0 : (h.l.map iv).length = n0 * 1 := by simp; omega
    have E1 : (h.r.map iv).length = n1 * 1 := by simp; omega
    have E2 : (h.t.map iv).length = n2 * 1 := by simp; omega
    have u0 : 0 < n0 ∧ n0 ≤ 8 := by omega
    have u1 : 0 < n1 ∧ n1 ≤ 8 := by omega
    have u2 : 0 < n2 ∧ n2 ≤ 8 := by omega
    obtain ⟨u0a, u0b⟩ := u0
    obtain ⟨u1a, u1b⟩ := u1
    obtain ⟨u2a, u2b⟩ := u2
    have q1 : 0 + n0 ≤ maxLen := by unfold maxLen; omega
    have q2 : n0 + n1 ≤ maxLen := by unfold maxLen; omega
    have q3 : n0 + n1 + n2 ≤ maxLen := by unfold maxLen; omega
    have L0 : Hid (0 + n0 = h.l.length) := by unfold Hid; omega
    have L1 : Hid (n0 + n1 = (h.l ++ h.r).length) := by unfold Hid; simp; omega
    have L2 : Hid (n0 + n1 + n2 = (h.l ++ h.r ++ h.t).length) := by unfold Hid; simp; omega
    clear y0 y1 y2 hl
    have fin : Below w.heap.size w (w.alloc (.cells #[.slice (some ⟨g0, 0, none⟩) n0 c0, .slice (some ⟨g1, 0, none⟩) n1 c1, .slice (some ⟨g2, 0, none⟩) n2 c2] 25)) := (Below.refl _ _).alloc (Nat.le_refl _) _
    go_enter Try.func17, Try.ntmps17
    go_wp2_with fail
    refine (V _ _ (hv.alloc _)).mono ?_; rintro e w1 ⟨rfl, hb1⟩
    have X1 := Blk3.below (by exact (Blk3.new w (.slice (some ⟨g0, 0, none⟩) n0 c0) (.slice (some ⟨g1, 0, none⟩) n1 c1) (.slice (some ⟨g2, 0, none⟩) n2 c2) 25)) hb1
    have r0 := Row.below (by exact h0.alloc (.cells #[.slice (some ⟨g0, 0, none⟩) n0 c0, .slice (some ⟨g1, 0, none⟩) n1 c1, .slice (some ⟨g2, 0, none⟩) n2 c2] 25)) hb1
    have r1 := Row.below (by exact h1.alloc (.cells #[.slice (some ⟨g0, 0, none⟩) n0 c0, .slice (some ⟨g1, 0, none⟩) n1 c1, .slice (some ⟨g2, 0, none⟩) n2 c2] 25)) hb1
    have r2 := Row.below (by exact h2.alloc (.cells #[.slice (some ⟨g0, 0, none⟩) n0 c0, .slice (some ⟨g1, 0, none⟩) n1 c1, .slice (some ⟨g2, 0, none⟩) n2 c2] 25)) hb1
    have B1 : Below w.heap.size w w1 := fin.trans (hb1.mono (by simp))
    have z1 : w.heap.size + 1 ≤ w1.heap.size := by have := hb1.size; simp at this; omega
    have lx1 := X1.lt
    obtain ⟨p10, p11, p12, _⟩ := X1.cells
    clear h0 h1 h2 hv V fin hb1
    go_wp2_with fail
    go_region_held3 (fun w' => w'.cell? ⟨w.heap.size, 0, none⟩ = some (.slice (some ⟨g0, 0, none⟩) n0 c0) ∧ w'.cell? ⟨w.heap.size, 1, none⟩ = some (.slice (some ⟨g1, 0, none⟩) n1 c1) ∧ w'.cell? ⟨w.heap.size, 2, none⟩ = some (.slice (some ⟨g2, 0, none⟩) n2 c2))
      (((try dsimp only); (repeat' apply And.intro) <;> (with_reducible (first | exact p40 | exact p41 | exact p42 | exact p30 | exact p31 | exact p32 | exact p20 | exact p21 | exact p22 | exact p10 | exact p11 | exact p12 | exact cellD p10 | exact cellD p11 | exact cellD p12 | exact cellA (cellD p10) _ | exact cellA (cellD p11) _ | exact cellA (cellD p12) _ | exact cellD (cellA p10 _) | exact cellD (cellA p11 _) | exact cellD (cellA p12 _)))))
      (first
        | (refine step_append_grows rfl (.tmp 9) (.tmp 11) 23 rfl 3 i0 (.int .i64 0) 1 8 Try.underlying23 hi hz0 hz1 hz2 rfl (by decide) _ 0 0 [] (by rfl) (fun _ => ⟨rfl, rfl⟩) rfl (fun _ _ j u hj => nil_get hj) ⟨g0, 0, none⟩ n0 c0 (h.l.map iv) (by rfl) E0 ?_ (ints_oneCell _ _) (by omega) (by exact q1) (by omega) ?_; (exact Row.cellsV (lo := lo) (n := n0) (c := c0) (xs := h.l) (by repeat (with_reducible (first | refine Row.drew ?_ | refine Row.alloc ?_ _ | exact r0)))); intro v0 w2 hown0 hgr0; obtain ⟨A0', c0', rfl, hr0, hb2⟩ := after_append (xs := h.l) hown0 hgr0 L0.out; have X2 : Blk3 w2 w.heap.size (.slice (some ⟨g0, 0, none⟩) n0 c0) (.slice (some ⟨g1, 0, none⟩) n1 c1) (.slice (some ⟨g2, 0, none⟩) n2 c2) 25 := (by repeat (with_reducible (first | exact X1 | refine Blk3.drew ?_ | refine Blk3.alloc ?_ _ | refine Blk3.below ?_ hb2))); obtain ⟨p20, p21, p22, _⟩ := X2.cells; have s1 : Row w2 lo (.slice (some ⟨g1, 0, none⟩) n1 c1) h.r := (by repeat (with_reducible (first | refine Row.drew ?_ | refine Row.alloc ?_ _ | exact r1 | refine Row.below ?_ hb2))); have s2 : Row w2 lo (.slice (some ⟨g2, 0, none⟩) n2 c2) h.t := (by repeat (with_reducible (first | refine Row.drew ?_ | refine Row.alloc ?_ _ | exact r2 | refine Row.below ?_ hb2))); have B2 : Below w.heap.size w w2 := Below.trans (by repeat (with_reducible (first | exact B1 | refine Below.drew ?_ | refine Below.alloc ?_ (by first | omega | (simp <;> omega)) _))) (hb2.mono (by first | omega | (simp <;> omega))); have z2 : w.heap.size + 1 ≤ w2.heap.size := (by have := hb2.size; simp at this; omega); have hr0' := hr0.mono (lo' := w1.heap.size) (by first | omega | (simp <;> omega)); have z12 : w1.heap.size ≤ w2.heap.size := (by have := hb2.size; simp at this; omega); clear hown0 hgr0)
        | (refine step_append_lies _ rfl (.tmp 12) (.tmp 14) 23 rfl w1.heap.size 3 i0 (.int .i64 0) 1 8 Try.underlying23 hi hz0 hz1 hz2 rfl (by decide) _ n0 (h.l.map iv) (by rfl) (own_of hr0' l0.out) ⟨g1, 0, none⟩ n1 c1 (h.r.map iv) (by rfl) E1 ?_ (ints_oneCell _ _) (by omega) (by exact q2) (by omega) (by first | omega | (simp <;> omega)) _ rfl ?_; (exact Row.cellsV (lo := lo) (n := n1) (c := c1) (xs := h.r) s1); intro ga ca w3 hown1 hgr1 _ _; have hr1 := after_lies hown1 L1.out; have X3 := X2.keptR hgr1 (fun e => by have := (hr0'.lt _ e.symm).1; omega); obtain ⟨p30, p31, p32, _⟩ := X3.cells; have t2 := s2.kept hgr1 (.inr fun e => by have := (hr0'.lt _ e.symm).1; have := (r2.lt _ rfl).2; simp [Value.ownBlock] at e; omega); have B3 : Below w.heap.size w w3 := B2.trans ((hr0'.belowLo z12 hgr1).mono (by omega)); have z3 := hgr1.size; clear hown1 hgr1)
        | (refine step_append_lies _ rfl (.tmp 15) (.tmp 17) 23 rfl w1.heap.size 3 i0 (.int .i64 0) 1 8 Try.underlying23 hi hz0 hz1 hz2 rfl (by decide) _ (n0 + n1) ((h.l ++ h.r).map iv) (by rfl) (own_of hr1 L1.out.symm) ⟨g2, 0, none⟩ n2 c2 (h.t.map iv) (by rfl) E2 ?_ (ints_oneCell _ _) (by omega) (by exact q3) (by omega) (by first | omega | (simp <;> omega)) _ rfl ?_; (exact Row.cellsV (lo := lo) (n := n2) (c := c2) (xs := h.t) t2); intro gb cb w4 hown2 hgr2 _ _; have hr2 := after_lies hown2 L2.out; have X4 := X3.keptR hgr2 (fun e => by have := (hr1.lt _ e.symm).1; omega); obtain ⟨p40, p41, p42, _⟩ := X4.cells; have B4 : Below w.heap.size w w4 := B3.trans ((hr1.belowLo (by omega) hgr2).mono (by omega)); clear hown2 hgr2))
    all_goals
      rename_i hHeld
      clear hHeld p10 p11 p12 p20 p21 p22 p30 p31 p32 p40 p41 p42
      have L3 : Hid ((h.l ++ h.r ++ h.t).length = n0 + n1 + n2) := by unfold Hid; exact L2.out.symm
      generalize h.l ++ h.r ++ h.t = xs at hr2 hf L3
      have hm : n0 + n1 + n2 ≤ 24 := by omega
      generalize n0 + n1 + n2 = n at hr2 L3 hm ⊢
      clear X1 X2 X3 X4 hr0 hr0' hr1 s1 s2 t2 r0 r1 r2 q1 q2 q3 L0 L1 L2 E0 E1 E2
      go_wp2_with fail
      go_loop [3, 5] (fun t i => ∃ k : Nat, k ≤ n ∧ i = .int .i64 k ∧ t = .int .i64 (cntN (xs.take k))) (fun _ i => n - (intOf i).toNat)
      case atStart => exact ⟨0, Nat.zero_le _, rfl, rfl⟩
      case round =>
        obtain ⟨k, hk, rfl, rfl⟩ := hrel
        have hbd := cntN_bd (xs.take k)
        have hl : (xs.take k).length ≤ k := List.length_take_le _ _
        have hn := L3.out
        by_cases hlt : k < n
        · obtain ⟨g, x, eg, _, _, hx, hcell, _⟩ := hr2.get (k := k) (by omega)
          cases eg
          have Ht : Hid (cntN (xs.take (k + 1)) = cntN (xs.take k) + if x = -1 then 0 else 1) := by
            unfold Hid; rw [take_snoc hx.out, cntN_snoc]
          clear hx
          by_cases hx1 : x = -1
          · subst hx1
            go_wp2
            go_round
            case rel => exact ⟨k + 1, by omega, by go_num, by rw [Ht.out]; simp⟩
            case measure => simp [intOf]; omega
          · have hx2 : (x != -1) = true := by simpa using hx1
            go_wp2
            go_round
            case rel => exact ⟨k + 1, by omega, by go_num, by rw [Ht.out, if_neg hx1]⟩
            case measure => simp [intOf]; omega
        · obtain rfl : k = n := by omega
          go_wp2
          go_ret
          exact ⟨ret_int (by rw [List.take_of_length_le (by omega)]; exact hf.out.symm), B4⟩
end Go.Proofs.Ytfgkafbdaalkoaa
