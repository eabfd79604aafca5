/- spec.Reachable. -/
import Derived.Test.YthagchhegljphaaMemB
import Derived.Test.YthagchhegljphaaSDist
import Derived.Maps.AppendAt
namespace Go.Proofs.Ythagchhegljphaa
open Go.RowKit

theorem liveL_take {h : Hp} {k : Nat} {u : Int} (hv : hvB h = true) (hu : (dist h h.t)[k]? = some u) : (liveL h).take (k + 1) = (liveL h).take k ++ [decide (0 < u)] := by
  have hk : (liveL h)[k]? = some (decide (0 ≤ u)) := by unfold liveL; rw [if_pos hv, List.getElem?_map, hu]; rfl
  have ho := dist_okV h h.t
  rw [List.all_eq_true] at ho
  have hh := ho u (List.mem_of_getElem? hu)
  have e : decide (0 ≤ u) = decide (0 < u) := by simp [okV] at hh; simp; omega
  rw [List.take_add_one, hk, e]; rfl
theorem one_newV {w : World} {x : Value} {t : TypeId} : ∀ j u, [x][j]? = some u → (w.alloc (.cells #[x] t)).cell? ((⟨w.heap.size, 0, none⟩ : Addr).add j) = some u := one_new

set_option maxRecDepth 100000 in
set_option maxHeartbeats 2000000 in
theorem specReach_any (w : World) (lo : Nat) (v : Value) (h : Hp) (hv : Hv w lo v h) :
    Calls Try.prog 28 #[v] w (NewRowB w (liveL h)) := by
  obtain ⟨i0, hi, hz0, hz1, hz2⟩ := info_parts Try.infoBool
  obtain ⟨A0, n0, c0, A1, n1, c1, A2, n2, c2, rfl, ⟨h0, h1, h2⟩, ⟨l0, l1, l2⟩, _⟩ := hv.open_
  have X0 := (Blk3.new w (.slice A0 n0 c0) (.slice A1 n1 c1) (.slice A2 n2 c2) 25).alloc (.cells #[] 4)
  have V := specHeapValid_any _ _ _ _ ((hv.alloc (.cells #[.slice A0 n0 c0, .slice A1 n1 c1, .slice A2 n2 c2] 25)).alloc (.cells #[] 4))
  have fin : Below w.heap.size w ((w.alloc (.cells #[.slice A0 n0 c0, .slice A1 n1 c1, .slice A2 n2 c2] 25)).alloc (.cells #[] 4)) := ((Below.refl _ _).alloc (Nat.le_refl _) _).alloc (by simp) _
  have R0 : RowB ((w.alloc (.cells #[.slice A0 n0 c0, .slice A1 n1 c1, .slice A2 n2 c2] 25)).alloc (.cells #[] 4)) (w.heap.size + 1) (.slice (some ⟨w.heap.size + 1, 0, none⟩) 0 0) [] := by
    have h9 := World.ownsRow_lit (w.alloc (.cells #[.slice A0 n0 c0, .slice A1 n1 c1, .slice A2 n2 c2] 25)) (e := 4) (size := 1) #[] 0 (base := w.heap.size + 1) (by simp) (by unfold maxLen; omega) rfl
    simpa [RowB] using h9
  rcases ev : hvB h
  · rw [ev] at V
    have hf : liveL h = [] := by unfold liveL; rw [ev]; simp
    rw [hf]
    clear ev hf
    go_enter Try.func28, Try.ntmps28
    go_wp2_with fail
    refine V.mono ?_; rintro e w1 ⟨rfl, hb1⟩
    have R1 := RowB.below (by exact R0) hb1
    go_wp2_with fail
    go_ret
    exact ⟨_, _, rfl, R1.mono (by omega), fin.trans (hb1.mono (by simp; omega))⟩
  · rw [ev] at V
    have hl := hvB_len ev
    have u0 : 0 < n0 ∧ n0 ≤ 8 ∧ n2 ≤ 3 := by have := l0.out; have := l2.out; omega
    obtain ⟨u0a, u0b, u0c⟩ := u0
    have hpt := (hvB_parts ev).2.2.2
    have EV := Lib.hid ev
    have hll : Hid ((liveL h).length = n0) := by unfold Hid; rw [liveL_len ev]; exact l0.out
    have DD := fun W hW hR => l2Distances_any W lo (.agg #[.slice A0 n0 c0, .slice A1 n1 c1, .slice A2 n2 c2]) h hW ev A2 n2 c2 h.t lo hR l2.out (by omega) hpt
    have hdl : Hid ((dist h h.t).length = n0) := by unfold Hid; rw [dist_len]; exact l0.out
    clear ev hl hpt
    go_enter Try.func28, Try.ntmps28
    go_wp2_with fail
    refine V.mono ?_; rintro e w1 ⟨rfl, hb1⟩
    have X1 := Blk3.below (by exact X0) hb1
    have R1 := RowB.below (by exact R0) hb1
    have H1 := Hv.below (by exact (hv.alloc (.cells #[.slice A0 n0 c0, .slice A1 n1 c1, .slice A2 n2 c2] 25)).alloc (.cells #[] 4)) hb1
    have Q1 := Row.below (by exact (h2.alloc (.cells #[.slice A0 n0 c0, .slice A1 n1 c1, .slice A2 n2 c2] 25)).alloc (.cells #[] 4)) hb1
    have B1 : Below w.heap.size w w1 := fin.trans (hb1.mono (by simp; omega))
    have z1 : w.heap.size + 2 ≤ w1.heap.size := by have := hb1.size; simp at this; omega
    obtain ⟨p0, p1, p2, _⟩ := X1.cells
    have D1 := DD w1 H1 Q1
    generalize hDe : dist h h.t = D at D1 hdl
    have HDe := Lib.hid hDe
    clear hDe V hv h0 h1 h2 DD H1 Q1
    go_wp2_with fail
    refine D1.mono ?_; rintro e w2 ⟨AD, cD, rfl, hD, hb2⟩
    have R2 := R1.below hb2
    have B2 := B1.trans (hb2.mono B1.size)
    have z2 := hb2.size
    rw [hdl.out] at hD ⊢
    clear R1 X1 X0
    go_wp2_with fail
    go_loopw [3, 5] (fun v i wr => ∃ (k : Nat) (A : Option Addr) (cc : Nat), k ≤ n0 ∧ i = .int .i64 k ∧ v = .slice A k cc ∧ RowB wr (w.heap.size + 1) (.slice A k cc) ((liveL h).take k) ∧ Row wr w1.heap.size (.slice AD n0 cD) D ∧ Below w.heap.size w wr ∧ w2.heap.size ≤ wr.heap.size ∧ Hid (∀ b, (Value.slice A k cc).ownBlock = some b → b < w1.heap.size ∨ w2.heap.size ≤ b)) (fun _ i _ => n0 - (intOf i).toNat)
    case atStart => exact ⟨0, _, _, Nat.zero_le _, rfl, rfl, by simpa using R2, hD, B2, Nat.le_refl _, fun b hb => by simp [Value.ownBlock] at hb; omega⟩
    case round =>
      obtain ⟨k, A, cc, hk, rfl, rfl, hrow, hDr, hB, hz, hob⟩ := hrel
      by_cases hlt : k < n0
      · obtain ⟨g, u, rfl, hg1, hg2, hu, hcu, _⟩ := hDr.get (k := k) (by have := hdl.out; omega)
        have hgD : g < w2.heap.size := (hD.lt g rfl).2
        have ht := liveL_take EV.out (k := k) (u := u) (by rw [HDe.out]; exact hu.out)
        have HT := Lib.hid ht
        have htl : ((liveL h).take k).length = k := by rw [List.length_take, hll.out]; omega
        have HTL := Lib.hid htl
        have hown : wr.ownsRow (w.heap.size + 1) 4 1 (.slice A k cc) k (((liveL h).take k).map bv) := by have h9 := hrow; unfold RowB at h9; rw [htl] at h9; exact h9
        have hsz := hB.size
        clear ht htl hrow hu
        by_cases hu0 : 0 < u
        · have hd : decide (0 < u) = true := decide_eq_true hu0
          rw [hd] at HT
          clear hd
          go_wp2_with (at_builtin; refine wpList_append_own_at _ rfl _ _ 30 rfl (w.heap.size + 1) 4 i0 (.bool false) 1 1 Try.underlying30 hi hz0 hz1 hz2 rfl (by decide) _ _ _ rfl (hown.alloc _) ⟨wr.heap.size, 0, none⟩ 1 1 [.bool true] rfl rfl ?ap1 ?ap2 ?ap3 ?ap4 ?ap5 ?_)
          try case ap1 => exact one_newV
          try case ap2 => first | rfl | (intro u hu; simp at hu; subst hu; rfl)
          try case ap3 => unfold maxLen; omega
          try case ap4 => omega
          try case ap5 => first | omega | (simp; omega)
          intro v' w4 hown' hgrow _ hloc
          have hrow' : RowB w4 (w.heap.size + 1) v' ((liveL h).take (k + 1)) := by rw [HT.out]; exact RowB.of_own hown' (by simp) (by simp [HTL.out])
          have hlen : ((liveL h).take (k + 1)).length = k + 1 := by rw [HT.out]; simp [HTL.out]
          obtain ⟨A', c', hv', _⟩ := hrow'.form
          rw [hlen] at hv'
          subst hv'
          have hB4 := (hB.alloc hsz (.cells #[.bool true] 4)).grown hgrow (by simp; omega) (fun j hj => by have := (hown.lt j hj).1; omega)
          have hz4 : w2.heap.size ≤ w4.heap.size := by have := hgrow.size; simp at this; omega
          have hD4 := Row.kept (hDr.alloc (.cells #[.bool true] 4)) hgrow (.inr fun e => by have := hob.out g e.symm; omega)
          have hob4 : Hid (∀ b, (Value.slice A' (k + 1) c').ownBlock = some b → b < w1.heap.size ∨ w2.heap.size ≤ b) := fun b hb => by
            rcases hloc with h9 | h9
            · rw [h9] at hb; exact hob.out b hb
            · rw [h9] at hb; simp at hb; omega
          clear hown hown' hgrow hloc hlen
          go_wp2
          go_roundw
          case rel => exact ⟨k + 1, A', c', by omega, by go_num, rfl, hrow', hD4, hB4, hz4, hob4⟩
          case measure => simp [intOf]; omega
        · have hd : decide (0 < u) = false := decide_eq_false hu0
          rw [hd] at HT
          clear hd
          go_wp2_with (at_builtin; refine wpList_append_own_at _ rfl _ _ 30 rfl (w.heap.size + 1) 4 i0 (.bool false) 1 1 Try.underlying30 hi hz0 hz1 hz2 rfl (by decide) _ _ _ rfl (hown.alloc _) ⟨wr.heap.size, 0, none⟩ 1 1 [.bool false] rfl rfl ?ap1 ?ap2 ?ap3 ?ap4 ?ap5 ?_)
          try case ap1 => exact one_newV
          try case ap2 => first | rfl | (intro u hu; simp at hu; subst hu; rfl)
          try case ap3 => unfold maxLen; omega
          try case ap4 => omega
          try case ap5 => first | omega | (simp; omega)
          intro v' w4 hown' hgrow _ hloc
          have hrow' : RowB w4 (w.heap.size + 1) v' ((liveL h).take (k + 1)) := by rw [HT.out]; exact RowB.of_own hown' (by simp) (by simp [HTL.out])
          have hlen : ((liveL h).take (k + 1)).length = k + 1 := by rw [HT.out]; simp [HTL.out]
          obtain ⟨A', c', hv', _⟩ := hrow'.form
          rw [hlen] at hv'
          subst hv'
          have hB4 := (hB.alloc hsz (.cells #[.bool false] 4)).grown hgrow (by simp; omega) (fun j hj => by have := (hown.lt j hj).1; omega)
          have hz4 : w2.heap.size ≤ w4.heap.size := by have := hgrow.size; simp at this; omega
          have hD4 := Row.kept (hDr.alloc (.cells #[.bool false] 4)) hgrow (.inr fun e => by have := hob.out g e.symm; omega)
          have hob4 : Hid (∀ b, (Value.slice A' (k + 1) c').ownBlock = some b → b < w1.heap.size ∨ w2.heap.size ≤ b) := fun b hb => by
            rcases hloc with h9 | h9
            · rw [h9] at hb; exact hob.out b hb
            · rw [h9] at hb; simp at hb; omega
          clear hown hown' hgrow hloc hlen
          go_wp2
          go_roundw
          case rel => exact ⟨k + 1, A', c', by omega, by go_num, rfl, hrow', hD4, hB4, hz4, hob4⟩
          case measure => simp [intOf]; omega
      · obtain rfl : k = n0 := by omega
        have hrow' : RowB wr (w.heap.size + 1) (.slice A (liveL h).length cc) (liveL h) := by
          have h9 := hrow; rw [List.take_of_length_le (by rw [hll.out]; omega)] at h9; rw [hll.out]; exact h9
        clear hrow
        go_wp2_with fail
        go_ret
        exact ⟨A, cc, by simp [hll.out], hrow'.mono (by omega), hB⟩
end Go.Proofs.Ythagchhegljphaa
