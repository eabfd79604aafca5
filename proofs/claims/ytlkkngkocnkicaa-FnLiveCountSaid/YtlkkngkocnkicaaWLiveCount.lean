/- The law FnLiveCount, walked. -/
import Derived.Test.YtlkkngkocnkicaaDCountLive
import Derived.Test.YtlkkngkocnkicaaLive
import Derived.Test.YtlkkngkocnkicaaClos
import Derived.Test.YtlkkngkocnkicaaWLaw
namespace Go.Proofs.Ytlkkngkocnkicaa
open Go.RowKit

/-- Does one of the roots point to a cell? -/
def someR (xs : List Int) : Bool := xs.any (fun x => x != -1)
theorem someR_snoc {l : List Int} {k : Nat} {x : Int} (h : l[k]? = some x) : someR (l.take (k + 1)) = (someR (l.take k) || (x != -1)) := by
  unfold someR; rw [take_snoc h, List.any_append]; simp
theorem cntB_pos {xs : List Bool} : 0 < cntB xs ↔ true ∈ xs := by
  unfold cntB
  constructor
  · intro h
    have h9 : 0 < (xs.filter id).length := by omega
    obtain ⟨y, hy⟩ := List.exists_mem_of_length_pos h9
    rw [List.mem_filter] at hy
    have : y = true := by simpa using hy.2
    rw [← this]; exact hy.1
  · intro h
    have : true ∈ xs.filter id := by rw [List.mem_filter]; exact ⟨h, rfl⟩
    have := List.length_pos_of_mem this
    omega
theorem liveCount_facts {h : Hp} (hv : hvB h = true) : 0 ≤ cntB (liveL h) ∧ cntB (liveL h) ≤ h.l.length ∧ decide (0 < cntB (liveL h)) = someR h.t := by
  have hb := cntB_bd (liveL h)
  rw [liveL_len hv] at hb
  refine ⟨hb.1, hb.2, ?_⟩
  obtain ⟨_, _, _, h5⟩ := hvB_parts hv
  by_cases hs : someR h.t = true
  · rw [hs, decide_eq_true_eq, cntB_pos]
    unfold someR at hs
    rw [List.any_eq_true] at hs
    obtain ⟨x, hx, hne⟩ := hs
    have hne' : x ≠ -1 := by simpa using hne
    have h9 := (dist_closed hv h5).1 x hx hne'
    rw [List.all_eq_true] at h5
    have hp := h5 x hx
    simp only [ptB, decide_eq_true_eq] at hp
    obtain ⟨kk, rfl⟩ : ∃ kk : Nat, x = kk := ⟨x.toNat, by omega⟩
    have hkl : kk < (liveL h).length := by rw [liveL_len hv]; omega
    have hbk := live_get hv (k := kk) (b := (liveL h)[kk]) (List.getElem?_eq_getElem hkl)
    have ht : (liveL h)[kk] = true := by rw [hbk]; simpa using h9
    rw [← ht]; exact List.getElem_mem hkl
  · have hs' : someR h.t = false := by simpa using hs
    rw [hs', decide_eq_false_iff_not, cntB_pos]
    intro hm
    have hall : ∀ x ∈ h.t, x = -1 := by
      intro x hx
      unfold someR at hs'
      rw [List.any_eq_false] at hs'
      have := hs' x hx
      simpa using this
    unfold liveL at hm
    rw [if_pos hv, dist_none hall, List.map_replicate] at hm
    have := (List.mem_replicate.1 hm).2
    simp at this

set_option maxRecDepth 100000 in
set_option maxHeartbeats 3000000 in
theorem lawLiveCount_walk (w : World) (A : Option Addr) (n c : Nat) (h : Inp w A n c) :
    Calls Try.prog 6 #[.slice A n c] w (LawTrue w) := by
  by_cases hbig : 1048576 < n
  · go_enter Try.func6, Try.ntmps6
    go_wp2_with fail
    go_ret
    exact ⟨rfl, Below.refl _ _⟩
  go_enter Try.func6, Try.ntmps6
  go_wp2_with fail
  refine (drawCountLive_any _ _ _ _ h).mono ?_; rintro e w1 ⟨v, hp, rfl, HA, hb1⟩
  have BW1 : Below w.heap.size w w1 := (Below.refl w.heap.size w).trans (hb1.mono (Below.refl w.heap.size w).size)
  have zz1 := hb1.size
  have I := fun W v hW => implLive_any W w.heap.size v hp hW
  have S := fun W v hW => specLive_any W w.heap.size v hp hW
  have V := fun W v hW => implHeapValid_any W w.heap.size v hp hW
  have HAo := HA
  obtain ⟨A0, n0, c0, A1, n1, c1, A2, n2, c2, rfl, ⟨r0, r1, r2⟩, ⟨l0, l1, l2⟩, _⟩ := HAo.open_
  rcases ev : hvB hp
  · rw [ev] at V
    generalize cntB (liveL hp) = N at I S
    clear ev
    go_wp2_with fail
    refine (I _ _ (HA.alloc (.cells #[.slice A0 n0 c0, .slice A1 n1 c1, .slice A2 n2 c2] 25))).mono ?_; rintro e w2 ⟨rfl, hb2⟩
    have BW2 : Below w.heap.size w w2 := (BW1.alloc BW1.size (.cells #[.slice A0 n0 c0, .slice A1 n1 c1, .slice A2 n2 c2] 25)).trans (hb2.mono (BW1.alloc BW1.size (.cells #[.slice A0 n0 c0, .slice A1 n1 c1, .slice A2 n2 c2] 25)).size)
    have zz2 := hb2.size
    have HA_2 := Hv.below (by exact (HA.alloc (.cells #[.slice A0 n0 c0, .slice A1 n1 c1, .slice A2 n2 c2] 25))) hb2
    have X_2 := Blk3.below (by exact (Blk3.new w1 (.slice A0 n0 c0) (.slice A1 n1 c1) (.slice A2 n2 c2) 25)) hb2
    obtain ⟨cX_2_0, cX_2_1, cX_2_2, _⟩ := X_2.cells
    have lX_2 := X_2.lt
    go_wp2_with fail
    refine (S _ _ HA_2).mono ?_; rintro e w3 ⟨rfl, hb3⟩
    have BW3 : Below w.heap.size w w3 := BW2.trans (hb3.mono BW2.size)
    have zz3 := hb3.size
    have HA_3 := Hv.below (by exact HA_2) hb3
    have X_3 := Blk3.below (by exact X_2) hb3
    obtain ⟨cX_3_0, cX_3_1, cX_3_2, _⟩ := X_3.cells
    have lX_3 := X_3.lt
    go_wp2_with fail
    refine (V _ _ HA_3).mono ?_; rintro e w4 ⟨rfl, hb4⟩
    have BW4 : Below w.heap.size w w4 := BW3.trans (hb4.mono BW3.size)
    have zz4 := hb4.size
    have HA_4 := Hv.below (by exact HA_3) hb4
    have X_4 := Blk3.below (by exact X_3) hb4
    obtain ⟨cX_4_0, cX_4_1, cX_4_2, _⟩ := X_4.cells
    have lX_4 := X_4.lt
    go_wp2_with fail
    refine (S _ _ HA_4).mono ?_; rintro e w5 ⟨rfl, hb5⟩
    have BW5 : Below w.heap.size w w5 := BW4.trans (hb5.mono BW4.size)
    have zz5 := hb5.size
    have HA_5 := Hv.below (by exact HA_4) hb5
    have X_5 := Blk3.below (by exact X_4) hb5
    obtain ⟨cX_5_0, cX_5_1, cX_5_2, _⟩ := X_5.cells
    have lX_5 := X_5.lt
    go_wp2_with fail
    go_ret
    exact ⟨by simp, BW5⟩
  · rw [ev] at V
    have hl := hvB_len ev
    obtain ⟨g1, g2, g3⟩ := liveCount_facts ev
    have u0 : n0 ≤ 8 ∧ n2 ≤ 3 := by have := l0.out; have := l2.out; omega
    obtain ⟨u0a, u0c⟩ := u0
    have g2' : cntB (liveL hp) ≤ (n0 : Int) := by have := l0.out; omega
    generalize cntB (liveL hp) = N at I S g1 g2' g3 g2
    have G3 := Lib.hid g3
    clear ev hl g2 g3
    go_wp2_with fail
    refine (I _ _ (HA.alloc (.cells #[.slice A0 n0 c0, .slice A1 n1 c1, .slice A2 n2 c2] 25))).mono ?_; rintro e w2 ⟨rfl, hb2⟩
    have BW2 : Below w.heap.size w w2 := (BW1.alloc BW1.size (.cells #[.slice A0 n0 c0, .slice A1 n1 c1, .slice A2 n2 c2] 25)).trans (hb2.mono (BW1.alloc BW1.size (.cells #[.slice A0 n0 c0, .slice A1 n1 c1, .slice A2 n2 c2] 25)).size)
    have zz2 := hb2.size
    have HA_2 := Hv.below (by exact (HA.alloc (.cells #[.slice A0 n0 c0, .slice A1 n1 c1, .slice A2 n2 c2] 25))) hb2
    have X_2 := Blk3.below (by exact (Blk3.new w1 (.slice A0 n0 c0) (.slice A1 n1 c1) (.slice A2 n2 c2) 25)) hb2
    obtain ⟨cX_2_0, cX_2_1, cX_2_2, _⟩ := X_2.cells
    have lX_2 := X_2.lt
    go_wp2_with fail
    refine (S _ _ HA_2).mono ?_; rintro e w3 ⟨rfl, hb3⟩
    have BW3 : Below w.heap.size w w3 := BW2.trans (hb3.mono BW2.size)
    have zz3 := hb3.size
    have HA_3 := Hv.below (by exact HA_2) hb3
    have X_3 := Blk3.below (by exact X_2) hb3
    obtain ⟨cX_3_0, cX_3_1, cX_3_2, _⟩ := X_3.cells
    have lX_3 := X_3.lt
    go_wp2_with fail
    refine (V _ _ HA_3).mono ?_; rintro e w4 ⟨rfl, hb4⟩
    have BW4 : Below w.heap.size w w4 := BW3.trans (hb4.mono BW3.size)
    have zz4 := hb4.size
    have HA_4 := Hv.below (by exact HA_3) hb4
    have X_4 := Blk3.below (by exact X_3) hb4
    obtain ⟨cX_4_0, cX_4_1, cX_4_2, _⟩ := X_4.cells
    have lX_4 := X_4.lt
    have C4 : Below w1.heap.size w1 w4 := ((((Below.refl _ _).alloc (Nat.le_refl _) _).trans (hb2.mono (by simp))).trans (hb3.mono (by simp at zz2; omega))).trans (hb4.mono (by simp at zz2; omega))
    have q2 := r2.below C4
    clear I S V r0 r1 r2 HA_2 HA_3 HA_4
    go_wp2_with fail
    go_loop [5, 6] (fun s i => ∃ (k : Nat) (b : Bool), k ≤ n2 ∧ i = .int .i64 k ∧ s = .bool b ∧ Hid (b = someR (hp.t.take k))) (fun _ i => n2 - (intOf i).toNat)
    case atStart => exact ⟨0, false, Nat.zero_le _, rfl, rfl, rfl⟩
    case round =>
      obtain ⟨k, b, hk, rfl, rfl, hs⟩ := hrel
      by_cases hlt : k < n2
      · obtain ⟨g, x, rfl, _, _, hx, hcell, _⟩ := q2.get (k := k) (by have := l2.out; omega)
        have hn : Hid (someR (hp.t.take (k + 1)) = (b || (x != -1))) := by unfold Hid; rw [someR_snoc hx.out, ← hs.out]
        clear hs hx
        cases b
        · by_cases hx1 : x = -1
          · subst hx1
            go_wp2_with fail
            go_round
            case rel => exact ⟨k + 1, false, by omega, by go_num, rfl, by unfold Hid; rw [hn.out]; simp⟩
            case measure => simp [intOf]; omega
          · have hx2 : (x != -1) = true := by simpa using hx1
            go_wp2_with fail
            go_round
            case rel => exact ⟨k + 1, true, by omega, by go_num, rfl, by unfold Hid; rw [hn.out, hx2]; simp⟩
            case measure => simp [intOf]; omega
        · go_wp2_with fail
          go_round
          case rel => exact ⟨k + 1, true, by omega, by go_num, rfl, by unfold Hid; rw [hn.out]; simp⟩
          case measure => simp [intOf]; omega
      · obtain rfl : k = n2 := by omega
        have hb : Hid (b = decide (0 < N)) := by
          unfold Hid; rw [hs.out, List.take_of_length_le (by rw [l2.out]; omega)]; exact G3.out.symm
        clear hs
        by_cases hN : 0 < N
        · obtain rfl : b = true := by rw [hb.out]; simpa using hN
          clear hb
          go_wp2_with fail
          go_ret
          exact ⟨by simp, BW4⟩
        · obtain rfl : b = false := by rw [hb.out]; simpa using hN
          clear hb
          go_wp2_with fail
          go_ret
          exact ⟨by simp, BW4⟩
end Go.Proofs.Ytlkkngkocnkicaa
