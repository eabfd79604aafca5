/- spec.HeapValid; HeapSame of both. -/
import Derived.Test.YtapkhgpifpgleaaHpA
namespace Go.Proofs.Ytapkhgpifpgleaa
open Go.RowKit

set_option maxHeartbeats 1000000 in
theorem specHeapValid_any (w : World) (lo : Nat) (v : Value) (h : Hp) (hv : Hv w lo v h) : Calls Try.prog 39 #[v] w (RetB w (hvB h)) := by
  obtain ⟨A0, n0, c0, A1, n1, c1, A2, n2, c2, rfl, ⟨h0, h1, h2⟩, ⟨l0, l1, l2⟩, ⟨m0, m1, m2⟩, _⟩ := hv.open_
  have k0 := h0.alloc (.cells #[.slice A0 n0 c0, .slice A1 n1 c1, .slice A2 n2 c2] 27)
  have k1 := h1.alloc (.cells #[.slice A0 n0 c0, .slice A1 n1 c1, .slice A2 n2 c2] 27)
  have k2 := h2.alloc (.cells #[.slice A0 n0 c0, .slice A1 n1 c1, .slice A2 n2 c2] 27)
  have hdef : Hid (hvB h = (decide (n1 = n0) && szB n0 n2 && h.l.all (ptB · n0) && h.r.all (ptB · n0) && h.t.all (ptB · n0))) := by
    unfold Hid hvB; rw [l0.out, l1.out, l2.out]
  have fin : Below w.heap.size w (w.alloc (.cells #[.slice A0 n0 c0, .slice A1 n1 c1, .slice A2 n2 c2] 27)) := (Below.refl _ _).alloc (Nat.le_refl _) _
  clear h0 h1 h2
  by_cases g1 : n0 < 1
  · have hf : Hid (hvB h = false) := by unfold Hid; rw [hdef.out]; simp [szB]; omega
    go_enter Try.func39, Try.ntmps39
    go_wp2_with fail
    go_ret
    exact ⟨ret_bool hf.out.symm, fin⟩
  by_cases g2 : 8 < n0
  · have hf : Hid (hvB h = false) := by unfold Hid; rw [hdef.out]; simp [szB]; omega
    go_enter Try.func39, Try.ntmps39
    go_wp2_with fail
    go_ret
    exact ⟨ret_bool hf.out.symm, fin⟩
  by_cases e1 : n1 = n0
  · subst e1
    have e1' : ((n1 : Int) != (n1 : Int)) = false := by simp
    by_cases g3 : n2 < 1
    · have hf : Hid (hvB h = false) := by unfold Hid; rw [hdef.out]; simp [szB]; omega
      go_enter Try.func39, Try.ntmps39
      go_wp2_with fail
      go_ret
      exact ⟨ret_bool hf.out.symm, fin⟩
    by_cases g4 : 3 < n2
    · have hf : Hid (hvB h = false) := by unfold Hid; rw [hdef.out]; simp [szB]; omega
      go_enter Try.func39, Try.ntmps39
      go_wp2_with fail
      go_ret
      exact ⟨ret_bool hf.out.symm, fin⟩
    have hd2 : Hid (hvB h = (h.l.all (ptB · n1) && h.r.all (ptB · n1) && h.t.all (ptB · n1))) := by
      unfold Hid; rw [hdef.out]
      have : szB n1 n2 = true := by simp [szB]; omega
      simp [this]
    clear hdef
    go_enter Try.func39, Try.ntmps39
    go_wp2_with fail
    go_loop [4] (fun i => ∃ k : Nat, k ≤ n1 ∧ i = .int .i64 k ∧ Hid ((h.l.take k).all (ptB · n1) = true ∧ (h.r.take k).all (ptB · n1) = true)) (fun i => n1 - (intOf i).toNat)
    case atStart => exact ⟨0, Nat.zero_le _, rfl, rfl, rfl⟩
    case round =>
      obtain ⟨k, hk, rfl, ht⟩ := hrel
      by_cases hlt : k < n1
      · obtain ⟨g, x, rfl, _, _, hx, hcell, _⟩ := k0.get (k := k) (by rw [l0.out]; omega)
        obtain ⟨g', y, rfl, _, _, hy, hcell', _⟩ := k1.get (k := k) (by rw [l1.out]; omega)
        have Hx := l1Points_any x n1
        have Hy := l1Points_any y n1
        rcases hb : ptB x n1
        · rw [hb] at Hx
          have hf : Hid (hvB h = false) := by
            unfold Hid; rw [hd2.out]
            have : h.l.all (ptB · n1) = false := by rw [List.all_eq_false]; exact ⟨x, List.mem_of_getElem? hx.out, by simp [hb]⟩
            simp [this]
          clear hd2 ht hb hx hy
          go_wp2_with fail
          refine (Hx _).mono ?_; rintro e w' ⟨rfl, rfl⟩
          go_wp2_with fail
          go_ret
          exact ⟨ret_bool hf.out.symm, fin⟩
        · rw [hb] at Hx
          rcases hb' : ptB y n1
          · rw [hb'] at Hy
            have hf : Hid (hvB h = false) := by
              unfold Hid; rw [hd2.out]
              have : h.r.all (ptB · n1) = false := by rw [List.all_eq_false]; exact ⟨y, List.mem_of_getElem? hy.out, by simp [hb']⟩
              simp [this]
            clear hd2 ht hb hb' hx hy
            go_wp2_with fail
            refine (Hx _).mono ?_; rintro e w' ⟨rfl, rfl⟩
            go_wp2_with fail
            refine (Hy _).mono ?_; rintro e w' ⟨rfl, rfl⟩
            go_wp2_with fail
            go_ret
            exact ⟨ret_bool hf.out.symm, fin⟩
          · rw [hb'] at Hy
            have ht' : Hid ((h.l.take (k + 1)).all (ptB · n1) = true ∧ (h.r.take (k + 1)).all (ptB · n1) = true) := by
              refine ⟨?_, ?_⟩
              · rw [take_snoc hx.out, List.all_append, ht.out.1]; simp [hb]
              · rw [take_snoc hy.out, List.all_append, ht.out.2]; simp [hb']
            clear hd2 ht hb hb' hx hy
            go_wp2_with fail
            refine (Hx _).mono ?_; rintro e w' ⟨rfl, rfl⟩
            go_wp2_with fail
            refine (Hy _).mono ?_; rintro e w' ⟨rfl, rfl⟩
            go_wp2_with fail
            go_round
            case rel => exact ⟨k + 1, by omega, by go_num, ht'⟩
            case measure => simp [intOf]; omega
      · obtain rfl : k = n1 := by omega
        have hd3 : Hid (hvB h = h.t.all (ptB · k)) := by
          have a := ht.out.1; have b := ht.out.2
          rw [List.take_of_length_le (by rw [l0.out]; exact Nat.le_refl _)] at a
          rw [List.take_of_length_le (by rw [l1.out]; exact Nat.le_refl _)] at b
          unfold Hid; rw [hd2.out, a, b]; simp
        clear hd2 ht k0 k1
        go_wp2_with fail
        go_loop [5] (fun i => ∃ j : Nat, j ≤ n2 ∧ i = .int .i64 j ∧ Hid ((h.t.take j).all (ptB · k) = true)) (fun i => n2 - (intOf i).toNat)
        case atStart => exact ⟨0, Nat.zero_le _, rfl, rfl⟩
        case round =>
          obtain ⟨j, hj, rfl, ht⟩ := hrel
          by_cases hlt2 : j < n2
          · obtain ⟨g, x, rfl, _, _, hx, hcell, _⟩ := k2.get (k := j) (by rw [l2.out]; omega)
            have Hx := l1Points_any x k
            rcases hb : ptB x k
            · rw [hb] at Hx
              have hf : Hid (hvB h = false) := by
                unfold Hid; rw [hd3.out, List.all_eq_false]; exact ⟨x, List.mem_of_getElem? hx.out, by simp [hb]⟩
              clear hd3 ht hb hx
              go_wp2_with fail
              refine (Hx _).mono ?_; rintro e w' ⟨rfl, rfl⟩
              go_wp2_with fail
              go_ret
              exact ⟨ret_bool hf.out.symm, fin⟩
            · rw [hb] at Hx
              have ht' : Hid ((h.t.take (j + 1)).all (ptB · k) = true) := by
                unfold Hid; rw [take_snoc hx.out, List.all_append, ht.out]; simp [hb]
              clear hd3 ht hb hx
              go_wp2_with fail
              refine (Hx _).mono ?_; rintro e w' ⟨rfl, rfl⟩
              go_wp2_with fail
              go_round
              case rel => exact ⟨j + 1, by omega, by go_num, ht'⟩
              case measure => simp [intOf]; omega
          · obtain rfl : j = n2 := by omega
            have hf : Hid (hvB h = true) := by
              have a := ht.out
              rw [List.take_of_length_le (by rw [l2.out]; exact Nat.le_refl _)] at a
              unfold Hid; rw [hd3.out, a]
            go_wp2_with fail
            go_ret
            exact ⟨ret_bool hf.out.symm, fin⟩
  · have e1' : ((n1 : Int) != (n0 : Int)) = true := by simp; omega
    have hf : Hid (hvB h = false) := by unfold Hid; rw [hdef.out]; simp [e1]
    clear hdef
    go_enter Try.func39, Try.ntmps39
    go_wp2_with fail
    go_ret
    exact ⟨ret_bool hf.out.symm, fin⟩
end Go.Proofs.Ytapkhgpifpgleaa
