/- laws.ccBools. -/
import Derived.Test.YtfgkafbdaalkoaaMemB
import Derived.Test.YtfgkafbdaalkoaaCount
import Derived.Deep.QuietTactic
import Derived.BigQuiet
namespace Go.Proofs.Ytfgkafbdaalkoaa
open Go.RowKit

theorem take_snocC {l : List Bool} {k : Nat} {x : Bool} (h : l[k]? = some x) : l.take (k + 1) = l.take k ++ [x] := by
  rw [List.take_add_one, h]; rfl
theorem eq_takeC {xs ys : List Bool} {k : Nat} {x : Bool} (hx : xs[k]? = some x) (hy : ys[k]? = some x) (h : xs.take k = ys.take k) : xs.take (k + 1) = ys.take (k + 1) := by
  rw [take_snocC hx, take_snocC hy, h]
set_option maxHeartbeats 400000 in
theorem ccBools_any (w : World) (lo lo' : Nat) (A A' : Option Addr) (n c n' c' : Nat) (xs ys : List Bool) (h : RowB w lo (.slice A n c) xs) (hn : xs.length = n) (hm : n ≤ 9223372036854775807)
    (h' : RowB w lo' (.slice A' n' c') ys) (hn' : ys.length = n') (hm' : n' ≤ 9223372036854775807) :
    Calls Try.prog 44 #[.slice A n c, .slice A' n' c'] w fun e w' => e = .returned (.bool (decide (xs = ys))) ∧ ∃ nq, w' = w.drewN nq := by
  by_cases hne : n = n'
  · subst hne
    go_enter Try.func44, Try.ntmps44
    go_wp2
    go_loopw [5] (fun i wr => (∃ k : Nat, k ≤ n ∧ i = .int .i64 k ∧ Hid (xs.take k = ys.take k)) ∧ ∃ nq, wr = w.drewN nq) (fun i _ => n - (intOf i).toNat)
    case atStart => exact ⟨⟨0, Nat.zero_le _, rfl, rfl⟩, 0, rfl⟩
    case round =>
      obtain ⟨⟨k, hk, rfl, ht⟩, nq, rfl⟩ := hrel
      by_cases hlt : k < n
      · obtain ⟨g, x, rfl, _, _, hx, hcell, _⟩ := h.get (k := k) (by omega)
        obtain ⟨g', y, rfl, _, _, hy, hcell', _⟩ := h'.get (k := k) (by omega)
        have hb1 : (k : Int) < (n : Int) := by omega
        by_cases hxy : x = y
        · subst hxy
          have Ht : Hid (xs.take (k + 1) = ys.take (k + 1)) := eq_takeC hx.out hy.out ht.out
          clear ht hx hy
          cases x
          all_goals
            go_wp2
            go_quiet (fail)
            go_wp2
            go_roundw
            case rel => exact ⟨⟨k + 1, by omega, by go_num, Ht⟩, _, by first | rfl | (rw [World.drewN_drewN])⟩
            case measure => simp [intOf]; omega
        · have Hf : Hid (decide (xs = ys) = false) := by
            unfold Hid; simp only [decide_eq_false_iff_not]; rintro rfl
            have e := hx.out.symm.trans hy.out
            exact hxy (by simpa using e)
          clear ht hx hy
          have hxy2 : (x = true ∧ y = false) ∨ (x = false ∧ y = true) := by cases x <;> cases y <;> simp at hxy ⊢
          clear hxy
          rcases hxy2 with ⟨rfl, rfl⟩ | ⟨rfl, rfl⟩
          all_goals
            go_wp2
            go_quiet (fail)
            go_wp2
            go_ret
            exact ⟨ret_bool Hf.out.symm, _, by first | rfl | (rw [World.drewN_drewN])⟩
      · obtain rfl : k = n := by omega
        have Hf : Hid (decide (xs = ys) = true) := by
          have := ht.out; rw [List.take_of_length_le (by omega), List.take_of_length_le (by omega)] at this; unfold Hid; simpa using this
        go_wp2
        go_ret
        exact ⟨ret_bool Hf.out.symm, _, rfl⟩
  · have hne2 : ((n : Int) != (n' : Int)) = true := by simp; omega
    have Hf : Hid (decide (xs = ys) = false) := by
      unfold Hid; simp only [decide_eq_false_iff_not]; rintro rfl; omega
    go_enter Try.func44, Try.ntmps44
    go_wp2
    go_ret
    exact ⟨ret_bool Hf.out.symm, 0, rfl⟩


theorem rowB_max {w : World} {lo n c : Nat} {A : Option Addr} {xs : List Bool} (h : RowB w lo (.slice A n c) xs) : xs.length ≤ 9223372036854775807 := by
  obtain ⟨A', c', _, h1, h2⟩ := h.form
  unfold maxLen at h2; omega
theorem ccBools_same (w : World) (lo lo' : Nat) (A A' : Option Addr) (c c' : Nat) (xs : List Bool) (h : RowB w lo (.slice A xs.length c) xs) (h' : RowB w lo' (.slice A' xs.length c') xs) :
    Calls Try.prog 44 #[.slice A xs.length c, .slice A' xs.length c'] w (RetB w true) :=
  (ccBools_any w lo lo' A A' xs.length c xs.length c' xs xs h rfl (rowB_max h) h' rfl (rowB_max h)).mono fun _ _ ⟨he, nq, hw⟩ => ⟨by rw [he]; simp, by rw [hw]; exact below_drewN (Below.refl _ _) _⟩
end Go.Proofs.Ytfgkafbdaalkoaa
