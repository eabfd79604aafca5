/- Loops over rows of ints: they only read. -/
import Derived.Test.YtdealoclkajliaaMemos
import Derived.Outline
import Derived.BigQuiet
import Derived.Deep.QuietTactic
namespace Go.Proofs.Ytdealoclkajliaa
open Go.RowKit

theorem take_snoc {α : Type} {l : List α} {k : Nat} {x : α} (h : l[k]? = some x) : l.take (k + 1) = l.take k ++ [x] := by
  rw [List.take_add_one, h]; rfl

set_option maxHeartbeats 400000 in
theorem pointersValid_any (w : World) (lo : Nat) (A : Option Addr) (n c : Nat) (xs : List Int) (h : Row w lo (.slice A n c) xs) (hn : xs.length = n) (hm : n ≤ 9223372036854775807) (cells : Int) (hc : 0 ≤ cells) :
    Calls Try.prog 86 #[.slice A n c, .int .i64 cells] w fun e w' => e = .returned (.bool (xs.all (ptB · cells))) ∧ w = w' := by
  go_enter Try.func86, Try.ntmps86
  go_wp2
  go_loop [6, 9] (fun _ i => ∃ k : Nat, k ≤ n ∧ i = .int .i64 k ∧ Hid ((xs.take k).all (ptB · cells) = true)) (fun _ i => n - (intOf i).toNat)
  case atStart => exact ⟨0, Nat.zero_le _, rfl, rfl⟩
  case round =>
    obtain ⟨k, hk, rfl, ht⟩ := hrel
    by_cases hlt : k < n
    · obtain ⟨g, x, rfl, _, _, hx, hcell, _⟩ := h.get (k := k) (by omega)
      have H := pointerValid_any x cells hc
      have Ht : Hid ((xs.take (k + 1)).all (ptB · cells) = ptB x cells) := by
        unfold Hid; rw [take_snoc hx.out, List.all_append, ht.out]; simp
      rcases hb : ptB x cells
      · rw [hb] at H
        have Hf : Hid (xs.all (ptB · cells) = false) := by
          unfold Hid; rw [List.all_eq_false]; exact ⟨x, List.mem_of_getElem? hx.out, by simp [hb]⟩
        clear ht Ht hb hx
        go_wp2_with (go_at_call 98; refine (H _).mono ?_; rintro e w' ⟨rfl, rfl⟩)
        go_ret
        exact ⟨ret_bool Hf.out.symm, rfl⟩
      · rw [hb] at H
        have Ht' : Hid ((xs.take (k + 1)).all (ptB · cells) = true) := by unfold Hid; rw [Ht.out, hb]
        clear ht Ht hb hx
        go_wp2_with (go_at_call 98; refine (H _).mono ?_; rintro e w' ⟨rfl, rfl⟩)
        go_round
        case rel => exact ⟨k + 1, by omega, by go_num, Ht'⟩
        case measure => simp [intOf]; omega
    · obtain rfl : k = n := by omega
      have Hf : Hid (xs.all (ptB · cells) = true) := by
        have := ht.out; rw [List.take_of_length_le (by omega)] at this; exact this
      go_wp2
      go_ret
      exact ⟨ret_bool Hf.out.symm, rfl⟩

def cntN (xs : List Int) : Int := ((xs.filter (· != -1)).length : Nat)
theorem cntN_snoc (l : List Int) (x : Int) : cntN (l ++ [x]) = cntN l + if x = -1 then 0 else 1 := by
  unfold cntN; by_cases h : x = -1 <;> simp [List.filter_append, h]
theorem cntN_bd (l : List Int) : 0 ≤ cntN l ∧ cntN l ≤ l.length := by
  unfold cntN; exact ⟨by omega, by have := List.length_filter_le (· != (-1 : Int)) l; omega⟩

/-- Two rows are held against each other: spec.l1Ints, laws.ccInts and slices.Equal. -/
theorem eq_take {xs ys : List Int} {k : Nat} {x : Int} (hx : xs[k]? = some x) (hy : ys[k]? = some x) (h : xs.take k = ys.take k) : xs.take (k + 1) = ys.take (k + 1) := by
  rw [take_snoc hx, take_snoc hy, h]

set_option maxHeartbeats 400000 in
theorem l1Ints_any (w : World) (lo lo' : Nat) (A A' : Option Addr) (n c n' c' : Nat) (xs ys : List Int) (h : Row w lo (.slice A n c) xs) (hn : xs.length = n) (hm : n ≤ 9223372036854775807)
    (h' : Row w lo' (.slice A' n' c') ys) (hn' : ys.length = n') (hm' : n' ≤ 9223372036854775807) :
    Calls Try.prog 52 #[.slice A n c, .slice A' n' c'] w fun e w' => e = .returned (.bool (decide (xs = ys))) ∧ ∃ nq, w' = w.drewN nq := by
  by_cases hne : n = n'
  · subst hne
    go_enter Try.func52, Try.ntmps52
    go_wp2
    go_loopw [5] (fun i wr => (∃ k : Nat, k ≤ n ∧ i = .int .i64 k ∧ Hid (xs.take k = ys.take k)) ∧ ∃ nq, wr = w.drewN nq) (fun i _ => n - (intOf i).toNat)
    case atStart => exact ⟨⟨0, Nat.zero_le _, rfl, rfl⟩, 0, rfl⟩
    case round =>
      obtain ⟨⟨k, hk, rfl, ht⟩, nq, rfl⟩ := hrel
      by_cases hlt : k < n
      · obtain ⟨g, x, rfl, _, _, hx, hcell, _⟩ := h.get (k := k) (by omega)
        obtain ⟨g', y, rfl, _, _, hy, hcell', _⟩ := h'.get (k := k) (by omega)
        have hb1 : (k : Int) < (n : Int) := by omega
        by_cases hxy : x = y
        · subst hxy
          have Ht : Hid (xs.take (k + 1) = ys.take (k + 1)) := eq_take hx.out hy.out ht.out
          clear ht hx hy
          go_wp2
          go_quiet (fail)
          go_wp2
          go_roundw
          case rel => exact ⟨⟨k + 1, by omega, by go_num, Ht⟩, _, by first | rfl | (rw [World.drewN_drewN])⟩
          case measure => simp [intOf]; omega
        · have hxy2 : (x != y) = true := by simpa using hxy
          have Hf : Hid (decide (xs = ys) = false) := by
            unfold Hid; simp only [decide_eq_false_iff_not]; rintro rfl
            have e := hx.out.symm.trans hy.out
            exact hxy (by simpa using e)
          clear ht hx hy
          go_wp2
          go_quiet (fail)
          go_wp2
          go_ret
          exact ⟨ret_bool Hf.out.symm, _, by first | rfl | (rw [World.drewN_drewN])⟩
      · obtain rfl : k = n := by omega
        have Hf : Hid (decide (xs = ys) = true) := by
          have := ht.out; rw [List.take_of_length_le (by omega), List.take_of_length_le (by omega)] at this; unfold Hid; simpa using this
        go_wp2
        go_ret
        exact ⟨ret_bool Hf.out.symm, _, rfl⟩
  · have hne2 : ((n : Int) != (n' : Int)) = true := by simp; omega
    have Hf : Hid (decide (xs = ys) = false) := by
      unfold Hid; simp only [decide_eq_false_iff_not]; rintro rfl; omega
    go_enter Try.func52, Try.ntmps52
    go_wp2
    go_ret
    exact ⟨ret_bool Hf.out.symm, 0, rfl⟩
set_option maxHeartbeats 400000 in
theorem slicesEqual_any (w : World) (lo lo' : Nat) (A A' : Option Addr) (n c n' c' : Nat) (xs ys : List Int) (h : Row w lo (.slice A n c) xs) (hn : xs.length = n) (hm : n ≤ 9223372036854775807)
    (h' : Row w lo' (.slice A' n' c') ys) (hn' : ys.length = n') (hm' : n' ≤ 9223372036854775807) :
    Calls Try.prog 53 #[.slice A n c, .slice A' n' c'] w fun e w' => e = .returned (.bool (decide (xs = ys))) ∧ ∃ nq, w' = w.drewN nq := by
  by_cases hne : n = n'
  · subst hne
    go_enter Try.func53, Try.ntmps53
    go_wp2
    go_loopw [5, 13] (fun _ i wr => (∃ k : Nat, k ≤ n ∧ i = .int .i64 k ∧ Hid (xs.take k = ys.take k)) ∧ ∃ nq, wr = w.drewN nq) (fun _ i _ => n - (intOf i).toNat)
    case atStart => exact ⟨⟨0, Nat.zero_le _, rfl, rfl⟩, 0, rfl⟩
    case round =>
      obtain ⟨⟨k, hk, rfl, ht⟩, nq, rfl⟩ := hrel
      by_cases hlt : k < n
      · obtain ⟨g, x, rfl, _, _, hx, hcell, _⟩ := h.get (k := k) (by omega)
        obtain ⟨g', y, rfl, _, _, hy, hcell', _⟩ := h'.get (k := k) (by omega)
        have hb1 : (k : Int) < (n : Int) := by omega
        by_cases hxy : x = y
        · subst hxy
          have Ht : Hid (xs.take (k + 1) = ys.take (k + 1)) := eq_take hx.out hy.out ht.out
          clear ht hx hy
          go_wp2
          go_quiet (fail)
          go_wp2
          go_roundw
          case rel => exact ⟨⟨k + 1, by omega, by go_num, Ht⟩, _, by first | rfl | (rw [World.drewN_drewN])⟩
          case measure => simp [intOf]; omega
        · have hxy2 : (x != y) = true := by simpa using hxy
          have Hf : Hid (decide (xs = ys) = false) := by
            unfold Hid; simp only [decide_eq_false_iff_not]; rintro rfl
            have e := hx.out.symm.trans hy.out
            exact hxy (by simpa using e)
          clear ht hx hy
          go_wp2
          go_quiet (fail)
          go_wp2
          go_ret
          exact ⟨ret_bool Hf.out.symm, _, by first | rfl | (rw [World.drewN_drewN])⟩
      · obtain rfl : k = n := by omega
        have Hf : Hid (decide (xs = ys) = true) := by
          have := ht.out; rw [List.take_of_length_le (by omega), List.take_of_length_le (by omega)] at this; unfold Hid; simpa using this
        go_wp2
        go_ret
        exact ⟨ret_bool Hf.out.symm, _, rfl⟩
  · have hne2 : ((n : Int) != (n' : Int)) = true := by simp; omega
    have Hf : Hid (decide (xs = ys) = false) := by
      unfold Hid; simp only [decide_eq_false_iff_not]; rintro rfl; omega
    go_enter Try.func53, Try.ntmps53
    go_wp2
    go_ret
    exact ⟨ret_bool Hf.out.symm, 0, rfl⟩
end Go.Proofs.Ytdealoclkajliaa
