import Derived.Test.YteogflkahoanlaaHpA
/- laws.ccInts: two rows are held against each other. -/
namespace Go.Proofs.Yteogflkahoanlaa
open Go.RowKit

set_option maxHeartbeats 400000 in
theorem ccInts_any (w : World) (lo lo' : Nat) (A A' : Option Addr) (n c n' c' : Nat) (xs ys : List Int) (h : Row w lo (.slice A n c) xs) (hn : xs.length = n) (hm : n ≤ 9223372036854775807)
    (h' : Row w lo' (.slice A' n' c') ys) (hn' : ys.length = n') (hm' : n' ≤ 9223372036854775807) :
    Calls Try.prog 30 #[.slice A n c, .slice A' n' c'] w fun e w' => e = .returned (.bool (decide (xs = ys))) ∧ ∃ nq, w' = w.drewN nq := by
  by_cases hne : n = n'
  · subst hne
    go_enter Try.func30, Try.ntmps30
    go_wp2
    go_loopw [5] (fun i wr => (∃ k : Nat, k ≤ n ∧ i = .int .i64 k ∧ Hid (xs.take k = ys.take k)) ∧ ∃ nq, wr = w.drewN nq) (fun i _ => n - (intOf i).toNat)
    case atStart => exact ⟨⟨0, Nat.zero_le _, rfl, rfl⟩, 0, rfl⟩
    case round =>
      obtain ⟨⟨k, hk, rfl, ht⟩, nq, rfl⟩ := hrel
      by_cases hlt : k < n
      · obtain ⟨g, x, rfl, _, _, hx, hcell, _⟩ := h.get (k := k) (by omega)
        obtain ⟨g', y, rfl, _, _, hy, hcell', _⟩ := h'.get (k := k) (by omega)
        have hb1 : (k : Int) < (n : Int) := by omega
        by_cases hxy : x = y
        · subst hxy
          have Ht : Hid (xs.take (k + 1) = ys.take (k + 1)) := eq_take hx.out hy.out ht.out
          clear ht hx hy
          go_wp2
          go_quiet (fail)
          go_wp2
          go_roundw
          case rel => exact ⟨⟨k + 1, by omega, by go_num, Ht⟩, _, by first | rfl | (rw [World.drewN_drewN])⟩
          case measure => simp [intOf]; omega
        · have hxy2 : (x != y) = true := by simpa using hxy
          have Hf : Hid (decide (xs = ys) = false) := by
            unfold Hid; simp only [decide_eq_false_iff_not]; rintro rfl
            have e := hx.out.symm.trans hy.out
            exact hxy (by simpa using e)
          clear ht hx hy
          go_wp2
          go_quiet (fail)
          go_wp2
          go_ret
          exact ⟨ret_bool Hf.out.symm, _, by first | rfl | (rw [World.drewN_drewN])⟩
      · obtain rfl : k = n := by omega
        have Hf : Hid (decide (xs = ys) = true) := by
          have := ht.out; rw [List.take_of_length_le (by omega), List.take_of_length_le (by omega)] at this; unfold Hid; simpa using this
        go_wp2
        go_ret
        exact ⟨ret_bool Hf.out.symm, _, rfl⟩
  · have hne2 : ((n : Int) != (n' : Int)) = true := by simp; omega
    have Hf : Hid (decide (xs = ys) = false) := by
      unfold Hid; simp only [decide_eq_false_iff_not]; rintro rfl; omega
    go_enter Try.func30, Try.ntmps30
    go_wp2
    go_ret
    exact ⟨ret_bool Hf.out.symm, 0, rfl⟩
end Go.Proofs.Yteogflkahoanlaa

/- laws.ccInts of rows that begin within a block. -/
namespace Go.Proofs.Yteogflkahoanlaa
open Go.RowKit

/-- The cells behind a slice hold these numbers. -/
def AtR (w : World) (A : Option Addr) (xs : List Int) : Prop := ∀ (k : Nat) (x : Int), xs[k]? = some x → ∃ g o, A = some ⟨g, o, none⟩ ∧ w.cell? ⟨g, o + k, none⟩ = some (.int .i64 x)
theorem AtR.of {w : World} {lo n c : Nat} {A : Option Addr} {xs : List Int} (h : Row w lo (.slice A n c) xs) : AtR w A xs := fun k x hx => by
  obtain ⟨hk, _⟩ := List.getElem?_eq_some_iff.1 hx
  obtain ⟨g, y, rfl, _, _, hy, hc, _⟩ := h.get hk
  have e := hy.out
  rw [hx] at e
  cases e
  exact ⟨g, 0, rfl, by rw [Nat.zero_add]; exact hc⟩
theorem AtR.drop {w : World} {lo g n c : Nat} {xs : List Int} (h : Row w lo (.slice (some ⟨g, 0, none⟩) n c) xs) (j : Nat) : AtR w (some ⟨g, j, none⟩) (xs.drop j) := fun k x hx => by
  rw [List.getElem?_drop] at hx
  obtain ⟨hk, _⟩ := List.getElem?_eq_some_iff.1 hx
  obtain ⟨g', y, e, _, _, hy, hc, _⟩ := h.get hk
  cases e
  have e := hy.out
  rw [hx] at e
  cases e
  exact ⟨_, j, rfl, hc⟩

set_option maxHeartbeats 800000 in
theorem ccIntsAt_any (w : World) (A A' : Option Addr) (n c n' c' : Nat) (xs ys : List Int) (h : AtR w A xs) (hn : xs.length = n) (hm : n ≤ 9223372036854775807)
    (h' : AtR w A' ys) (hn' : ys.length = n') (hm' : n' ≤ 9223372036854775807) :
    Calls Try.prog 30 #[.slice A n c, .slice A' n' c'] w fun e w' => e = .returned (.bool (decide (xs = ys))) ∧ ∃ nq, w' = w.drewN nq := by
  by_cases hne : n = n'
  · subst hne
    go_enter Try.func30, Try.ntmps30
    go_wp2
    go_loopw [5] (fun i wr => (∃ k : Nat, k ≤ n ∧ i = .int .i64 k ∧ Hid (xs.take k = ys.take k)) ∧ ∃ nq, wr = w.drewN nq) (fun i _ => n - (intOf i).toNat)
    case atStart => exact ⟨⟨0, Nat.zero_le _, rfl, rfl⟩, 0, rfl⟩
    case round =>
      obtain ⟨⟨k, hk, rfl, ht⟩, nq, rfl⟩ := hrel
      by_cases hlt : k < n
      · obtain ⟨x, hx⟩ : ∃ x, xs[k]? = some x := ⟨_, List.getElem?_eq_getElem (by omega)⟩
        obtain ⟨y, hy⟩ : ∃ y, ys[k]? = some y := ⟨_, List.getElem?_eq_getElem (by omega)⟩
        obtain ⟨g, o, rfl, hcell⟩ := h k x hx
        obtain ⟨g', o', rfl, hcell'⟩ := h' k y hy
        have hb1 : (k : Int) < (n : Int) := by omega
        by_cases hxy : x = y
        · subst hxy
          have Ht : Hid (xs.take (k + 1) = ys.take (k + 1)) := eq_take hx hy ht.out
          clear ht hx hy
          go_wp2
          go_quiet (fail)
          go_wp2
          go_roundw
          case rel => exact ⟨⟨k + 1, by omega, by go_num, Ht⟩, _, by first | rfl | (rw [World.drewN_drewN])⟩
          case measure => simp [intOf]; omega
        · have hxy2 : (x != y) = true := by simpa using hxy
          have Hf : Hid (decide (xs = ys) = false) := by
            unfold Hid; simp only [decide_eq_false_iff_not]; rintro rfl
            have e := hx.symm.trans hy
            exact hxy (by simpa using e)
          clear ht hx hy
          go_wp2
          go_quiet (fail)
          go_wp2
          go_ret
          exact ⟨ret_bool Hf.out.symm, _, by first | rfl | (rw [World.drewN_drewN])⟩
      · obtain rfl : k = n := by omega
        have Hf : Hid (decide (xs = ys) = true) := by
          have := ht.out; rw [List.take_of_length_le (by omega), List.take_of_length_le (by omega)] at this; unfold Hid; simpa using this
        go_wp2
        go_ret
        exact ⟨ret_bool Hf.out.symm, _, rfl⟩
  · have hne2 : ((n : Int) != (n' : Int)) = true := by simp; omega
    have Hf : Hid (decide (xs = ys) = false) := by
      unfold Hid; simp only [decide_eq_false_iff_not]; rintro rfl; omega
    go_enter Try.func30, Try.ntmps30
    go_wp2
    go_ret
    exact ⟨ret_bool Hf.out.symm, 0, rfl⟩
theorem ccIntsAt_eq (w : World) (A A' : Option Addr) (n c c' : Nat) (xs : List Int) (hn : xs.length = n) (hm : n ≤ 9223372036854775807) (h : AtR w A xs) (h' : AtR w A' xs) :
    Calls Try.prog 30 #[.slice A n c, .slice A' n c'] w (RetB w true) :=
  (ccIntsAt_any w A A' n c n c' xs xs h hn hm h' hn hm).mono fun _ _ ⟨he, nq, hw⟩ => ⟨by rw [he]; simp, by rw [hw]; exact below_drewN (Below.refl _ _) _⟩
theorem ccInts_nil (w : World) (A A' : Option Addr) (c c' : Nat) : Calls Try.prog 30 #[.slice A 0 c, .slice A' 0 c'] w (RetB w true) :=
  ccIntsAt_eq w A A' 0 c c' [] rfl (by omega) (fun k x hx => by simp at hx) (fun k x hx => by simp at hx)
end Go.Proofs.Yteogflkahoanlaa

