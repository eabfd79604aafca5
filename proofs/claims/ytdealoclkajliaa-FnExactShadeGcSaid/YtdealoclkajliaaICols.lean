import Derived.Test.YtdealoclkajliaaCol
import Derived.Test.YtdealoclkajliaaCount
import Derived.Test.YtdealoclkajliaaSp3
/- The small functions of colors, of impl: shaded, colorsValid, pointsToWhite; ColoredValid, ColoredSame. -/
namespace Go.Proofs.Ytdealoclkajliaa
open Go.RowKit

/-- What color a cell of this color has when it was shaded; zero if it is none. -/
def shV (x : Int) : Int := if x = 0 then 1 else if x = 1 ∨ x = 2 then x else 0

set_option maxHeartbeats 400000 in
theorem shaded_any (x : Int) (w : World) : Calls Try.prog 74 #[.int .i64 x] w fun e w' => e = .returned (.tuple #[.int .i64 (shV x), .bool (colB x)]) ∧ w = w' := by
  by_cases h0 : x = 0
  · subst h0
    go_enter Try.func74, Try.ntmps74
    go_wp2
    refine bodyPost_ret (v := .tuple #[.int .i64 1, .bool true]) ?_ rfl ⟨by simp [shV, colB], rfl⟩
    simp [results, Try.results74, go_sem]
  · have h0' : (x == 0) = false := by simpa using h0
    by_cases h1 : x = 1
    · subst h1
      go_enter Try.func74, Try.ntmps74
      go_wp2
      refine bodyPost_ret (v := .tuple #[.int .i64 1, .bool true]) ?_ rfl ⟨by simp [shV, colB], rfl⟩
      simp [results, Try.results74, go_sem]
    · have h1' : (x == 1) = false := by simpa using h1
      by_cases h2 : x = 2
      · subst h2
        go_enter Try.func74, Try.ntmps74
        go_wp2
        refine bodyPost_ret (v := .tuple #[.int .i64 2, .bool true]) ?_ rfl ⟨by simp [shV, colB], rfl⟩
        simp [results, Try.results74, go_sem]
      · have h2' : (x == 2) = false := by simpa using h2
        have hv : Hid (shV x = 0) := by unfold Hid shV; rw [if_neg h0, if_neg (by omega)]
        have hc : Hid (colB x = false) := by unfold Hid colB; simp; omega
        go_enter Try.func74, Try.ntmps74
        go_wp2
        refine bodyPost_ret (v := .tuple #[.int .i64 0, .bool false]) ?_ rfl ⟨by rw [hv.out, hc.out], rfl⟩
        simp [results, Try.results74, go_sem]

set_option maxHeartbeats 400000 in
theorem colorsValid_any (w : World) (lo : Nat) (A : Option Addr) (n c : Nat) (xs : List Int) (h : Row w lo (.slice A n c) xs) (hn : xs.length = n) (hm : n ≤ 9223372036854775807) (cells : Nat) :
    Calls Try.prog 50 #[.slice A n c, .int .i64 cells] w fun e w' => e = .returned (.bool (xs.all colB && decide (n = cells))) ∧ w = w' := by
  have hd : Hid (((n : Int) == (cells : Int)) = decide (n = cells)) := by
    unfold Hid; by_cases h9 : n = cells
    · subst h9; simp
    · have : ((n : Int) == (cells : Int)) = false := by simp; omega
      rw [this]; simp [h9]
  go_enter Try.func50, Try.ntmps50
  go_wp2
  go_loop [11] (fun i => ∃ k : Nat, k ≤ n ∧ i = .int .i64 k ∧ Hid ((xs.take k).all colB = true)) (fun i => n - (intOf i).toNat)
  case atStart => exact ⟨0, Nat.zero_le _, rfl, rfl⟩
  case round =>
    obtain ⟨k, hk, rfl, ht⟩ := hrel
    by_cases hlt : k < n
    · obtain ⟨g, x, rfl, _, _, hx, hcell, _⟩ := h.get (k := k) (by omega)
      have H := shaded_any x
      have Ht : Hid ((xs.take (k + 1)).all colB = colB x) := by
        unfold Hid; rw [take_snoc hx.out, List.all_append, ht.out]; simp
      generalize shV x = y at H
      rcases hb : colB x
      · rw [hb] at H
        have Hf : Hid (xs.all colB = false) := by
          unfold Hid; rw [List.all_eq_false]; exact ⟨x, List.mem_of_getElem? hx.out, by simp [hb]⟩
        clear ht Ht hb hx
        go_wp2_with (go_at_call 74; refine (H _).mono ?_; rintro e w' ⟨rfl, rfl⟩)
        go_ret
        exact ⟨ret_bool (by rw [Hf.out]; rfl), rfl⟩
      · rw [hb] at H
        have Ht' : Hid ((xs.take (k + 1)).all colB = true) := by unfold Hid; rw [Ht.out, hb]
        clear ht Ht hb hx
        go_wp2_with (go_at_call 74; refine (H _).mono ?_; rintro e w' ⟨rfl, rfl⟩)
        go_round
        case rel => exact ⟨k + 1, by omega, by go_num, Ht'⟩
        case measure => simp [intOf]; omega
    · obtain rfl : k = n := by omega
      have Hf : Hid (xs.all colB = true) := by
        have := ht.out; rw [List.take_of_length_le (by omega)] at this; exact this
      go_wp2
      go_ret
      exact ⟨ret_bool (by rw [Hf.out, Bool.true_and]; exact hd.out), rfl⟩

end Go.Proofs.Ytdealoclkajliaa

/- CountColor, pointsToWhite, ColorHolds of impl. -/
namespace Go.Proofs.Ytdealoclkajliaa
open Go.RowKit

/-- A pointer to a white cell. -/
def wtB (c : List Int) (p : Int) : Bool := decide (0 ≤ p ∧ c[p.toNat]? = some 0)
set_option maxHeartbeats 1000000 in
theorem pointsToWhite_any (w : World) (lo : Nat) (A : Option Addr) (n c : Nat) (xs : List Int) (h : Row w lo (.slice A n c) xs) (hn : xs.length = n) (k : Int) (h1 : -1 ≤ k) (h2 : k < n) :
    Calls Try.prog 105 #[.slice A n c, .int .i64 k] w fun e w' => e = .returned (.bool (wtB xs k)) ∧ w = w' := by
  by_cases hk : k = -1
  · subst hk
    go_enter Try.func105, Try.ntmps105
    go_wp2_with fail
    go_ret
    exact ⟨ret_bool (by simp [wtB]), rfl⟩
  · obtain ⟨j, rfl⟩ := Int.eq_ofNat_of_zero_le (by omega : 0 ≤ k)
    obtain ⟨g', x, rfl, _, _, hx, hc, hf⟩ := h.get (k := j) (by omega)
    have hk2 : ((j : Int) == -1) = false := by simp
    have hk3 : ((j : Int) != -1) = true := by simp
    have hq : Hid (wtB xs j = decide (x = 0)) := by unfold Hid wtB; simp [hx.out]
    clear hx
    by_cases hx0 : x = 0
    · subst hx0
      go_enter Try.func105, Try.ntmps105
      go_wp2_with fail
      go_ret
      exact ⟨ret_bool (by rw [hq.out]; simp), rfl⟩
    · have hx1 : (x == 0) = false := by simp [hx0]
      go_enter Try.func105, Try.ntmps105
      go_wp2_with fail
      go_ret
      exact ⟨ret_bool (by rw [hq.out]; simp [hx0]), rfl⟩
end Go.Proofs.Ytdealoclkajliaa

