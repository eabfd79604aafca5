/- The helpers of the exact laws over rows: eqIntS, markIntS, heldIntS. -/
import Derived.Test.YtkonlhmmkcpgnaaDoorMake
namespace Go.Proofs.YtkonlhmmkcpgnaaDoor
open Go.RowKit

set_option maxHeartbeats 400000 in
theorem eqIntS_any (w : World) (lo lo' : Nat) (A A' : Option Addr) (n c n' c' : Nat) (xs ys : List Int) (h : Row w lo (.slice A n c) xs) (hn : xs.length = n) (hm : n ≤ 9223372036854775807)
    (h' : Row w lo' (.slice A' n' c') ys) (hn' : ys.length = n') (hm' : n' ≤ 9223372036854775807) :
    Calls Tryd.prog 46 #[.slice A n c, .slice A' n' c'] w fun e w' => e = .returned (.bool (decide (xs = ys))) ∧ ∃ nq, w' = w.drewN nq := by
  by_cases hne : n = n'
  · subst hne
    go_enter Tryd.func46, Tryd.ntmps46
    go_wp2
    go_loopw [5] (fun i wr => (∃ k : Nat, k ≤ n ∧ i = .int .i64 k ∧ Hid (xs.take k = ys.take k)) ∧ ∃ nq, wr = w.drewN nq) (fun i _ => n - (intOf i).toNat)
    case atStart => exact ⟨⟨0, Nat.zero_le _, rfl, rfl⟩, 0, rfl⟩
    case round =>
      obtain ⟨⟨k, hk, rfl, ht⟩, nq, rfl⟩ := hrel
      by_cases hlt : k < n
      · obtain ⟨g, x, rfl, _, _, hx, hcell, _⟩ := h.get (k := k) (by omega)
        obtain ⟨g', y, rfl, _, _, hy, hcell', _⟩ := h'.get (k := k) (by omega)
        have hb1 : (k : Int) < (n : Int) := by omega
        by_cases hxy : x = y
        · subst hxy
          have Ht : Hid (xs.take (k + 1) = ys.take (k + 1)) := eq_take hx.out hy.out ht.out
          clear ht hx hy
          go_wp2
          go_quiet (fail)
          go_wp2
          go_roundw
          case rel => exact ⟨⟨k + 1, by omega, by go_num, Ht⟩, _, by first | rfl | (rw [World.drewN_drewN])⟩
          case measure => simp [intOf]; omega
        · have hxy2 : (x != y) = true := by simpa using hxy
          have Hf : Hid (decide (xs = ys) = false) := by
            unfold Hid; simp only [decide_eq_false_iff_not]; rintro rfl
            have e := hx.out.symm.trans hy.out
            exact hxy (by simpa using e)
          clear ht hx hy
          go_wp2
          go_quiet (fail)
          go_wp2
          go_ret
          exact ⟨ret_bool Hf.out.symm, _, by first | rfl | (rw [World.drewN_drewN])⟩
      · obtain rfl : k = n := by omega
        have Hf : Hid (decide (xs = ys) = true) := by
          have := ht.out; rw [List.take_of_length_le (by omega), List.take_of_length_le (by omega)] at this; unfold Hid; simpa using this
        go_wp2
        go_ret
        exact ⟨ret_bool Hf.out.symm, _, rfl⟩
  · have hne2 : ((n : Int) != (n' : Int)) = true := by simp; omega
    have Hf : Hid (decide (xs = ys) = false) := by
      unfold Hid; simp only [decide_eq_false_iff_not]; rintro rfl; omega
    go_enter Tryd.func46, Tryd.ntmps46
    go_wp2
    go_ret
    exact ⟨ret_bool Hf.out.symm, 0, rfl⟩

/-- k, k+1, .. : n numbers. -/
def seqI (k n : Nat) : List Int := (List.range n).map fun i => ((k + i : Nat) : Int)
theorem seqI_len (k n : Nat) : (seqI k n).length = n := by simp [seqI]
theorem seqI_succ (k n : Nat) : seqI k (n + 1) = seqI k n ++ [((k + n : Nat) : Int)] := by simp [seqI, List.range_succ]
theorem seqI_set {xs : List Int} {k j : Nat} (h : j < xs.length) : (seqI k j ++ xs.drop j).set j ((k + j : Nat) : Int) = seqI k (j + 1) ++ xs.drop (j + 1) := by
  rw [List.set_append, if_neg (by rw [seqI_len]; omega), seqI_len, Nat.sub_self, List.drop_eq_getElem_cons h, List.set_cons_zero, seqI_succ]
  simp

/-- The row holds k, k+1, ..; its own block alone has turned. -/
def Marked (w : World) (lo k n : Nat) (v : Value) (e : Ending) (w' : World) : Prop :=
  e = .returned (.int .i64 ((k + n : Nat) : Int)) ∧ Row w' lo v (seqI k n) ∧ w.grownBy w' v.ownBlock ∧ w'.heap.size = w.heap.size

def heldR (k : Nat) (xs : List Int) : Int := if xs = seqI k xs.length then ((k + xs.length : Nat) : Int) else -1

end Go.Proofs.YtkonlhmmkcpgnaaDoor
