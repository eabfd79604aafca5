/- CountLive and GarbageOf of both. -/
import Derived.Test.YthagchhegljphaaReach
import Derived.Test.YthagchhegljphaaSReach
import Derived.Test.YthagchhegljphaaCount
namespace Go.Proofs.Ythagchhegljphaa
open Go.RowKit

def cntB (xs : List Bool) : Int := ((xs.filter id).length : Nat)
theorem cntB_snoc (l : List Bool) (x : Bool) : cntB (l ++ (some x).toList) = cntB l + if x = true then 1 else 0 := by
  unfold cntB; cases x <;> simp [List.filter_append]
theorem cntB_bd (l : List Bool) : 0 ≤ cntB l ∧ cntB l ≤ l.length := by
  unfold cntB; exact ⟨by omega, by have := List.length_filter_le id l; omega⟩

set_option maxHeartbeats 1000000 in
theorem implLive_any (w : World) (lo : Nat) (v : Value) (h : Hp) (hv : Hv w lo v h) : Calls Try.prog 11 #[v] w (RetI w (cntB (liveL h))) := by
  obtain ⟨A0, n0, c0, A1, n1, c1, A2, n2, c2, rfl, _⟩ := hv.open_
  have C := implReach_any _ _ _ _ (hv.alloc (.cells #[.slice A0 n0 c0, .slice A1 n1 c1, .slice A2 n2 c2] 25))
  have fin : Below w.heap.size w (w.alloc (.cells #[.slice A0 n0 c0, .slice A1 n1 c1, .slice A2 n2 c2] 25)) := (Below.refl _ _).alloc (Nat.le_refl _) _
  have hbd := liveL_bd h
  generalize liveL h = xs at C hbd
  go_enter Try.func11, Try.ntmps11
  go_wp2_with fail
  refine C.mono ?_; rintro e w2 ⟨A, cc, rfl, hr, hb2⟩
  have B2 : Below w.heap.size w w2 := fin.trans (hb2.mono (by simp))
  generalize hn : xs.length = n at hr hbd ⊢
  have HN := Lib.hid hn
  clear hn C
  go_wp2_with fail
  go_loop [3, 5, 9] (fun t _ i => ∃ k : Nat, k ≤ n ∧ i = .int .i64 k ∧ t = .int .i64 (cntB (xs.take k))) (fun _ _ i => n - (intOf i).toNat)
  case atStart => exact ⟨0, Nat.zero_le _, rfl, rfl⟩
  case round =>
    obtain ⟨k, hk, rfl, rfl⟩ := hrel
    have hb0 := cntB_bd (xs.take k)
    have hl : (xs.take k).length ≤ k := List.length_take_le _ _
    by_cases hlt : k < n
    · obtain ⟨g, x, rfl, _, _, hx, hcell, _⟩ := hr.get (k := k) (by have := HN.out; omega)
      have Ht : Hid (cntB (xs.take (k + 1)) = cntB (xs.take k) + if x = true then 1 else 0) := by
        unfold Hid; rw [List.take_add_one, hx.out]; exact cntB_snoc _ _
      clear hx
      cases x
      · go_wp2
        go_round
        case rel => exact ⟨k + 1, by omega, by go_num, by rw [Ht.out]; simp⟩
        case measure => simp [intOf]; omega
      · go_wp2
        go_round
        case rel => exact ⟨k + 1, by omega, by go_num, by rw [Ht.out]; simp⟩
        case measure => simp [intOf]; omega
    · obtain rfl : k = n := by omega
      go_wp2
      go_ret
      exact ⟨ret_int (by rw [List.take_of_length_le (by rw [HN.out]; omega)]), B2⟩

end Go.Proofs.Ythagchhegljphaa
