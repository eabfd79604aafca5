/- impl.heapReader: whether all is read. -/
import Derived.Test.YtpimndfafibgeaaRdt
import Derived.Test.YtpimndfafibgeaaCount
namespace Go.Proofs.Ytpimndfafibgeaa
open Go.RowKit

/-- No pointer leads beyond the cells. -/
def flagsOk (σ : RdS) : Prop := ∀ j : Nat, σ.n ≤ j → j < 8 → σ.ps.contains (j : Int) = false

set_option maxRecDepth 100000 in
set_option maxHeartbeats 1000000 in
theorem complete_any (w : World) (b : Nat) (s : ByteArray) (σ : RdS) (h : RB w b 8 s σ) (hn : σ.n ≤ 8) (r : Bool) (hr : r = true ↔ szB σ.n σ.m = true ∧ flagsOk σ) :
    Calls Try.prog 32 #[.pointer (some ⟨b, 0, none⟩)] w (RetB w r) := by
  obtain ⟨q0, _⟩ := h.get (o := 34) (t := .cells) (by omega) rfl
  obtain ⟨q1, _⟩ := h.get (o := 38) (t := .rooted) (by omega) rfl
  simp only [slotV] at q0 q1
  have S := sizesValid_any (σ.n : Int) (σ.m : Int)
  go_enter Try.func32, Try.ntmps32
  go_wp2_with fail
  go_quiet ((go_at_call 34; exact quiet_left (S _)))
  rcases hz : szB σ.n σ.m
  · obtain rfl : r = false := by
      rcases r
      · rfl
      · exact absurd ((hr.1 rfl).1) (by rw [hz]; simp)
    go_wp2_with fail
    go_ret
    exact ⟨rfl, below_drewN (Below.refl _ _) _⟩
  · have HR : Hid (r = true ↔ flagsOk σ) := ⟨fun e => (hr.1 e).2, fun e => hr.2 ⟨hz, e⟩⟩
    by_cases h8 : σ.n = 8
    · obtain rfl : r = true := HR.out.2 (fun j h1 h2 => by omega)
      have hn2 : (σ.n : Int) = 8 := by omega
      rw [hn2] at q0
      clear hr hn2
      go_wp2_with fail
      go_quiet (fail)
      go_wp2_with fail
      go_loopw [4, 24] (fun _ i wr => i = .int .i64 0 ∧ ∃ nq, wr = w.drewN nq) (fun _ _ _ => 0)
      case atStart => exact ⟨rfl, _, by first | rfl | (rw [World.drewN_drewN])⟩
      case round =>
        obtain ⟨rfl, nq, rfl⟩ := hrel
        go_wp2_with fail
        go_ret
        exact ⟨rfl, below_drewN (Below.refl _ _) _⟩
    · have hn2 : (0 : Int) ≤ (σ.n : Int) ∧ (σ.n : Int) ≤ 8 := by omega
      have hn3 : ¬ (8 = σ.n) := by omega
      obtain ⟨d, hd⟩ : ∃ d, Hid (8 - σ.n = d) := ⟨_, rfl⟩
      have hd2 : d ≤ 8 := by have := hd.out; omega
      clear hr
      go_wp2_with fail
      go_quiet (fail)
      rw [hd.out]
      go_wp2_with fail
      go_loopw [4, 24] (fun _ i wr => ∃ k : Nat, k ≤ d ∧ i = .int .i64 k ∧ Hid (∀ j : Nat, j < k → σ.ps.contains ((σ.n + j : Nat) : Int) = false) ∧ ∃ nq, wr = w.drewN nq) (fun _ i _ => d - (intOf i).toNat)
      case atStart => exact ⟨0, Nat.zero_le _, rfl, fun j hj => absurd hj (by omega), _, by first | rfl | (rw [World.drewN_drewN])⟩
      case round =>
        obtain ⟨k, hk, rfl, hf, nq, rfl⟩ := hrel
        by_cases hlt : k < d
        · obtain ⟨qf, _⟩ := h.get (o := 26 + (σ.n + k)) (by have := hd.out; omega) (slot_flag _ (by have := hd.out; omega))
          simp only [slotV] at qf
          rw [← Nat.add_assoc] at qf
          rcases hc : σ.ps.contains ((σ.n + k : Nat) : Int)
          · rw [hc] at qf
            have hf' : Hid (∀ j : Nat, j < k + 1 → σ.ps.contains ((σ.n + j : Nat) : Int) = false) := by
              intro j hj
              rcases Nat.lt_succ_iff_lt_or_eq.1 hj with h9 | rfl
              · exact hf.out j h9
              · exact hc
            clear hf hc
            go_wp2_with fail
            go_roundw
            case rel => exact ⟨k + 1, by omega, by go_num, hf', _, by first | rfl | (rw [World.drewN_drewN])⟩
            case measure => simp [intOf]; omega
          · rw [hc] at qf
            obtain rfl : r = false := by
              rcases r
              · rfl
              · have := HR.out.1 rfl (σ.n + k) (by omega) (by have := hd.out; omega)
                rw [hc] at this; cases this
            clear hf hc
            go_wp2_with fail
            go_ret
            exact ⟨rfl, below_drewN (Below.refl _ _) _⟩
        · obtain rfl : k = d := by omega
          obtain rfl : r = true := HR.out.2 (fun j h1 h2 => by
            obtain ⟨i, rfl⟩ : ∃ i, j = σ.n + i := ⟨j - σ.n, by omega⟩
            exact hf.out i (by have := hd.out; omega))
          go_wp2_with fail
          go_ret
          exact ⟨rfl, below_drewN (Below.refl _ _) _⟩
end Go.Proofs.Ytpimndfafibgeaa
