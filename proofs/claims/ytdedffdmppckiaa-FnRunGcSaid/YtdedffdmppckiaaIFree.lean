/- FreeCell of impl. -/
import Derived.Test.YtdedffdmppckiaaIStos
import Derived.Test.YtdedffdmppckiaaSFreeG
namespace Go.Proofs.Ytdedffdmppckiaa
open Go.RowKit

theorem garb_lo {h : Hp} {x : Int} (hx : x ∈ garb h) : ∃ k : Nat, x = k ∧ k < (liveL h).length := by
  unfold garb garbN at hx
  rw [List.mem_map] at hx
  obtain ⟨k, hk, rfl⟩ := hx
  rw [List.mem_filter, List.mem_range] at hk
  exact ⟨k, rfl, hk.1⟩
theorem leak_in {C : Cp} {k : Int} (h : k ∈ leakL C) : k ∈ garb C.h := by
  unfold leakL leakN at h
  split at h
  · exact List.mem_of_mem_take (List.mem_filter.1 h).1
  · cases h
theorem leak_nat {C : Cp} {k : Int} (h : k ∈ leakL C) : ∃ j : Nat, k = j ∧ j < C.h.l.length := by
  obtain ⟨j, e, hj⟩ := garb_lo (leak_in h)
  rw [liveL_len (stoB_parts (leak_sto h)).1] at hj
  exact ⟨j, e, hj⟩

end Go.Proofs.Ytdedffdmppckiaa
