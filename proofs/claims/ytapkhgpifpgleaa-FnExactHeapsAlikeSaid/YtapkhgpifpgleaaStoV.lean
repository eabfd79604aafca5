/- StoreValid of spec. -/
import Derived.Test.YtapkhgpifpgleaaSto
import Derived.OrdersHeld
import Derived.Deep.RegionHeld3
namespace Go.Proofs.Ytapkhgpifpgleaa
open Go.RowKit

theorem Row.cut {w : World} {lo g n c : Nat} {xs : List Int} (h : Row w lo (.slice (some ⟨g, 0, none⟩) n c) xs) {k : Nat} (hk : k ≤ xs.length) : Row w lo (.slice (some ⟨g, 0, none⟩) k c) (xs.take k) := by
  have hl : (xs.take k).length = k := by rw [List.length_take]; omega
  unfold Row
  rw [hl]
  refine ⟨by simp; omega, .inr ?_⟩
  rcases h.2 with ⟨e, h0⟩ | ⟨g', cap, cur, e, hb, hg, h1, h2, h3, h4⟩
  · cases e
  · cases e
    refine ⟨g, c, cur, rfl, hb, hg, by omega, h2, h3, ?_⟩
    rw [List.map_take, ← h4, List.take_take]
    congr 1
    omega
theorem cellDN {w : World} {a : Addr} {u : Value} (h : w.cell? a = some u) (n : Nat) : (w.drewN n).cell? a = some u := h
theorem Row.cap {w : World} {lo n c : Nat} {A : Option Addr} {xs : List Int} (h : Row w lo (.slice A n c) xs) : n ≤ c := by
  obtain ⟨A', c', e, h1, _⟩ := h.form
  cases e; exact h1

end Go.Proofs.Ytapkhgpifpgleaa
