/- From a heap that is an argument of an exact law to the walk's word for it. -/
import Derived.Test.YtapkhgpifpgleaaExacts
import Derived.ProofKit
import Derived.OpenShut
import Derived.Lib.SmallJoins
namespace Go.Proofs.Ytapkhgpifpgleaa
open Go.ChangeShapes Go.WideShapes Go.ChangeAt Go.RowKit

theorem ints_nil (W : World) : Ints W W.heap.size none 0 [] := ⟨rfl, .inl rfl⟩
theorem ints_of (W : World) (x : Addr) (len cap : Nat) (zs : List Int) (hl : len ≤ cap) (hz : zs.length = cap)
    (hcell : ∀ i, i < zs.length → W.cell? (x.add i) = some (.int .i64 (zs.getD i 0))) : Ints W W.heap.size (some x) len (zs.take len) := by
  refine ⟨by simp; omega, ?_⟩
  by_cases h0 : len = 0
  · exact .inl h0
  obtain ⟨b, off, spot⟩ := x
  have hc := hcell 0 (by omega)
  have hspot : spot = none := by simpa [Addr.add] using World.cell?_spot hc
  subst hspot
  have hadd : ∀ i, (⟨b, off, none⟩ : Addr).add i = ⟨b, off + i, none⟩ := fun i => by unfold Addr.add; split <;> simp_all
  refine .inr ⟨b, off, rfl, ?_, fun k hk => ?_⟩
  · have := World.block_lt_of_cell? W _ hc; rw [hadd] at this; exact this
  · have hk' := hcell k (by omega)
    rw [hadd] at hk'
    rw [hk']
    simp [List.getD, hk]

theorem ints_open {H : Type} {enc : TypeId × Value → H} {W : World} {n : Nat} {v : Value} {x : DataW H × List MemPlace}
    (h : DataW.trod enc Try.prog W 0 (fun _ => true) true n 22 [v] = some x) :
    ∃ A len cap xs, v = .slice A len cap ∧ Ints W W.heap.size A len xs ∧ len ≤ 9223372036854775807 := by
  rcases open_ints Try.underlying22 Try.underlying3 (by kernel_rfl) h with ⟨hcs, _⟩ | ⟨x, l, c, zs, hcs, _, hl, hm, hz, _, hcell, hwz⟩
  · simp at hcs
    exact ⟨none, 0, 0, [], hcs, ints_nil W, by omega⟩
  · simp at hcs
    exact ⟨some x, l, c, zs.take l, hcs, ints_of W x l c zs hl (by simpa using hz) hcell, by unfold maxLen at hm; omega⟩

set_option maxRecDepth 100000 in
theorem heap_open {H : Type} {enc : TypeId × Value → H} {W : World} {base : Nat} {v : Value} {d : DataW H} {p : List MemPlace}
    (hv : Value.okWide Try.prog W .any base 24 v) (h : DataW.Trod enc Try.prog W 0 (fun _ => true) true 24 v d p) : ∃ hp, HIn W v hp := by
  obtain ⟨c0, c1, c2, y0, y1, y2, n, rfl, rfl, rfl, hy0, hy1, hy2⟩ := Go.Joins.open_agg3 Try.underlying24 (by kernel_rfl) (by kernel_rfl) hv h
  obtain ⟨A0, n0, k0, xs, rfl, i0, m0⟩ := ints_open hy0
  obtain ⟨A1, n1, k1, ys, rfl, i1, m1⟩ := ints_open hy1
  obtain ⟨A2, n2, k2, zs, rfl, i2, m2⟩ := ints_open hy2
  have e0 := i0.1
  have e1 := i1.1
  have e2 := i2.1
  subst e0 e1 e2
  exact ⟨⟨xs, ys, zs⟩, ⟨A0, k0, A1, k1, A2, k2, rfl, i0, i1, i2⟩, m0, m1, m2⟩
end Go.Proofs.Ytapkhgpifpgleaa
