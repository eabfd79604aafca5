import Derived.Test.YtpjdpflghcdkiaaExacts
import Derived.ProofKit
import Derived.OpenShut
import Derived.Lib.SmallJoins
import Derived.Test.YtpjdpflghcdkiaaExactE
import Derived.Deep.Strs
import Derived.Test.YtpjdpflghcdkiaaExactV
/- From a heap that is an argument of an exact law to the walk's word for it. -/
namespace Go.Proofs.Ytpjdpflghcdkiaa
open Go.ChangeShapes Go.WideShapes Go.ChangeAt Go.RowKit

theorem ints_nil (W : World) : Ints W W.heap.size none 0 [] := ⟨rfl, .inl rfl⟩
theorem ints_of (W : World) (x : Addr) (len cap : Nat) (zs : List Int) (hl : len ≤ cap) (hz : zs.length = cap)
    (hcell : ∀ i, i < zs.length → W.cell? (x.add i) = some (.int .i64 (zs.getD i 0))) : Ints W W.heap.size (some x) len (zs.take len) := by
  refine ⟨by simp; omega, ?_⟩
  by_cases h0 : len = 0
  · exact .inl h0
  obtain ⟨b, off, spot⟩ := x
  have hc := hcell 0 (by omega)
  have hspot : spot = none := by simpa [Addr.add] using World.cell?_spot hc
  subst hspot
  have hadd : ∀ i, (⟨b, off, none⟩ : Addr).add i = ⟨b, off + i, none⟩ := fun i => by unfold Addr.add; split <;> simp_all
  refine .inr ⟨b, off, rfl, ?_, fun k hk => ?_⟩
  · have := World.block_lt_of_cell? W _ hc; rw [hadd] at this; exact this
  · have hk' := hcell k (by omega)
    rw [hadd] at hk'
    rw [hk']
    simp [List.getD, hk]

theorem ints_open {H : Type} {enc : TypeId × Value → H} {W : World} {n : Nat} {v : Value} {x : DataW H × List MemPlace}
    (h : DataW.trod enc Try.prog W 0 (fun _ => true) true n 22 [v] = some x) :
    ∃ A len cap xs, v = .slice A len cap ∧ Ints W W.heap.size A len xs ∧ len ≤ 9223372036854775807 := by
  rcases open_ints Try.underlying22 Try.underlying3 (by kernel_rfl) h with ⟨hcs, _⟩ | ⟨x, l, c, zs, hcs, _, hl, hm, hz, _, hcell, hwz⟩
  · simp at hcs
    exact ⟨none, 0, 0, [], hcs, ints_nil W, by omega⟩
  · simp at hcs
    exact ⟨some x, l, c, zs.take l, hcs, ints_of W x l c zs hl (by simpa using hz) hcell, by unfold maxLen at hm; omega⟩

set_option maxRecDepth 100000 in
theorem heap_open {H : Type} {enc : TypeId × Value → H} {W : World} {base : Nat} {v : Value} {d : DataW H} {p : List MemPlace}
    (hv : Value.okWide Try.prog W .any base 24 v) (h : DataW.Trod enc Try.prog W 0 (fun _ => true) true 24 v d p) : ∃ hp, HIn W v hp := by
  obtain ⟨c0, c1, c2, y0, y1, y2, n, rfl, rfl, rfl, hy0, hy1, hy2⟩ := Go.Joins.open_agg3 Try.underlying24 (by kernel_rfl) (by kernel_rfl) hv h
  obtain ⟨A0, n0, k0, xs, rfl, i0, m0⟩ := ints_open hy0
  obtain ⟨A1, n1, k1, ys, rfl, i1, m1⟩ := ints_open hy1
  obtain ⟨A2, n2, k2, zs, rfl, i2, m2⟩ := ints_open hy2
  have e0 := i0.1
  have e1 := i1.1
  have e2 := i2.1
  subst e0 e1 e2
  exact ⟨⟨xs, ys, zs⟩, ⟨A0, k0, A1, k1, A2, k2, rfl, i0, i1, i2⟩, m0, m1, m2⟩
end Go.Proofs.Ytpjdpflghcdkiaa

/- From a colored heap that is an argument of an exact law to the walk's word for it. -/
namespace Go.Proofs.Ytpjdpflghcdkiaa
open Go.ChangeShapes Go.WideShapes Go.ChangeAt Go.RowKit Go.Deep

theorem cellsHeap : Try.prog.cellsOf 24 = 3 := by kernel_rfl
theorem cellsInts : Try.prog.cellsOf 22 = 1 := by kernel_rfl
theorem cellsStore : Try.prog.cellsOf 35 = 4 := by kernel_rfl

set_option maxRecDepth 100000 in
theorem store_open {H : Type} {enc : TypeId × Value → H} {W : World} {base : Nat} {v : Value} {d : DataW H} {p : List MemPlace}
    (hv : Value.okWide Try.prog W .any base 35 v) (h : DataW.Trod enc Try.prog W 0 (fun _ => true) true 35 v d p) : ∃ C, CIn W v C := by
  obtain ⟨cs, rfl, hsz⟩ := okWide_struct Try.underlying35 hv
  obtain ⟨c0, c1, c2, c3, rfl⟩ := Go.Joins.array4 (hsz.trans cellsStore)
  obtain ⟨fuel, hf⟩ := h
  obtain ⟨y0, y1, n, _, _, h0, h1⟩ := trod_struct2 Try.underlying35 hf
  have h0' : DataW.trod enc Try.prog W 0 (fun _ => true) true n 24 [c0, c1, c2] = some y0 := by simpa [Value.cells, cellsHeap] using h0
  have h1' : DataW.trod enc Try.prog W 0 (fun _ => true) true n 22 [c3] = some y1 := by simpa [Value.cells, cellsInts] using h1
  obtain ⟨z0, z1, z2, m, _, _, k0, k1, k2⟩ := trod_struct3 Try.underlying24 h0'
  have k0' : DataW.trod enc Try.prog W 0 (fun _ => true) true m 22 [c0] = some z0 := by simpa [cellsInts] using k0
  have k1' : DataW.trod enc Try.prog W 0 (fun _ => true) true m 22 [c1] = some z1 := by simpa [cellsInts] using k1
  have k2' : DataW.trod enc Try.prog W 0 (fun _ => true) true m 22 [c2] = some z2 := by simpa [cellsInts] using k2
  obtain ⟨A0, n0, d0, xs, rfl, i0, m0⟩ := ints_open k0'
  obtain ⟨A1, n1, d1, ys, rfl, i1, m1⟩ := ints_open k1'
  obtain ⟨A2, n2, d2, zs, rfl, i2, m2⟩ := ints_open k2'
  obtain ⟨A3, n3, d3, us, rfl, i3, m3⟩ := ints_open h1'
  have e0 := i0.1
  have e1 := i1.1
  have e2 := i2.1
  have e3 := i3.1
  subst e0 e1 e2 e3
  exact ⟨⟨⟨xs, ys, zs⟩, us⟩, ⟨A0, d0, A1, d1, A2, d2, A3, d3, rfl, i0, i1, i2, i3⟩, m0, m1, m2, m3⟩
end Go.Proofs.Ytpjdpflghcdkiaa

/- From a counted store that is an argument of an exact law to the walk's word for it. -/
namespace Go.Proofs.Ytpjdpflghcdkiaa
open Go.ChangeShapes Go.WideShapes Go.ChangeAt Go.RowKit Go.Deep

theorem cellsCounted : Try.prog.cellsOf 50 = 5 := by kernel_rfl
theorem array5V (T : Array Value) (h : T.size = 5) : ∃ v0 v1 v2 v3 v4 : Value, T = #[v0, v1, v2, v3, v4] := by
  obtain ⟨l⟩ := T
  simp only [List.size_toArray] at h
  match l, h with
  | [v0, v1, v2, v3, v4], _ => exact ⟨v0, v1, v2, v3, v4, rfl⟩

set_option maxRecDepth 100000 in
theorem counted_open {H : Type} {enc : TypeId × Value → H} {W : World} {base : Nat} {v : Value} {d : DataW H} {p : List MemPlace}
    (hv : Value.okWide Try.prog W .any base 50 v) (h : DataW.Trod enc Try.prog W 0 (fun _ => true) true 50 v d p) : ∃ D, DIn W v D := by
  obtain ⟨cs, rfl, hsz⟩ := okWide_struct Try.underlying50 hv
  obtain ⟨c0, c1, c2, c3, c4, rfl⟩ := array5V _ (hsz.trans cellsCounted)
  obtain ⟨fuel, hf⟩ := h
  obtain ⟨y0, y1, n, _, _, h0, h1⟩ := trod_struct2 Try.underlying50 hf
  have h0' : DataW.trod enc Try.prog W 0 (fun _ => true) true n 35 [c0, c1, c2, c3] = some y0 := by simpa [Value.cells, cellsStore] using h0
  have h1' : DataW.trod enc Try.prog W 0 (fun _ => true) true n 22 [c4] = some y1 := by simpa [Value.cells, cellsInts] using h1
  clear h0 h1 hf hv
  obtain ⟨z0, z1, m, _, _, g0, g1⟩ := trod_struct2 Try.underlying35 h0'
  have g0' : DataW.trod enc Try.prog W 0 (fun _ => true) true m 24 [c0, c1, c2] = some z0 := by simpa [cellsHeap] using g0
  have g1' : DataW.trod enc Try.prog W 0 (fun _ => true) true m 22 [c3] = some z1 := by simpa [cellsInts] using g1
  obtain ⟨x0, x1, x2, m2, _, _, k0, k1, k2⟩ := trod_struct3 Try.underlying24 g0'
  have k0' : DataW.trod enc Try.prog W 0 (fun _ => true) true m2 22 [c0] = some x0 := by simpa [cellsInts] using k0
  have k1' : DataW.trod enc Try.prog W 0 (fun _ => true) true m2 22 [c1] = some x1 := by simpa [cellsInts] using k1
  have k2' : DataW.trod enc Try.prog W 0 (fun _ => true) true m2 22 [c2] = some x2 := by simpa [cellsInts] using k2
  obtain ⟨A0, n0, d0, xs, rfl, i0, m0⟩ := ints_open k0'
  obtain ⟨A1, n1, d1, ys, rfl, i1, m1⟩ := ints_open k1'
  obtain ⟨A2, n2, d2, zs, rfl, i2, m2⟩ := ints_open k2'
  obtain ⟨A3, n3, d3, us, rfl, i3, m3⟩ := ints_open g1'
  obtain ⟨A4, n4, d4, ts, rfl, i4, m4⟩ := ints_open h1'
  have e0 := i0.1
  have e1 := i1.1
  have e2 := i2.1
  have e3 := i3.1
  have e4 := i4.1
  subst e0 e1 e2 e3 e4
  exact ⟨⟨⟨⟨xs, ys, zs⟩, us⟩, ts⟩, ⟨A0, d0, A1, d1, A2, d2, A3, d3, A4, d4, rfl, ⟨A0, d0, A1, d1, A2, d2, A3, d3, rfl, i0, i1, i2, i3⟩, i4⟩, m0, m1, m2, m3, m4⟩
end Go.Proofs.Ytpjdpflghcdkiaa

