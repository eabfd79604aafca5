/- From a colored heap that is an argument of an exact law to the walk's word for it. -/
import Derived.Test.YtlabljanddjleaaFrameH
import Derived.Test.YtlabljanddjleaaExactE
import Derived.Deep.Strs
namespace Go.Proofs.Ytlabljanddjleaa
open Go.ChangeShapes Go.WideShapes Go.ChangeAt Go.RowKit Go.Deep

theorem cellsHeap : Try.prog.cellsOf 30 = 3 := by kernel_rfl
theorem cellsInts : Try.prog.cellsOf 28 = 1 := by kernel_rfl
theorem cellsStore : Try.prog.cellsOf 32 = 4 := by kernel_rfl

set_option maxRecDepth 100000 in
theorem store_open {H : Type} {enc : TypeId × Value → H} {W : World} {base : Nat} {v : Value} {d : DataW H} {p : List MemPlace}
    (hv : Value.okWide Try.prog W .any base 32 v) (h : DataW.Trod enc Try.prog W 0 (fun _ => true) true 32 v d p) : ∃ C, CIn W v C := by
  obtain ⟨cs, rfl, hsz⟩ := okWide_struct Try.underlying32 hv
  obtain ⟨c0, c1, c2, c3, rfl⟩ := Go.Joins.array4 (hsz.trans cellsStore)
  obtain ⟨fuel, hf⟩ := h
  obtain ⟨y0, y1, n, _, _, h0, h1⟩ := trod_struct2 Try.underlying32 hf
  have h0' : DataW.trod enc Try.prog W 0 (fun _ => true) true n 30 [c0, c1, c2] = some y0 := by simpa [Value.cells, cellsHeap] using h0
  have h1' : DataW.trod enc Try.prog W 0 (fun _ => true) true n 28 [c3] = some y1 := by simpa [Value.cells, cellsInts] using h1
  obtain ⟨z0, z1, z2, m, _, _, k0, k1, k2⟩ := trod_struct3 Try.underlying30 h0'
  have k0' : DataW.trod enc Try.prog W 0 (fun _ => true) true m 28 [c0] = some z0 := by simpa [cellsInts] using k0
  have k1' : DataW.trod enc Try.prog W 0 (fun _ => true) true m 28 [c1] = some z1 := by simpa [cellsInts] using k1
  have k2' : DataW.trod enc Try.prog W 0 (fun _ => true) true m 28 [c2] = some z2 := by simpa [cellsInts] using k2
  obtain ⟨A0, n0, d0, xs, rfl, i0, m0⟩ := ints_open k0'
  obtain ⟨A1, n1, d1, ys, rfl, i1, m1⟩ := ints_open k1'
  obtain ⟨A2, n2, d2, zs, rfl, i2, m2⟩ := ints_open k2'
  obtain ⟨A3, n3, d3, us, rfl, i3, m3⟩ := ints_open h1'
  have e0 := i0.1
  have e1 := i1.1
  have e2 := i2.1
  have e3 := i3.1
  subst e0 e1 e2 e3
  exact ⟨⟨⟨xs, ys, zs⟩, us⟩, ⟨A0, d0, A1, d1, A2, d2, A3, d3, rfl, i0, i1, i2, i3⟩, m0, m1, m2, m3⟩
end Go.Proofs.Ytlabljanddjleaa
