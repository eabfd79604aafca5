import Derived.Test.YtlabljanddjleaaExacts
import Derived.ProofKit
import Derived.OpenShut
import Derived.Lib.SmallJoins
import Derived.Test.YtlabljanddjleaaExactOs
import Derived.Deep.Strs
import Derived.Test.YtlabljanddjleaaOp
import Derived.Deep.Slices
/- From a heap that is an argument of an exact law to the walk's word for it. -/
namespace Go.Proofs.Ytlabljanddjleaa
open Go.ChangeShapes Go.WideShapes Go.ChangeAt Go.RowKit

theorem ints_nil (W : World) : Ints W W.heap.size none 0 [] := ⟨rfl, .inl rfl⟩
theorem ints_of (W : World) (x : Addr) (len cap : Nat) (zs : List Int) (hl : len ≤ cap) (hz : zs.length = cap)
    (hcell : ∀ i, i < zs.length → W.cell? (x.add i) = some (.int .i64 (zs.getD i 0))) : Ints W W.heap.size (some x) len (zs.take len) := by
  refine ⟨by simp; omega, ?_⟩
  by_cases h0 : len = 0
  · exact .inl h0
  obtain ⟨b, off, spot⟩ := x
  have hc := hcell 0 (by omega)
  have hspot : spot = none := by simpa [Addr.add] using World.cell?_spot hc
  subst hspot
  have hadd : ∀ i, (⟨b, off, none⟩ : Addr).add i = ⟨b, off + i, none⟩ := fun i => by unfold Addr.add; split <;> simp_all
  refine .inr ⟨b, off, rfl, ?_, fun k hk => ?_⟩
  · have := World.block_lt_of_cell? W _ hc; rw [hadd] at this; exact this
  · have hk' := hcell k (by omega)
    rw [hadd] at hk'
    rw [hk']
    simp [List.getD, hk]

theorem ints_open {H : Type} {enc : TypeId × Value → H} {W : World} {n : Nat} {v : Value} {x : DataW H × List MemPlace}
    (h : DataW.trod enc Try.prog W 0 (fun _ => true) true n 28 [v] = some x) :
    ∃ A len cap xs, v = .slice A len cap ∧ Ints W W.heap.size A len xs ∧ len ≤ 9223372036854775807 := by
  rcases open_ints Try.underlying28 Try.underlying3 (by kernel_rfl) h with ⟨hcs, _⟩ | ⟨x, l, c, zs, hcs, _, hl, hm, hz, _, hcell, hwz⟩
  · simp at hcs
    exact ⟨none, 0, 0, [], hcs, ints_nil W, by omega⟩
  · simp at hcs
    exact ⟨some x, l, c, zs.take l, hcs, ints_of W x l c zs hl (by simpa using hz) hcell, by unfold maxLen at hm; omega⟩

set_option maxRecDepth 100000 in
theorem heap_open {H : Type} {enc : TypeId × Value → H} {W : World} {base : Nat} {v : Value} {d : DataW H} {p : List MemPlace}
    (hv : Value.okWide Try.prog W .any base 30 v) (h : DataW.Trod enc Try.prog W 0 (fun _ => true) true 30 v d p) : ∃ hp, HIn W v hp := by
  obtain ⟨c0, c1, c2, y0, y1, y2, n, rfl, rfl, rfl, hy0, hy1, hy2⟩ := Go.Joins.open_agg3 Try.underlying30 (by kernel_rfl) (by kernel_rfl) hv h
  obtain ⟨A0, n0, k0, xs, rfl, i0, m0⟩ := ints_open hy0
  obtain ⟨A1, n1, k1, ys, rfl, i1, m1⟩ := ints_open hy1
  obtain ⟨A2, n2, k2, zs, rfl, i2, m2⟩ := ints_open hy2
  have e0 := i0.1
  have e1 := i1.1
  have e2 := i2.1
  subst e0 e1 e2
  exact ⟨⟨xs, ys, zs⟩, ⟨A0, k0, A1, k1, A2, k2, rfl, i0, i1, i2⟩, m0, m1, m2⟩
end Go.Proofs.Ytlabljanddjleaa

/- From a colored heap that is an argument of an exact law to the walk's word for it. -/
namespace Go.Proofs.Ytlabljanddjleaa
open Go.ChangeShapes Go.WideShapes Go.ChangeAt Go.RowKit Go.Deep

theorem cellsHeap : Try.prog.cellsOf 30 = 3 := by kernel_rfl
theorem cellsInts : Try.prog.cellsOf 28 = 1 := by kernel_rfl
theorem cellsStore : Try.prog.cellsOf 32 = 4 := by kernel_rfl

set_option maxRecDepth 100000 in
theorem store_open {H : Type} {enc : TypeId × Value → H} {W : World} {base : Nat} {v : Value} {d : DataW H} {p : List MemPlace}
    (hv : Value.okWide Try.prog W .any base 32 v) (h : DataW.Trod enc Try.prog W 0 (fun _ => true) true 32 v d p) : ∃ C, CIn W v C := by
  obtain ⟨cs, rfl, hsz⟩ := okWide_struct Try.underlying32 hv
  obtain ⟨c0, c1, c2, c3, rfl⟩ := Go.Joins.array4 (hsz.trans cellsStore)
  obtain ⟨fuel, hf⟩ := h
  obtain ⟨y0, y1, n, _, _, h0, h1⟩ := trod_struct2 Try.underlying32 hf
  have h0' : DataW.trod enc Try.prog W 0 (fun _ => true) true n 30 [c0, c1, c2] = some y0 := by simpa [Value.cells, cellsHeap] using h0
  have h1' : DataW.trod enc Try.prog W 0 (fun _ => true) true n 28 [c3] = some y1 := by simpa [Value.cells, cellsInts] using h1
  obtain ⟨z0, z1, z2, m, _, _, k0, k1, k2⟩ := trod_struct3 Try.underlying30 h0'
  have k0' : DataW.trod enc Try.prog W 0 (fun _ => true) true m 28 [c0] = some z0 := by simpa [cellsInts] using k0
  have k1' : DataW.trod enc Try.prog W 0 (fun _ => true) true m 28 [c1] = some z1 := by simpa [cellsInts] using k1
  have k2' : DataW.trod enc Try.prog W 0 (fun _ => true) true m 28 [c2] = some z2 := by simpa [cellsInts] using k2
  obtain ⟨A0, n0, d0, xs, rfl, i0, m0⟩ := ints_open k0'
  obtain ⟨A1, n1, d1, ys, rfl, i1, m1⟩ := ints_open k1'
  obtain ⟨A2, n2, d2, zs, rfl, i2, m2⟩ := ints_open k2'
  obtain ⟨A3, n3, d3, us, rfl, i3, m3⟩ := ints_open h1'
  have e0 := i0.1
  have e1 := i1.1
  have e2 := i2.1
  have e3 := i3.1
  subst e0 e1 e2 e3
  exact ⟨⟨⟨xs, ys, zs⟩, us⟩, ⟨A0, d0, A1, d1, A2, d2, A3, d3, rfl, i0, i1, i2, i3⟩, m0, m1, m2, m3⟩
end Go.Proofs.Ytlabljanddjleaa

/- From an operation that is an argument of an exact law to the walk's word for it. -/
namespace Go.Proofs.Ytlabljanddjleaa
open Go.ChangeShapes Go.WideShapes Go.ChangeAt Go.RowKit

set_option maxRecDepth 100000 in
theorem op_open {H : Type} {enc : TypeId × Value → H} {W : World} {base : Nat} {v : Value} {d : DataW H} {p : List MemPlace}
    (hv : Value.okWide Try.prog W .any base 23 v) (h : DataW.Trod enc Try.prog W 0 (fun _ => true) true 23 v d p) : ∃ o : Opv, v = opV o := by
  obtain ⟨c0, c1, c2, y0, y1, y2, n, rfl, rfl, rfl, hy0, hy1, hy2⟩ := Go.Joins.open_agg3 Try.underlying23 (by kernel_rfl) (by kernel_rfl) hv h
  obtain ⟨k, e0, _, _⟩ := DataW.trod_int Try.underlying3 hy0
  obtain ⟨a, e1, _, _⟩ := DataW.trod_int Try.underlying3 hy1
  obtain ⟨b, e2, _, _⟩ := DataW.trod_int Try.underlying3 hy2
  simp only [List.cons.injEq, and_true] at e0 e1 e2
  subst e0 e1 e2
  exact ⟨⟨k, a, b⟩, rfl⟩
end Go.Proofs.Ytlabljanddjleaa

/- From a slice of operations that is an argument of an exact law to the walk's word for it. -/
namespace Go.Proofs.Ytlabljanddjleaa
open Go.ChangeShapes Go.WideShapes Go.ChangeAt Go.RowKit Go.Deep

theorem cellsOpP : Try.prog.cellsOf 23 = 3 := by kernel_rfl
theorem cellsIntP : Try.prog.cellsOf 3 = 1 := by kernel_rfl
set_option maxRecDepth 100000 in
theorem op_cells {H : Type} {enc : TypeId × Value → H} {W : World} {n : Nat} {cs : List Value} {x : DataW H × List MemPlace}
    (h : DataW.trod enc Try.prog W 0 (fun _ => true) true n 23 cs = some x) : ∃ o : Opv, cs = [.int .i64 o.k, .int .i64 o.a, .int .i64 o.b] := by
  obtain ⟨z0, z1, z2, m, _, hl, k0, k1, k2⟩ := trod_struct3 Try.underlying23 h
  rw [cellsOpP] at hl
  match cs, hl with
  | [c0, c1, c2], _ =>
    have k0' : DataW.trod enc Try.prog W 0 (fun _ => true) true m 3 [c0] = some z0 := by simpa [cellsIntP] using k0
    have k1' : DataW.trod enc Try.prog W 0 (fun _ => true) true m 3 [c1] = some z1 := by simpa [cellsIntP] using k1
    have k2' : DataW.trod enc Try.prog W 0 (fun _ => true) true m 3 [c2] = some z2 := by simpa [cellsIntP] using k2
    obtain ⟨k, e0, _, _⟩ := DataW.trod_int Try.underlying3 k0'
    obtain ⟨a, e1, _, _⟩ := DataW.trod_int Try.underlying3 k1'
    obtain ⟨b, e2, _, _⟩ := DataW.trod_int Try.underlying3 k2'
    simp only [List.cons.injEq, and_true] at e0 e1 e2
    subst e0 e1 e2
    exact ⟨⟨k, a, b⟩, rfl⟩
set_option maxRecDepth 100000 in
theorem ops_trod {H : Type} {enc : TypeId × Value → H} {W : World} {n : Nat} {v : Value} {x : DataW H × List MemPlace}
    (h : DataW.trod enc Try.prog W 0 (fun _ => true) true n 43 [v] = some x) : ∃ os, OsIn W v os := by
  rcases open_slice Try.underlying43 h with ⟨hcs, _⟩ | ⟨a, l, c, m, n9, D, Pl, hcs, _, hl, hm, hmm, _, hx⟩
  · simp at hcs
    exact ⟨[], none, 0, hcs, ⟨rfl, .inl rfl⟩, by simp⟩
  · simp at hcs
    rw [if_pos rfl] at hmm
    subst hmm
    rw [cellsOpP] at hx
    have : Inhabited Opv := ⟨Opv.zero⟩
    obtain ⟨f, hf⟩ := choose_lt (α := Opv) (p := fun i o => W.cells? 0 (a.add (i * 3)) 3 = some [.int .i64 o.k, .int .i64 o.a, .int .i64 o.b]) (fun i hi => by
      obtain ⟨cs', h1, h2⟩ := hx i hi
      obtain ⟨o, rfl⟩ := op_cells h2
      exact ⟨o, h1⟩)
    have hlen : ((List.range l).map f).length = l := by simp
    refine ⟨(List.range l).map f, some a, m, by rw [hlen]; exact hcs, ⟨rfl, ?_⟩, by rw [hlen]; unfold maxLen at hm; omega⟩
    rw [hlen]
    by_cases h0 : l = 0
    · exact .inl h0
    obtain ⟨b, off, spot⟩ := a
    have hc0 := (World.cells?_some (hf 0 (by omega))).2.2 0 (by omega)
    simp only [Nat.zero_mul, List.getElem?_cons_zero] at hc0
    have hspot : spot = none := by simpa [Addr.add] using World.cell?_spot hc0
    subst hspot
    have hadd : ∀ i, (⟨b, off, none⟩ : Addr).add i = ⟨b, off + i, none⟩ := fun i => by unfold Addr.add; split <;> simp_all
    have hadd2 : ∀ o i, (⟨b, o, none⟩ : Addr).add i = ⟨b, o + i, none⟩ := fun o i => by unfold Addr.add; split <;> simp_all
    refine .inr ⟨b, off, rfl, ?_, fun k hk => ?_⟩
    · have := World.block_lt_of_cell? W _ hc0
      rw [hadd, hadd2] at this; exact this
    · have hh := (World.cells?_some (hf k (by omega))).2.2
      have g0 := hh 0 (by omega)
      have g1 := hh 1 (by omega)
      have g2 := hh 2 (by omega)
      rw [hadd, hadd2] at g0 g1 g2
      have e : ((List.range l).map f).getD k Opv.zero = f k := by simp [List.getD, hk]
      rw [e]
      exact ⟨by simpa using g0, by simpa using g1, by simpa using g2⟩
set_option maxRecDepth 100000 in
theorem ops_open {H : Type} {enc : TypeId × Value → H} {W : World} {base : Nat} {v : Value} {d : DataW H} {p : List MemPlace}
    (hv : Value.okWide Try.prog W .any base 43 v) (h : DataW.Trod enc Try.prog W 0 (fun _ => true) true 43 v d p) : ∃ os, OsIn W v os := by
  obtain ⟨a, l, c, rfl⟩ := okWide_slice Try.underlying43 hv
  obtain ⟨fuel, hf⟩ := h
  exact ops_trod (n := fuel) (by simpa [Value.cells] using hf)
end Go.Proofs.Ytlabljanddjleaa

