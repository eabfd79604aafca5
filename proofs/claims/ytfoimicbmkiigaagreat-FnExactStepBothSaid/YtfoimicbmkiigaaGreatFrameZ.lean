import Derived.Test.YtfoimicbmkiigaaGreatFrameGs
import Derived.Test.YtfoimicbmkiigaaGreatOp
import Derived.Test.YtfoimicbmkiigaaGreatExB
import Derived.Deep.Slices
import Derived.Deep.Strs
import Derived.Test.YtfoimicbmkiigaaGreatExH
/- From an operation that is an argument of an exact law to the walk's word for it. -/
namespace Go.Proofs.YtfoimicbmkiigaaGreat
open Go.ChangeShapes Go.WideShapes Go.ChangeAt Go.RowKit

set_option maxRecDepth 100000 in
theorem op_open {H : Type} {enc : TypeId × Value → H} {W : World} {base : Nat} {v : Value} {d : DataW H} {p : List MemPlace}
    (hv : Value.okWide Tryz.prog W .any base 140 v) (h : DataW.Trod enc Tryz.prog W 0 (fun _ => true) true 140 v d p) : ∃ o : Opv, v = opV o := by
  obtain ⟨c0, c1, c2, y0, y1, y2, n, rfl, rfl, rfl, hy0, hy1, hy2⟩ := Go.Joins.open_agg3 Tryz.underlying140 (by kernel_rfl) (by kernel_rfl) hv h
  obtain ⟨k, e0, _, _⟩ := DataW.trod_int Tryz.underlying3 hy0
  obtain ⟨a, e1, _, _⟩ := DataW.trod_int Tryz.underlying3 hy1
  obtain ⟨b, e2, _, _⟩ := DataW.trod_int Tryz.underlying3 hy2
  simp only [List.cons.injEq, and_true] at e0 e1 e2
  subst e0 e1 e2
  exact ⟨⟨k, a, b⟩, rfl⟩
end Go.Proofs.YtfoimicbmkiigaaGreat

/- From a slice of operations that is an argument of an exact law to the walk's word for it. -/
namespace Go.Proofs.YtfoimicbmkiigaaGreat
open Go.ChangeShapes Go.WideShapes Go.ChangeAt Go.RowKit Go.Deep

theorem cellsOpP : Tryz.prog.cellsOf 140 = 3 := by kernel_rfl
theorem cellsIntP : Tryz.prog.cellsOf 3 = 1 := by kernel_rfl
set_option maxRecDepth 100000 in
theorem op_cells {H : Type} {enc : TypeId × Value → H} {W : World} {n : Nat} {cs : List Value} {x : DataW H × List MemPlace}
    (h : DataW.trod enc Tryz.prog W 0 (fun _ => true) true n 140 cs = some x) : ∃ o : Opv, cs = [.int .i64 o.k, .int .i64 o.a, .int .i64 o.b] := by
  obtain ⟨z0, z1, z2, m, _, hl, k0, k1, k2⟩ := trod_struct3 Tryz.underlying140 h
  rw [cellsOpP] at hl
  match cs, hl with
  | [c0, c1, c2], _ =>
    have k0' : DataW.trod enc Tryz.prog W 0 (fun _ => true) true m 3 [c0] = some z0 := by simpa [cellsIntP] using k0
    have k1' : DataW.trod enc Tryz.prog W 0 (fun _ => true) true m 3 [c1] = some z1 := by simpa [cellsIntP] using k1
    have k2' : DataW.trod enc Tryz.prog W 0 (fun _ => true) true m 3 [c2] = some z2 := by simpa [cellsIntP] using k2
    obtain ⟨k, e0, _, _⟩ := DataW.trod_int Tryz.underlying3 k0'
    obtain ⟨a, e1, _, _⟩ := DataW.trod_int Tryz.underlying3 k1'
    obtain ⟨b, e2, _, _⟩ := DataW.trod_int Tryz.underlying3 k2'
    simp only [List.cons.injEq, and_true] at e0 e1 e2
    subst e0 e1 e2
    exact ⟨⟨k, a, b⟩, rfl⟩
set_option maxRecDepth 100000 in
theorem ops_trod {H : Type} {enc : TypeId × Value → H} {W : World} {n : Nat} {v : Value} {x : DataW H × List MemPlace}
    (h : DataW.trod enc Tryz.prog W 0 (fun _ => true) true n 57 [v] = some x) : ∃ os, OsIn W v os := by
  rcases open_slice Tryz.underlying57 h with ⟨hcs, _⟩ | ⟨a, l, c, m, n9, D, Pl, hcs, _, hl, hm, hmm, _, hx⟩
  · simp at hcs
    exact ⟨[], none, 0, hcs, ⟨rfl, .inl rfl⟩, by simp⟩
  · simp at hcs
    rw [if_pos rfl] at hmm
    subst hmm
    rw [cellsOpP] at hx
    have : Inhabited Opv := ⟨Opv.zero⟩
    obtain ⟨f, hf⟩ := choose_lt (α := Opv) (p := fun i o => W.cells? 0 (a.add (i * 3)) 3 = some [.int .i64 o.k, .int .i64 o.a, .int .i64 o.b]) (fun i hi => by
      obtain ⟨cs', h1, h2⟩ := hx i hi
      obtain ⟨o, rfl⟩ := op_cells h2
      exact ⟨o, h1⟩)
    have hlen : ((List.range l).map f).length = l := by simp
    refine ⟨(List.range l).map f, some a, m, by rw [hlen]; exact hcs, ⟨rfl, ?_⟩, by rw [hlen]; unfold maxLen at hm; omega⟩
    rw [hlen]
    by_cases h0 : l = 0
    · exact .inl h0
    obtain ⟨b, off, spot⟩ := a
    have hc0 := (World.cells?_some (hf 0 (by omega))).2.2 0 (by omega)
    simp only [Nat.zero_mul, List.getElem?_cons_zero] at hc0
    have hspot : spot = none := by simpa [Addr.add] using World.cell?_spot hc0
    subst hspot
    have hadd : ∀ i, (⟨b, off, none⟩ : Addr).add i = ⟨b, off + i, none⟩ := fun i => by unfold Addr.add; split <;> simp_all
    have hadd2 : ∀ o i, (⟨b, o, none⟩ : Addr).add i = ⟨b, o + i, none⟩ := fun o i => by unfold Addr.add; split <;> simp_all
    refine .inr ⟨b, off, rfl, ?_, fun k hk => ?_⟩
    · have := World.block_lt_of_cell? W _ hc0
      rw [hadd, hadd2] at this; exact this
    · have hh := (World.cells?_some (hf k (by omega))).2.2
      have g0 := hh 0 (by omega)
      have g1 := hh 1 (by omega)
      have g2 := hh 2 (by omega)
      rw [hadd, hadd2] at g0 g1 g2
      have e : ((List.range l).map f).getD k Opv.zero = f k := by simp [List.getD, hk]
      rw [e]
      exact ⟨by simpa using g0, by simpa using g1, by simpa using g2⟩
set_option maxRecDepth 100000 in
theorem ops_open {H : Type} {enc : TypeId × Value → H} {W : World} {base : Nat} {v : Value} {d : DataW H} {p : List MemPlace}
    (hv : Value.okWide Tryz.prog W .any base 57 v) (h : DataW.Trod enc Tryz.prog W 0 (fun _ => true) true 57 v d p) : ∃ os, OsIn W v os := by
  obtain ⟨a, l, c, rfl⟩ := okWide_slice Tryz.underlying57 hv
  obtain ⟨fuel, hf⟩ := h
  exact ops_trod (n := fuel) (by simpa [Value.cells] using hf)
end Go.Proofs.YtfoimicbmkiigaaGreat

/- From a Both that is an argument of an exact law to the walk's word for it. -/
namespace Go.Proofs.YtfoimicbmkiigaaGreat
open Go.ChangeShapes Go.WideShapes Go.ChangeAt Go.RowKit Go.Deep

theorem cellsStoreT : Tryz.prog.cellsOf 55 = 4 := by kernel_rfl
theorem cellsHeapT : Tryz.prog.cellsOf 53 = 3 := by kernel_rfl
theorem cellsGcT : Tryz.prog.cellsOf 56 = 3 := by kernel_rfl
theorem cellsBothT : Tryz.prog.cellsOf 59 = 10 := by kernel_rfl
theorem cellsIntsT : Tryz.prog.cellsOf 23 = 1 := by kernel_rfl
theorem cellsIntT : Tryz.prog.cellsOf 3 = 1 := by kernel_rfl
theorem cellsBoolT : Tryz.prog.cellsOf 4 = 1 := by kernel_rfl
theorem cellsOpsT : Tryz.prog.cellsOf 57 = 1 := by kernel_rfl

theorem trod_struct5T {H : Type} {enc : TypeId × Value → H} {P : Program} {w : World} {base : Nat} {spare : Nat → Bool} {held : Bool} {t : TypeId} {f0 f1 f2 f3 f4 : Field} {fuel : Nat} {cs : List Value} {x : DataW H × List MemPlace} (ht : P.underlying t = some (.struct #[f0, f1, f2, f3, f4])) (h : DataW.trod enc P w base spare held fuel t cs = some x) :
    ∃ y0 y1 y2 y3 y4 n, cs.length = P.cellsOf t ∧ DataW.trod enc P w base spare held n f0.type ((cs.drop f0.offset).take (P.cellsOf f0.type)) = some y0 ∧
      DataW.trod enc P w base spare held n f1.type ((cs.drop f1.offset).take (P.cellsOf f1.type)) = some y1 ∧ DataW.trod enc P w base spare held n f2.type ((cs.drop f2.offset).take (P.cellsOf f2.type)) = some y2 ∧
      DataW.trod enc P w base spare held n f3.type ((cs.drop f3.offset).take (P.cellsOf f3.type)) = some y3 ∧ DataW.trod enc P w base spare held n f4.type ((cs.drop f4.offset).take (P.cellsOf f4.type)) = some y4 := by
  obtain ⟨xs, n, _, rfl, hl, hlen, hf⟩ := DataW.trod_struct ht h
  match xs, hlen with
  | [y0, y1, y2, y3, y4], _ => exact ⟨y0, y1, y2, y3, y4, n, hl, by simpa using hf 0 f0 rfl, by simpa using hf 1 f1 rfl, by simpa using hf 2 f2 rfl, by simpa using hf 3 f3 rfl, by simpa using hf 4 f4 rfl⟩
theorem array10T (T : Array Value) (h : T.size = 10) : ∃ v0 v1 v2 v3 v4 v5 v6 v7 v8 v9 : Value, T = #[v0, v1, v2, v3, v4, v5, v6, v7, v8, v9] := by
  obtain ⟨l⟩ := T
  simp only [List.size_toArray] at h
  match l, h with
  | [v0, v1, v2, v3, v4, v5, v6, v7, v8, v9], _ => exact ⟨v0, v1, v2, v3, v4, v5, v6, v7, v8, v9, rfl⟩

set_option maxRecDepth 100000 in
theorem both_open {H : Type} {enc : TypeId × Value → H} {W : World} {base : Nat} {v : Value} {d : DataW H} {p : List MemPlace}
    (hv : Value.okWide Tryz.prog W .any base 59 v) (h : DataW.Trod enc Tryz.prog W 0 (fun _ => true) true 59 v d p) : ∃ B, BIn W v B := by
  obtain ⟨cs, rfl, hsz⟩ := okWide_struct Tryz.underlying59 hv
  obtain ⟨c0, c1, c2, c3, c4, c5, c6, c7, c8, c9, rfl⟩ := array10T _ (hsz.trans cellsBothT)
  obtain ⟨fuel, hf⟩ := h
  obtain ⟨y0, y1, y2, y3, y4, n, _, h0, h1, h2, h3, h4⟩ := trod_struct5T Tryz.underlying59 hf
  have h0' : DataW.trod enc Tryz.prog W 0 (fun _ => true) true n 55 [c0, c1, c2, c3] = some y0 := by simpa [Value.cells, cellsStoreT] using h0
  have h1' : DataW.trod enc Tryz.prog W 0 (fun _ => true) true n 56 [c4, c5, c6] = some y1 := by simpa [Value.cells, cellsGcT] using h1
  have h2' : DataW.trod enc Tryz.prog W 0 (fun _ => true) true n 57 [c7] = some y2 := by simpa [Value.cells, cellsOpsT] using h2
  have h3' : DataW.trod enc Tryz.prog W 0 (fun _ => true) true n 3 [c8] = some y3 := by simpa [Value.cells, cellsIntT] using h3
  have h4' : DataW.trod enc Tryz.prog W 0 (fun _ => true) true n 4 [c9] = some y4 := by simpa [Value.cells, cellsBoolT] using h4
  clear h0 h1 h2 h3 h4 hf hv
  obtain ⟨z0, z1, m, _, _, g0, g1⟩ := trod_struct2 Tryz.underlying55 h0'
  have g0' : DataW.trod enc Tryz.prog W 0 (fun _ => true) true m 53 [c0, c1, c2] = some z0 := by simpa [cellsHeapT] using g0
  have g1' : DataW.trod enc Tryz.prog W 0 (fun _ => true) true m 23 [c3] = some z1 := by simpa [cellsIntsT] using g1
  obtain ⟨x0, x1, x2, m2, _, _, k0, k1, k2⟩ := trod_struct3 Tryz.underlying53 g0'
  have k0' : DataW.trod enc Tryz.prog W 0 (fun _ => true) true m2 23 [c0] = some x0 := by simpa [cellsIntsT] using k0
  have k1' : DataW.trod enc Tryz.prog W 0 (fun _ => true) true m2 23 [c1] = some x1 := by simpa [cellsIntsT] using k1
  have k2' : DataW.trod enc Tryz.prog W 0 (fun _ => true) true m2 23 [c2] = some x2 := by simpa [cellsIntsT] using k2
  obtain ⟨u0, u1, u2, m3, _, _, j0, j1, j2⟩ := trod_struct3 Tryz.underlying56 h1'
  have j0' : DataW.trod enc Tryz.prog W 0 (fun _ => true) true m3 3 [c4] = some u0 := by simpa [cellsIntT] using j0
  have j1' : DataW.trod enc Tryz.prog W 0 (fun _ => true) true m3 23 [c5] = some u1 := by simpa [cellsIntsT] using j1
  have j2' : DataW.trod enc Tryz.prog W 0 (fun _ => true) true m3 3 [c6] = some u2 := by simpa [cellsIntT] using j2
  obtain ⟨A0, n0, d0, xs, rfl, i0, m0'⟩ := ints_open k0'
  obtain ⟨A1, n1, d1, ys, rfl, i1, m1'⟩ := ints_open k1'
  obtain ⟨A2, n2, d2, zs, rfl, i2, m2'⟩ := ints_open k2'
  obtain ⟨A3, n3, d3, us, rfl, i3, m3'⟩ := ints_open g1'
  obtain ⟨pp, e4, _, _⟩ := DataW.trod_int Tryz.underlying3 j0'
  obtain ⟨A4, n4, d4, cc, rfl, i4, m4'⟩ := ints_open j1'
  obtain ⟨aa, e6, _, _⟩ := DataW.trod_int Tryz.underlying3 j2'
  obtain ⟨os, A5, d5, rfl, i5, m5'⟩ := ops_trod h2'
  obtain ⟨ii, e8, _, _⟩ := DataW.trod_int Tryz.underlying3 h3'
  obtain ⟨bz, e9, _⟩ := DataW.trod_bool Tryz.underlying4 h4'
  simp only [List.cons.injEq, and_true] at e4 e6 e8 e9
  subst e4 e6 e8 e9
  have q0 := i0.1
  have q1 := i1.1
  have q2 := i2.1
  have q3 := i3.1
  have q4 := i4.1
  subst q0 q1 q2 q3 q4
  exact ⟨⟨⟨⟨xs, ys, zs⟩, us⟩, ⟨pp, cc, aa⟩, os, ii, bz⟩, ⟨A0, d0, A1, d1, A2, d2, A3, d3, A4, d4, A5, d5, rfl, ⟨A0, d0, A1, d1, A2, d2, A3, d3, rfl, i0, i1, i2, i3⟩, i4, i5⟩, m0', m1', m2', m3', m4', m5'⟩
end Go.Proofs.YtfoimicbmkiigaaGreat

