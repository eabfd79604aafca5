/- From a slice of operations that is an argument of an exact law to the walk's word for it. -/
import Derived.Test.YtdifplakkepnkaaFrameO
import Derived.Test.YtdifplakkepnkaaExactP
import Derived.Deep.Slices
import Derived.Deep.Strs
namespace Go.Proofs.Ytdifplakkepnkaa
open Go.ChangeShapes Go.WideShapes Go.ChangeAt Go.RowKit Go.Deep

theorem cellsOpP : Try.prog.cellsOf 79 = 3 := by kernel_rfl
theorem cellsIntP : Try.prog.cellsOf 3 = 1 := by kernel_rfl
set_option maxRecDepth 100000 in
theorem op_cells {H : Type} {enc : TypeId × Value → H} {W : World} {n : Nat} {cs : List Value} {x : DataW H × List MemPlace}
    (h : DataW.trod enc Try.prog W 0 (fun _ => true) true n 79 cs = some x) : ∃ o : Opv, cs = [.int .i64 o.k, .int .i64 o.a, .int .i64 o.b] := by
  obtain ⟨z0, z1, z2, m, _, hl, k0, k1, k2⟩ := trod_struct3 Try.underlying79 h
  rw [cellsOpP] at hl
  match cs, hl with
  | [c0, c1, c2], _ =>
    have k0' : DataW.trod enc Try.prog W 0 (fun _ => true) true m 3 [c0] = some z0 := by simpa [cellsIntP] using k0
    have k1' : DataW.trod enc Try.prog W 0 (fun _ => true) true m 3 [c1] = some z1 := by simpa [cellsIntP] using k1
    have k2' : DataW.trod enc Try.prog W 0 (fun _ => true) true m 3 [c2] = some z2 := by simpa [cellsIntP] using k2
    obtain ⟨k, e0, _, _⟩ := DataW.trod_int Try.underlying3 k0'
    obtain ⟨a, e1, _, _⟩ := DataW.trod_int Try.underlying3 k1'
    obtain ⟨b, e2, _, _⟩ := DataW.trod_int Try.underlying3 k2'
    simp only [List.cons.injEq, and_true] at e0 e1 e2
    subst e0 e1 e2
    exact ⟨⟨k, a, b⟩, rfl⟩
set_option maxRecDepth 100000 in
theorem ops_trod {H : Type} {enc : TypeId × Value → H} {W : World} {n : Nat} {v : Value} {x : DataW H × List MemPlace}
    (h : DataW.trod enc Try.prog W 0 (fun _ => true) true n 45 [v] = some x) : ∃ os, OsIn W v os := by
  rcases open_slice Try.underlying45 h with ⟨hcs, _⟩ | ⟨a, l, c, m, n9, D, Pl, hcs, _, hl, hm, hmm, _, hx⟩
  · simp at hcs
    exact ⟨[], none, 0, hcs, ⟨rfl, .inl rfl⟩, by simp⟩
  · simp at hcs
    rw [if_pos rfl] at hmm
    subst hmm
    rw [cellsOpP] at hx
    have : Inhabited Opv := ⟨Opv.zero⟩
    obtain ⟨f, hf⟩ := choose_lt (α := Opv) (p := fun i o => W.cells? 0 (a.add (i * 3)) 3 = some [.int .i64 o.k, .int .i64 o.a, .int .i64 o.b]) (fun i hi => by
      obtain ⟨cs', h1, h2⟩ := hx i hi
      obtain ⟨o, rfl⟩ := op_cells h2
      exact ⟨o, h1⟩)
    have hlen : ((List.range l).map f).length = l := by simp
    refine ⟨(List.range l).map f, some a, m, by rw [hlen]; exact hcs, ⟨rfl, ?_⟩, by rw [hlen]; unfold maxLen at hm; omega⟩
    rw [hlen]
    by_cases h0 : l = 0
    · exact .inl h0
    obtain ⟨b, off, spot⟩ := a
    have hc0 := (World.cells?_some (hf 0 (by omega))).2.2 0 (by omega)
    simp only [Nat.zero_mul, List.getElem?_cons_zero] at hc0
    have hspot : spot = none := by simpa [Addr.add] using World.cell?_spot hc0
    subst hspot
    have hadd : ∀ i, (⟨b, off, none⟩ : Addr).add i = ⟨b, off + i, none⟩ := fun i => by unfold Addr.add; split <;> simp_all
    have hadd2 : ∀ o i, (⟨b, o, none⟩ : Addr).add i = ⟨b, o + i, none⟩ := fun o i => by unfold Addr.add; split <;> simp_all
    refine .inr ⟨b, off, rfl, ?_, fun k hk => ?_⟩
    · have := World.block_lt_of_cell? W _ hc0
      rw [hadd, hadd2] at this; exact this
    · have hh := (World.cells?_some (hf k (by omega))).2.2
      have g0 := hh 0 (by omega)
      have g1 := hh 1 (by omega)
      have g2 := hh 2 (by omega)
      rw [hadd, hadd2] at g0 g1 g2
      have e : ((List.range l).map f).getD k Opv.zero = f k := by simp [List.getD, hk]
      rw [e]
      exact ⟨by simpa using g0, by simpa using g1, by simpa using g2⟩
set_option maxRecDepth 100000 in
theorem ops_open {H : Type} {enc : TypeId × Value → H} {W : World} {base : Nat} {v : Value} {d : DataW H} {p : List MemPlace}
    (hv : Value.okWide Try.prog W .any base 45 v) (h : DataW.Trod enc Try.prog W 0 (fun _ => true) true 45 v d p) : ∃ os, OsIn W v os := by
  obtain ⟨a, l, c, rfl⟩ := okWide_slice Try.underlying45 hv
  obtain ⟨fuel, hf⟩ := h
  exact ops_trod (n := fuel) (by simpa [Value.cells] using hf)
end Go.Proofs.Ytdifplakkepnkaa
