import Derived.Test.YtapkhgpifpgleaaHpB
import Derived.Test.YtapkhgpifpgleaaRdA
import Derived.Test.YtapkhgpifpgleaaDraw
/- What a law's walk ends in; no draws are asked for. -/
namespace Go.Proofs.Ytapkhgpifpgleaa
open Go.RowKit

/-- The law's end: true, and nothing old has turned. -/
def LawTrue (w : World) (e : Ending) (w' : World) : Prop := e = .returned (.bool true) ∧ Below w.heap.size w w'

theorem below3 {w w1 w2 w3 : World} {o1 o2 o3 : Obj} (hb1 : Below w.heap.size w w1) (hb2 : Below (w1.alloc o1).heap.size (w1.alloc o1) w2) (hb3 : Below (w2.alloc o2).heap.size (w2.alloc o2) w3) : Below w.heap.size w (w3.alloc o3) := by
  have z1 := hb1.size
  have z2 := hb2.size
  have z3 := hb3.size
  simp at z2 z3
  exact (((((hb1.alloc z1 _).trans (hb2.mono (by simp; omega))).alloc (by omega) _).trans (hb3.mono (by simp; omega))).alloc (by omega) _)

theorem lt_alloc {w : World} {g : Nat} (h : g < w.heap.size) (o : Obj) : g < (w.alloc o).heap.size := by simp; omega
theorem hv_set3 {w : World} {lo b : Nat} {v : Value} {h : Hp} (hv : Hv w lo v h) (hb : b < lo) (x y z : Value) : Hv (((w.setCell ⟨b, 0, none⟩ x).setCell ⟨b, 1, none⟩ y).setCell ⟨b, 2, none⟩ z) lo v h := by
  obtain ⟨v0, v1, v2, rfl, r0, r1, r2, a⟩ := hv
  have k : ∀ (v : Value) (xs : List Int), Row w lo v xs → v.ownBlock ≠ some b := fun v xs r e => by have := (r.lt _ e).1; omega
  have t : ∀ (v : Value) (xs : List Int), Row w lo v xs → Row (((w.setCell ⟨b, 0, none⟩ x).setCell ⟨b, 1, none⟩ y).setCell ⟨b, 2, none⟩ z) lo v xs :=
    fun v xs r => ((r.other (k v xs r) _).other (k v xs r) _).other (k v xs r) _
  exact ⟨v0, v1, v2, rfl, t _ _ r0, t _ _ r1, t _ _ r2, a⟩
/-- A heap of an option that is there, opened. -/
theorem opt_open {w w' : World} {lo : Nat} {v : Value} {h : Hp} (hv : Hv w' lo v ((some h).getD Hp.zero)) (hb : Below w.heap.size w w') :
    ∃ (_ : Hv w' lo v h), ∃ D0 q0 j0 D1 q1 j1 D2 q2 j2, v = .agg #[.slice D0 q0 j0, .slice D1 q1 j1, .slice D2 q2 j2] ∧ Below w.heap.size w w' := by
  have hv' : Hv w' lo v h := hv
  obtain ⟨A0, n0, c0, A1, n1, c1, A2, n2, c2, rfl, _⟩ := hv.open_
  exact ⟨hv', A0, n0, c0, A1, n1, c1, A2, n2, c2, rfl, hb⟩
end Go.Proofs.Ytapkhgpifpgleaa

/- What a law's walk ends in. -/

