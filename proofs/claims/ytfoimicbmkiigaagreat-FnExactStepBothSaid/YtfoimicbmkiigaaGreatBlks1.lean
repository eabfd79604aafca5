import Derived.Test.YtfoimicbmkiigaaGreatMemos
/- Blocks of one and of two cells. -/
namespace Go.Proofs.YtfoimicbmkiigaaGreat
open Go.RowKit

/-- A block of 1 cell(s), known whole. -/
def Blk1 (w : World) (b : Nat) (x : Value) (t : TypeId) : Prop := w.heap[b]? = some (.cells #[x] t (0, 0))
theorem Blk1.cells {w : World} {b : Nat} {x : Value} {t : TypeId} (h : Blk1 w b x t) : w.cell? ⟨b, 0, none⟩ = some x ∧ w.frozen? ⟨b, 0, none⟩ = false := by
  unfold Blk1 at h
  simp [World.cell?, World.frozen?, h]
theorem Blk1.lt {w : World} {b : Nat} {x : Value} {t : TypeId} (h : Blk1 w b x t) : b < w.heap.size := (Array.getElem?_eq_some_iff.1 h).1
theorem Blk1.below {w w' : World} {b : Nat} {x : Value} {t : TypeId} (h : Blk1 w b x t) (hb : Below w.heap.size w w') : Blk1 w' b x t := (hb.block b h.lt).trans h
theorem Blk1.new (w : World) (x : Value) (t : TypeId) : Blk1 (w.alloc (.cells #[x] t)) w.heap.size x t := heap_alloc_new w _
theorem Blk1.new_at {w : World} {b : Nat} (hb : b = w.heap.size) (x : Value) (t : TypeId) : Blk1 (w.alloc (.cells #[x] t)) b x t := by subst hb; exact heap_alloc_new w _
theorem Blk1.alloc {w : World} {b : Nat} {x : Value} {t : TypeId} (h : Blk1 w b x t) (o : Obj) : Blk1 (w.alloc o) b x t := (Below.heap_alloc w o b h.lt).trans h
theorem Blk1.other {w : World} {b : Nat} {x : Value} {t : TypeId} (h : Blk1 w b x t) {p : Addr} (hp : b ≠ p.block) (a : Value) : Blk1 (w.setCell p a) b x t := (Below.heap_setCell w p a b hp).trans h
theorem Blk1.far {w w' : World} {b : Nat} {x : Value} {t : TypeId} (h : Blk1 w b x t) {B : Nat} (hb : Below B w w') (hB : b < B) : Blk1 w' b x t := (hb.block b hB).trans h
theorem Blk1.drew {w : World} {b : Nat} {x : Value} {t : TypeId} (h : Blk1 w b x t) : Blk1 w.drew b x t := h
/-- A block of 2 cell(s), known whole. -/
def Blk2 (w : World) (b : Nat) (x y : Value) (t : TypeId) : Prop := w.heap[b]? = some (.cells #[x, y] t (0, 0))
theorem Blk2.cells {w : World} {b : Nat} {x y : Value} {t : TypeId} (h : Blk2 w b x y t) : w.cell? ⟨b, 0, none⟩ = some x ∧ w.cell? ⟨b, 1, none⟩ = some y ∧ w.frozen? ⟨b, 0, none⟩ = false ∧ w.frozen? ⟨b, 1, none⟩ = false := by
  unfold Blk2 at h
  simp [World.cell?, World.frozen?, h]
theorem Blk2.lt {w : World} {b : Nat} {x y : Value} {t : TypeId} (h : Blk2 w b x y t) : b < w.heap.size := (Array.getElem?_eq_some_iff.1 h).1
theorem Blk2.below {w w' : World} {b : Nat} {x y : Value} {t : TypeId} (h : Blk2 w b x y t) (hb : Below w.heap.size w w') : Blk2 w' b x y t := (hb.block b h.lt).trans h
theorem Blk2.new (w : World) (x y : Value) (t : TypeId) : Blk2 (w.alloc (.cells #[x, y] t)) w.heap.size x y t := heap_alloc_new w _
theorem Blk2.new_at {w : World} {b : Nat} (hb : b = w.heap.size) (x y : Value) (t : TypeId) : Blk2 (w.alloc (.cells #[x, y] t)) b x y t := by subst hb; exact heap_alloc_new w _
theorem Blk2.alloc {w : World} {b : Nat} {x y : Value} {t : TypeId} (h : Blk2 w b x y t) (o : Obj) : Blk2 (w.alloc o) b x y t := (Below.heap_alloc w o b h.lt).trans h
theorem Blk2.other {w : World} {b : Nat} {x y : Value} {t : TypeId} (h : Blk2 w b x y t) {p : Addr} (hp : b ≠ p.block) (a : Value) : Blk2 (w.setCell p a) b x y t := (Below.heap_setCell w p a b hp).trans h
theorem Blk2.far {w w' : World} {b : Nat} {x y : Value} {t : TypeId} (h : Blk2 w b x y t) {B : Nat} (hb : Below B w w') (hB : b < B) : Blk2 w' b x y t := (hb.block b hB).trans h
theorem Blk2.drew {w : World} {b : Nat} {x y : Value} {t : TypeId} (h : Blk2 w b x y t) : Blk2 w.drew b x y t := h
end Go.Proofs.YtfoimicbmkiigaaGreat

/- Three cells of a block that are stored into. -/
namespace Go.Proofs.YtfoimicbmkiigaaGreat
open Go.RowKit

theorem cell_o3 {w : World} {b i j : Nat} {u : Value} (v : Value) (h : i ≠ j) (hc : w.cell? ⟨b, j, none⟩ = some u) : (w.setCell ⟨b, i, none⟩ v).cell? ⟨b, j, none⟩ = some u := (World.cell?_setCell_other w _ _ v (by intro e; cases e; exact h rfl)).trans hc
theorem cells3 {W : World} {b : Nat} {u0 u1 u2 : Value} (v0 v1 v2 : Value) (q0 : W.cell? ⟨b, 0, none⟩ = some u0) (q1 : W.cell? ⟨b, 1, none⟩ = some u1) (q2 : W.cell? ⟨b, 2, none⟩ = some u2) :
    (((W.setCell ⟨b, 0, none⟩ v0).setCell ⟨b, 1, none⟩ v1).setCell ⟨b, 2, none⟩ v2).cell? ⟨b, 0, none⟩ = some v0 ∧ (((W.setCell ⟨b, 0, none⟩ v0).setCell ⟨b, 1, none⟩ v1).setCell ⟨b, 2, none⟩ v2).cell? ⟨b, 1, none⟩ = some v1 ∧ (((W.setCell ⟨b, 0, none⟩ v0).setCell ⟨b, 1, none⟩ v1).setCell ⟨b, 2, none⟩ v2).cell? ⟨b, 2, none⟩ = some v2 :=
  ⟨cell_o3 v2 (by decide) (cell_o3 v1 (by decide) (World.cell?_setCell_same _ _ v0 q0)), cell_o3 v2 (by decide) (World.cell?_setCell_same _ _ v1 (cell_o3 v0 (by decide) q1)), World.cell?_setCell_same _ _ v2 (cell_o3 v1 (by decide) (cell_o3 v0 (by decide) q2))⟩
end Go.Proofs.YtfoimicbmkiigaaGreat

