/- Words for what is stored into a store of one's own. -/
import Derived.Test.YtfoimicbmkiigaaGreatOp
import Derived.Test.YtfoimicbmkiigaaGreatStoA
import Derived.Test.YtfoimicbmkiigaaGreatRdA
namespace Go.Proofs.YtfoimicbmkiigaaGreat
open Go.RowKit

theorem cellSo {w : World} {a p : Addr} {u v : Value} (h : w.cell? a = some u) (hne : a.block ≠ p.block) : (w.setCell p v).cell? a = some u := (World.cell?_setCell_far w p a v hne.symm).trans h
theorem Cv.setFarO {w : World} {lo : Nat} {v0 v1 v2 v3 : Value} {C : Cp} (h : Cv w lo (.agg #[v0, v1, v2, v3]) C) {p : Addr} (f : v0.ownBlock ≠ some p.block ∧ v1.ownBlock ≠ some p.block ∧ v2.ownBlock ≠ some p.block ∧ v3.ownBlock ≠ some p.block) (u : Value) : Cv (w.setCell p u) lo (.agg #[v0, v1, v2, v3]) C := by
  obtain ⟨_, _, _, _, e, ⟨_, _, _, e', r0, r1, r2, a⟩, r3, b⟩ := h
  cases e; cases e'
  exact ⟨_, _, _, _, rfl, ⟨_, _, _, rfl, r0.other f.1 u, r1.other f.2.1 u, r2.other f.2.2.1 u, a⟩, r3.other f.2.2.2 u, b⟩
theorem Cv.oldO {w : World} {lo b : Nat} {v0 v1 v2 v3 : Value} {C : Cp} (h : Cv w lo (.agg #[v0, v1, v2, v3]) C) (hb : w.heap.size ≤ b) : v0.ownBlock ≠ some b ∧ v1.ownBlock ≠ some b ∧ v2.ownBlock ≠ some b ∧ v3.ownBlock ≠ some b := by
  obtain ⟨_, _, _, _, e, ⟨_, _, _, e', r0, r1, r2, _⟩, r3, _⟩ := h
  cases e; cases e'
  exact ⟨fun e => by have := (r0.lt _ e).2; omega, fun e => by have := (r1.lt _ e).2; omega, fun e => by have := (r2.lt _ e).2; omega, fun e => by have := (r3.lt _ e).2; omega⟩
theorem Cv.putLO {w : World} {lo g n cp : Nat} {v1 v2 v3 : Value} {C : Cp} (h : Cv w lo (.agg #[.slice (some ⟨g, 0, none⟩) n cp, v1, v2, v3]) C) (k : Nat) (x : Int) : Cv (w.setCell ⟨g, k, none⟩ (.int .i64 x)) lo (.agg #[.slice (some ⟨g, 0, none⟩) n cp, v1, v2, v3]) ⟨⟨C.h.l.set k x, C.h.r, C.h.t⟩, C.c⟩ := by
  obtain ⟨_, _, _, _, e, ⟨_, _, _, e', r0, r1, r2, a01, a02, a12⟩, r3, b0, b1, b2⟩ := h
  cases e; cases e'
  exact ⟨_, _, _, _, rfl, ⟨_, _, _, rfl, r0.set_ k x, r1.other (a := ⟨g, k, none⟩) (fun e => a01 g rfl e) _, r2.other (a := ⟨g, k, none⟩) (fun e => a02 g rfl e) _, a01, a02, a12⟩, r3.other (a := ⟨g, k, none⟩) (b0 g rfl) _, b0, b1, b2⟩
theorem Cv.putRO {w : World} {lo g n cp : Nat} {v0 v2 v3 : Value} {C : Cp} (h : Cv w lo (.agg #[v0, .slice (some ⟨g, 0, none⟩) n cp, v2, v3]) C) (k : Nat) (x : Int) : Cv (w.setCell ⟨g, k, none⟩ (.int .i64 x)) lo (.agg #[v0, .slice (some ⟨g, 0, none⟩) n cp, v2, v3]) ⟨⟨C.h.l, C.h.r.set k x, C.h.t⟩, C.c⟩ := by
  obtain ⟨_, _, _, _, e, ⟨_, _, _, e', r0, r1, r2, a01, a02, a12⟩, r3, b0, b1, b2⟩ := h
  cases e; cases e'
  exact ⟨_, _, _, _, rfl, ⟨_, _, _, rfl, r0.other (a := ⟨g, k, none⟩) (fun e => a01 g e rfl) _, r1.set_ k x, r2.other (a := ⟨g, k, none⟩) (fun e => a12 g rfl e) _, a01, a02, a12⟩, r3.other (a := ⟨g, k, none⟩) (b1 g rfl) _, b0, b1, b2⟩
theorem Cv.putTO {w : World} {lo g n cp : Nat} {v0 v1 v3 : Value} {C : Cp} (h : Cv w lo (.agg #[v0, v1, .slice (some ⟨g, 0, none⟩) n cp, v3]) C) (k : Nat) (x : Int) : Cv (w.setCell ⟨g, k, none⟩ (.int .i64 x)) lo (.agg #[v0, v1, .slice (some ⟨g, 0, none⟩) n cp, v3]) ⟨⟨C.h.l, C.h.r, C.h.t.set k x⟩, C.c⟩ := by
  obtain ⟨_, _, _, _, e, ⟨_, _, _, e', r0, r1, r2, a01, a02, a12⟩, r3, b0, b1, b2⟩ := h
  cases e; cases e'
  exact ⟨_, _, _, _, rfl, ⟨_, _, _, rfl, r0.other (a := ⟨g, k, none⟩) (fun e => a02 g e rfl) _, r1.other (a := ⟨g, k, none⟩) (fun e => a12 g e rfl) _, r2.set_ k x, a01, a02, a12⟩, r3.other (a := ⟨g, k, none⟩) (b2 g rfl) _, b0, b1, b2⟩
/-- What is no block of a value stays as it was. -/
def KeepO (w : World) (v : Value) (w' : World) : Prop := ∀ (i : Nat) (v0 v1 v2 v3 : Value), v = .agg #[v0, v1, v2, v3] → i < w.heap.size → v0.ownBlock ≠ some i → v1.ownBlock ≠ some i → v2.ownBlock ≠ some i → w'.heap[i]? = w.heap[i]?
theorem Row.atO {w : World} {lo g n c : Nat} {xs : List Int} (h : Row w lo (.slice (some ⟨g, 0, none⟩) n c) xs) {k : Nat} (hk : k < xs.length) : w.cell? ⟨g, k, none⟩ = some (.int .i64 (xs.getD k (-1))) ∧ w.frozen? ⟨g, k, none⟩ = false ∧ lo ≤ g := by
  obtain ⟨g', x, e, h1, h2, hx, hc, hf⟩ := h.get hk
  cases e
  rw [List.getD_eq_getElem?_getD, hx.out]
  exact ⟨hc, hf, h1⟩
theorem Cv.rowsO {w : World} {lo : Nat} {v0 v1 v2 v3 : Value} {C : Cp} (h : Cv w lo (.agg #[v0, v1, v2, v3]) C) : Row w lo v0 C.h.l ∧ Row w lo v1 C.h.r ∧ Row w lo v2 C.h.t := by
  obtain ⟨_, _, _, _, e, ⟨_, _, _, e', r0, r1, r2, _⟩, _, _⟩ := h
  cases e; cases e'
  exact ⟨r0, r1, r2⟩
theorem cell_o {w : World} {b i j : Nat} {u : Value} (v : Value) (h : i ≠ j) (hc : w.cell? ⟨b, j, none⟩ = some u) : (w.setCell ⟨b, i, none⟩ v).cell? ⟨b, j, none⟩ = some u := (World.cell?_setCell_other w _ _ v (by intro e; cases e; exact h rfl)).trans hc
theorem cells4 {W : World} {b : Nat} {u0 u1 u2 u3 : Value} (v0 v1 v2 v3 : Value) (q0 : W.cell? ⟨b, 0, none⟩ = some u0) (q1 : W.cell? ⟨b, 1, none⟩ = some u1) (q2 : W.cell? ⟨b, 2, none⟩ = some u2) (q3 : W.cell? ⟨b, 3, none⟩ = some u3) :
    ((((W.setCell ⟨b, 0, none⟩ v0).setCell ⟨b, 1, none⟩ v1).setCell ⟨b, 2, none⟩ v2).setCell ⟨b, 3, none⟩ v3).cell? ⟨b, 0, none⟩ = some v0 ∧
    ((((W.setCell ⟨b, 0, none⟩ v0).setCell ⟨b, 1, none⟩ v1).setCell ⟨b, 2, none⟩ v2).setCell ⟨b, 3, none⟩ v3).cell? ⟨b, 1, none⟩ = some v1 ∧
    ((((W.setCell ⟨b, 0, none⟩ v0).setCell ⟨b, 1, none⟩ v1).setCell ⟨b, 2, none⟩ v2).setCell ⟨b, 3, none⟩ v3).cell? ⟨b, 2, none⟩ = some v2 ∧
    ((((W.setCell ⟨b, 0, none⟩ v0).setCell ⟨b, 1, none⟩ v1).setCell ⟨b, 2, none⟩ v2).setCell ⟨b, 3, none⟩ v3).cell? ⟨b, 3, none⟩ = some v3 := by
  refine ⟨cell_o v3 (by decide) (cell_o v2 (by decide) (cell_o v1 (by decide) (World.cell?_setCell_same _ _ v0 q0))), cell_o v3 (by decide) (cell_o v2 (by decide) (World.cell?_setCell_same _ _ v1 (cell_o v0 (by decide) q1))), cell_o v3 (by decide) (World.cell?_setCell_same _ _ v2 (cell_o v1 (by decide) (cell_o v0 (by decide) q2))), World.cell?_setCell_same _ _ v3 (cell_o v2 (by decide) (cell_o v1 (by decide) (cell_o v0 (by decide) q3)))⟩

/-- What l5Do leaves: the store that it was given, turned. -/
def DoneO (w : World) (lo : Nat) (v : Value) (C : Cp) (o : Opv) (e : Ending) (w' : World) : Prop := e = .returned (.tuple #[v, .int .i64 (doE C o)]) ∧ Cv w' lo v (doC C o) ∧ Below lo w w' ∧ KeepO w v w'
theorem heap_setO {w : World} {p : Addr} {v : Value} {i : Nat} (h : p.block ≠ i) : (w.setCell p v).heap[i]? = w.heap[i]? := by
  simp only [World.setCell, Array.getElem?_modify]
  simp [h]
theorem keepO_mk {w w' : World} {v0 v1 v2 v3 : Value} (h : ∀ i : Nat, i < w.heap.size → v0.ownBlock ≠ some i → v1.ownBlock ≠ some i → v2.ownBlock ≠ some i → w'.heap[i]? = w.heap[i]?) : KeepO w (.agg #[v0, v1, v2, v3]) w' := by
  intro p u0 u1 u2 u3 e hp h0 h1 h2
  cases e
  exact h p hp h0 h1 h2
theorem keepO_done {w W : World} {b : Nat} {v0 v1 v2 v3 : Value} (hb : w.heap.size ≤ b) (h : ∀ i : Nat, i < w.heap.size → v0.ownBlock ≠ some i → v1.ownBlock ≠ some i → v2.ownBlock ≠ some i → W.heap[i]? = w.heap[i]?) :
    KeepO w (.agg #[v0, v1, v2, v3]) ((((W.setCell ⟨b, 0, none⟩ v0).setCell ⟨b, 1, none⟩ v1).setCell ⟨b, 2, none⟩ v2).setCell ⟨b, 3, none⟩ v3) := by
  refine keepO_mk fun p hp h0 h1 h2 => ?_
  have hne : b ≠ p := by omega
  rw [heap_setO hne, heap_setO hne, heap_setO hne, heap_setO hne]
  exact h p hp h0 h1 h2
theorem do_done {w W : World} {lo b : Nat} {v0 v1 v2 v3 : Value} {C C' : Cp} (h0 : Cv w lo (.agg #[v0, v1, v2, v3]) C) (hb : w.heap.size ≤ b) (hlo : lo ≤ b) (h : Cv W lo (.agg #[v0, v1, v2, v3]) C') (hB : Below lo w W) :
    Cv ((((W.setCell ⟨b, 0, none⟩ v0).setCell ⟨b, 1, none⟩ v1).setCell ⟨b, 2, none⟩ v2).setCell ⟨b, 3, none⟩ v3) lo (.agg #[v0, v1, v2, v3]) C' ∧ Below lo w ((((W.setCell ⟨b, 0, none⟩ v0).setCell ⟨b, 1, none⟩ v1).setCell ⟨b, 2, none⟩ v2).setCell ⟨b, 3, none⟩ v3) := by
  have f := h0.oldO hb
  exact ⟨(((h.setFarO (p := ⟨b, 0, none⟩) f v0).setFarO (p := ⟨b, 1, none⟩) f v1).setFarO (p := ⟨b, 2, none⟩) f v2).setFarO (p := ⟨b, 3, none⟩) f v3, (((hB.setCell (p := ⟨b, 0, none⟩) hlo v0).setCell (p := ⟨b, 1, none⟩) hlo v1).setCell (p := ⟨b, 2, none⟩) hlo v2).setCell (p := ⟨b, 3, none⟩) hlo v3⟩
theorem Blk4.belowAt {w w' : World} {b B : Nat} {x y z u : Value} {t : TypeId} (h : Blk4 w b x y z u t) (hb : Below B w w') (hlt : b < B) : Blk4 w' b x y z u t := (hb.block b hlt).trans h
theorem Blk3.belowAt {w w' : World} {b B : Nat} {x y z : Value} {t : TypeId} (h : Blk3 w b x y z t) (hb : Below B w w') (hlt : b < B) : Blk3 w' b x y z t := (hb.block b hlt).trans h
theorem Cv.ownLt {w : World} {lo : Nat} {v0 v1 v2 v3 : Value} {C : Cp} (h : Cv w lo (.agg #[v0, v1, v2, v3]) C) (b : Nat) (hb : b < lo ∨ w.heap.size ≤ b) : v0.ownBlock ≠ some b ∧ v1.ownBlock ≠ some b ∧ v2.ownBlock ≠ some b ∧ v3.ownBlock ≠ some b := by
  obtain ⟨_, _, _, _, e, ⟨_, _, _, e', r0, r1, r2, _⟩, r3, _⟩ := h
  cases e; cases e'
  exact ⟨fun e => by have := r0.lt _ e; omega, fun e => by have := r1.lt _ e; omega, fun e => by have := r2.lt _ e; omega, fun e => by have := r3.lt _ e; omega⟩
theorem Cv.set4O {w : World} {lo b : Nat} {v0 v1 v2 v3 : Value} {C : Cp} (h : Cv w lo (.agg #[v0, v1, v2, v3]) C) (f : v0.ownBlock ≠ some b ∧ v1.ownBlock ≠ some b ∧ v2.ownBlock ≠ some b ∧ v3.ownBlock ≠ some b) (u0 u1 u2 u3 : Value) :
    Cv ((((w.setCell ⟨b, 0, none⟩ u0).setCell ⟨b, 1, none⟩ u1).setCell ⟨b, 2, none⟩ u2).setCell ⟨b, 3, none⟩ u3) lo (.agg #[v0, v1, v2, v3]) C :=
  (((h.setFarO (p := ⟨b, 0, none⟩) f u0).setFarO (p := ⟨b, 1, none⟩) f u1).setFarO (p := ⟨b, 2, none⟩) f u2).setFarO (p := ⟨b, 3, none⟩) f u3
theorem below_set4 {w w' : World} {lo b : Nat} (h : Below lo w w') (hb : lo ≤ b) (u0 u1 u2 u3 : Value) : Below lo w ((((w'.setCell ⟨b, 0, none⟩ u0).setCell ⟨b, 1, none⟩ u1).setCell ⟨b, 2, none⟩ u2).setCell ⟨b, 3, none⟩ u3) :=
  (((h.setCell (p := ⟨b, 0, none⟩) hb u0).setCell (p := ⟨b, 1, none⟩) hb u1).setCell (p := ⟨b, 2, none⟩) hb u2).setCell (p := ⟨b, 3, none⟩) hb u3
theorem Blk4.set4R {w : World} {b : Nat} {x y z u : Value} {t : TypeId} (h : Blk4 w b x y z u t) (x' y' z' u' : Value) : Blk4 ((((w.setCell ⟨b, 0, none⟩ x').setCell ⟨b, 1, none⟩ y').setCell ⟨b, 2, none⟩ z').setCell ⟨b, 3, none⟩ u') b x' y' z' u' t := by
  unfold Blk4 at *
  simp [World.setCell, Array.getElem?_modify, h]
theorem Blk4.far4 {w : World} {b c : Nat} {x y z u : Value} {t : TypeId} (h : Blk4 w b x y z u t) (hne : b ≠ c) (u0 u1 u2 u3 : Value) : Blk4 ((((w.setCell ⟨c, 0, none⟩ u0).setCell ⟨c, 1, none⟩ u1).setCell ⟨c, 2, none⟩ u2).setCell ⟨c, 3, none⟩ u3) b x y z u t :=
  (((h.other (p := ⟨c, 0, none⟩) hne u0).other (p := ⟨c, 1, none⟩) hne u1).other (p := ⟨c, 2, none⟩) hne u2).other (p := ⟨c, 3, none⟩) hne u3
/-- The result's own variable takes the store. -/
theorem fin_run {w W : World} {b : Nat} {v0 v1 v2 v3 : Value} {D : Cp} (hb : w.heap.size ≤ b) (h : Cv W (b + 1) (.agg #[v0, v1, v2, v3]) D) (hB : Below w.heap.size w W) :
    Cv ((((W.setCell ⟨b, 0, none⟩ v0).setCell ⟨b, 1, none⟩ v1).setCell ⟨b, 2, none⟩ v2).setCell ⟨b, 3, none⟩ v3) w.heap.size (.agg #[v0, v1, v2, v3]) D ∧ Below w.heap.size w ((((W.setCell ⟨b, 0, none⟩ v0).setCell ⟨b, 1, none⟩ v1).setCell ⟨b, 2, none⟩ v2).setCell ⟨b, 3, none⟩ v3) :=
  ⟨(h.set4O (h.ownLt b (.inl (by omega))) v0 v1 v2 v3).mono (by omega), below_set4 hB hb v0 v1 v2 v3⟩
end Go.Proofs.YtfoimicbmkiigaaGreat
