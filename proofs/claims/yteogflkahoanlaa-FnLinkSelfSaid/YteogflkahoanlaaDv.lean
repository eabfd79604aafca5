/- A counted store by value: five slices; blocks of five cells. -/
import Derived.Test.YteogflkahoanlaaCnt
namespace Go.Proofs.Yteogflkahoanlaa
open Go.RowKit

/-- A block of 5 cells, known whole. -/
def Blk5 (w : World) (b : Nat) (x0 x1 x2 x3 x4 : Value) (t : TypeId) : Prop := w.heap[b]? = some (.cells #[x0, x1, x2, x3, x4] t (0, 0))
section
variable {w w' : World} {b : Nat} {x0 x1 x2 x3 x4 : Value} {t : TypeId}
theorem Blk5.cells (h : Blk5 w b x0 x1 x2 x3 x4 t) :
    w.cell? ⟨b, 0, none⟩ = some x0 ∧ w.cell? ⟨b, 1, none⟩ = some x1 ∧ w.cell? ⟨b, 2, none⟩ = some x2 ∧ w.cell? ⟨b, 3, none⟩ = some x3 ∧ w.cell? ⟨b, 4, none⟩ = some x4 ∧ w.frozen? ⟨b, 0, none⟩ = false ∧ w.frozen? ⟨b, 1, none⟩ = false ∧ w.frozen? ⟨b, 2, none⟩ = false ∧ w.frozen? ⟨b, 3, none⟩ = false ∧ w.frozen? ⟨b, 4, none⟩ = false := by
  unfold Blk5 at h
  simp [World.cell?, World.frozen?, h]
theorem Blk5.lt (h : Blk5 w b x0 x1 x2 x3 x4 t) : b < w.heap.size := (Array.getElem?_eq_some_iff.1 h).1
theorem Blk5.below (h : Blk5 w b x0 x1 x2 x3 x4 t) (hb : Below w.heap.size w w') : Blk5 w' b x0 x1 x2 x3 x4 t := (hb.block b h.lt).trans h
theorem Blk5.far {B : Nat} (h : Blk5 w b x0 x1 x2 x3 x4 t) (hb : Below B w w') (hB : b < B) : Blk5 w' b x0 x1 x2 x3 x4 t := (hb.block b hB).trans h
theorem Blk5.new (w : World) (x0 x1 x2 x3 x4 : Value) (t : TypeId) : Blk5 (w.alloc (.cells #[x0, x1, x2, x3, x4] t)) w.heap.size x0 x1 x2 x3 x4 t := heap_alloc_new w _
theorem Blk5.new_at {w : World} {b : Nat} (hb : b = w.heap.size) (x0 x1 x2 x3 x4 : Value) (t : TypeId) : Blk5 (w.alloc (.cells #[x0, x1, x2, x3, x4] t)) b x0 x1 x2 x3 x4 t := by subst hb; exact heap_alloc_new w _
theorem Blk5.drew (h : Blk5 w b x0 x1 x2 x3 x4 t) : Blk5 w.drew b x0 x1 x2 x3 x4 t := h
theorem Blk5.drewN (h : Blk5 w b x0 x1 x2 x3 x4 t) (n : Nat) : Blk5 (w.drewN n) b x0 x1 x2 x3 x4 t := h
theorem Blk5.alloc (h : Blk5 w b x0 x1 x2 x3 x4 t) (o : Obj) : Blk5 (w.alloc o) b x0 x1 x2 x3 x4 t := (Below.heap_alloc w o b h.lt).trans h
theorem Blk5.other (h : Blk5 w b x0 x1 x2 x3 x4 t) {p : Addr} (hp : b ≠ p.block) (a : Value) : Blk5 (w.setCell p a) b x0 x1 x2 x3 x4 t := (Below.heap_setCell w p a b hp).trans h
theorem Blk5.kept {rb : Nat} (h : Blk5 w b x0 x1 x2 x3 x4 t) (hg : w.grownBy w' (some rb)) (hb : b ≠ rb) : Blk5 w' b x0 x1 x2 x3 x4 t := (hg.block b h.lt (fun e => hb (Option.some.inj e))).trans h
theorem Blk5.keptG {row : Option Nat} (h : Blk5 w b x0 x1 x2 x3 x4 t) (hg : w.grownBy w' row) (hb : some b ≠ row) : Blk5 w' b x0 x1 x2 x3 x4 t := (hg.block b h.lt hb).trans h
theorem Blk5.set0 (h : Blk5 w b x0 x1 x2 x3 x4 t) (y : Value) : Blk5 (w.setCell ⟨b, 0, none⟩ y) b y x1 x2 x3 x4 t := by
  unfold Blk5 at h ⊢; simp [World.setCell, Array.getElem?_modify, h]
theorem Blk5.set1 (h : Blk5 w b x0 x1 x2 x3 x4 t) (y : Value) : Blk5 (w.setCell ⟨b, 1, none⟩ y) b x0 y x2 x3 x4 t := by
  unfold Blk5 at h ⊢; simp [World.setCell, Array.getElem?_modify, h]
theorem Blk5.set2 (h : Blk5 w b x0 x1 x2 x3 x4 t) (y : Value) : Blk5 (w.setCell ⟨b, 2, none⟩ y) b x0 x1 y x3 x4 t := by
  unfold Blk5 at h ⊢; simp [World.setCell, Array.getElem?_modify, h]
theorem Blk5.set3 (h : Blk5 w b x0 x1 x2 x3 x4 t) (y : Value) : Blk5 (w.setCell ⟨b, 3, none⟩ y) b x0 x1 x2 y x4 t := by
  unfold Blk5 at h ⊢; simp [World.setCell, Array.getElem?_modify, h]
theorem Blk5.set4 (h : Blk5 w b x0 x1 x2 x3 x4 t) (y : Value) : Blk5 (w.setCell ⟨b, 4, none⟩ y) b x0 x1 x2 x3 y t := by
  unfold Blk5 at h ⊢; simp [World.setCell, Array.getElem?_modify, h]
end
/-- A counted store by value: five slices side by side. -/
def Dv (w : World) (lo : Nat) (v : Value) (D : Dp) : Prop := ∃ v0 v1 v2 v3 v4, v = .agg #[v0, v1, v2, v3, v4] ∧ Cv w lo (.agg #[v0, v1, v2, v3]) D.C ∧ Row w lo v4 D.n ∧ (Apart v0 v4 ∧ Apart v1 v4 ∧ Apart v2 v4 ∧ Apart v3 v4)
section
variable {w w' : World} {lo : Nat} {v : Value} {D : Dp}
theorem Dv.below (h : Dv w lo v D) (hb : Below w.heap.size w w') : Dv w' lo v D := by obtain ⟨v0, v1, v2, v3, v4, e, h, hn, a⟩ := h; exact ⟨v0, v1, v2, v3, v4, e, h.below hb, hn.below hb, a⟩
theorem Dv.alloc (h : Dv w lo v D) (o : Obj) : Dv (w.alloc o) lo v D := by obtain ⟨v0, v1, v2, v3, v4, e, h, hn, a⟩ := h; exact ⟨v0, v1, v2, v3, v4, e, h.alloc o, hn.alloc o, a⟩
theorem Dv.drew (h : Dv w lo v D) : Dv w.drew lo v D := h
theorem Dv.drewN (h : Dv w lo v D) (n : Nat) : Dv (w.drewN n) lo v D := h
theorem Dv.mono {lo' : Nat} (h : Dv w lo v D) (hl : lo' ≤ lo) : Dv w lo' v D := by obtain ⟨v0, v1, v2, v3, v4, e, h, hn, a⟩ := h; exact ⟨v0, v1, v2, v3, v4, e, h.mono hl, hn.mono hl, a⟩
theorem Dv.set_low (h : Dv w lo v D) {p : Addr} (hp : p.block < lo) (u : Value) : Dv (w.setCell p u) lo v D := by
  obtain ⟨v0, v1, v2, v3, v4, e, h, hn, a⟩ := h
  exact ⟨v0, v1, v2, v3, v4, e, h.set_low hp u, hn.other (fun e => by have := (hn.lt _ e).1; omega) u, a⟩
/-- The parts, by name. -/
theorem Dv.open_ (h : Dv w lo v D) : ∃ A0 n0 c0 A1 n1 c1 A2 n2 c2 A3 n3 c3 A4 n4 c4, v = .agg #[.slice A0 n0 c0, .slice A1 n1 c1, .slice A2 n2 c2, .slice A3 n3 c3, .slice A4 n4 c4] ∧
    Cv w lo (.agg #[.slice A0 n0 c0, .slice A1 n1 c1, .slice A2 n2 c2, .slice A3 n3 c3]) D.C ∧
    Hv w lo (.agg #[.slice A0 n0 c0, .slice A1 n1 c1, .slice A2 n2 c2]) D.C.h ∧
    (Row w lo (.slice A0 n0 c0) D.C.h.l ∧ Row w lo (.slice A1 n1 c1) D.C.h.r ∧ Row w lo (.slice A2 n2 c2) D.C.h.t ∧ Row w lo (.slice A3 n3 c3) D.C.c ∧ Row w lo (.slice A4 n4 c4) D.n) ∧
    (Hid (D.C.h.l.length = n0) ∧ Hid (D.C.h.r.length = n1) ∧ Hid (D.C.h.t.length = n2) ∧ Hid (D.C.c.length = n3) ∧ Hid (D.n.length = n4)) ∧
    (n0 ≤ 9223372036854775807 ∧ n1 ≤ 9223372036854775807 ∧ n2 ≤ 9223372036854775807 ∧ n3 ≤ 9223372036854775807 ∧ n4 ≤ 9223372036854775807) ∧
    (Apart (.slice A0 n0 c0) (.slice A1 n1 c1) ∧ Apart (.slice A0 n0 c0) (.slice A2 n2 c2) ∧ Apart (.slice A1 n1 c1) (.slice A2 n2 c2)) ∧
    (Apart (.slice A0 n0 c0) (.slice A3 n3 c3) ∧ Apart (.slice A1 n1 c1) (.slice A3 n3 c3) ∧ Apart (.slice A2 n2 c2) (.slice A3 n3 c3)) ∧
    (Apart (.slice A0 n0 c0) (.slice A4 n4 c4) ∧ Apart (.slice A1 n1 c1) (.slice A4 n4 c4) ∧ Apart (.slice A2 n2 c2) (.slice A4 n4 c4) ∧ Apart (.slice A3 n3 c3) (.slice A4 n4 c4)) := by
  obtain ⟨v0, v1, v2, v3, v4, rfl, hc, hn, a⟩ := h
  obtain ⟨A0, n0, c0, A1, n1, c1, A2, n2, c2, A3, n3, c3, e, hh, ⟨h0, h1, h2, h3⟩, ⟨l0, l1, l2, l3⟩, ⟨m0, m1, m2, m3⟩, b, b'⟩ := hc.open_
  cases e
  obtain ⟨A4, c4, rfl, q1, q2⟩ := hn.form
  unfold maxLen at q2
  exact ⟨A0, n0, c0, A1, n1, c1, A2, n2, c2, A3, n3, c3, A4, _, c4, rfl, hc, hh, ⟨h0, h1, h2, h3, hn⟩, ⟨l0, l1, l2, l3, rfl⟩, ⟨m0, m1, m2, m3, by omega⟩, b, b', a⟩
theorem Dv.shape {C : Cp} {n : List Int} (h : Dv w lo v ⟨C, n⟩) : ∃ A0 n0 c0 A1 n1 c1 A2 n2 c2 A3 n3 c3 A4 n4 c4, v = .agg #[.slice A0 n0 c0, .slice A1 n1 c1, .slice A2 n2 c2, .slice A3 n3 c3, .slice A4 n4 c4] := by
  obtain ⟨A0, n0, c0, A1, n1, c1, A2, n2, c2, A3, n3, c3, A4, n4, c4, e, -⟩ := h.open_
  exact ⟨A0, n0, c0, A1, n1, c1, A2, n2, c2, A3, n3, c3, A4, n4, c4, e⟩
end
theorem Dv.zero (w : World) (lo : Nat) : Dv w lo (.agg #[.slice none 0 0, .slice none 0 0, .slice none 0 0, .slice none 0 0, .slice none 0 0]) Dp.zero :=
  ⟨_, _, _, _, _, rfl, Cv.zero w lo, Row.nil w lo, fun _ h => by simp [Value.ownBlock] at h, fun _ h => by simp [Value.ownBlock] at h, fun _ h => by simp [Value.ownBlock] at h, fun _ h => by simp [Value.ownBlock] at h⟩
/-- Counts that were made later lie apart from the store. -/
theorem Dv.mk {w w' : World} {lo : Nat} {v0 v1 v2 v3 u : Value} {C : Cp} {n : List Int} (h : Cv w lo (.agg #[v0, v1, v2, v3]) C) (hn : Row w' w.heap.size u n) (hl : lo ≤ w.heap.size) (hb : Below w.heap.size w w') :
    Dv w' lo (.agg #[v0, v1, v2, v3, u]) ⟨C, n⟩ := by
  have h' := h
  obtain ⟨_, _, _, _, e, ⟨_, _, _, e', r0, r1, r2, _⟩, r3, _⟩ := h'
  cases e; cases e'
  have ap : ∀ (v : Value) (xs : List Int), Row w lo v xs → Apart v u := fun v xs rv j e e' => by
    have h1 := (rv.lt j e).2
    have h2 := (hn.lt j e').1
    omega
  exact ⟨v0, v1, v2, v3, u, rfl, h.below hb, hn.mono hl, ap _ _ r0, ap _ _ r1, ap _ _ r2, ap _ _ r3⟩
/-- .. and counts that were made first. -/
theorem Dv.mk' {w w' : World} {lo : Nat} {v0 v1 v2 v3 u : Value} {C : Cp} {n : List Int} (hn : Row w lo u n) (h : Cv w' w.heap.size (.agg #[v0, v1, v2, v3]) C) (hl : lo ≤ w.heap.size) (hb : Below w.heap.size w w') :
    Dv w' lo (.agg #[v0, v1, v2, v3, u]) ⟨C, n⟩ := by
  have h' := h
  obtain ⟨_, _, _, _, e, ⟨_, _, _, e', r0, r1, r2, _⟩, r3, _⟩ := h'
  cases e; cases e'
  have ap : ∀ (v : Value) (xs : List Int), Row w' w.heap.size v xs → Apart v u := fun v xs rv j e e' => by
    have h1 := (rv.lt j e).1
    have h2 := (hn.lt j e').2
    omega
  exact ⟨v0, v1, v2, v3, u, rfl, h.mono hl, hn.below hb, ap _ _ r0, ap _ _ r1, ap _ _ r2, ap _ _ r3⟩
def OptDv (w : World) (o : Option Dp) (e : Ending) (w' : World) : Prop := ∃ v, e = .returned (.tuple #[v, .bool o.isSome]) ∧ Dv w' w.heap.size v (o.getD Dp.zero) ∧ Below w.heap.size w w'
def NewDv (w : World) (D : Dp) (e : Ending) (w' : World) : Prop := ∃ v, e = .returned v ∧ Dv w' w.heap.size v D ∧ Below w.heap.size w w'
theorem B5_al {W x : World} (h : Below W.heap.size W x) (o : Obj) : Below W.heap.size W (x.alloc o) := h.alloc h.size o
theorem B5_dr {W x : World} (h : Below W.heap.size W x) : Below W.heap.size W x.drew := h.drew
theorem B5_th {W x y : World} (h : Below W.heap.size W x) (k : Below x.heap.size x y) : Below W.heap.size W y := h.trans (k.mono h.size)
theorem B5_st {W x : World} {b : Nat} (h : Below W.heap.size W x) (hb : W.heap.size ≤ b) (k : Nat) (u : Value) : Below W.heap.size W (x.setCell ⟨b, k, none⟩ u) := h.setCell (p := ⟨b, k, none⟩) hb u
theorem Blk4.farB {w w' : World} {B b : Nat} {x y z u : Value} {t : TypeId} (h : Blk4 w b x y z u t) (hb : Below B w w') (hB : b < B) : Blk4 w' b x y z u t := (hb.block b hB).trans h
theorem B5_lo {b : Nat} {W x : World} (h : Below b W x) (k : Nat) (u : Value) : Below b W (x.setCell ⟨b, k, none⟩ u) := h.setCell (p := ⟨b, k, none⟩) (Nat.le_refl _) u
/-- Five cells are stored. -/
theorem Blk5.far5 {w : World} {b c : Nat} {x0 x1 x2 x3 x4 : Value} {t : TypeId} (h : Blk5 w b x0 x1 x2 x3 x4 t) (hne : b ≠ c) (y0 y1 y2 y3 y4 : Value) : Blk5 (((((w.setCell ⟨c, 0, none⟩ y0).setCell ⟨c, 1, none⟩ y1).setCell ⟨c, 2, none⟩ y2).setCell ⟨c, 3, none⟩ y3).setCell ⟨c, 4, none⟩ y4) b x0 x1 x2 x3 x4 t :=
  (((((h.other (p := ⟨c, 0, none⟩) hne y0).other (p := ⟨c, 1, none⟩) hne y1).other (p := ⟨c, 2, none⟩) hne y2).other (p := ⟨c, 3, none⟩) hne y3).other (p := ⟨c, 4, none⟩) hne y4)
theorem Blk5.set5 {w : World} {b : Nat} {x0 x1 x2 x3 x4 : Value} {t : TypeId} (h : Blk5 w b x0 x1 x2 x3 x4 t) (y0 y1 y2 y3 y4 : Value) : Blk5 (((((w.setCell ⟨b, 0, none⟩ y0).setCell ⟨b, 1, none⟩ y1).setCell ⟨b, 2, none⟩ y2).setCell ⟨b, 3, none⟩ y3).setCell ⟨b, 4, none⟩ y4) b y0 y1 y2 y3 y4 t := by
  unfold Blk5 at h ⊢; simp [World.setCell, Array.getElem?_modify, h]
theorem Blk4.far5 {w : World} {b c : Nat} {x y z u : Value} {t : TypeId} (h : Blk4 w b x y z u t) (hne : b ≠ c) (y0 y1 y2 y3 y4 : Value) : Blk4 (((((w.setCell ⟨c, 0, none⟩ y0).setCell ⟨c, 1, none⟩ y1).setCell ⟨c, 2, none⟩ y2).setCell ⟨c, 3, none⟩ y3).setCell ⟨c, 4, none⟩ y4) b x y z u t :=
  (((((h.other (p := ⟨c, 0, none⟩) hne y0).other (p := ⟨c, 1, none⟩) hne y1).other (p := ⟨c, 2, none⟩) hne y2).other (p := ⟨c, 3, none⟩) hne y3).other (p := ⟨c, 4, none⟩) hne y4)
theorem below_set5 {w x : World} {lo c : Nat} (h : Below lo w x) (hc : lo ≤ c) (y0 y1 y2 y3 y4 : Value) : Below lo w (((((x.setCell ⟨c, 0, none⟩ y0).setCell ⟨c, 1, none⟩ y1).setCell ⟨c, 2, none⟩ y2).setCell ⟨c, 3, none⟩ y3).setCell ⟨c, 4, none⟩ y4) :=
  (((((h.setCell (p := ⟨c, 0, none⟩) hc y0).setCell (p := ⟨c, 1, none⟩) hc y1).setCell (p := ⟨c, 2, none⟩) hc y2).setCell (p := ⟨c, 3, none⟩) hc y3).setCell (p := ⟨c, 4, none⟩) hc y4)
theorem Dv.low5 {w : World} {lo c : Nat} {v : Value} {D : Dp} (h : Dv w lo v D) (hc : c < lo) (y0 y1 y2 y3 y4 : Value) : Dv (((((w.setCell ⟨c, 0, none⟩ y0).setCell ⟨c, 1, none⟩ y1).setCell ⟨c, 2, none⟩ y2).setCell ⟨c, 3, none⟩ y3).setCell ⟨c, 4, none⟩ y4) lo v D :=
  (((((h.set_low (p := ⟨c, 0, none⟩) hc y0).set_low (p := ⟨c, 1, none⟩) hc y1).set_low (p := ⟨c, 2, none⟩) hc y2).set_low (p := ⟨c, 3, none⟩) hc y3).set_low (p := ⟨c, 4, none⟩) hc y4)
/-- The result, stored in its variable b. -/
theorem dv_done {w w3 : World} {lo b : Nat} {v : Value} {D : Dp} (h : Dv w3 lo v D) (hb : w.heap.size ≤ b) (hlo : b < lo) (hB : Below w.heap.size w w3) (y0 y1 y2 y3 y4 : Value) :
    Dv (((((w3.setCell ⟨b, 0, none⟩ y0).setCell ⟨b, 1, none⟩ y1).setCell ⟨b, 2, none⟩ y2).setCell ⟨b, 3, none⟩ y3).setCell ⟨b, 4, none⟩ y4) w.heap.size v D ∧ Below w.heap.size w (((((w3.setCell ⟨b, 0, none⟩ y0).setCell ⟨b, 1, none⟩ y1).setCell ⟨b, 2, none⟩ y2).setCell ⟨b, 3, none⟩ y3).setCell ⟨b, 4, none⟩ y4) :=
  ⟨(h.low5 hlo y0 y1 y2 y3 y4).mono (by omega), below_set5 hB hb y0 y1 y2 y3 y4⟩
theorem dv_zero {w w1 : World} {b : Nat} (hb : w.heap.size ≤ b) (hB : Below w.heap.size w w1) :
    Dv (((((w1.setCell ⟨b, 0, none⟩ (.slice none 0 0)).setCell ⟨b, 1, none⟩ (.slice none 0 0)).setCell ⟨b, 2, none⟩ (.slice none 0 0)).setCell ⟨b, 3, none⟩ (.slice none 0 0)).setCell ⟨b, 4, none⟩ (.slice none 0 0)) w.heap.size (.agg #[.slice none 0 0, .slice none 0 0, .slice none 0 0, .slice none 0 0, .slice none 0 0]) Dp.zero ∧ Below w.heap.size w (((((w1.setCell ⟨b, 0, none⟩ (.slice none 0 0)).setCell ⟨b, 1, none⟩ (.slice none 0 0)).setCell ⟨b, 2, none⟩ (.slice none 0 0)).setCell ⟨b, 3, none⟩ (.slice none 0 0)).setCell ⟨b, 4, none⟩ (.slice none 0 0)) :=
  ⟨Dv.zero _ _, below_set5 hB hb _ _ _ _ _⟩
end Go.Proofs.Yteogflkahoanlaa
