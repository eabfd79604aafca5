/- A program and a collector by value: ten cells side by side. -/
import Derived.Test.YtdifplakkepnkaaGcs
import Derived.Test.YtdifplakkepnkaaOps
namespace Go.Proofs.Ytdifplakkepnkaa
open Go.RowKit

/-- A block of ten cells, known whole. -/
def Blk10 (w : World) (b : Nat) (x0 x1 x2 x3 x4 x5 x6 x7 x8 x9 : Value) (t : TypeId) : Prop := w.heap[b]? = some (.cells #[x0, x1, x2, x3, x4, x5, x6, x7, x8, x9] t (0, 0))
section
variable {w w' : World} {b : Nat} {x0 x1 x2 x3 x4 x5 x6 x7 x8 x9 : Value} {t : TypeId}
theorem Blk10.cells (h : Blk10 w b x0 x1 x2 x3 x4 x5 x6 x7 x8 x9 t) : (w.cell? ⟨b, 0, none⟩ = some x0 ∧ w.cell? ⟨b, 1, none⟩ = some x1 ∧ w.cell? ⟨b, 2, none⟩ = some x2 ∧ w.cell? ⟨b, 3, none⟩ = some x3 ∧ w.cell? ⟨b, 4, none⟩ = some x4 ∧ w.cell? ⟨b, 5, none⟩ = some x5 ∧ w.cell? ⟨b, 6, none⟩ = some x6 ∧ w.cell? ⟨b, 7, none⟩ = some x7 ∧ w.cell? ⟨b, 8, none⟩ = some x8 ∧ w.cell? ⟨b, 9, none⟩ = some x9) ∧ (w.frozen? ⟨b, 0, none⟩ = false ∧ w.frozen? ⟨b, 1, none⟩ = false ∧ w.frozen? ⟨b, 2, none⟩ = false ∧ w.frozen? ⟨b, 3, none⟩ = false ∧ w.frozen? ⟨b, 4, none⟩ = false ∧ w.frozen? ⟨b, 5, none⟩ = false ∧ w.frozen? ⟨b, 6, none⟩ = false ∧ w.frozen? ⟨b, 7, none⟩ = false ∧ w.frozen? ⟨b, 8, none⟩ = false ∧ w.frozen? ⟨b, 9, none⟩ = false) := by
  unfold Blk10 at h
  simp [World.cell?, World.frozen?, h]
theorem Blk10.lt (h : Blk10 w b x0 x1 x2 x3 x4 x5 x6 x7 x8 x9 t) : b < w.heap.size := (Array.getElem?_eq_some_iff.1 h).1
theorem Blk10.below (h : Blk10 w b x0 x1 x2 x3 x4 x5 x6 x7 x8 x9 t) (hb : Below w.heap.size w w') : Blk10 w' b x0 x1 x2 x3 x4 x5 x6 x7 x8 x9 t := (hb.block b h.lt).trans h
theorem Blk10.far {B : Nat} (h : Blk10 w b x0 x1 x2 x3 x4 x5 x6 x7 x8 x9 t) (hb : Below B w w') (hB : b < B) : Blk10 w' b x0 x1 x2 x3 x4 x5 x6 x7 x8 x9 t := (hb.block b hB).trans h
theorem Blk10.new (w : World) (x0 x1 x2 x3 x4 x5 x6 x7 x8 x9 : Value) (t : TypeId) : Blk10 (w.alloc (.cells #[x0, x1, x2, x3, x4, x5, x6, x7, x8, x9] t)) w.heap.size x0 x1 x2 x3 x4 x5 x6 x7 x8 x9 t := heap_alloc_new w _
theorem Blk10.new_at {w : World} {b : Nat} (hb : b = w.heap.size) (x0 x1 x2 x3 x4 x5 x6 x7 x8 x9 : Value) (t : TypeId) : Blk10 (w.alloc (.cells #[x0, x1, x2, x3, x4, x5, x6, x7, x8, x9] t)) b x0 x1 x2 x3 x4 x5 x6 x7 x8 x9 t := by subst hb; exact heap_alloc_new w _
theorem Blk10.drew (h : Blk10 w b x0 x1 x2 x3 x4 x5 x6 x7 x8 x9 t) : Blk10 w.drew b x0 x1 x2 x3 x4 x5 x6 x7 x8 x9 t := h
theorem Blk10.drewN (h : Blk10 w b x0 x1 x2 x3 x4 x5 x6 x7 x8 x9 t) (n : Nat) : Blk10 (w.drewN n) b x0 x1 x2 x3 x4 x5 x6 x7 x8 x9 t := h
theorem Blk10.alloc (h : Blk10 w b x0 x1 x2 x3 x4 x5 x6 x7 x8 x9 t) (o : Obj) : Blk10 (w.alloc o) b x0 x1 x2 x3 x4 x5 x6 x7 x8 x9 t := (Below.heap_alloc w o b h.lt).trans h
theorem Blk10.other (h : Blk10 w b x0 x1 x2 x3 x4 x5 x6 x7 x8 x9 t) {p : Addr} (hp : b ≠ p.block) (a : Value) : Blk10 (w.setCell p a) b x0 x1 x2 x3 x4 x5 x6 x7 x8 x9 t := (Below.heap_setCell w p a b hp).trans h
theorem Blk10.kept {rb : Nat} (h : Blk10 w b x0 x1 x2 x3 x4 x5 x6 x7 x8 x9 t) (hg : w.grownBy w' (some rb)) (hb : b ≠ rb) : Blk10 w' b x0 x1 x2 x3 x4 x5 x6 x7 x8 x9 t := (hg.block b h.lt (fun e => hb (Option.some.inj e))).trans h
theorem Blk10.keptG {row : Option Nat} (h : Blk10 w b x0 x1 x2 x3 x4 x5 x6 x7 x8 x9 t) (hg : w.grownBy w' row) (hb : some b ≠ row) : Blk10 w' b x0 x1 x2 x3 x4 x5 x6 x7 x8 x9 t := (hg.block b h.lt hb).trans h

theorem Blk10.set0 (h : Blk10 w b x0 x1 x2 x3 x4 x5 x6 x7 x8 x9 t) (y : Value) : Blk10 (w.setCell ⟨b, 0, none⟩ y) b y x1 x2 x3 x4 x5 x6 x7 x8 x9 t := by
  unfold Blk10 at h ⊢; simp [World.setCell, Array.getElem?_modify, h]
theorem Blk10.set1 (h : Blk10 w b x0 x1 x2 x3 x4 x5 x6 x7 x8 x9 t) (y : Value) : Blk10 (w.setCell ⟨b, 1, none⟩ y) b x0 y x2 x3 x4 x5 x6 x7 x8 x9 t := by
  unfold Blk10 at h ⊢; simp [World.setCell, Array.getElem?_modify, h]
theorem Blk10.set2 (h : Blk10 w b x0 x1 x2 x3 x4 x5 x6 x7 x8 x9 t) (y : Value) : Blk10 (w.setCell ⟨b, 2, none⟩ y) b x0 x1 y x3 x4 x5 x6 x7 x8 x9 t := by
  unfold Blk10 at h ⊢; simp [World.setCell, Array.getElem?_modify, h]
theorem Blk10.set3 (h : Blk10 w b x0 x1 x2 x3 x4 x5 x6 x7 x8 x9 t) (y : Value) : Blk10 (w.setCell ⟨b, 3, none⟩ y) b x0 x1 x2 y x4 x5 x6 x7 x8 x9 t := by
  unfold Blk10 at h ⊢; simp [World.setCell, Array.getElem?_modify, h]
theorem Blk10.set4 (h : Blk10 w b x0 x1 x2 x3 x4 x5 x6 x7 x8 x9 t) (y : Value) : Blk10 (w.setCell ⟨b, 4, none⟩ y) b x0 x1 x2 x3 y x5 x6 x7 x8 x9 t := by
  unfold Blk10 at h ⊢; simp [World.setCell, Array.getElem?_modify, h]
theorem Blk10.set5 (h : Blk10 w b x0 x1 x2 x3 x4 x5 x6 x7 x8 x9 t) (y : Value) : Blk10 (w.setCell ⟨b, 5, none⟩ y) b x0 x1 x2 x3 x4 y x6 x7 x8 x9 t := by
  unfold Blk10 at h ⊢; simp [World.setCell, Array.getElem?_modify, h]
theorem Blk10.set6 (h : Blk10 w b x0 x1 x2 x3 x4 x5 x6 x7 x8 x9 t) (y : Value) : Blk10 (w.setCell ⟨b, 6, none⟩ y) b x0 x1 x2 x3 x4 x5 y x7 x8 x9 t := by
  unfold Blk10 at h ⊢; simp [World.setCell, Array.getElem?_modify, h]
theorem Blk10.set7 (h : Blk10 w b x0 x1 x2 x3 x4 x5 x6 x7 x8 x9 t) (y : Value) : Blk10 (w.setCell ⟨b, 7, none⟩ y) b x0 x1 x2 x3 x4 x5 x6 y x8 x9 t := by
  unfold Blk10 at h ⊢; simp [World.setCell, Array.getElem?_modify, h]
theorem Blk10.set8 (h : Blk10 w b x0 x1 x2 x3 x4 x5 x6 x7 x8 x9 t) (y : Value) : Blk10 (w.setCell ⟨b, 8, none⟩ y) b x0 x1 x2 x3 x4 x5 x6 x7 y x9 t := by
  unfold Blk10 at h ⊢; simp [World.setCell, Array.getElem?_modify, h]
theorem Blk10.set9 (h : Blk10 w b x0 x1 x2 x3 x4 x5 x6 x7 x8 x9 t) (y : Value) : Blk10 (w.setCell ⟨b, 9, none⟩ y) b x0 x1 x2 x3 x4 x5 x6 x7 x8 y t := by
  unfold Blk10 at h ⊢; simp [World.setCell, Array.getElem?_modify, h]
end
/-- A program and a collector: the store, the collector, the operations, the next one, whether a cell was lost. -/
structure Bp where
  C : Cp
  G : Gp
  os : List Opv
  i : Int
  z : Bool
def Bp.zero : Bp := ⟨Cp.zero, Gp.zero, [], 0, false⟩
/-- A Both by value. -/
def Bv (w : World) (lo : Nat) (v : Value) (B : Bp) : Prop := ∃ v0 v1 v2 v3 r u, v = .agg #[v0, v1, v2, v3, .int .i64 B.G.p, r, .int .i64 B.G.a, u, .int .i64 B.i, .bool B.z] ∧ CGv w lo (.agg #[v0, v1, v2, v3]) (.agg #[.int .i64 B.G.p, r, .int .i64 B.G.a]) B.C B.G ∧ ORow w lo u B.os ∧ (Apart v0 u ∧ Apart v1 u ∧ Apart v2 u ∧ Apart v3 u ∧ Apart r u)
section
variable {w w' : World} {lo : Nat} {v : Value} {B : Bp}
theorem Bv.below (h : Bv w lo v B) (hb : Below w.heap.size w w') : Bv w' lo v B := by obtain ⟨v0, v1, v2, v3, r, u, e, h, ho, a⟩ := h; exact ⟨v0, v1, v2, v3, r, u, e, h.below hb, ho.below hb, a⟩
theorem Bv.alloc (h : Bv w lo v B) (o : Obj) : Bv (w.alloc o) lo v B := by obtain ⟨v0, v1, v2, v3, r, u, e, h, ho, a⟩ := h; exact ⟨v0, v1, v2, v3, r, u, e, h.alloc o, ho.alloc o, a⟩
theorem Bv.drew (h : Bv w lo v B) : Bv w.drew lo v B := h
theorem Bv.drewN (h : Bv w lo v B) (n : Nat) : Bv (w.drewN n) lo v B := h
theorem Bv.mono {lo' : Nat} (h : Bv w lo v B) (hl : lo' ≤ lo) : Bv w lo' v B := by obtain ⟨v0, v1, v2, v3, r, u, e, h, ho, a⟩ := h; exact ⟨v0, v1, v2, v3, r, u, e, h.mono hl, ho.mono hl, a⟩
/-- The parts, by name. -/
theorem Bv.open_ (h : Bv w lo v B) : ∃ A0 n0 c0 A1 n1 c1 A2 n2 c2 A3 n3 c3 A4 n4 c4 A5 n5 c5 C p cc a os i z, B = ⟨C, ⟨p, cc, a⟩, os, i, z⟩ ∧ v = .agg #[.slice A0 n0 c0, .slice A1 n1 c1, .slice A2 n2 c2, .slice A3 n3 c3, .int .i64 p, .slice A4 n4 c4, .int .i64 a, .slice A5 n5 c5, .int .i64 i, .bool z] ∧
    CGv w lo (.agg #[.slice A0 n0 c0, .slice A1 n1 c1, .slice A2 n2 c2, .slice A3 n3 c3]) (.agg #[.int .i64 p, .slice A4 n4 c4, .int .i64 a]) C ⟨p, cc, a⟩ ∧ ORow w lo (.slice A5 n5 c5) os ∧
    (Hid (C.h.l.length = n0) ∧ Hid (C.h.r.length = n1) ∧ Hid (C.h.t.length = n2) ∧ Hid (C.c.length = n3) ∧ Hid (cc.length = n4) ∧ Hid (os.length = n5)) ∧
    (n0 ≤ 9223372036854775807 ∧ n1 ≤ 9223372036854775807 ∧ n2 ≤ 9223372036854775807 ∧ n3 ≤ 9223372036854775807 ∧ n4 ≤ 9223372036854775807 ∧ n5 ≤ 9223372036854775807) := by
  obtain ⟨v0, v1, v2, v3, r, u, rfl, hc, ho, _⟩ := h
  obtain ⟨C, G, os, i, z⟩ := B
  have hc2 := hc
  obtain ⟨A0, n0, c0, A1, n1, c1, A2, n2, c2, A3, n3, c3, A4, n4, c4, p, cc, a, e0, e1, e2, _, _, _, ⟨l0, l1, l2, l3, l4⟩, ⟨m0, m1, m2, m3, m4⟩⟩ := hc2.open_
  obtain ⟨A5, c5, rfl, q1, q2⟩ := ho.form
  dsimp only at e0 e1 e2 ho ⊢
  subst e0
  cases e1; cases e2
  unfold maxLen at q2
  exact ⟨A0, n0, c0, A1, n1, c1, A2, n2, c2, A3, n3, c3, A4, n4, c4, A5, _, c5, C, p, cc, a, os, i, z, rfl, rfl, hc, ho, ⟨l0, l1, l2, l3, l4, rfl⟩, ⟨m0, m1, m2, m3, m4, by dsimp only at q1 ⊢; omega⟩⟩
end
theorem Bv.zero (w : World) (lo : Nat) : Bv w lo (.agg #[.slice none 0 0, .slice none 0 0, .slice none 0 0, .slice none 0 0, .int .i64 0, .slice none 0 0, .int .i64 0, .slice none 0 0, .int .i64 0, .bool false]) Bp.zero :=
  ⟨_, _, _, _, _, _, rfl, CGv.zero w lo, ORow.nil w lo, fun _ h => by simp [Value.ownBlock] at h, fun _ h => by simp [Value.ownBlock] at h, fun _ h => by simp [Value.ownBlock] at h, fun _ h => by simp [Value.ownBlock] at h, fun _ h => by simp [Value.ownBlock] at h⟩
/-- Operations that were made later lie apart from what was there. -/
theorem Bv.mk {w w' : World} {lo : Nat} {v0 v1 v2 v3 r u : Value} {C : Cp} {p a : Int} {cc : List Int} {os : List Opv} (h : CGv w lo (.agg #[v0, v1, v2, v3]) (.agg #[.int .i64 p, r, .int .i64 a]) C ⟨p, cc, a⟩) (ho : ORow w' w.heap.size u os) (hl : lo ≤ w.heap.size) (hb : Below w.heap.size w w') (i : Int) (z : Bool) :
    Bv w' lo (.agg #[v0, v1, v2, v3, .int .i64 p, r, .int .i64 a, u, .int .i64 i, .bool z]) ⟨C, ⟨p, cc, a⟩, os, i, z⟩ := by
  have h' := h
  obtain ⟨_, _, _, _, _, e, e', ⟨_, _, _, _, e3, ⟨_, _, _, e4, r0, r1, r2, _⟩, r3, _⟩, hr, _⟩ := h'
  cases e; cases e'; cases e3; cases e4
  have ap : ∀ (v : Value) (xs : List Int), Row w lo v xs → Apart v u := fun v xs rv j e e' => by
    have h1 := (rv.lt j e).2
    have h2 := (ho.lt j e').1
    omega
  exact ⟨v0, v1, v2, v3, r, u, rfl, h.below hb, ho.mono hl, ap _ _ r0, ap _ _ r1, ap _ _ r2, ap _ _ r3, ap _ _ hr⟩
/-- The same, the operations made first. -/
theorem Bv.mk' {w w' : World} {lo : Nat} {v0 v1 v2 v3 r u : Value} {C : Cp} {p a : Int} {cc : List Int} {os : List Opv} (ho : ORow w lo u os) (h : CGv w' w.heap.size (.agg #[v0, v1, v2, v3]) (.agg #[.int .i64 p, r, .int .i64 a]) C ⟨p, cc, a⟩) (hl : lo ≤ w.heap.size) (hb : Below w.heap.size w w') (i : Int) (z : Bool) :
    Bv w' lo (.agg #[v0, v1, v2, v3, .int .i64 p, r, .int .i64 a, u, .int .i64 i, .bool z]) ⟨C, ⟨p, cc, a⟩, os, i, z⟩ := by
  have h' := h
  obtain ⟨_, _, _, _, _, e, e', ⟨_, _, _, _, e3, ⟨_, _, _, e4, r0, r1, r2, _⟩, r3, _⟩, hr, _⟩ := h'
  cases e; cases e'; cases e3; cases e4
  have ap : ∀ (v : Value) (xs : List Int), Row w' w.heap.size v xs → Apart v u := fun v xs rv j e e' => by
    have h1 := (rv.lt j e).1
    have h2 := (ho.lt j e').2
    omega
  exact ⟨v0, v1, v2, v3, r, u, rfl, h.mono hl, ho.below hb, ap _ _ r0, ap _ _ r1, ap _ _ r2, ap _ _ r3, ap _ _ hr⟩

/-- A row of operations lies apart from a row of numbers: its block is of another type. -/
theorem apartTy {w : World} {lo lo' : Nat} {v u : Value} {xs : List Int} {os : List Opv} (h : Row w lo v xs) (h' : ORow w lo' u os) : Apart v u := by
  intro b e e'
  rcases h.2 with ⟨rfl, _⟩ | ⟨g, cap, cur, rfl, _, hh, _⟩
  · simp [Value.ownBlock] at e
  rcases h'.2 with ⟨rfl, _⟩ | ⟨g', cap', cur', rfl, _, hh', _⟩
  · simp [Value.ownBlock] at e'
  simp [Value.ownBlock] at e e'
  subst e e'
  rw [hh] at hh'
  simp at hh'
/-- A Both of its parts. -/
theorem Bv.mk0 {w : World} {lo : Nat} {v0 v1 v2 v3 r u : Value} {C : Cp} {p a : Int} {cc : List Int} {os : List Opv} (h : CGv w lo (.agg #[v0, v1, v2, v3]) (.agg #[.int .i64 p, r, .int .i64 a]) C ⟨p, cc, a⟩) (ho : ORow w lo u os) (i : Int) (z : Bool) :
    Bv w lo (.agg #[v0, v1, v2, v3, .int .i64 p, r, .int .i64 a, u, .int .i64 i, .bool z]) ⟨C, ⟨p, cc, a⟩, os, i, z⟩ := by
  have h' := h
  obtain ⟨_, _, _, _, _, e, e', ⟨_, _, _, _, e3, ⟨_, _, _, e4, r0, r1, r2, _⟩, r3, _⟩, hr, _⟩ := h'
  cases e; cases e'; cases e3; cases e4
  exact ⟨v0, v1, v2, v3, r, u, rfl, h, ho, apartTy r0 ho, apartTy r1 ho, apartTy r2 ho, apartTy r3 ho, apartTy hr ho⟩

/-- A Both, or none. -/
def OptBv (w : World) (o : Option Bp) (e : Ending) (w' : World) : Prop := ∃ v, e = .returned (.tuple #[v, .bool o.isSome]) ∧ Bv w' w.heap.size v (o.getD Bp.zero) ∧ Below w.heap.size w w'
def NewBv (w : World) (B : Bp) (e : Ending) (w' : World) : Prop := ∃ v, e = .returned v ∧ Bv w' w.heap.size v B ∧ Below w.heap.size w w'
/-- Operations are a program for so many roots. -/
def opsV (n : Int) (os : List Opv) : Bool := decide (os.length ≤ 12) && opsB n os
/-- A Both is valid. -/
def bothB (B : Bp) : Bool := gcB B.C B.G && opsV B.C.h.t.length B.os && (decide (0 ≤ B.i) && decide (B.i ≤ B.os.length))
theorem bothB_iff {B : Bp} : bothB B = true ↔ gcB B.C B.G = true ∧ (B.os.length ≤ 12 ∧ opsB B.C.h.t.length B.os = true) ∧ 0 ≤ B.i ∧ B.i ≤ B.os.length := by
  unfold bothB opsV; simp only [Bool.and_eq_true, decide_eq_true_eq, and_assoc]
def newBoth (C : Cp) (os : List Opv) : Option Bp := if bothB ⟨C, ⟨0, List.replicate C.h.l.length 0, 0⟩, os, 0, false⟩ = true then some ⟨C, ⟨0, List.replicate C.h.l.length 0, 0⟩, os, 0, false⟩ else none
end Go.Proofs.Ytdifplakkepnkaa
