import Derived.Test.YtfoimicbmkiigaaGreatGcs
import Derived.Test.YtfoimicbmkiigaaGreatOps
import Derived.Test.YtfoimicbmkiigaaGreatGSms
import Derived.Test.YtfoimicbmkiigaaGreatSOp
import Derived.Test.YtfoimicbmkiigaaGreatIOpsV
/- A program and a collector by value: ten cells side by side. -/
namespace Go.Proofs.YtfoimicbmkiigaaGreat
open Go.RowKit

/-- A block of ten cells, known whole. -/
def Blk10 (w : World) (b : Nat) (x0 x1 x2 x3 x4 x5 x6 x7 x8 x9 : Value) (t : TypeId) : Prop := w.heap[b]? = some (.cells #[x0, x1, x2, x3, x4, x5, x6, x7, x8, x9] t (0, 0))
section
variable {w w' : World} {b : Nat} {x0 x1 x2 x3 x4 x5 x6 x7 x8 x9 : Value} {t : TypeId}
theorem Blk10.cells (h : Blk10 w b x0 x1 x2 x3 x4 x5 x6 x7 x8 x9 t) : (w.cell? ⟨b, 0, none⟩ = some x0 ∧ w.cell? ⟨b, 1, none⟩ = some x1 ∧ w.cell? ⟨b, 2, none⟩ = some x2 ∧ w.cell? ⟨b, 3, none⟩ = some x3 ∧ w.cell? ⟨b, 4, none⟩ = some x4 ∧ w.cell? ⟨b, 5, none⟩ = some x5 ∧ w.cell? ⟨b, 6, none⟩ = some x6 ∧ w.cell? ⟨b, 7, none⟩ = some x7 ∧ w.cell? ⟨b, 8, none⟩ = some x8 ∧ w.cell? ⟨b, 9, none⟩ = some x9) ∧ (w.frozen? ⟨b, 0, none⟩ = false ∧ w.frozen? ⟨b, 1, none⟩ = false ∧ w.frozen? ⟨b, 2, none⟩ = false ∧ w.frozen? ⟨b, 3, none⟩ = false ∧ w.frozen? ⟨b, 4, none⟩ = false ∧ w.frozen? ⟨b, 5, none⟩ = false ∧ w.frozen? ⟨b, 6, none⟩ = false ∧ w.frozen? ⟨b, 7, none⟩ = false ∧ w.frozen? ⟨b, 8, none⟩ = false ∧ w.frozen? ⟨b, 9, none⟩ = false) := by
  unfold Blk10 at h
  simp [World.cell?, World.frozen?, h]
theorem Blk10.lt (h : Blk10 w b x0 x1 x2 x3 x4 x5 x6 x7 x8 x9 t) : b < w.heap.size := (Array.getElem?_eq_some_iff.1 h).1
theorem Blk10.below (h : Blk10 w b x0 x1 x2 x3 x4 x5 x6 x7 x8 x9 t) (hb : Below w.heap.size w w') : Blk10 w' b x0 x1 x2 x3 x4 x5 x6 x7 x8 x9 t := (hb.block b h.lt).trans h
theorem Blk10.far {B : Nat} (h : Blk10 w b x0 x1 x2 x3 x4 x5 x6 x7 x8 x9 t) (hb : Below B w w') (hB : b < B) : Blk10 w' b x0 x1 x2 x3 x4 x5 x6 x7 x8 x9 t := (hb.block b hB).trans h
theorem Blk10.new (w : World) (x0 x1 x2 x3 x4 x5 x6 x7 x8 x9 : Value) (t : TypeId) : Blk10 (w.alloc (.cells #[x0, x1, x2, x3, x4, x5, x6, x7, x8, x9] t)) w.heap.size x0 x1 x2 x3 x4 x5 x6 x7 x8 x9 t := heap_alloc_new w _
theorem Blk10.new_at {w : World} {b : Nat} (hb : b = w.heap.size) (x0 x1 x2 x3 x4 x5 x6 x7 x8 x9 : Value) (t : TypeId) : Blk10 (w.alloc (.cells #[x0, x1, x2, x3, x4, x5, x6, x7, x8, x9] t)) b x0 x1 x2 x3 x4 x5 x6 x7 x8 x9 t := by subst hb; exact heap_alloc_new w _
theorem Blk10.drew (h : Blk10 w b x0 x1 x2 x3 x4 x5 x6 x7 x8 x9 t) : Blk10 w.drew b x0 x1 x2 x3 x4 x5 x6 x7 x8 x9 t := h
theorem Blk10.drewN (h : Blk10 w b x0 x1 x2 x3 x4 x5 x6 x7 x8 x9 t) (n : Nat) : Blk10 (w.drewN n) b x0 x1 x2 x3 x4 x5 x6 x7 x8 x9 t := h
theorem Blk10.alloc (h : Blk10 w b x0 x1 x2 x3 x4 x5 x6 x7 x8 x9 t) (o : Obj) : Blk10 (w.alloc o) b x0 x1 x2 x3 x4 x5 x6 x7 x8 x9 t := (Below.heap_alloc w o b h.lt).trans h
theorem Blk10.other (h : Blk10 w b x0 x1 x2 x3 x4 x5 x6 x7 x8 x9 t) {p : Addr} (hp : b ≠ p.block) (a : Value) : Blk10 (w.setCell p a) b x0 x1 x2 x3 x4 x5 x6 x7 x8 x9 t := (Below.heap_setCell w p a b hp).trans h
theorem Blk10.kept {rb : Nat} (h : Blk10 w b x0 x1 x2 x3 x4 x5 x6 x7 x8 x9 t) (hg : w.grownBy w' (some rb)) (hb : b ≠ rb) : Blk10 w' b x0 x1 x2 x3 x4 x5 x6 x7 x8 x9 t := (hg.block b h.lt (fun e => hb (Option.some.inj e))).trans h
theorem Blk10.keptG {row : Option Nat} (h : Blk10 w b x0 x1 x2 x3 x4 x5 x6 x7 x8 x9 t) (hg : w.grownBy w' row) (hb : some b ≠ row) : Blk10 w' b x0 x1 x2 x3 x4 x5 x6 x7 x8 x9 t := (hg.block b h.lt hb).trans h

theorem Blk10.set0 (h : Blk10 w b x0 x1 x2 x3 x4 x5 x6 x7 x8 x9 t) (y : Value) : Blk10 (w.setCell ⟨b, 0, none⟩ y) b y x1 x2 x3 x4 x5 x6 x7 x8 x9 t := by
  unfold Blk10 at h ⊢; simp [World.setCell, Array.getElem?_modify, h]
theorem Blk10.set1 (h : Blk10 w b x0 x1 x2 x3 x4 x5 x6 x7 x8 x9 t) (y : Value) : Blk10 (w.setCell ⟨b, 1, none⟩ y) b x0 y x2 x3 x4 x5 x6 x7 x8 x9 t := by
  unfold Blk10 at h ⊢; simp [World.setCell, Array.getElem?_modify, h]
theorem Blk10.set2 (h : Blk10 w b x0 x1 x2 x3 x4 x5 x6 x7 x8 x9 t) (y : Value) : Blk10 (w.setCell ⟨b, 2, none⟩ y) b x0 x1 y x3 x4 x5 x6 x7 x8 x9 t := by
  unfold Blk10 at h ⊢; simp [World.setCell, Array.getElem?_modify, h]
theorem Blk10.set3 (h : Blk10 w b x0 x1 x2 x3 x4 x5 x6 x7 x8 x9 t) (y : Value) : Blk10 (w.setCell ⟨b, 3, none⟩ y) b x0 x1 x2 y x4 x5 x6 x7 x8 x9 t := by
  unfold Blk10 at h ⊢; simp [World.setCell, Array.getElem?_modify, h]
theorem Blk10.set4 (h : Blk10 w b x0 x1 x2 x3 x4 x5 x6 x7 x8 x9 t) (y : Value) : Blk10 (w.setCell ⟨b, 4, none⟩ y) b x0 x1 x2 x3 y x5 x6 x7 x8 x9 t := by
  unfold Blk10 at h ⊢; simp [World.setCell, Array.getElem?_modify, h]
theorem Blk10.set5 (h : Blk10 w b x0 x1 x2 x3 x4 x5 x6 x7 x8 x9 t) (y : Value) : Blk10 (w.setCell ⟨b, 5, none⟩ y) b x0 x1 x2 x3 x4 y x6 x7 x8 x9 t := by
  unfold Blk10 at h ⊢; simp [World.setCell, Array.getElem?_modify, h]
theorem Blk10.set6 (h : Blk10 w b x0 x1 x2 x3 x4 x5 x6 x7 x8 x9 t) (y : Value) : Blk10 (w.setCell ⟨b, 6, none⟩ y) b x0 x1 x2 x3 x4 x5 y x7 x8 x9 t := by
  unfold Blk10 at h ⊢; simp [World.setCell, Array.getElem?_modify, h]
theorem Blk10.set7 (h : Blk10 w b x0 x1 x2 x3 x4 x5 x6 x7 x8 x9 t) (y : Value) : Blk10 (w.setCell ⟨b, 7, none⟩ y) b x0 x1 x2 x3 x4 x5 x6 y x8 x9 t := by
  unfold Blk10 at h ⊢; simp [World.setCell, Array.getElem?_modify, h]
theorem Blk10.set8 (h : Blk10 w b x0 x1 x2 x3 x4 x5 x6 x7 x8 x9 t) (y : Value) : Blk10 (w.setCell ⟨b, 8, none⟩ y) b x0 x1 x2 x3 x4 x5 x6 x7 y x9 t := by
  unfold Blk10 at h ⊢; simp [World.setCell, Array.getElem?_modify, h]
theorem Blk10.set9 (h : Blk10 w b x0 x1 x2 x3 x4 x5 x6 x7 x8 x9 t) (y : Value) : Blk10 (w.setCell ⟨b, 9, none⟩ y) b x0 x1 x2 x3 x4 x5 x6 x7 x8 y t := by
  unfold Blk10 at h ⊢; simp [World.setCell, Array.getElem?_modify, h]
end
/-- A program and a collector: the store, the collector, the operations, the next one, whether a cell was lost. -/
structure Bp where
  C : Cp
  G : Gp
  os : List Opv
  i : Int
  z : Bool
def Bp.zero : Bp := ⟨Cp.zero, Gp.zero, [], 0, false⟩
/-- A Both by value. -/
def Bv (w : World) (lo : Nat) (v : Value) (B : Bp) : Prop := ∃ v0 v1 v2 v3 r u, v = .agg #[v0, v1, v2, v3, .int .i64 B.G.p, r, .int .i64 B.G.a, u, .int .i64 B.i, .bool B.z] ∧ CGv w lo (.agg #[v0, v1, v2, v3]) (.agg #[.int .i64 B.G.p, r, .int .i64 B.G.a]) B.C B.G ∧ ORow w lo u B.os ∧ (Apart v0 u ∧ Apart v1 u ∧ Apart v2 u ∧ Apart v3 u ∧ Apart r u)
section
variable {w w' : World} {lo : Nat} {v : Value} {B : Bp}
theorem Bv.below (h : Bv w lo v B) (hb : Below w.heap.size w w') : Bv w' lo v B := by obtain ⟨v0, v1, v2, v3, r, u, e, h, ho, a⟩ := h; exact ⟨v0, v1, v2, v3, r, u, e, h.below hb, ho.below hb, a⟩
theorem Bv.alloc (h : Bv w lo v B) (o : Obj) : Bv (w.alloc o) lo v B := by obtain ⟨v0, v1, v2, v3, r, u, e, h, ho, a⟩ := h; exact ⟨v0, v1, v2, v3, r, u, e, h.alloc o, ho.alloc o, a⟩
theorem Bv.drew (h : Bv w lo v B) : Bv w.drew lo v B := h
theorem Bv.drewN (h : Bv w lo v B) (n : Nat) : Bv (w.drewN n) lo v B := h
theorem Bv.mono {lo' : Nat} (h : Bv w lo v B) (hl : lo' ≤ lo) : Bv w lo' v B := by obtain ⟨v0, v1, v2, v3, r, u, e, h, ho, a⟩ := h; exact ⟨v0, v1, v2, v3, r, u, e, h.mono hl, ho.mono hl, a⟩
/-- The parts, by name. -/
theorem Bv.open_ (h : Bv w lo v B) : ∃ A0 n0 c0 A1 n1 c1 A2 n2 c2 A3 n3 c3 A4 n4 c4 A5 n5 c5 C p cc a os i z, B = ⟨C, ⟨p, cc, a⟩, os, i, z⟩ ∧ v = .agg #[.slice A0 n0 c0, .slice A1 n1 c1, .slice A2 n2 c2, .slice A3 n3 c3, .int .i64 p, .slice A4 n4 c4, .int .i64 a, .slice A5 n5 c5, .int .i64 i, .bool z] ∧
    CGv w lo (.agg #[.slice A0 n0 c0, .slice A1 n1 c1, .slice A2 n2 c2, .slice A3 n3 c3]) (.agg #[.int .i64 p, .slice A4 n4 c4, .int .i64 a]) C ⟨p, cc, a⟩ ∧ ORow w lo (.slice A5 n5 c5) os ∧
    (Hid (C.h.l.length = n0) ∧ Hid (C.h.r.length = n1) ∧ Hid (C.h.t.length = n2) ∧ Hid (C.c.length = n3) ∧ Hid (cc.length = n4) ∧ Hid (os.length = n5)) ∧
    (n0 ≤ 9223372036854775807 ∧ n1 ≤ 9223372036854775807 ∧ n2 ≤ 9223372036854775807 ∧ n3 ≤ 9223372036854775807 ∧ n4 ≤ 9223372036854775807 ∧ n5 ≤ 9223372036854775807) := by
  obtain ⟨v0, v1, v2, v3, r, u, rfl, hc, ho, _⟩ := h
  obtain ⟨C, G, os, i, z⟩ := B
  have hc2 := hc
  obtain ⟨A0, n0, c0, A1, n1, c1, A2, n2, c2, A3, n3, c3, A4, n4, c4, p, cc, a, e0, e1, e2, _, _, _, ⟨l0, l1, l2, l3, l4⟩, ⟨m0, m1, m2, m3, m4⟩⟩ := hc2.open_
  obtain ⟨A5, c5, rfl, q1, q2⟩ := ho.form
  dsimp only at e0 e1 e2 ho ⊢
  subst e0
  cases e1; cases e2
  unfold maxLen at q2
  exact ⟨A0, n0, c0, A1, n1, c1, A2, n2, c2, A3, n3, c3, A4, n4, c4, A5, _, c5, C, p, cc, a, os, i, z, rfl, rfl, hc, ho, ⟨l0, l1, l2, l3, l4, rfl⟩, ⟨m0, m1, m2, m3, m4, by dsimp only at q1 ⊢; omega⟩⟩
end
theorem Bv.zero (w : World) (lo : Nat) : Bv w lo (.agg #[.slice none 0 0, .slice none 0 0, .slice none 0 0, .slice none 0 0, .int .i64 0, .slice none 0 0, .int .i64 0, .slice none 0 0, .int .i64 0, .bool false]) Bp.zero :=
  ⟨_, _, _, _, _, _, rfl, CGv.zero w lo, ORow.nil w lo, fun _ h => by simp [Value.ownBlock] at h, fun _ h => by simp [Value.ownBlock] at h, fun _ h => by simp [Value.ownBlock] at h, fun _ h => by simp [Value.ownBlock] at h, fun _ h => by simp [Value.ownBlock] at h⟩
/-- Operations that were made later lie apart from what was there. -/
theorem Bv.mk {w w' : World} {lo : Nat} {v0 v1 v2 v3 r u : Value} {C : Cp} {p a : Int} {cc : List Int} {os : List Opv} (h : CGv w lo (.agg #[v0, v1, v2, v3]) (.agg #[.int .i64 p, r, .int .i64 a]) C ⟨p, cc, a⟩) (ho : ORow w' w.heap.size u os) (hl : lo ≤ w.heap.size) (hb : Below w.heap.size w w') (i : Int) (z : Bool) :
    Bv w' lo (.agg #[v0, v1, v2, v3, .int .i64 p, r, .int .i64 a, u, .int .i64 i, .bool z]) ⟨C, ⟨p, cc, a⟩, os, i, z⟩ := by
  have h' := h
  obtain ⟨_, _, _, _, _, e, e', ⟨_, _, _, _, e3, ⟨_, _, _, e4, r0, r1, r2, _⟩, r3, _⟩, hr, _⟩ := h'
  cases e; cases e'; cases e3; cases e4
  have ap : ∀ (v : Value) (xs : List Int), Row w lo v xs → Apart v u := fun v xs rv j e e' => by
    have h1 := (rv.lt j e).2
    have h2 := (ho.lt j e').1
    omega
  exact ⟨v0, v1, v2, v3, r, u, rfl, h.below hb, ho.mono hl, ap _ _ r0, ap _ _ r1, ap _ _ r2, ap _ _ r3, ap _ _ hr⟩
/-- The same, the operations made first. -/
theorem Bv.mk' {w w' : World} {lo : Nat} {v0 v1 v2 v3 r u : Value} {C : Cp} {p a : Int} {cc : List Int} {os : List Opv} (ho : ORow w lo u os) (h : CGv w' w.heap.size (.agg #[v0, v1, v2, v3]) (.agg #[.int .i64 p, r, .int .i64 a]) C ⟨p, cc, a⟩) (hl : lo ≤ w.heap.size) (hb : Below w.heap.size w w') (i : Int) (z : Bool) :
    Bv w' lo (.agg #[v0, v1, v2, v3, .int .i64 p, r, .int .i64 a, u, .int .i64 i, .bool z]) ⟨C, ⟨p, cc, a⟩, os, i, z⟩ := by
  have h' := h
  obtain ⟨_, _, _, _, _, e, e', ⟨_, _, _, _, e3, ⟨_, _, _, e4, r0, r1, r2, _⟩, r3, _⟩, hr, _⟩ := h'
  cases e; cases e'; cases e3; cases e4
  have ap : ∀ (v : Value) (xs : List Int), Row w' w.heap.size v xs → Apart v u := fun v xs rv j e e' => by
    have h1 := (rv.lt j e).1
    have h2 := (ho.lt j e').2
    omega
  exact ⟨v0, v1, v2, v3, r, u, rfl, h.mono hl, ho.below hb, ap _ _ r0, ap _ _ r1, ap _ _ r2, ap _ _ r3, ap _ _ hr⟩

/-- A row of operations lies apart from a row of numbers: its block is of another type. -/
theorem apartTy {w : World} {lo lo' : Nat} {v u : Value} {xs : List Int} {os : List Opv} (h : Row w lo v xs) (h' : ORow w lo' u os) : Apart v u := by
  intro b e e'
  rcases h.2 with ⟨rfl, _⟩ | ⟨g, cap, cur, rfl, _, hh, _⟩
  · simp [Value.ownBlock] at e
  rcases h'.2 with ⟨rfl, _⟩ | ⟨g', cap', cur', rfl, _, hh', _⟩
  · simp [Value.ownBlock] at e'
  simp [Value.ownBlock] at e e'
  subst e e'
  rw [hh] at hh'
  simp at hh'
/-- A Both of its parts. -/
theorem Bv.mk0 {w : World} {lo : Nat} {v0 v1 v2 v3 r u : Value} {C : Cp} {p a : Int} {cc : List Int} {os : List Opv} (h : CGv w lo (.agg #[v0, v1, v2, v3]) (.agg #[.int .i64 p, r, .int .i64 a]) C ⟨p, cc, a⟩) (ho : ORow w lo u os) (i : Int) (z : Bool) :
    Bv w lo (.agg #[v0, v1, v2, v3, .int .i64 p, r, .int .i64 a, u, .int .i64 i, .bool z]) ⟨C, ⟨p, cc, a⟩, os, i, z⟩ := by
  have h' := h
  obtain ⟨_, _, _, _, _, e, e', ⟨_, _, _, _, e3, ⟨_, _, _, e4, r0, r1, r2, _⟩, r3, _⟩, hr, _⟩ := h'
  cases e; cases e'; cases e3; cases e4
  exact ⟨v0, v1, v2, v3, r, u, rfl, h, ho, apartTy r0 ho, apartTy r1 ho, apartTy r2 ho, apartTy r3 ho, apartTy hr ho⟩

/-- A Both, or none. -/
def OptBv (w : World) (o : Option Bp) (e : Ending) (w' : World) : Prop := ∃ v, e = .returned (.tuple #[v, .bool o.isSome]) ∧ Bv w' w.heap.size v (o.getD Bp.zero) ∧ Below w.heap.size w w'
def NewBv (w : World) (B : Bp) (e : Ending) (w' : World) : Prop := ∃ v, e = .returned v ∧ Bv w' w.heap.size v B ∧ Below w.heap.size w w'
/-- Operations are a program for so many roots. -/
def opsV (n : Int) (os : List Opv) : Bool := decide (os.length ≤ 12) && opsB n os
/-- A Both is valid. -/
def bothB (B : Bp) : Bool := gcB B.C B.G && opsV B.C.h.t.length B.os && (decide (0 ≤ B.i) && decide (B.i ≤ B.os.length))
theorem bothB_iff {B : Bp} : bothB B = true ↔ gcB B.C B.G = true ∧ (B.os.length ≤ 12 ∧ opsB B.C.h.t.length B.os = true) ∧ 0 ≤ B.i ∧ B.i ≤ B.os.length := by
  unfold bothB opsV; simp only [Bool.and_eq_true, decide_eq_true_eq, and_assoc]
def newBoth (C : Cp) (os : List Opv) : Option Bp := if bothB ⟨C, ⟨0, List.replicate C.h.l.length 0, 0⟩, os, 0, false⟩ = true then some ⟨C, ⟨0, List.replicate C.h.l.length 0, 0⟩, os, 0, false⟩ else none
end Go.Proofs.YtfoimicbmkiigaaGreat

/- Stores into blocks beside a Both. -/
namespace Go.Proofs.YtfoimicbmkiigaaGreat
open Go.RowKit

/-- Four cells of another block. -/
theorem Blk10.far4 {w : World} {b c : Nat} {x0 x1 x2 x3 x4 x5 x6 x7 x8 x9 : Value} {t : TypeId} (h : Blk10 w b x0 x1 x2 x3 x4 x5 x6 x7 x8 x9 t) (hne : b ≠ c) (y0 y1 y2 y3 : Value) : Blk10 ((((w.setCell ⟨c, 0, none⟩ y0).setCell ⟨c, 1, none⟩ y1).setCell ⟨c, 2, none⟩ y2).setCell ⟨c, 3, none⟩ y3) b x0 x1 x2 x3 x4 x5 x6 x7 x8 x9 t :=
  (((h.other (p := ⟨c, 0, none⟩) hne y0).other (p := ⟨c, 1, none⟩) hne y1).other (p := ⟨c, 2, none⟩) hne y2).other (p := ⟨c, 3, none⟩) hne y3
theorem Blk10.far3 {w : World} {b c : Nat} {x0 x1 x2 x3 x4 x5 x6 x7 x8 x9 : Value} {t : TypeId} (h : Blk10 w b x0 x1 x2 x3 x4 x5 x6 x7 x8 x9 t) (hne : b ≠ c) (y0 y1 y2 : Value) : Blk10 (((w.setCell ⟨c, 4, none⟩ y0).setCell ⟨c, 5, none⟩ y1).setCell ⟨c, 6, none⟩ y2) b x0 x1 x2 x3 x4 x5 x6 x7 x8 x9 t :=
  ((h.other (p := ⟨c, 4, none⟩) hne y0).other (p := ⟨c, 5, none⟩) hne y1).other (p := ⟨c, 6, none⟩) hne y2
theorem Blk10.set03 {w : World} {b : Nat} {x0 x1 x2 x3 x4 x5 x6 x7 x8 x9 : Value} {t : TypeId} (h : Blk10 w b x0 x1 x2 x3 x4 x5 x6 x7 x8 x9 t) (y0 y1 y2 y3 : Value) : Blk10 ((((w.setCell ⟨b, 0, none⟩ y0).setCell ⟨b, 1, none⟩ y1).setCell ⟨b, 2, none⟩ y2).setCell ⟨b, 3, none⟩ y3) b y0 y1 y2 y3 x4 x5 x6 x7 x8 x9 t :=
  (((h.set0 y0).set1 y1).set2 y2).set3 y3
theorem Blk10.set46 {w : World} {b : Nat} {x0 x1 x2 x3 x4 x5 x6 x7 x8 x9 : Value} {t : TypeId} (h : Blk10 w b x0 x1 x2 x3 x4 x5 x6 x7 x8 x9 t) (y4 y5 y6 : Value) : Blk10 (((w.setCell ⟨b, 4, none⟩ y4).setCell ⟨b, 5, none⟩ y5).setCell ⟨b, 6, none⟩ y6) b x0 x1 x2 x3 y4 y5 y6 x7 x8 x9 t :=
  ((h.set4 y4).set5 y5).set6 y6
theorem below_set4b {w x : World} {lo c : Nat} (h : Below lo w x) (hc : lo ≤ c) (y0 y1 y2 y3 : Value) : Below lo w ((((x.setCell ⟨c, 0, none⟩ y0).setCell ⟨c, 1, none⟩ y1).setCell ⟨c, 2, none⟩ y2).setCell ⟨c, 3, none⟩ y3) :=
  (((h.setCell (p := ⟨c, 0, none⟩) hc y0).setCell (p := ⟨c, 1, none⟩) hc y1).setCell (p := ⟨c, 2, none⟩) hc y2).setCell (p := ⟨c, 3, none⟩) hc y3
theorem below_set3b {w x : World} {lo c : Nat} (h : Below lo w x) (hc : lo ≤ c) (y0 y1 y2 : Value) : Below lo w (((x.setCell ⟨c, 4, none⟩ y0).setCell ⟨c, 5, none⟩ y1).setCell ⟨c, 6, none⟩ y2) :=
  ((h.setCell (p := ⟨c, 4, none⟩) hc y0).setCell (p := ⟨c, 5, none⟩) hc y1).setCell (p := ⟨c, 6, none⟩) hc y2
/-- A store whose blocks are all from lo on does not see a change below. -/
theorem Cv.lowSet {w : World} {lo : Nat} {v : Value} {C : Cp} (h : Cv w lo v C) {p : Addr} (hp : p.block < lo) (u : Value) : Cv (w.setCell p u) lo v C := by
  obtain ⟨v0, v1, v2, v3, rfl, ⟨_, _, _, e', r0, r1, r2, a⟩, r3, b⟩ := h
  cases e'
  have k : ∀ (v : Value) (xs : List Int), Row w lo v xs → v.ownBlock ≠ some p.block := fun v xs r e => by have := (r.lt _ e).1; omega
  exact ⟨_, _, _, _, rfl, ⟨_, _, _, rfl, r0.other (k _ _ r0) u, r1.other (k _ _ r1) u, r2.other (k _ _ r2) u, a⟩, r3.other (k _ _ r3) u, b⟩
theorem Row.lowSet {w : World} {lo : Nat} {v : Value} {xs : List Int} (h : Row w lo v xs) {p : Addr} (hp : p.block < lo) (u : Value) : Row (w.setCell p u) lo v xs :=
  h.other (fun e => by have := (h.lt _ e).1; omega) u
theorem ORow.lowSet {w : World} {lo : Nat} {v : Value} {os : List Opv} (h : ORow w lo v os) {p : Addr} (hp : p.block < lo) (u : Value) : ORow (w.setCell p u) lo v os :=
  ownsRow_setCell_other h (fun e => by have := (ORow.lt h _ e).1; omega) u
theorem CGv.lowSet {w : World} {lo : Nat} {vs vg : Value} {C : Cp} {G : Gp} (h : CGv w lo vs vg C G) {p : Addr} (hp : p.block < lo) (u : Value) : CGv (w.setCell p u) lo vs vg C G := by
  obtain ⟨v0, v1, v2, v3, r, e, e', h, hr, a⟩ := h; exact ⟨v0, v1, v2, v3, r, e, e', h.lowSet hp u, hr.lowSet hp u, a⟩
theorem Bv.lowSet {w : World} {lo : Nat} {v : Value} {B : Bp} (h : Bv w lo v B) {p : Addr} (hp : p.block < lo) (u : Value) : Bv (w.setCell p u) lo v B := by
  obtain ⟨v0, v1, v2, v3, r, o, e, h, ho, a⟩ := h; exact ⟨v0, v1, v2, v3, r, o, e, h.lowSet hp u, ho.lowSet hp u, a⟩
theorem B10_al {W x : World} (h : Below W.heap.size W x) (o : Obj) : Below W.heap.size W (x.alloc o) := h.alloc h.size o
theorem B10_dr {W x : World} (h : Below W.heap.size W x) : Below W.heap.size W x.drew := h.drew
theorem B10_th {W x y : World} (h : Below W.heap.size W x) (k : Below x.heap.size x y) : Below W.heap.size W y := h.trans (k.mono h.size)
/-- Ten cells are stored. -/
theorem Blk10.far10 {w : World} {b c : Nat} {x0 x1 x2 x3 x4 x5 x6 x7 x8 x9 : Value} {t : TypeId} (h : Blk10 w b x0 x1 x2 x3 x4 x5 x6 x7 x8 x9 t) (hne : b ≠ c) (y0 y1 y2 y3 y4 y5 y6 y7 y8 y9 : Value) : Blk10 ((((((((((w.setCell ⟨c, 0, none⟩ y0).setCell ⟨c, 1, none⟩ y1).setCell ⟨c, 2, none⟩ y2).setCell ⟨c, 3, none⟩ y3).setCell ⟨c, 4, none⟩ y4).setCell ⟨c, 5, none⟩ y5).setCell ⟨c, 6, none⟩ y6).setCell ⟨c, 7, none⟩ y7).setCell ⟨c, 8, none⟩ y8).setCell ⟨c, 9, none⟩ y9) b x0 x1 x2 x3 x4 x5 x6 x7 x8 x9 t :=
  ((((((((((h.other (p := ⟨c, 0, none⟩) hne y0).other (p := ⟨c, 1, none⟩) hne y1).other (p := ⟨c, 2, none⟩) hne y2).other (p := ⟨c, 3, none⟩) hne y3).other (p := ⟨c, 4, none⟩) hne y4).other (p := ⟨c, 5, none⟩) hne y5).other (p := ⟨c, 6, none⟩) hne y6).other (p := ⟨c, 7, none⟩) hne y7).other (p := ⟨c, 8, none⟩) hne y8).other (p := ⟨c, 9, none⟩) hne y9)
theorem Blk10.set10 {w : World} {b : Nat} {x0 x1 x2 x3 x4 x5 x6 x7 x8 x9 : Value} {t : TypeId} (h : Blk10 w b x0 x1 x2 x3 x4 x5 x6 x7 x8 x9 t) (y0 y1 y2 y3 y4 y5 y6 y7 y8 y9 : Value) : Blk10 ((((((((((w.setCell ⟨b, 0, none⟩ y0).setCell ⟨b, 1, none⟩ y1).setCell ⟨b, 2, none⟩ y2).setCell ⟨b, 3, none⟩ y3).setCell ⟨b, 4, none⟩ y4).setCell ⟨b, 5, none⟩ y5).setCell ⟨b, 6, none⟩ y6).setCell ⟨b, 7, none⟩ y7).setCell ⟨b, 8, none⟩ y8).setCell ⟨b, 9, none⟩ y9) b y0 y1 y2 y3 y4 y5 y6 y7 y8 y9 t := by
  unfold Blk10 at h ⊢; simp [World.setCell, Array.getElem?_modify, h]
theorem Blk3.far10 {w : World} {b c : Nat} {x y z : Value} {t : TypeId} (h : Blk3 w b x y z t) (hne : b ≠ c) (y0 y1 y2 y3 y4 y5 y6 y7 y8 y9 : Value) : Blk3 ((((((((((w.setCell ⟨c, 0, none⟩ y0).setCell ⟨c, 1, none⟩ y1).setCell ⟨c, 2, none⟩ y2).setCell ⟨c, 3, none⟩ y3).setCell ⟨c, 4, none⟩ y4).setCell ⟨c, 5, none⟩ y5).setCell ⟨c, 6, none⟩ y6).setCell ⟨c, 7, none⟩ y7).setCell ⟨c, 8, none⟩ y8).setCell ⟨c, 9, none⟩ y9) b x y z t :=
  ((((((((((h.other (p := ⟨c, 0, none⟩) hne y0).other (p := ⟨c, 1, none⟩) hne y1).other (p := ⟨c, 2, none⟩) hne y2).other (p := ⟨c, 3, none⟩) hne y3).other (p := ⟨c, 4, none⟩) hne y4).other (p := ⟨c, 5, none⟩) hne y5).other (p := ⟨c, 6, none⟩) hne y6).other (p := ⟨c, 7, none⟩) hne y7).other (p := ⟨c, 8, none⟩) hne y8).other (p := ⟨c, 9, none⟩) hne y9)
theorem Blk4.far10 {w : World} {b c : Nat} {x y z u : Value} {t : TypeId} (h : Blk4 w b x y z u t) (hne : b ≠ c) (y0 y1 y2 y3 y4 y5 y6 y7 y8 y9 : Value) : Blk4 ((((((((((w.setCell ⟨c, 0, none⟩ y0).setCell ⟨c, 1, none⟩ y1).setCell ⟨c, 2, none⟩ y2).setCell ⟨c, 3, none⟩ y3).setCell ⟨c, 4, none⟩ y4).setCell ⟨c, 5, none⟩ y5).setCell ⟨c, 6, none⟩ y6).setCell ⟨c, 7, none⟩ y7).setCell ⟨c, 8, none⟩ y8).setCell ⟨c, 9, none⟩ y9) b x y z u t :=
  ((((((((((h.other (p := ⟨c, 0, none⟩) hne y0).other (p := ⟨c, 1, none⟩) hne y1).other (p := ⟨c, 2, none⟩) hne y2).other (p := ⟨c, 3, none⟩) hne y3).other (p := ⟨c, 4, none⟩) hne y4).other (p := ⟨c, 5, none⟩) hne y5).other (p := ⟨c, 6, none⟩) hne y6).other (p := ⟨c, 7, none⟩) hne y7).other (p := ⟨c, 8, none⟩) hne y8).other (p := ⟨c, 9, none⟩) hne y9)
theorem below_set10 {w x : World} {lo c : Nat} (h : Below lo w x) (hc : lo ≤ c) (y0 y1 y2 y3 y4 y5 y6 y7 y8 y9 : Value) : Below lo w ((((((((((x.setCell ⟨c, 0, none⟩ y0).setCell ⟨c, 1, none⟩ y1).setCell ⟨c, 2, none⟩ y2).setCell ⟨c, 3, none⟩ y3).setCell ⟨c, 4, none⟩ y4).setCell ⟨c, 5, none⟩ y5).setCell ⟨c, 6, none⟩ y6).setCell ⟨c, 7, none⟩ y7).setCell ⟨c, 8, none⟩ y8).setCell ⟨c, 9, none⟩ y9) :=
  ((((((((((h.setCell (p := ⟨c, 0, none⟩) hc y0).setCell (p := ⟨c, 1, none⟩) hc y1).setCell (p := ⟨c, 2, none⟩) hc y2).setCell (p := ⟨c, 3, none⟩) hc y3).setCell (p := ⟨c, 4, none⟩) hc y4).setCell (p := ⟨c, 5, none⟩) hc y5).setCell (p := ⟨c, 6, none⟩) hc y6).setCell (p := ⟨c, 7, none⟩) hc y7).setCell (p := ⟨c, 8, none⟩) hc y8).setCell (p := ⟨c, 9, none⟩) hc y9)
/-- A Both that lies above the block that is stored into. -/
theorem Bv.low10 {w : World} {lo c : Nat} {v : Value} {B : Bp} (h : Bv w lo v B) (hc : c < lo) (y0 y1 y2 y3 y4 y5 y6 y7 y8 y9 : Value) : Bv ((((((((((w.setCell ⟨c, 0, none⟩ y0).setCell ⟨c, 1, none⟩ y1).setCell ⟨c, 2, none⟩ y2).setCell ⟨c, 3, none⟩ y3).setCell ⟨c, 4, none⟩ y4).setCell ⟨c, 5, none⟩ y5).setCell ⟨c, 6, none⟩ y6).setCell ⟨c, 7, none⟩ y7).setCell ⟨c, 8, none⟩ y8).setCell ⟨c, 9, none⟩ y9) lo v B :=
  ((((((((((h.lowSet (p := ⟨c, 0, none⟩) hc y0).lowSet (p := ⟨c, 1, none⟩) hc y1).lowSet (p := ⟨c, 2, none⟩) hc y2).lowSet (p := ⟨c, 3, none⟩) hc y3).lowSet (p := ⟨c, 4, none⟩) hc y4).lowSet (p := ⟨c, 5, none⟩) hc y5).lowSet (p := ⟨c, 6, none⟩) hc y6).lowSet (p := ⟨c, 7, none⟩) hc y7).lowSet (p := ⟨c, 8, none⟩) hc y8).lowSet (p := ⟨c, 9, none⟩) hc y9)
theorem Bv.setFar {w : World} {lo : Nat} {v : Value} {B : Bp} (h : Bv w lo v B) {p : Addr} (hp : w.heap.size ≤ p.block) (u : Value) : Bv (w.setCell p u) lo v B := by
  have kk : ∀ b, b < w.heap.size → (w.setCell p u).heap[b]? = w.heap[b]? := fun b hb => Below.heap_setCell w p u b (by omega)
  exact h.below ((Below.refl w.heap.size w).setCell hp u)
/-- The result, stored in its variable b. -/
theorem both_done {w w3 : World} {lo b : Nat} {v : Value} {B : Bp} (h : Bv w3 lo v B) (hb : w.heap.size ≤ b) (hlo : b < lo) (hB : Below w.heap.size w w3) (y0 y1 y2 y3 y4 y5 y6 y7 y8 y9 : Value) :
    Bv ((((((((((w3.setCell ⟨b, 0, none⟩ y0).setCell ⟨b, 1, none⟩ y1).setCell ⟨b, 2, none⟩ y2).setCell ⟨b, 3, none⟩ y3).setCell ⟨b, 4, none⟩ y4).setCell ⟨b, 5, none⟩ y5).setCell ⟨b, 6, none⟩ y6).setCell ⟨b, 7, none⟩ y7).setCell ⟨b, 8, none⟩ y8).setCell ⟨b, 9, none⟩ y9) w.heap.size v B ∧ Below w.heap.size w ((((((((((w3.setCell ⟨b, 0, none⟩ y0).setCell ⟨b, 1, none⟩ y1).setCell ⟨b, 2, none⟩ y2).setCell ⟨b, 3, none⟩ y3).setCell ⟨b, 4, none⟩ y4).setCell ⟨b, 5, none⟩ y5).setCell ⟨b, 6, none⟩ y6).setCell ⟨b, 7, none⟩ y7).setCell ⟨b, 8, none⟩ y8).setCell ⟨b, 9, none⟩ y9) :=
  ⟨(h.low10 hlo y0 y1 y2 y3 y4 y5 y6 y7 y8 y9).mono (by omega), below_set10 hB hb y0 y1 y2 y3 y4 y5 y6 y7 y8 y9⟩
end Go.Proofs.YtfoimicbmkiigaaGreat

/- BothValid of spec and of impl. -/
namespace Go.Proofs.YtfoimicbmkiigaaGreat
open Go.RowKit

set_option maxRecDepth 100000 in
set_option maxHeartbeats 4000000 in
theorem l7Ops_any (w : World) (lo : Nat) (A : Option Addr) (n c : Nat) (os : List Opv) (hu : ORow w lo (.slice A n c) os) (hn : Hid (os.length = n)) (hn63 : n ≤ 9223372036854775807) (r : Int) :
    Calls Tryz.prog 80 #[.slice A n c, .int .i64 r] w (RetB w (decide (n ≤ 12) && opsB r os)) := by
  have OV := fun W o => specOpValid_any W o r
  go_enter Tryz.func80, Tryz.ntmps80
  go_wp2_with fail
  go_loopw [5] (fun i wr => ∃ k : Nat, k ≤ n ∧ k ≤ 13 ∧ i = .int .i64 (k : Int) ∧ Hid (∀ (j : Nat) (o : Opv), j < k → os[j]? = some o → opB o r = true) ∧ ORow wr lo (.slice A n c) os ∧ Below w.heap.size w wr) (fun i _ => n - (intOf i).toNat)
  case atStart => exact ⟨0, Nat.zero_le _, by omega, rfl, fun j o hj => absurd hj (Nat.not_lt_zero _), hu, Below.refl _ _⟩
  case round =>
    obtain ⟨k, hk, hk13, rfl, hpre, U3, B3⟩ := hrel
    clear hu
    by_cases hkn : k < n
    · have hkni : (k : Int) < (n : Int) := by omega
      by_cases hk12 : k ≤ 12
      · have hk12i : (k : Int) ≤ 12 := by omega
        obtain ⟨g, ⟨ok, oa, oq⟩, rfl, _, hg, ho, o0, o1, o2⟩ := U3.get (k := k) (by rw [hn.out]; exact hkn)
        simp only at o0 o1 o2
        have OO := fun W => OV W ⟨ok, oa, oq⟩
        rcases eo : opB ⟨ok, oa, oq⟩ r
        · have hf : Hid ((decide (n ≤ 12) && opsB r os) = false) := by unfold Hid; rw [opsB_not ho.out eo, Bool.and_false]
          simp only [eo] at OO
          clear eo hpre OV
          go_wp2_with fail
          refine (OO _).mono ?_; rintro e w4 ⟨rfl, hb4⟩
          have B5 := B3.trans (hb4.mono B3.size)
          go_wp2_with fail
          go_ret
          exact ⟨ret_bool hf.out.symm, B5⟩
        · have hnx : Hid (∀ (j : Nat) (o : Opv), j < k + 1 → os[j]? = some o → opB o r = true) := fun j o hj h => by
            by_cases e : j = k
            · subst e; rw [ho.out] at h; cases h; exact eo
            · exact hpre.out j o (by omega) h
          simp only [eo] at OO
          clear eo hpre OV
          go_wp2_with fail
          refine (OO _).mono ?_; rintro e w4 ⟨rfl, hb4⟩
          have B5 := B3.trans (hb4.mono B3.size)
          have U5 := U3.below hb4
          go_wp2_with fail
          go_roundw
          case rel => exact ⟨k + 1, by omega, by omega, by go_num, hnx, U5, B5⟩
          case measure => simp [intOf]; omega
      · have hk12i : ¬ ((k : Int) ≤ 12) := by omega
        have hf : Hid ((decide (n ≤ 12) && opsB r os) = false) := by unfold Hid; rw [decide_eq_false (by omega)]; rfl
        have hn12 : ¬ ((n : Int) ≤ 12) := by omega
        go_wp2_with fail
        go_ret
        exact ⟨ret_bool hf.out.symm, B3⟩
    · have hkni : ¬ ((k : Int) < (n : Int)) := by omega
      have hf : Hid ((decide (n ≤ 12) && opsB r os) = decide ((n : Int) ≤ 12)) := by
        unfold Hid
        rw [opsB_all (fun j o h => hpre.out j o (by have := (List.getElem?_eq_some_iff.1 h).1; have := hn.out; omega) h), Bool.and_true]
        rw [Bool.eq_iff_iff, decide_eq_true_iff, decide_eq_true_iff]; omega
      clear hpre
      go_wp2_with fail
      go_ret
      exact ⟨ret_bool hf.out.symm, B3⟩

set_option maxRecDepth 100000 in
set_option maxHeartbeats 4000000 in
theorem specBothValid_any (w : World) (lo : Nat) (v : Value) (B : Bp) (h : Bv w lo v B) : Calls Tryz.prog 35 #[v] w (RetB w (bothB B)) := by
  obtain ⟨A0, n0, c0, A1, n1, c1, A2, n2, c2, A3, n3, c3, A4, n4, c4, A5, n5, c5, C, p, cc, a, os, i, z, rfl, rfl, hc, ho, ⟨l0, l1, l2, l3, l4, l5⟩, ⟨m0, m1, m2, m3, m4, m5⟩⟩ := h.open_
  have X := Blk10.new w (.slice A0 n0 c0) (.slice A1 n1 c1) (.slice A2 n2 c2) (.slice A3 n3 c3) (.int .i64 p) (.slice A4 n4 c4) (.int .i64 a) (.slice A5 n5 c5) (.int .i64 i) (.bool z) 32
  have CC := hc.alloc (.cells #[.slice A0 n0 c0, .slice A1 n1 c1, .slice A2 n2 c2, .slice A3 n3 c3, .int .i64 p, .slice A4 n4 c4, .int .i64 a, .slice A5 n5 c5, .int .i64 i, .bool z] 32)
  have OO := ho.alloc (.cells #[.slice A0 n0 c0, .slice A1 n1 c1, .slice A2 n2 c2, .slice A3 n3 c3, .int .i64 p, .slice A4 n4 c4, .int .i64 a, .slice A5 n5 c5, .int .i64 i, .bool z] 32)
  have BB : Below w.heap.size w (w.alloc (.cells #[.slice A0 n0 c0, .slice A1 n1 c1, .slice A2 n2 c2, .slice A3 n3 c3, .int .i64 p, .slice A4 n4 c4, .int .i64 a, .slice A5 n5 c5, .int .i64 i, .bool z] 32)) := (Below.refl _ _).alloc (Nat.le_refl _) _
  have hN : Hid (bothB ⟨C, ⟨p, cc, a⟩, os, i, z⟩ = (gcB C ⟨p, cc, a⟩ && (decide (n5 ≤ 12) && opsB n2 os) && (decide (0 ≤ i) && decide (i ≤ n5)))) := by unfold Hid bothB opsV; simp only [l5.out, l2.out]
  clear hc ho h
  generalize hW : w.alloc (.cells #[.slice A0 n0 c0, .slice A1 n1 c1, .slice A2 n2 c2, .slice A3 n3 c3, .int .i64 p, .slice A4 n4 c4, .int .i64 a, .slice A5 n5 c5, .int .i64 i, .bool z] 32) = W at X CC OO BB
  obtain ⟨⟨x0, x1, x2, x3, x4, x5, x6, x7, x8, x9⟩, _⟩ := X.cells
  have V := specGcValid_any _ _ _ _ _ _ CC
  have V2 := fun w1 h9 => l7Ops_any w1 lo A5 n5 c5 os h9 l5 m5 (n2 : Int)
  clear CC
  rcases eg : gcB C ⟨p, cc, a⟩
  · rw [eg] at V
    have hf : Hid (bothB ⟨C, ⟨p, cc, a⟩, os, i, z⟩ = false) := by unfold Hid; rw [hN.out, eg]; rfl
    clear eg V2 OO
    go_enter Tryz.func35, Tryz.ntmps35
    go_wp2_with fail
    try rw [hW]
    refine V.mono ?_; rintro e w1 ⟨rfl, hb1⟩
    have B1 := BB.trans (hb1.mono BB.size)
    go_wp2_with fail
    go_ret
    exact ⟨ret_bool hf.out.symm, B1⟩
  rw [eg] at V
  rcases eo : (decide (n5 ≤ 12) && opsB n2 os)
  · simp only [eo] at V2
    have hf : Hid (bothB ⟨C, ⟨p, cc, a⟩, os, i, z⟩ = false) := by unfold Hid; rw [hN.out, eg, eo]; rfl
    clear eg eo
    go_enter Tryz.func35, Tryz.ntmps35
    go_wp2_with fail
    try rw [hW]
    refine V.mono ?_; rintro e w1 ⟨rfl, hb1⟩
    obtain ⟨⟨y0, y1, y2, y3, y4, y5, y6, y7, y8, y9⟩, _⟩ := (X.below hb1).cells
    have B1 := BB.trans (hb1.mono BB.size)
    go_wp2_with fail
    refine (V2 _ (OO.below hb1)).mono ?_; rintro e w2 ⟨rfl, hb2⟩
    obtain ⟨⟨z0, z1, z2, z3, z4, z5, z6, z7, z8, z9⟩, _⟩ := ((X.below hb1).below hb2).cells
    have B2 := B1.trans (hb2.mono B1.size)
    go_wp2_with fail
    go_ret
    exact ⟨ret_bool hf.out.symm, B2⟩
  simp only [eo] at V2
  by_cases hi : 0 ≤ i
  · have hf : Hid (bothB ⟨C, ⟨p, cc, a⟩, os, i, z⟩ = decide (i ≤ (n5 : Int))) := by unfold Hid; rw [hN.out, eg, eo, decide_eq_true hi]; rfl
    clear eg eo
    go_enter Tryz.func35, Tryz.ntmps35
    go_wp2_with fail
    try rw [hW]
    refine V.mono ?_; rintro e w1 ⟨rfl, hb1⟩
    obtain ⟨⟨y0, y1, y2, y3, y4, y5, y6, y7, y8, y9⟩, _⟩ := (X.below hb1).cells
    have B1 := BB.trans (hb1.mono BB.size)
    go_wp2_with fail
    refine (V2 _ (OO.below hb1)).mono ?_; rintro e w2 ⟨rfl, hb2⟩
    obtain ⟨⟨z0, z1, z2, z3, z4, z5, z6, z7, z8, z9⟩, _⟩ := ((X.below hb1).below hb2).cells
    have B2 := B1.trans (hb2.mono B1.size)
    go_wp2_with fail
    go_ret
    exact ⟨ret_bool hf.out.symm, B2⟩
  · have hf : Hid (bothB ⟨C, ⟨p, cc, a⟩, os, i, z⟩ = false) := by unfold Hid; rw [hN.out, eg, eo, decide_eq_false hi]; rfl
    clear eg eo
    go_enter Tryz.func35, Tryz.ntmps35
    go_wp2_with fail
    try rw [hW]
    refine V.mono ?_; rintro e w1 ⟨rfl, hb1⟩
    obtain ⟨⟨y0, y1, y2, y3, y4, y5, y6, y7, y8, y9⟩, _⟩ := (X.below hb1).cells
    have B1 := BB.trans (hb1.mono BB.size)
    go_wp2_with fail
    refine (V2 _ (OO.below hb1)).mono ?_; rintro e w2 ⟨rfl, hb2⟩
    obtain ⟨⟨z0, z1, z2, z3, z4, z5, z6, z7, z8, z9⟩, _⟩ := ((X.below hb1).below hb2).cells
    have B2 := B1.trans (hb2.mono B1.size)
    go_wp2_with fail
    go_ret
    exact ⟨ret_bool hf.out.symm, B2⟩

set_option maxRecDepth 100000 in
set_option maxHeartbeats 4000000 in
theorem implBothValid_any (w : World) (lo : Nat) (v : Value) (B : Bp) (h : Bv w lo v B) : Calls Tryz.prog 14 #[v] w (RetB w (bothB B)) := by
  obtain ⟨A0, n0, c0, A1, n1, c1, A2, n2, c2, A3, n3, c3, A4, n4, c4, A5, n5, c5, C, p, cc, a, os, i, z, rfl, rfl, hc, ho, ⟨l0, l1, l2, l3, l4, l5⟩, ⟨m0, m1, m2, m3, m4, m5⟩⟩ := h.open_
  have X := Blk10.new w (.slice A0 n0 c0) (.slice A1 n1 c1) (.slice A2 n2 c2) (.slice A3 n3 c3) (.int .i64 p) (.slice A4 n4 c4) (.int .i64 a) (.slice A5 n5 c5) (.int .i64 i) (.bool z) 32
  have CC := hc.alloc (.cells #[.slice A0 n0 c0, .slice A1 n1 c1, .slice A2 n2 c2, .slice A3 n3 c3, .int .i64 p, .slice A4 n4 c4, .int .i64 a, .slice A5 n5 c5, .int .i64 i, .bool z] 32)
  have OO := ho.alloc (.cells #[.slice A0 n0 c0, .slice A1 n1 c1, .slice A2 n2 c2, .slice A3 n3 c3, .int .i64 p, .slice A4 n4 c4, .int .i64 a, .slice A5 n5 c5, .int .i64 i, .bool z] 32)
  have BB : Below w.heap.size w (w.alloc (.cells #[.slice A0 n0 c0, .slice A1 n1 c1, .slice A2 n2 c2, .slice A3 n3 c3, .int .i64 p, .slice A4 n4 c4, .int .i64 a, .slice A5 n5 c5, .int .i64 i, .bool z] 32)) := (Below.refl _ _).alloc (Nat.le_refl _) _
  have hN : Hid (bothB ⟨C, ⟨p, cc, a⟩, os, i, z⟩ = (gcB C ⟨p, cc, a⟩ && (decide (n5 ≤ 12) && opsB n2 os) && (decide (0 ≤ i) && decide (i ≤ n5)))) := by unfold Hid bothB opsV; simp only [l5.out, l2.out]
  clear hc ho h
  generalize hW : w.alloc (.cells #[.slice A0 n0 c0, .slice A1 n1 c1, .slice A2 n2 c2, .slice A3 n3 c3, .int .i64 p, .slice A4 n4 c4, .int .i64 a, .slice A5 n5 c5, .int .i64 i, .bool z] 32) = W at X CC OO BB
  obtain ⟨⟨x0, x1, x2, x3, x4, x5, x6, x7, x8, x9⟩, _⟩ := X.cells
  have V := implGcValid_any _ _ _ _ _ _ CC
  have V2 := fun w1 h9 => opsValid_any w1 lo A5 n5 c5 os h9 l5 m5 (n2 : Int)
  clear CC
  rcases eg : gcB C ⟨p, cc, a⟩
  · rw [eg] at V
    have hf : Hid (bothB ⟨C, ⟨p, cc, a⟩, os, i, z⟩ = false) := by unfold Hid; rw [hN.out, eg]; rfl
    clear eg V2 OO
    go_enter Tryz.func14, Tryz.ntmps14
    go_wp2_with fail
    try rw [hW]
    refine V.mono ?_; rintro e w1 ⟨rfl, hb1⟩
    have B1 := BB.trans (hb1.mono BB.size)
    go_wp2_with fail
    go_ret
    exact ⟨ret_bool hf.out.symm, B1⟩
  rw [eg] at V
  rcases eo : (decide (n5 ≤ 12) && opsB n2 os)
  · simp only [eo] at V2
    have hf : Hid (bothB ⟨C, ⟨p, cc, a⟩, os, i, z⟩ = false) := by unfold Hid; rw [hN.out, eg, eo]; rfl
    clear eg eo
    go_enter Tryz.func14, Tryz.ntmps14
    go_wp2_with fail
    try rw [hW]
    refine V.mono ?_; rintro e w1 ⟨rfl, hb1⟩
    obtain ⟨⟨y0, y1, y2, y3, y4, y5, y6, y7, y8, y9⟩, _⟩ := (X.below hb1).cells
    have B1 := BB.trans (hb1.mono BB.size)
    go_wp2_with fail
    refine (V2 _ (OO.below hb1)).mono ?_; rintro e w2 ⟨rfl, hb2⟩
    obtain ⟨⟨z0, z1, z2, z3, z4, z5, z6, z7, z8, z9⟩, _⟩ := ((X.below hb1).below hb2).cells
    have B2 := B1.trans (hb2.mono B1.size)
    go_wp2_with fail
    go_ret
    exact ⟨ret_bool hf.out.symm, B2⟩
  simp only [eo] at V2
  by_cases hi : 0 ≤ i
  · have hf : Hid (bothB ⟨C, ⟨p, cc, a⟩, os, i, z⟩ = decide (i ≤ (n5 : Int))) := by unfold Hid; rw [hN.out, eg, eo, decide_eq_true hi]; rfl
    clear eg eo
    go_enter Tryz.func14, Tryz.ntmps14
    go_wp2_with fail
    try rw [hW]
    refine V.mono ?_; rintro e w1 ⟨rfl, hb1⟩
    obtain ⟨⟨y0, y1, y2, y3, y4, y5, y6, y7, y8, y9⟩, _⟩ := (X.below hb1).cells
    have B1 := BB.trans (hb1.mono BB.size)
    go_wp2_with fail
    refine (V2 _ (OO.below hb1)).mono ?_; rintro e w2 ⟨rfl, hb2⟩
    obtain ⟨⟨z0, z1, z2, z3, z4, z5, z6, z7, z8, z9⟩, _⟩ := ((X.below hb1).below hb2).cells
    have B2 := B1.trans (hb2.mono B1.size)
    go_wp2_with fail
    go_ret
    exact ⟨ret_bool hf.out.symm, B2⟩
  · have hf : Hid (bothB ⟨C, ⟨p, cc, a⟩, os, i, z⟩ = false) := by unfold Hid; rw [hN.out, eg, eo, decide_eq_false hi]; rfl
    clear eg eo
    go_enter Tryz.func14, Tryz.ntmps14
    go_wp2_with fail
    try rw [hW]
    refine V.mono ?_; rintro e w1 ⟨rfl, hb1⟩
    obtain ⟨⟨y0, y1, y2, y3, y4, y5, y6, y7, y8, y9⟩, _⟩ := (X.below hb1).cells
    have B1 := BB.trans (hb1.mono BB.size)
    go_wp2_with fail
    refine (V2 _ (OO.below hb1)).mono ?_; rintro e w2 ⟨rfl, hb2⟩
    obtain ⟨⟨z0, z1, z2, z3, z4, z5, z6, z7, z8, z9⟩, _⟩ := ((X.below hb1).below hb2).cells
    have B2 := B1.trans (hb2.mono B1.size)
    go_wp2_with fail
    go_ret
    exact ⟨ret_bool hf.out.symm, B2⟩

end Go.Proofs.YtfoimicbmkiigaaGreat

