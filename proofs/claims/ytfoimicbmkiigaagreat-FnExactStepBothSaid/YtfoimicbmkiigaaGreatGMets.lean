import Derived.Test.YtfoimicbmkiigaaGreatGSms
import Derived.Test.YtfoimicbmkiigaaGreatICols
import Derived.Test.YtfoimicbmkiigaaGreatIStos
import Derived.Laws.EntriesVeiled
import Derived.Test.YtfoimicbmkiigaaGreatGcs
/- A collector's machine: a variable of eight cells that holds a store, a collector and a function. -/
namespace Go.Proofs.YtfoimicbmkiigaaGreat
open Go.RowKit

/-- A block of eight cells, known whole. -/
def Blk8 (w : World) (b : Nat) (x0 x1 x2 x3 x4 x5 x6 x7 : Value) (t : TypeId) : Prop := w.heap[b]? = some (.cells #[x0, x1, x2, x3, x4, x5, x6, x7] t (0, 0))
section
variable {w w' : World} {b : Nat} {x0 x1 x2 x3 x4 x5 x6 x7 : Value} {t : TypeId}
theorem Blk8.cells (h : Blk8 w b x0 x1 x2 x3 x4 x5 x6 x7 t) : (w.cell? ⟨b, 0, none⟩ = some x0 ∧ w.cell? ⟨b, 1, none⟩ = some x1 ∧ w.cell? ⟨b, 2, none⟩ = some x2 ∧ w.cell? ⟨b, 3, none⟩ = some x3 ∧ w.cell? ⟨b, 4, none⟩ = some x4 ∧ w.cell? ⟨b, 5, none⟩ = some x5 ∧ w.cell? ⟨b, 6, none⟩ = some x6 ∧ w.cell? ⟨b, 7, none⟩ = some x7) ∧ (w.frozen? ⟨b, 0, none⟩ = false ∧ w.frozen? ⟨b, 1, none⟩ = false ∧ w.frozen? ⟨b, 2, none⟩ = false ∧ w.frozen? ⟨b, 3, none⟩ = false ∧ w.frozen? ⟨b, 4, none⟩ = false ∧ w.frozen? ⟨b, 5, none⟩ = false ∧ w.frozen? ⟨b, 6, none⟩ = false ∧ w.frozen? ⟨b, 7, none⟩ = false) := by
  unfold Blk8 at h
  simp [World.cell?, World.frozen?, h]
theorem Blk8.lt (h : Blk8 w b x0 x1 x2 x3 x4 x5 x6 x7 t) : b < w.heap.size := (Array.getElem?_eq_some_iff.1 h).1
theorem Blk8.below (h : Blk8 w b x0 x1 x2 x3 x4 x5 x6 x7 t) (hb : Below w.heap.size w w') : Blk8 w' b x0 x1 x2 x3 x4 x5 x6 x7 t := (hb.block b h.lt).trans h
theorem Blk8.new (w : World) (x0 x1 x2 x3 x4 x5 x6 x7 : Value) (t : TypeId) : Blk8 (w.alloc (.cells #[x0, x1, x2, x3, x4, x5, x6, x7] t)) w.heap.size x0 x1 x2 x3 x4 x5 x6 x7 t := heap_alloc_new w _
theorem Blk8.drew (h : Blk8 w b x0 x1 x2 x3 x4 x5 x6 x7 t) : Blk8 w.drew b x0 x1 x2 x3 x4 x5 x6 x7 t := h
theorem Blk8.drewN (h : Blk8 w b x0 x1 x2 x3 x4 x5 x6 x7 t) (n : Nat) : Blk8 (w.drewN n) b x0 x1 x2 x3 x4 x5 x6 x7 t := h
theorem Blk8.alloc (h : Blk8 w b x0 x1 x2 x3 x4 x5 x6 x7 t) (o : Obj) : Blk8 (w.alloc o) b x0 x1 x2 x3 x4 x5 x6 x7 t := (Below.heap_alloc w o b h.lt).trans h
theorem Blk8.other (h : Blk8 w b x0 x1 x2 x3 x4 x5 x6 x7 t) {p : Addr} (hp : b ≠ p.block) (a : Value) : Blk8 (w.setCell p a) b x0 x1 x2 x3 x4 x5 x6 x7 t := (Below.heap_setCell w p a b hp).trans h
theorem Blk8.kept {rb : Nat} (h : Blk8 w b x0 x1 x2 x3 x4 x5 x6 x7 t) (hg : w.grownBy w' (some rb)) (hb : b ≠ rb) : Blk8 w' b x0 x1 x2 x3 x4 x5 x6 x7 t := (hg.block b h.lt (fun e => hb (Option.some.inj e))).trans h
theorem Blk8.set0 (h : Blk8 w b x0 x1 x2 x3 x4 x5 x6 x7 t) (y : Value) : Blk8 (w.setCell ⟨b, 0, none⟩ y) b y x1 x2 x3 x4 x5 x6 x7 t := by
  unfold Blk8 at h ⊢; simp [World.setCell, Array.getElem?_modify, h]
theorem Blk8.set1 (h : Blk8 w b x0 x1 x2 x3 x4 x5 x6 x7 t) (y : Value) : Blk8 (w.setCell ⟨b, 1, none⟩ y) b x0 y x2 x3 x4 x5 x6 x7 t := by
  unfold Blk8 at h ⊢; simp [World.setCell, Array.getElem?_modify, h]
theorem Blk8.set2 (h : Blk8 w b x0 x1 x2 x3 x4 x5 x6 x7 t) (y : Value) : Blk8 (w.setCell ⟨b, 2, none⟩ y) b x0 x1 y x3 x4 x5 x6 x7 t := by
  unfold Blk8 at h ⊢; simp [World.setCell, Array.getElem?_modify, h]
theorem Blk8.set3 (h : Blk8 w b x0 x1 x2 x3 x4 x5 x6 x7 t) (y : Value) : Blk8 (w.setCell ⟨b, 3, none⟩ y) b x0 x1 x2 y x4 x5 x6 x7 t := by
  unfold Blk8 at h ⊢; simp [World.setCell, Array.getElem?_modify, h]
theorem Blk8.set4 (h : Blk8 w b x0 x1 x2 x3 x4 x5 x6 x7 t) (y : Value) : Blk8 (w.setCell ⟨b, 4, none⟩ y) b x0 x1 x2 x3 y x5 x6 x7 t := by
  unfold Blk8 at h ⊢; simp [World.setCell, Array.getElem?_modify, h]
theorem Blk8.set5 (h : Blk8 w b x0 x1 x2 x3 x4 x5 x6 x7 t) (y : Value) : Blk8 (w.setCell ⟨b, 5, none⟩ y) b x0 x1 x2 x3 x4 y x6 x7 t := by
  unfold Blk8 at h ⊢; simp [World.setCell, Array.getElem?_modify, h]
theorem Blk8.set6 (h : Blk8 w b x0 x1 x2 x3 x4 x5 x6 x7 t) (y : Value) : Blk8 (w.setCell ⟨b, 6, none⟩ y) b x0 x1 x2 x3 x4 x5 y x7 t := by
  unfold Blk8 at h ⊢; simp [World.setCell, Array.getElem?_modify, h]
theorem Blk8.set7 (h : Blk8 w b x0 x1 x2 x3 x4 x5 x6 x7 t) (y : Value) : Blk8 (w.setCell ⟨b, 7, none⟩ y) b x0 x1 x2 x3 x4 x5 x6 y t := by
  unfold Blk8 at h ⊢; simp [World.setCell, Array.getElem?_modify, h]
theorem Blk8.set03 (h : Blk8 w b x0 x1 x2 x3 x4 x5 x6 x7 t) (y0 y1 y2 y3 : Value) : Blk8 ((((w.setCell ⟨b, 0, none⟩ y0).setCell ⟨b, 1, none⟩ y1).setCell ⟨b, 2, none⟩ y2).setCell ⟨b, 3, none⟩ y3) b y0 y1 y2 y3 x4 x5 x6 x7 t :=
  (((h.set0 y0).set1 y1).set2 y2).set3 y3
end
/-- Nothing owns block b. -/
def FarG (v0 v1 v2 v3 r : Value) (b : Nat) : Prop := v0.ownBlock ≠ some b ∧ v1.ownBlock ≠ some b ∧ v2.ownBlock ≠ some b ∧ v3.ownBlock ≠ some b ∧ r.ownBlock ≠ some b
theorem Cv.setFar {w : World} {lo : Nat} {v0 v1 v2 v3 : Value} {C : Cp} (hv : Cv w lo (.agg #[v0, v1, v2, v3]) C) {p : Addr} (f : v0.ownBlock ≠ some p.block ∧ v1.ownBlock ≠ some p.block ∧ v2.ownBlock ≠ some p.block ∧ v3.ownBlock ≠ some p.block) (u : Value) : Cv (w.setCell p u) lo (.agg #[v0, v1, v2, v3]) C := by
  obtain ⟨_, _, _, _, e, ⟨_, _, _, e', r0, r1, r2, a⟩, r3, b⟩ := hv
  cases e; cases e'
  exact ⟨_, _, _, _, rfl, ⟨_, _, _, rfl, r0.other f.1 u, r1.other f.2.1 u, r2.other f.2.2.1 u, a⟩, r3.other f.2.2.2 u, b⟩
theorem CGv.setFar {w : World} {lo : Nat} {v0 v1 v2 v3 r x y : Value} {C : Cp} {G : Gp} (h : CGv w lo (.agg #[v0, v1, v2, v3]) (.agg #[x, r, y]) C G) {p : Addr} (f : FarG v0 v1 v2 v3 r p.block) (u : Value) : CGv (w.setCell p u) lo (.agg #[v0, v1, v2, v3]) (.agg #[x, r, y]) C G := by
  obtain ⟨_, _, _, _, _, e, e', hv, hr, a⟩ := h
  cases e; cases e'
  exact ⟨_, _, _, _, _, rfl, rfl, hv.setFar ⟨f.1, f.2.1, f.2.2.1, f.2.2.2.1⟩ u, hr.other f.2.2.2.2 u, a⟩
/-- The same collector with other numbers. -/
theorem CGv.nums {w : World} {lo : Nat} {v0 v1 v2 v3 r : Value} {C : Cp} {p a p' a' : Int} {cc : List Int} (h : CGv w lo (.agg #[v0, v1, v2, v3]) (.agg #[.int .i64 p, r, .int .i64 a]) C ⟨p, cc, a⟩) : CGv w lo (.agg #[v0, v1, v2, v3]) (.agg #[.int .i64 p', r, .int .i64 a']) C ⟨p', cc, a'⟩ := by
  obtain ⟨_, _, _, _, _, e, e', hv, hr, ap⟩ := h
  cases e; cases e'
  exact ⟨_, _, _, _, _, rfl, rfl, hv, hr, ap⟩
/-- Another row of colors, in the same block. -/
theorem CGv.recolor {w w' : World} {lo g : Nat} {v0 v1 v2 v3 : Value} {C : Cp} {p a : Int} {n c : Nat} {cc cc' : List Int} (h : CGv w lo (.agg #[v0, v1, v2, v3]) (.agg #[.int .i64 p, .slice (some ⟨g, 0, none⟩) n c, .int .i64 a]) C ⟨p, cc, a⟩) (hO : w.grownBy w' (some g)) (hr : Row w' lo (.slice (some ⟨g, 0, none⟩) n c) cc') : CGv w' lo (.agg #[v0, v1, v2, v3]) (.agg #[.int .i64 p, .slice (some ⟨g, 0, none⟩) n c, .int .i64 a]) C ⟨p, cc', a⟩ := by
  obtain ⟨_, _, _, _, _, e, e', hv, _, a0, a1, a2, a3⟩ := h
  cases e; cases e'
  obtain ⟨_, _, _, _, e, ⟨_, _, _, e', r0, r1, r2, x⟩, r3, y⟩ := hv
  cases e; cases e'
  have k : ∀ (v : Value), Apart v (.slice (some ⟨g, 0, none⟩) n c) → v.ownBlock = none ∨ v.ownBlock ≠ some g := fun v ap => .inr fun e => ap g e rfl
  exact ⟨_, _, _, _, _, rfl, rfl, ⟨_, _, _, _, rfl, ⟨_, _, _, rfl, r0.kept hO (k _ a0), r1.kept hO (k _ a1), r2.kept hO (k _ a2), x⟩, r3.kept hO (k _ a3), y⟩, hr, a0, a1, a2, a3⟩
/-- A new row of colors. -/
theorem CGv.newRow {w w' : World} {lo : Nat} {v0 v1 v2 v3 r r' : Value} {C : Cp} {p a : Int} {cc cc' : List Int} (h : CGv w lo (.agg #[v0, v1, v2, v3]) (.agg #[.int .i64 p, r, .int .i64 a]) C ⟨p, cc, a⟩) (hl : lo ≤ w.heap.size) (hr : Row w' w.heap.size r' cc') (hb : Below w.heap.size w w') : CGv w' lo (.agg #[v0, v1, v2, v3]) (.agg #[.int .i64 p, r', .int .i64 a]) C ⟨p, cc', a⟩ :=
  CGv.mk h.cv ⟨_, rfl, hr⟩ hl hb
/-- A new store. -/
theorem CGv.newStore {w w' : World} {lo : Nat} {vs vs' : Value} {vg : Value} {C C' : Cp} {G : Gp} (h : CGv w lo vs vg C G) (hl : lo ≤ w.heap.size) (hv : Cv w' w.heap.size vs' C') (hb : Below w.heap.size w w') : CGv w' lo vs' vg C' G :=
  CGv.mk' h.gv hv hl hb
/-- What a machine's variable holds; f is its function. -/
def MachQ (w : World) (lo b : Nat) (C : Cp) (G : Gp) (f : Value) : Prop := ∃ v0 v1 v2 v3 r, Blk8 w b v0 v1 v2 v3 (.int .i64 G.p) r (.int .i64 G.a) f 97 ∧ CGv w lo (.agg #[v0, v1, v2, v3]) (.agg #[.int .i64 G.p, r, .int .i64 G.a]) C G ∧ FarG v0 v1 v2 v3 r b
theorem MachQ.below {w w' : World} {lo b : Nat} {C : Cp} {G : Gp} {f : Value} (h : MachQ w lo b C G f) (hb : Below w.heap.size w w') : MachQ w' lo b C G f := by
  obtain ⟨v0, v1, v2, v3, r, X, hv, o⟩ := h
  exact ⟨v0, v1, v2, v3, r, X.below hb, hv.below hb, o⟩
theorem MachQ.lt {w : World} {lo b : Nat} {C : Cp} {G : Gp} {f : Value} (h : MachQ w lo b C G f) : b < w.heap.size := by
  obtain ⟨v0, v1, v2, v3, r, X, _⟩ := h
  exact X.lt
theorem MachQ.open_ {w : World} {lo b : Nat} {C : Cp} {G : Gp} {f : Value} (h : MachQ w lo b C G f) : ∃ A0 n0 c0 A1 n1 c1 A2 n2 c2 A3 n3 c3 A4 n4 c4 p cc a, G = ⟨p, cc, a⟩ ∧
    Blk8 w b (.slice A0 n0 c0) (.slice A1 n1 c1) (.slice A2 n2 c2) (.slice A3 n3 c3) (.int .i64 p) (.slice A4 n4 c4) (.int .i64 a) f 97 ∧ CGv w lo (.agg #[.slice A0 n0 c0, .slice A1 n1 c1, .slice A2 n2 c2, .slice A3 n3 c3]) (.agg #[.int .i64 p, .slice A4 n4 c4, .int .i64 a]) C ⟨p, cc, a⟩ ∧ FarG (.slice A0 n0 c0) (.slice A1 n1 c1) (.slice A2 n2 c2) (.slice A3 n3 c3) (.slice A4 n4 c4) b ∧
    (Row w lo (.slice A0 n0 c0) C.h.l ∧ Row w lo (.slice A1 n1 c1) C.h.r ∧ Row w lo (.slice A2 n2 c2) C.h.t ∧ Row w lo (.slice A3 n3 c3) C.c ∧ Row w lo (.slice A4 n4 c4) cc) ∧
    (Hid (C.h.l.length = n0) ∧ Hid (C.h.r.length = n1) ∧ Hid (C.h.t.length = n2) ∧ Hid (C.c.length = n3) ∧ Hid (cc.length = n4)) ∧
    (n0 ≤ 9223372036854775807 ∧ n1 ≤ 9223372036854775807 ∧ n2 ≤ 9223372036854775807 ∧ n3 ≤ 9223372036854775807 ∧ n4 ≤ 9223372036854775807) := by
  obtain ⟨v0, v1, v2, v3, r, X, hv, o⟩ := h
  have hvo := hv
  obtain ⟨A0, n0, c0, A1, n1, c1, A2, n2, c2, A3, n3, c3, A4, n4, c4, p, cc, a, rfl, e, e', _, _, rs, ls, ms⟩ := hvo.open_
  cases e; cases e'
  exact ⟨A0, n0, c0, A1, n1, c1, A2, n2, c2, A3, n3, c3, A4, n4, c4, p, cc, a, rfl, X, hv, o, rs, ls, ms⟩
/-- The function of a phase, of the machine at b. -/
def fnV (p : Int) (b : Nat) : Value := if p = 0 then .func (.func 139) #[.pointer (some ⟨b, 0, none⟩)] #[] else if p = 1 then .func (.func 140) #[.pointer (some ⟨b, 0, none⟩)] #[] else if p = 2 then .func (.func 141) #[.pointer (some ⟨b, 0, none⟩)] #[] else .func (.func 142) #[.pointer (some ⟨b, 0, none⟩)] #[]
def MachAt (w : World) (lo b : Nat) (C : Cp) (G : Gp) : Prop := MachQ w lo b C G (fnV G.p b)

set_option maxRecDepth 100000 in
set_option maxHeartbeats 2000000 in
theorem goOn_any (w : World) (lo b : Nat) (hlo : lo ≤ b) (C : Cp) (p : Int) (cc : List Int) (k : Nat) (f : Value) (h : MachQ w lo b C ⟨p, cc, (k : Int)⟩ f) (n : Nat) (hk : k < 100) (q : Int) :
    Calls Tryz.prog 158 #[.pointer (some ⟨b, 0, none⟩), .int .i64 (n : Int), .int .i64 q] w fun e w' => e = .returned (.int .i64 (nextG p cc (k : Int) n q).p) ∧ MachQ w' lo b C ⟨p, cc, (nextG p cc (k : Int) n q).a⟩ f ∧ Below lo w w' := by
  obtain ⟨A0, n0, c0, A1, n1, c1, A2, n2, c2, A3, n3, c3, A4, n4, c4, p, cc, a, e9, X, hv, hf, ⟨r0, r1, r2, r3, r4⟩, ⟨l0, l1, l2, l3, l4⟩, ⟨m0, m1, m2, m3, m4⟩⟩ := h.open_
  cases e9
  obtain ⟨⟨x0, x1, x2, x3, x4, x5, x6, x7⟩, ⟨k0, k1, k2, k3, k4, k5, k6, k7⟩⟩ := X.cells
  have lb := X.lt
  have w1 : IntKind.i64.wrap ((k : Int) + 1) = (k : Int) + 1 := IntWalk.i64_in _ (by omega)
  by_cases hl : (k : Int) + 1 < (n : Int)
  · have hN : Hid (nextG p cc (k : Int) n q = ⟨p, cc, (k : Int) + 1⟩) := by unfold Hid nextG; rw [if_pos hl]
    have X1 := X.set6 (.int .i64 ((k : Int) + 1))
    have V1 := (hv.setFar (p := ⟨b, 6, none⟩) hf (.int .i64 ((k : Int) + 1))).nums (p' := p) (a' := (k : Int) + 1)
    have B1 : Below lo w (w.setCell ⟨b, 6, none⟩ (.int .i64 ((k : Int) + 1))) := (Below.refl lo w).setCell (by simpa using hlo) _
    obtain ⟨⟨y0, y1, y2, y3, y4, y5, y6, y7⟩, ⟨j0, j1, j2, j3, j4, j5, j6, j7⟩⟩ := X1.cells
    go_enter Tryz.func158, Tryz.ntmps158
    go_wp2_with fail
    go_ret
    rw [hN.out]
    exact ⟨rfl, ⟨_, _, _, _, _, X1, V1, hf⟩, B1⟩
  · have hN : Hid (nextG p cc (k : Int) n q = ⟨q, cc, 0⟩) := by unfold Hid nextG; rw [if_neg hl]
    have X1 := X.set6 (.int .i64 ((k : Int) + 1))
    have X2 := X1.set6 (.int .i64 0)
    have V1 := ((hv.setFar (p := ⟨b, 6, none⟩) hf (.int .i64 ((k : Int) + 1))).setFar (p := ⟨b, 6, none⟩) hf (.int .i64 0)).nums (p' := p) (a' := 0)
    have B1 : Below lo w ((w.setCell ⟨b, 6, none⟩ (.int .i64 ((k : Int) + 1))).setCell ⟨b, 6, none⟩ (.int .i64 0)) := ((Below.refl lo w).setCell (p := ⟨b, 6, none⟩) (by simpa using hlo) _).setCell (p := ⟨b, 6, none⟩) (by simpa using hlo) _
    obtain ⟨⟨y0, y1, y2, y3, y4, y5, y6, y7⟩, ⟨j0, j1, j2, j3, j4, j5, j6, j7⟩⟩ := X1.cells
    go_enter Tryz.func158, Tryz.ntmps158
    go_wp2_with fail
    go_ret
    rw [hN.out]
    exact ⟨rfl, ⟨_, _, _, _, _, X2, V1, hf⟩, B1⟩

set_option maxRecDepth 100000 in
set_option maxHeartbeats 2000000 in
theorem enter_any (w : World) (lo b : Nat) (hlo : lo ≤ b) (C : Cp) (G : Gp) (f : Value) (h : MachQ w lo b C G f) (q : Int) (hq : 0 ≤ q ∧ q ≤ 3) :
    Calls Tryz.prog 100 #[.pointer (some ⟨b, 0, none⟩), .int .i64 q] w fun e w' => e = .returned (.tuple #[]) ∧ MachAt w' lo b C ⟨q, G.c, G.a⟩ ∧ Below lo w w' := by
  obtain ⟨p0, cc, a⟩ := G
  obtain ⟨A0, n0, c0, A1, n1, c1, A2, n2, c2, A3, n3, c3, A4, n4, c4, p, cc, a, e9, X, hv, hf, ⟨r0, r1, r2, r3, r4⟩, ⟨l0, l1, l2, l3, l4⟩, ⟨m0, m1, m2, m3, m4⟩⟩ := h.open_
  cases e9
  obtain ⟨⟨x0, x1, x2, x3, x4, x5, x6, x7⟩, ⟨k0, k1, k2, k3, k4, k5, k6, k7⟩⟩ := X.cells
  have lb := X.lt
  by_cases q0 : q = 0
  · subst q0
    have hN : Hid (fnV 0 b = .func (.func 139) #[.pointer (some ⟨b, 0, none⟩)] #[]) := by unfold Hid fnV; simp
    have X2 := (X.set4 (.int .i64 0)).set7 (.func (.func 139) #[.pointer (some ⟨b, 0, none⟩)] #[])
    have V2 := ((hv.setFar (p := ⟨b, 4, none⟩) hf (.int .i64 0)).setFar (p := ⟨b, 7, none⟩) hf (.func (.func 139) #[.pointer (some ⟨b, 0, none⟩)] #[])).nums (p' := 0) (a' := a)
    have B2 : Below lo w ((w.setCell ⟨b, 4, none⟩ (.int .i64 0)).setCell ⟨b, 7, none⟩ (.func (.func 139) #[.pointer (some ⟨b, 0, none⟩)] #[])) := ((Below.refl lo w).setCell (p := ⟨b, 4, none⟩) (by simpa using hlo) _).setCell (p := ⟨b, 7, none⟩) (by simpa using hlo) _
    obtain ⟨⟨y0, y1, y2, y3, y4, y5, y6, y7⟩, ⟨j0, j1, j2, j3, j4, j5, j6, j7⟩⟩ := (X.set4 (.int .i64 0)).cells
    go_enter Tryz.func100, Tryz.ntmps100
    go_wp2_with fail
    go_end0
    unfold MachAt
    rw [hN.out]
    exact ⟨rfl, ⟨_, _, _, _, _, X2, V2, hf⟩, B2⟩
  by_cases q1 : q = 1
  · subst q1
    have hN : Hid (fnV 1 b = .func (.func 140) #[.pointer (some ⟨b, 0, none⟩)] #[]) := by unfold Hid fnV; simp
    have X2 := (X.set4 (.int .i64 1)).set7 (.func (.func 140) #[.pointer (some ⟨b, 0, none⟩)] #[])
    have V2 := ((hv.setFar (p := ⟨b, 4, none⟩) hf (.int .i64 1)).setFar (p := ⟨b, 7, none⟩) hf (.func (.func 140) #[.pointer (some ⟨b, 0, none⟩)] #[])).nums (p' := 1) (a' := a)
    have B2 : Below lo w ((w.setCell ⟨b, 4, none⟩ (.int .i64 1)).setCell ⟨b, 7, none⟩ (.func (.func 140) #[.pointer (some ⟨b, 0, none⟩)] #[])) := ((Below.refl lo w).setCell (p := ⟨b, 4, none⟩) (by simpa using hlo) _).setCell (p := ⟨b, 7, none⟩) (by simpa using hlo) _
    obtain ⟨⟨y0, y1, y2, y3, y4, y5, y6, y7⟩, ⟨j0, j1, j2, j3, j4, j5, j6, j7⟩⟩ := (X.set4 (.int .i64 1)).cells
    go_enter Tryz.func100, Tryz.ntmps100
    go_wp2_with fail
    go_end0
    unfold MachAt
    rw [hN.out]
    exact ⟨rfl, ⟨_, _, _, _, _, X2, V2, hf⟩, B2⟩
  by_cases q2 : q = 2
  · subst q2
    have hN : Hid (fnV 2 b = .func (.func 141) #[.pointer (some ⟨b, 0, none⟩)] #[]) := by unfold Hid fnV; simp
    have X2 := (X.set4 (.int .i64 2)).set7 (.func (.func 141) #[.pointer (some ⟨b, 0, none⟩)] #[])
    have V2 := ((hv.setFar (p := ⟨b, 4, none⟩) hf (.int .i64 2)).setFar (p := ⟨b, 7, none⟩) hf (.func (.func 141) #[.pointer (some ⟨b, 0, none⟩)] #[])).nums (p' := 2) (a' := a)
    have B2 : Below lo w ((w.setCell ⟨b, 4, none⟩ (.int .i64 2)).setCell ⟨b, 7, none⟩ (.func (.func 141) #[.pointer (some ⟨b, 0, none⟩)] #[])) := ((Below.refl lo w).setCell (p := ⟨b, 4, none⟩) (by simpa using hlo) _).setCell (p := ⟨b, 7, none⟩) (by simpa using hlo) _
    obtain ⟨⟨y0, y1, y2, y3, y4, y5, y6, y7⟩, ⟨j0, j1, j2, j3, j4, j5, j6, j7⟩⟩ := (X.set4 (.int .i64 2)).cells
    go_enter Tryz.func100, Tryz.ntmps100
    go_wp2_with fail
    go_end0
    unfold MachAt
    rw [hN.out]
    exact ⟨rfl, ⟨_, _, _, _, _, X2, V2, hf⟩, B2⟩
  · obtain rfl : q = 3 := by omega
    have hN : Hid (fnV 3 b = .func (.func 142) #[.pointer (some ⟨b, 0, none⟩)] #[]) := by unfold Hid fnV; simp
    have X2 := (X.set4 (.int .i64 3)).set7 (.func (.func 142) #[.pointer (some ⟨b, 0, none⟩)] #[])
    have V2 := ((hv.setFar (p := ⟨b, 4, none⟩) hf (.int .i64 3)).setFar (p := ⟨b, 7, none⟩) hf (.func (.func 142) #[.pointer (some ⟨b, 0, none⟩)] #[])).nums (p' := 3) (a' := a)
    have B2 : Below lo w ((w.setCell ⟨b, 4, none⟩ (.int .i64 3)).setCell ⟨b, 7, none⟩ (.func (.func 142) #[.pointer (some ⟨b, 0, none⟩)] #[])) := ((Below.refl lo w).setCell (p := ⟨b, 4, none⟩) (by simpa using hlo) _).setCell (p := ⟨b, 7, none⟩) (by simpa using hlo) _
    obtain ⟨⟨y0, y1, y2, y3, y4, y5, y6, y7⟩, ⟨j0, j1, j2, j3, j4, j5, j6, j7⟩⟩ := (X.set4 (.int .i64 3)).cells
    go_enter Tryz.func100, Tryz.ntmps100
    go_wp2_with fail
    go_end0
    unfold MachAt
    rw [hN.out]
    exact ⟨rfl, ⟨_, _, _, _, _, X2, V2, hf⟩, B2⟩
end Go.Proofs.YtfoimicbmkiigaaGreat

/- The methods of a collector's machine. -/
namespace Go.Proofs.YtfoimicbmkiigaaGreat
open Go.RowKit

theorem rootW_at {xs ts : List Int} {k : Nat} {x : Int} (hx : ts[k]? = some x) (hw : wtB xs x = true) (hb : ∀ j y, j < k → ts[j]? = some y → wtB xs y = false) : rootW xs ts = some x := by
  unfold rootW
  obtain ⟨hk, e⟩ := List.getElem?_eq_some_iff.1 hx
  rw [List.find?_eq_some_iff_getElem]
  refine ⟨hw, k, hk, e, fun j hj => ?_⟩
  rw [hb j _ hj (List.getElem?_eq_getElem (by omega))]; rfl
theorem rootW_no {xs ts : List Int} (hb : ∀ j y, j < ts.length → ts[j]? = some y → wtB xs y = false) : rootW xs ts = none := by
  unfold rootW
  rw [List.find?_eq_none]
  intro x hx hw
  obtain ⟨j, hj, e⟩ := List.getElem_of_mem hx
  rw [hb j x hj (by rw [List.getElem?_eq_getElem hj, e])] at hw
  cases hw
/-- The colors when the first root that points to a white cell is shaded. -/
def rootS (xs ts : List Int) : List Int := (rootW xs ts).elim xs (shade xs)
theorem onlyB_refl (g : Nat) (w : World) : OnlyB g w w := ⟨⟨rfl, rfl, rfl, Nat.le_refl _, fun _ _ _ => rfl⟩, rfl⟩
theorem stepG_0 (C : Cp) (cc : List Int) (a : Int) : stepG C ⟨0, cc, a⟩ = (C, ⟨1, List.replicate cc.length 0, 0⟩) := rfl
theorem stepG_1 (C : Cp) (cc : List Int) (a : Int) : stepG C ⟨1, cc, a⟩ = (C, nextG 1 (shade cc (C.h.t.getD a.toNat 0)) a C.h.t.length 2) := rfl
theorem stepG_2 (C : Cp) (cc : List Int) (a : Int) : stepG C ⟨2, cc, a⟩ = (C, markG C cc) := rfl
theorem stepG_3 (C : Cp) (cc : List Int) (a : Int) : stepG C ⟨3, cc, a⟩ = (clrS C (swI C ⟨3, cc, a⟩), nextG 3 (cc.set a.toNat 0) a cc.length 0) := rfl
theorem cell_kept {w w' : World} {g : Nat} {a : Addr} {u : Value} (h : w.cell? a = some u) (hg : w.grownBy w' (some g)) (hl : a.block < w.heap.size) (hne : a.block ≠ g) : w'.cell? a = some u := by
  unfold World.cell? at h ⊢
  rw [hg.block a.block hl (fun e => hne (Option.some.inj e))]; exact h
/-- What comes behind a step's method. -/
def MetPost (w : World) (lo b : Nat) (C : Cp) (G : Gp) (f : Value) (e : Ending) (w' : World) : Prop := e = .returned (.int .i64 (stepG C G).2.p) ∧ MachQ w' lo b (stepG C G).1 ⟨G.p, (stepG C G).2.c, (stepG C G).2.a⟩ f ∧ Below lo w w'

set_option maxRecDepth 100000 in
set_option maxHeartbeats 2000000 in
theorem shadeFirstWhite_any (w : World) (lo lo2 g n c : Nat) (xs : List Int) (h : Row w lo (.slice (some ⟨g, 0, none⟩) n c) xs) (hn : xs.length = n) (hv : ∀ x ∈ xs, 0 ≤ x ∧ x ≤ 2)
    (A2 : Option Addr) (n2 c2 : Nat) (ts : List Int) (ht : Row w lo2 (.slice A2 n2 c2) ts) (hn2 : ts.length = n2) (hm2 : n2 ≤ 9223372036854775807) (hr : Hid (∀ x ∈ ts, -1 ≤ x ∧ x < n)) :
    Calls Tryz.prog 160 #[.slice (some ⟨g, 0, none⟩) n c, .slice A2 n2 c2] w fun e w' => e = .returned (.bool (rootW xs ts).isSome) ∧ Row w' lo (.slice (some ⟨g, 0, none⟩) n c) (rootS xs ts) ∧ OnlyB g w w' := by
  go_enter Tryz.func160, Tryz.ntmps160
  go_wp2
  go_loop [9] (fun i => ∃ k : Nat, k ≤ n2 ∧ i = .int .i64 k ∧ Hid (∀ j y, j < k → ts[j]? = some y → wtB xs y = false)) (fun i => n2 - (intOf i).toNat)
  case atStart => exact ⟨0, Nat.zero_le _, rfl, fun j y hj => absurd hj (Nat.not_lt_zero _)⟩
  case round =>
    obtain ⟨k, hk, rfl, hno⟩ := hrel
    by_cases hlt : k < n2
    · obtain ⟨g2, y, rfl, _, _, hy, hcy, _⟩ := ht.get (k := k) (by omega)
      obtain ⟨hy1, hy2⟩ := hr.out y (List.mem_of_getElem? hy.out)
      have hki : (k : Int) < (n2 : Int) := by omega
      have Q := pointsToWhite_any w lo (some ⟨g, 0, none⟩) n c xs h hn y hy1 hy2
      have S := implShade_any w lo g n c xs h hn hv y hy1 hy2
      rcases ew : wtB xs y
      · rw [ew] at Q
        have hno' : Hid (∀ j y, j < k + 1 → ts[j]? = some y → wtB xs y = false) := fun j z hj hz => by
          rcases Nat.lt_succ_iff_lt_or_eq.1 hj with h9 | rfl
          · exact hno.out j z h9 hz
          · rw [hy.out] at hz; cases hz; exact ew
        clear hy hno ew S
        go_wp2_with fail
        refine Q.mono ?_; rintro e w' ⟨rfl, rfl⟩
        go_wp2_with fail
        go_round
        case rel => exact ⟨k + 1, by omega, by go_num, hno'⟩
        case measure => simp [intOf]; omega
      · rw [ew] at Q
        have hR := Lib.hid (rootW_at hy.out ew hno.out)
        clear hy hno ew
        go_wp2_with fail
        refine Q.mono ?_; rintro e w' ⟨rfl, rfl⟩
        go_wp2_with fail
        refine S.mono ?_; rintro e w2 ⟨rfl, hrow, hO⟩
        go_wp2_with fail
        go_ret
        refine ⟨by rw [hR.out]; rfl, ?_, hO⟩
        unfold rootS; rw [hR.out]; exact hrow
    · obtain rfl : k = n2 := by omega
      have hR := Lib.hid (rootW_no (xs := xs) (ts := ts) (fun j y hj hy => hno.out j y (by omega) hy))
      clear hno
      go_wp2_with fail
      go_ret
      refine ⟨by rw [hR.out]; rfl, ?_, onlyB_refl g w⟩
      unfold rootS; rw [hR.out]; exact h

set_option maxRecDepth 100000 in
set_option maxHeartbeats 2000000 in
theorem begin_any (w : World) (lo b : Nat) (hlo : lo ≤ b) (C : Cp) (G : Gp) (f : Value) (h : MachQ w lo b C G f) (hg : gcB C G = true) (hp : G.p = 0) :
    Calls Tryz.prog 139 #[.pointer (some ⟨b, 0, none⟩)] w (MetPost w lo b C G f) := by
  obtain ⟨p0, cc, a⟩ := G
  obtain ⟨A0, n0, c0, A1, n1, c1, A2, n2, c2, A3, n3, c3, A4, n4, c4, p, cc, a, e9, X, hv, hf, ⟨r0, r1, r2, r3, r4⟩, ⟨l0, l1, l2, l3, l4⟩, ⟨m0, m1, m2, m3, m4⟩⟩ := h.open_
  cases e9
  obtain ⟨⟨x0, x1, x2, x3, x4, x5, x6, x7⟩, ⟨k0, k1, k2, k3, k4, k5, k6, k7⟩⟩ := X.cells
  have lb := X.lt
  have hlw : lo ≤ w.heap.size := by omega
  obtain ⟨q1, ⟨q2, q3⟩, q4, q5, q6⟩ := gcB_sizes hg
  have hph := phB_iff.1 (gcB_iff.1 hg).2.2
  have hcol : ∀ x ∈ cc, 0 ≤ x ∧ x ≤ 2 := (cvB_parts (gcB_iff.1 hg).2.1).2.2
  have hvh : hvB C.h = true := (stoB_parts (gcB_iff.1 hg).1).1
  dsimp only at q1 q2 q3 q4 q5 q6 hph hcol hp
  have l09 := l0.out
  have l29 := l2.out
  have l49 := l4.out
  obtain ⟨g4, rfl, hg4l, hg4⟩ := r4.at_ (k := 0) (by omega)
  have nb4 : b ≠ g4 := fun e => hf.2.2.2.2 (by rw [e]; rfl)
  subst hp
  have hR : Hid (stepG C ⟨0, cc, a⟩ = (C, ⟨1, List.replicate n4 0, 0⟩)) := by unfold Hid; rw [stepG_0, l49]
  obtain rfl : a = 0 := by omega
  have K := whiteColors_any w n4 (by omega) (by omega)
  clear l09 l29 l49 q1 q2 q3 q4 q5 q6 hph hcol hvh
  go_enter Tryz.func139, Tryz.ntmps139
  go_wp2_with fail
  refine K.mono ?_; rintro e w1 ⟨B3, e3, rfl, r3n, hb1⟩
  simp only [List.length_replicate] at r3n
  have hf1 : FarG (.slice A0 n0 c0) (.slice A1 n1 c1) (.slice A2 n2 c2) (.slice A3 n3 c3) (.slice B3 n4 e3) b := ⟨hf.1, hf.2.1, hf.2.2.1, hf.2.2.2.1, own_ne r3n (by omega)⟩
  have X1 := (X.below hb1).set5 (.slice B3 n4 e3)
  have V1 := (hv.newRow hlw r3n hb1).setFar (p := ⟨b, 5, none⟩) hf1 (.slice B3 n4 e3)
  have B1 := (hb1.mono hlw).setCell (p := ⟨b, 5, none⟩) (by simpa using hlo) (.slice B3 n4 e3)
  obtain ⟨⟨x0, x1, x2, x3, x4, x5, x6, x7⟩, ⟨k0, k1, k2, k3, k4, k5, k6, k7⟩⟩ := (X.below hb1).cells
  go_wp2_with fail
  go_ret
  unfold MetPost; rw [hR.out]
  exact ⟨rfl, ⟨_, _, _, _, _, X1, V1, hf1⟩, B1⟩

set_option maxRecDepth 100000 in
set_option maxHeartbeats 4000000 in
theorem lookAtRoot_any (w : World) (lo b : Nat) (hlo : lo ≤ b) (C : Cp) (G : Gp) (f : Value) (h : MachQ w lo b C G f) (hg : gcB C G = true) (hp : G.p = 1) :
    Calls Tryz.prog 140 #[.pointer (some ⟨b, 0, none⟩)] w (MetPost w lo b C G f) := by
  obtain ⟨p0, cc, a⟩ := G
  obtain ⟨A0, n0, c0, A1, n1, c1, A2, n2, c2, A3, n3, c3, A4, n4, c4, p, cc, a, e9, X, hv, hf, ⟨r0, r1, r2, r3, r4⟩, ⟨l0, l1, l2, l3, l4⟩, ⟨m0, m1, m2, m3, m4⟩⟩ := h.open_
  cases e9
  obtain ⟨⟨x0, x1, x2, x3, x4, x5, x6, x7⟩, ⟨k0, k1, k2, k3, k4, k5, k6, k7⟩⟩ := X.cells
  have lb := X.lt
  have hlw : lo ≤ w.heap.size := by omega
  obtain ⟨q1, ⟨q2, q3⟩, q4, q5, q6⟩ := gcB_sizes hg
  have hph := phB_iff.1 (gcB_iff.1 hg).2.2
  have hcol : ∀ x ∈ cc, 0 ≤ x ∧ x ≤ 2 := (cvB_parts (gcB_iff.1 hg).2.1).2.2
  have hvh : hvB C.h = true := (stoB_parts (gcB_iff.1 hg).1).1
  dsimp only at q1 q2 q3 q4 q5 q6 hph hcol hp
  have l09 := l0.out
  have l29 := l2.out
  have l49 := l4.out
  obtain ⟨g4, rfl, hg4l, hg4⟩ := r4.at_ (k := 0) (by omega)
  have nb4 : b ≠ g4 := fun e => hf.2.2.2.2 (by rw [e]; rfl)
  subst hp
  obtain ⟨k, rfl⟩ := Int.eq_ofNat_of_zero_le (show 0 ≤ a by omega)
  have hk2 : k < n2 := by omega
  have hki : (k : Int) < (n2 : Int) := by omega
  obtain ⟨g2, x, rfl, _, hg2, hx, hcx, _⟩ := r2.get (k := k) (by omega)
  have hx1 := (hv_range hvh).2.2 x (List.mem_of_getElem? hx.out)
  have hR : Hid (stepG C ⟨1, cc, (k : Int)⟩ = (C, nextG 1 (shade cc x) (k : Int) n2 2)) := by
    unfold Hid
    rw [stepG_1]
    simp only [Int.toNat_natCast, l29, List.getD_eq_getElem?_getD, hx.out, Option.getD_some]
  have hk100 : k < 100 := by omega
  have n24g : g2 ≠ g4 := by
    obtain ⟨_, _, _, _, _, e, e', _, _, a0, a1, a2, _⟩ := hv
    cases e; cases e'
    exact fun h => a2 g2 rfl (by rw [h]; rfl)
  have K := fun W h9 => implShade_any W lo g4 n4 c4 cc h9 l49 hcol x hx1.1 (by omega)
  clear hx hx1 q1 q2 q3 q4 q5 q6 hph hvh l09 l29
  go_enter Tryz.func140, Tryz.ntmps140
  go_wp2_with fail
  go_region_held3 (fun w' => w'.cell? ⟨b, 5, none⟩ = some (.slice (some ⟨g4, 0, none⟩) n4 c4) ∧ w'.cell? ⟨b, 2, none⟩ = some (.slice (some ⟨g2, 0, none⟩) n2 c2) ∧ w'.cell? ⟨b, 6, none⟩ = some (.int .i64 (k : Int)) ∧ w'.cell? ⟨g2, k, none⟩ = some (.int .i64 x))
    (((try dsimp only); (repeat' apply And.intro) <;> (with_reducible (first | exact y5 | exact y2 | exact y6 | exact hcx1 | exact x5 | exact x2 | exact x6 | exact hcx | exact cellD x5 | exact cellD x2 | exact cellD x6 | exact cellD hcx)) <;> done))
    (first | (go_at_call 78; (with_reducible refine (K w.drew r4.drew).mono ?_); rintro e w1 ⟨rfl, hrow0, hO0⟩; (have hrow : Row w1 lo (.slice (some ⟨g4, 0, none⟩) n4 c4) (shade cc x) := hrow0); (have hO : OnlyB g4 w w1 := ⟨⟨hO0.1.os, hO0.1.tape, hO0.1.output, hO0.1.size, hO0.1.block⟩, hO0.2⟩); (have X1 := X.kept hO.1 nb4); (obtain ⟨⟨y0, y1, y2, y3, y4, y5, y6, y7⟩, _⟩ := X1.cells); (have hcx1 := cell_kept hcx hO.1 hg2 n24g)))
  try (rename_i hHeld; clear hHeld)
  have V1 := hv.recolor hO.1 hrow
  have B1 : Below lo w w1 := below_only hO hg4l hlw
  have M1 : MachQ w1 lo b C ⟨1, shade cc x, (k : Int)⟩ f := ⟨_, _, _, _, _, X1, V1, hf⟩
  have GO := goOn_any w1 lo b hlo C 1 (shade cc x) k f M1 n2 hk100 2
  clear x0 x1 x2 x3 x4 x5 x6 x7 k0 k1 k2 k3 k4 k5 k6 k7 hcx hcx1
  go_wp2_with fail
  refine GO.mono ?_; rintro e w2 ⟨rfl, M2, B2⟩
  go_wp2_with fail
  go_ret
  unfold MetPost; rw [hR.out]
  exact ⟨rfl, by rw [show (nextG 1 (shade cc x) (k : Int) n2 2).c = shade cc x from nextG_c _ _ _ _ _]; exact M2, B1.trans B2⟩

set_option maxRecDepth 100000 in
set_option maxHeartbeats 4000000 in
theorem mark_any (w : World) (lo b : Nat) (hlo : lo ≤ b) (C : Cp) (G : Gp) (f : Value) (h : MachQ w lo b C G f) (hg : gcB C G = true) (hp : G.p = 2) :
    Calls Tryz.prog 141 #[.pointer (some ⟨b, 0, none⟩)] w (MetPost w lo b C G f) := by
  obtain ⟨p0, cc, a⟩ := G
  obtain ⟨A0, n0, c0, A1, n1, c1, A2, n2, c2, A3, n3, c3, A4, n4, c4, p, cc, a, e9, X, hv, hf, ⟨r0, r1, r2, r3, r4⟩, ⟨l0, l1, l2, l3, l4⟩, ⟨m0, m1, m2, m3, m4⟩⟩ := h.open_
  cases e9
  obtain ⟨⟨x0, x1, x2, x3, x4, x5, x6, x7⟩, ⟨k0, k1, k2, k3, k4, k5, k6, k7⟩⟩ := X.cells
  have lb := X.lt
  have hlw : lo ≤ w.heap.size := by omega
  obtain ⟨q1, ⟨q2, q3⟩, q4, q5, q6⟩ := gcB_sizes hg
  have hph := phB_iff.1 (gcB_iff.1 hg).2.2
  have hcol : ∀ x ∈ cc, 0 ≤ x ∧ x ≤ 2 := (cvB_parts (gcB_iff.1 hg).2.1).2.2
  have hvh : hvB C.h = true := (stoB_parts (gcB_iff.1 hg).1).1
  dsimp only at q1 q2 q3 q4 q5 q6 hph hcol hp
  have l09 := l0.out
  have l29 := l2.out
  have l49 := l4.out
  obtain ⟨g4, rfl, hg4l, hg4⟩ := r4.at_ (k := 0) (by omega)
  have nb4 : b ≠ g4 := fun e => hf.2.2.2.2 (by rw [e]; rfl)
  subst hp
  obtain rfl : a = 0 := by omega
  have hcv := (gcB_iff.1 hg).2.1
  have hkk : Cv w lo (.agg #[.slice A0 n0 c0, .slice A1 n1 c1, .slice A2 n2 c2, .slice (some ⟨g4, 0, none⟩) n4 c4]) ⟨C.h, cc⟩ := by
    obtain ⟨_, _, _, _, _, e, e', ⟨_, _, _, _, e2, hh, _⟩, hr, a0, a1, a2, _⟩ := hv
    cases e; cases e'; cases e2
    exact ⟨_, _, _, _, rfl, hh, hr, a0, a1, a2⟩
  have KM := fun W h9 => markFirstGray_any W lo A0 A1 A2 n0 c0 n1 c1 n2 c2 g4 n4 c4 ⟨C.h, cc⟩ h9 hcv
  rcases first_cases cc 1 with h1 | ⟨j, h1, hj, hj1⟩
  · have hs : stepC ⟨C.h, cc⟩ = ⟨C.h, cc⟩ := (stepC_none h1).1
    have hm : movesB ⟨C.h, cc⟩ = false := (stepC_none h1).2
    simp only [hs, hm] at KM
    have hrt : Hid (∀ x ∈ C.h.t, -1 ≤ x ∧ x < n4) := fun x hx => by have := (hv_range hvh).2.2 x hx; omega
    have Q := fun W h8 h9 => shadeFirstWhite_any W lo lo g4 n4 c4 cc h8 l49 hcol A2 n2 c2 C.h.t h9 l29 m2 hrt
    have hR : Hid (stepG C ⟨2, cc, 0⟩ = (C, ⟨if (rootW cc C.h.t).isSome = true then 2 else 3, rootS cc C.h.t, 0⟩)) := by
      unfold Hid
      rw [stepG_2]
      unfold markG rootS
      rw [if_pos h1]
      rcases rootW cc C.h.t with _ | y <;> rfl
    clear h1 hs hm q1 q2 q3 q4 q5 q6 hph hvh l09 l29 hg hcv
    generalize hos : (rootW cc C.h.t).isSome = os at Q hR
    clear hos
    have ng4 : ∀ (v : Value), Apart v (.slice (some ⟨g4, 0, none⟩) n4 c4) → v.ownBlock = none ∨ v.ownBlock ≠ some g4 := fun v ap => .inr fun e => ap g4 e rfl
    have ap2 : Apart (.slice A2 n2 c2) (.slice (some ⟨g4, 0, none⟩) n4 c4) := by
      obtain ⟨_, _, _, _, _, e, e', _, _, a0, a1, a2, _⟩ := hv
      cases e; cases e'; exact a2
    go_enter Tryz.func141, Tryz.ntmps141
    go_wp2_with fail
    go_region_held3 (fun w' => w'.cell? ⟨b, 0, none⟩ = some (.slice A0 n0 c0) ∧ w'.cell? ⟨b, 1, none⟩ = some (.slice A1 n1 c1) ∧ w'.cell? ⟨b, 2, none⟩ = some (.slice A2 n2 c2) ∧ w'.cell? ⟨b, 5, none⟩ = some (.slice (some ⟨g4, 0, none⟩) n4 c4))
      (((try dsimp only); (repeat' apply And.intro) <;> (with_reducible (first | exact z0 | exact z1 | exact z2 | exact z5 | exact y0 | exact y1 | exact y2 | exact y5 | exact x0 | exact x1 | exact x2 | exact x5 | exact cellD x0 | exact cellD x1 | exact cellD x2 | exact cellD x5)) <;> done))
      (first
        | (go_at_call 159; (with_reducible refine (KM w.drew hkk.drew).mono ?_); rintro e w1 ⟨rfl, hc1, hO0⟩; (have hO1 : w.grownBy w1 (some g4) := ⟨hO0.os, hO0.tape, hO0.output, hO0.size, hO0.block⟩); (have X1 := X.kept hO1 nb4); (obtain ⟨⟨y0, y1, y2, y3, y4, y5, y6, y7⟩, _⟩ := X1.cells); (have V1 := hv.recolor hO1 (Cv.last hc1).1); (have T1 := r2.kept hO1 (ng4 _ ap2)))
        | (go_at_call 160; (with_reducible refine (Q w1 (Cv.last hc1).1 T1).mono ?_); rintro e w2 ⟨rfl, hrow, hO2⟩; (have X2 := X1.kept hO2.1 nb4); (obtain ⟨⟨z0, z1, z2, z3, z4, z5, z6, z7⟩, _⟩ := X2.cells); (have V2 := V1.recolor hO2.1 hrow)))
    try (rename_i hHeld; clear hHeld)
    have B2 : Below lo w w2 := (below_row' hO1 hg4l hlw).trans (below_only hO2 hg4l (Nat.le_trans hlw hO1.size))
    clear x0 x1 x2 x3 x4 x5 x6 x7 k0 k1 k2 k3 k4 k5 k6 k7 y0 y1 y2 y3 y4 y5 y6 y7 z0 z1 z2 z3 z4 z5 z6 z7
    cases os
    · go_wp2_with fail
      go_ret
      unfold MetPost; rw [hR.out]
      exact ⟨rfl, ⟨_, _, _, _, _, X2, V2, hf⟩, B2⟩
    · go_wp2_with fail
      go_ret
      unfold MetPost; rw [hR.out]
      exact ⟨rfl, ⟨_, _, _, _, _, X2, V2, hf⟩, B2⟩
  · have hs : stepC ⟨C.h, cc⟩ = ⟨C.h, blackC C.h cc j⟩ := (stepC_some h1).1
    have hm : movesB ⟨C.h, cc⟩ = true := (stepC_some h1).2
    simp only [hs, hm] at KM
    have hR : Hid (stepG C ⟨2, cc, 0⟩ = (C, ⟨2, blackC C.h cc j, 0⟩)) := by
      unfold Hid
      rw [stepG_2]
      unfold markG
      rw [if_neg (by rw [h1]; omega), h1]
      simp
    clear h1 hs hm q1 q2 q3 q4 q5 q6 hph hvh l09 l29 l49 hg hcv hj hj1
    go_enter Tryz.func141, Tryz.ntmps141
    go_wp2_with fail
    refine wp_region_held_drew (S := fun w' => w'.cell? ⟨b, 0, none⟩ = some (.slice A0 n0 c0) ∧ w'.cell? ⟨b, 1, none⟩ = some (.slice A1 n1 c1) ∧ w'.cell? ⟨b, 2, none⟩ = some (.slice A2 n2 c2) ∧ w'.cell? ⟨b, 5, none⟩ = some (.slice (some ⟨g4, 0, none⟩) n4 c4)) (by kernel_rfl) ?_ (fun hHeldm => ?_)
    · exact ⟨cellD x0, cellD x1, cellD x2, cellD x5⟩
    refine wpAnyH_take (i := 0) (oi := ?oim0) (v := ?vm0) ?him0 (by kernel_rfl) (by kernel_rfl) (by kernel_rfl) ?hQm0 ?hym0 (by assumption) ?_
    case him0 => simp only [List.getElem?_toArray, List.getElem?_cons_zero]; rfl
    case hQm0 => exact fun _ _ _ h => h
    case hym0 => refine Or.inl ⟨by rfl, ?_⟩; intro w9 hSw; (try dsimp only at hSw); go_simp; (try with_reducible rfl)
    try simp only [Act.put, List.setIfInBounds_toArray, List.set_cons_zero, List.set_cons_succ]
    refine wpAnyH_take (i := 1) (oi := ?oim1) (v := ?vm1) ?him1 (by kernel_rfl) (by kernel_rfl) (by kernel_rfl) ?hQm1 ?hym1 (by assumption) ?_
    case him1 => simp only [List.getElem?_toArray, List.getElem?_cons_zero, List.getElem?_cons_succ]; rfl
    case hQm1 => exact fun _ _ _ h => h
    case hym1 => refine Or.inl ⟨by rfl, ?_⟩; intro w9 hSw; (try dsimp only at hSw); go_simp; (try with_reducible rfl)
    try simp only [Act.put, List.setIfInBounds_toArray, List.set_cons_zero, List.set_cons_succ]
    refine wpAnyH_take (i := 2) (oi := ?oim2) (v := ?vm2) ?him2 (by kernel_rfl) (by kernel_rfl) (by kernel_rfl) ?hQm2 ?hym2 (by assumption) ?_
    case him2 => simp only [List.getElem?_toArray, List.getElem?_cons_zero, List.getElem?_cons_succ]; rfl
    case hQm2 => exact fun _ _ _ h => h
    case hym2 => refine Or.inl ⟨by rfl, ?_⟩; intro w9 hSw; (try dsimp only at hSw); go_simp; (try with_reducible rfl)
    try simp only [Act.put, List.setIfInBounds_toArray, List.set_cons_zero, List.set_cons_succ]
    refine wpAnyH_take (i := 3) (oi := ?oim3) (v := ?vm3) ?him3 (by kernel_rfl) (by kernel_rfl) (by kernel_rfl) ?hQm3 ?hym3 (by assumption) ?_
    case him3 => simp only [List.getElem?_toArray, List.getElem?_cons_zero, List.getElem?_cons_succ]; rfl
    case hQm3 => exact fun _ _ _ h => h
    case hym3 => refine Or.inl ⟨by rfl, ?_⟩; intro w9 hSw; (try dsimp only at hSw); go_simp; (try with_reducible rfl)
    try simp only [Act.put, List.setIfInBounds_toArray, List.set_cons_zero, List.set_cons_succ]
    refine wpAnyH_take (i := 4) (oi := ?oim4) (v := ?vm4) ?him4 (by kernel_rfl) (by kernel_rfl) (by kernel_rfl) ?hQm4 ?hym4 (by assumption) ?_
    case him4 => simp only [List.getElem?_toArray, List.getElem?_cons_zero, List.getElem?_cons_succ]; rfl
    case hQm4 => exact fun _ _ _ h => h
    case hym4 => refine Or.inl ⟨by rfl, ?_⟩; intro w9 hSw; (try dsimp only at hSw); go_simp; (try with_reducible rfl)
    try simp only [Act.put, List.setIfInBounds_toArray, List.set_cons_zero, List.set_cons_succ]
    refine wpAnyH_take (i := 5) (oi := ?oim5) (v := ?vm5) ?him5 (by kernel_rfl) (by kernel_rfl) (by kernel_rfl) ?hQm5 ?hym5 (by assumption) ?_
    case him5 => simp only [List.getElem?_toArray, List.getElem?_cons_zero, List.getElem?_cons_succ]; rfl
    case hQm5 => exact fun _ _ _ h => h
    case hym5 => refine Or.inl ⟨by rfl, ?_⟩; intro w9 hSw; (try dsimp only at hSw); go_simp; (try with_reducible rfl)
    try simp only [Act.put, List.setIfInBounds_toArray, List.set_cons_zero, List.set_cons_succ]
    refine wpAnyH_take (i := 6) (oi := ?oim6) (v := ?vm6) ?him6 (by kernel_rfl) (by kernel_rfl) (by kernel_rfl) ?hQm6 ?hym6 (by assumption) ?_
    case him6 => simp only [List.getElem?_toArray, List.getElem?_cons_zero, List.getElem?_cons_succ]; rfl
    case hQm6 => exact fun _ _ _ h => h
    case hym6 => refine Or.inl ⟨by rfl, ?_⟩; intro w9 hSw; (try dsimp only at hSw); go_simp; (try with_reducible rfl)
    try simp only [Act.put, List.setIfInBounds_toArray, List.set_cons_zero, List.set_cons_succ]
    refine wpAnyH_take (i := 7) (oi := ?oim7) (v := ?vm7) ?him7 (by kernel_rfl) (by kernel_rfl) (by kernel_rfl) ?hQm7 ?hym7 (by assumption) ?_
    case him7 => simp only [List.getElem?_toArray, List.getElem?_cons_zero, List.getElem?_cons_succ]; rfl
    case hQm7 => exact fun _ _ _ h => h
    case hym7 => refine Or.inl ⟨by rfl, ?_⟩; intro w9 hSw; (try dsimp only at hSw); go_simp; (try with_reducible rfl)
    try simp only [Act.put, List.setIfInBounds_toArray, List.set_cons_zero, List.set_cons_succ]
    refine wpAnyH_take (i := 8) (oi := ?oim8) (v := ?vm8) ?him8 (by kernel_rfl) (by kernel_rfl) (by kernel_rfl) ?hQm8 ?hym8 (by assumption) ?_
    case him8 => simp only [List.getElem?_toArray, List.getElem?_cons_zero, List.getElem?_cons_succ]; rfl
    case hQm8 => exact fun _ _ _ h => h
    case hym8 => refine Or.inl ⟨by rfl, ?_⟩; intro w9 hSw; (try dsimp only at hSw); go_simp; (try with_reducible rfl)
    try simp only [Act.put, List.setIfInBounds_toArray, List.set_cons_zero, List.set_cons_succ]
    refine wpAnyH_take (i := 9) (oi := ?oim9) (v := ?vm9) ?him9 (by kernel_rfl) (by kernel_rfl) (by kernel_rfl) ?hQm9 ?hym9 (by assumption) ?_
    case him9 => simp only [List.getElem?_toArray, List.getElem?_cons_zero, List.getElem?_cons_succ]; rfl
    case hQm9 => exact fun _ _ _ h => h
    case hym9 => refine Or.inl ⟨by rfl, ?_⟩; intro w9 hSw; (try dsimp only at hSw); go_simp; (try with_reducible rfl)
    try simp only [Act.put, List.setIfInBounds_toArray, List.set_cons_zero, List.set_cons_succ]
    refine wpAnyH_ready (rs := [10]) (by kernel_rfl) (by simp) ?_
    refine AllReadyH.cons (o := ?oom10) ?hom10 (fun K hK => ?_) AllReadyH.nil
    case hom10 => simp only [List.getElem?_toArray, List.getElem?_cons_zero, List.getElem?_cons_succ]; rfl
    go_simp
    refine (KM w.drew hkk.drew).mono ?_; rintro e w1 ⟨rfl, hc1, hO0⟩
    have hO1 : w.grownBy w1 (some g4) := ⟨hO0.os, hO0.tape, hO0.output, hO0.size, hO0.block⟩
    have X1 := X.kept hO1 nb4
    obtain ⟨⟨y0, y1, y2, y3, y4, y5, y6, y7⟩, _⟩ := X1.cells
    have V1 := hv.recolor hO1 (Cv.last hc1).1
    go_wp2_with fail
    refine hK.out _ _ ?hSm10 (fun hHeldm10 => ?_)
    case hSm10 => exact ⟨y0, y1, y2, y5⟩
    clear hK K
    try simp only [Act.put, List.setIfInBounds_toArray, List.set_cons_zero, List.set_cons_succ]
    refine wpAnyH_take (i := 11) (oi := ?oim11) (v := ?vm11) ?him11 (by kernel_rfl) (by kernel_rfl) (by kernel_rfl) ?hQm11 ?hym11 (by assumption) ?_
    case him11 => simp only [List.getElem?_toArray, List.getElem?_cons_zero, List.getElem?_cons_succ]; rfl
    case hQm11 => exact fun _ _ _ h => h
    case hym11 => refine Or.inl ⟨by rfl, ?_⟩; intro w9 hSw; (try dsimp only at hSw); go_simp; (try with_reducible rfl)
    try simp only [Act.put, List.setIfInBounds_toArray, List.set_cons_zero, List.set_cons_succ]
    refine wpAnyH_take (i := 12) (oi := ?oim12) (v := undef) ?him12 (by kernel_rfl) (by kernel_rfl) (by kernel_rfl) ?hQm12 ?hym12 (by assumption) ?_
    case him12 => simp only [List.getElem?_toArray, List.getElem?_cons_zero, List.getElem?_cons_succ]; rfl
    case hQm12 => exact fun _ _ _ h => h
    case hym12 => exact Or.inr ⟨by rfl, rfl⟩
    try simp only [Act.put, List.setIfInBounds_toArray, List.set_cons_zero, List.set_cons_succ]
    refine wpAnyH_take (i := 13) (oi := ?oim13) (v := undef) ?him13 (by kernel_rfl) (by kernel_rfl) (by kernel_rfl) ?hQm13 ?hym13 (by assumption) ?_
    case him13 => simp only [List.getElem?_toArray, List.getElem?_cons_zero, List.getElem?_cons_succ]; rfl
    case hQm13 => exact fun _ _ _ h => h
    case hym13 => exact Or.inr ⟨by rfl, rfl⟩
    try simp only [Act.put, List.setIfInBounds_toArray, List.set_cons_zero, List.set_cons_succ]
    refine wpAnyH_take (i := 14) (oi := ?oim14) (v := undef) ?him14 (by kernel_rfl) (by kernel_rfl) (by kernel_rfl) ?hQm14 ?hym14 (by assumption) ?_
    case him14 => simp only [List.getElem?_toArray, List.getElem?_cons_zero, List.getElem?_cons_succ]; rfl
    case hQm14 => exact fun _ _ _ h => h
    case hym14 => exact Or.inr ⟨by rfl, rfl⟩
    try simp only [Act.put, List.setIfInBounds_toArray, List.set_cons_zero, List.set_cons_succ]
    refine wpAnyH_take (i := 15) (oi := ?oim15) (v := undef) ?him15 (by kernel_rfl) (by kernel_rfl) (by kernel_rfl) ?hQm15 ?hym15 (by assumption) ?_
    case him15 => simp only [List.getElem?_toArray, List.getElem?_cons_zero, List.getElem?_cons_succ]; rfl
    case hQm15 => exact fun _ _ _ h => h
    case hym15 => exact Or.inr ⟨by rfl, rfl⟩
    try simp only [Act.put, List.setIfInBounds_toArray, List.set_cons_zero, List.set_cons_succ]
    refine wpAnyH_take (i := 16) (oi := ?oim16) (v := undef) ?him16 (by kernel_rfl) (by kernel_rfl) (by kernel_rfl) ?hQm16 ?hym16 (by assumption) ?_
    case him16 => simp only [List.getElem?_toArray, List.getElem?_cons_zero, List.getElem?_cons_succ]; rfl
    case hQm16 => exact fun _ _ _ h => h
    case hym16 => exact Or.inr ⟨by rfl, rfl⟩
    try simp only [Act.put, List.setIfInBounds_toArray, List.set_cons_zero, List.set_cons_succ]
    refine wpAnyH_take (i := 17) (oi := ?oim17) (v := undef) ?him17 (by kernel_rfl) (by kernel_rfl) (by kernel_rfl) ?hQm17 ?hym17 (by assumption) ?_
    case him17 => simp only [List.getElem?_toArray, List.getElem?_cons_zero, List.getElem?_cons_succ]; rfl
    case hQm17 => exact fun _ _ _ h => h
    case hym17 => exact Or.inr ⟨by rfl, rfl⟩
    try simp only [Act.put, List.setIfInBounds_toArray, List.set_cons_zero, List.set_cons_succ]
    refine wpAnyH_take (i := 18) (oi := ?oim18) (v := undef) ?him18 (by kernel_rfl) (by kernel_rfl) (by kernel_rfl) ?hQm18 ?hym18 (by assumption) ?_
    case him18 => simp only [List.getElem?_toArray, List.getElem?_cons_zero, List.getElem?_cons_succ]; rfl
    case hQm18 => exact fun _ _ _ h => h
    case hym18 => exact Or.inr ⟨by rfl, rfl⟩
    try simp only [Act.put, List.setIfInBounds_toArray, List.set_cons_zero, List.set_cons_succ]
    refine wpAnyH_take (i := 19) (oi := ?oim19) (v := undef) ?him19 (by kernel_rfl) (by kernel_rfl) (by kernel_rfl) ?hQm19 ?hym19 (by assumption) ?_
    case him19 => simp only [List.getElem?_toArray, List.getElem?_cons_zero, List.getElem?_cons_succ]; rfl
    case hQm19 => exact fun _ _ _ h => h
    case hym19 => exact Or.inr ⟨by rfl, rfl⟩
    try simp only [Act.put, List.setIfInBounds_toArray, List.set_cons_zero, List.set_cons_succ]
    refine wpAnyH_take (i := 20) (oi := ?oim20) (v := undef) ?him20 (by kernel_rfl) (by kernel_rfl) (by kernel_rfl) ?hQm20 ?hym20 (by assumption) ?_
    case him20 => simp only [List.getElem?_toArray, List.getElem?_cons_zero, List.getElem?_cons_succ]; rfl
    case hQm20 => exact fun _ _ _ h => h
    case hym20 => exact Or.inr ⟨by rfl, rfl⟩
    try simp only [Act.put, List.setIfInBounds_toArray, List.set_cons_zero, List.set_cons_succ]
    refine wpAnyH_take (i := 21) (oi := ?oim21) (v := undef) ?him21 (by kernel_rfl) (by kernel_rfl) (by kernel_rfl) ?hQm21 ?hym21 (by assumption) ?_
    case him21 => simp only [List.getElem?_toArray, List.getElem?_cons_zero, List.getElem?_cons_succ]; rfl
    case hQm21 => exact fun _ _ _ h => h
    case hym21 => exact Or.inr ⟨by rfl, rfl⟩
    try simp only [Act.put, List.setIfInBounds_toArray, List.set_cons_zero, List.set_cons_succ]
    refine wpAnyH_take (i := 22) (oi := ?oim22) (v := undef) ?him22 (by kernel_rfl) (by kernel_rfl) (by kernel_rfl) ?hQm22 ?hym22 (by assumption) ?_
    case him22 => simp only [List.getElem?_toArray, List.getElem?_cons_zero, List.getElem?_cons_succ]; rfl
    case hQm22 => exact fun _ _ _ h => h
    case hym22 => exact Or.inr ⟨by rfl, rfl⟩
    try simp only [Act.put, List.setIfInBounds_toArray, List.set_cons_zero, List.set_cons_succ]
    refine wpAnyH_take (i := 23) (oi := ?oim23) (v := undef) ?him23 (by kernel_rfl) (by kernel_rfl) (by kernel_rfl) ?hQm23 ?hym23 (by assumption) ?_
    case him23 => simp only [List.getElem?_toArray, List.getElem?_cons_zero, List.getElem?_cons_succ]; rfl
    case hQm23 => exact fun _ _ _ h => h
    case hym23 => exact Or.inr ⟨by rfl, rfl⟩
    try simp only [Act.put, List.setIfInBounds_toArray, List.set_cons_zero, List.set_cons_succ]
    refine wpAnyH_take (i := 24) (oi := ?oim24) (v := ?vm24) ?him24 (by kernel_rfl) (by kernel_rfl) (by kernel_rfl) ?hQm24 ?hym24 (by assumption) ?_
    case him24 => simp only [List.getElem?_toArray, List.getElem?_cons_zero, List.getElem?_cons_succ]; rfl
    case hQm24 => exact fun _ _ _ h => h
    case hym24 => refine Or.inl ⟨by rfl, ?_⟩; intro w9 hSw; (try dsimp only at hSw); go_simp; (try with_reducible rfl)
    try simp only [Act.put, List.setIfInBounds_toArray, List.set_cons_zero, List.set_cons_succ]
    refine wpAnyH_done (by kernel_rfl) ?_ _
    have B2 : Below lo w w1 := below_row' hO1 hg4l hlw
    clear x0 x1 x2 x3 x4 x5 x6 x7 k0 k1 k2 k3 k4 k5 k6 k7
    go_wp2_with fail
    go_ret
    unfold MetPost; rw [hR.out]
    exact ⟨rfl, ⟨_, _, _, _, _, X1, V1, hf⟩, B2⟩

set_option maxRecDepth 100000 in
set_option maxHeartbeats 6000000 in
theorem sweep_any (w : World) (lo b : Nat) (hlo : lo ≤ b) (C : Cp) (G : Gp) (f : Value) (h : MachQ w lo b C G f) (hg : gcB C G = true) (hp : G.p = 3) :
    Calls Tryz.prog 142 #[.pointer (some ⟨b, 0, none⟩)] w (MetPost w lo b C G f) := by
  obtain ⟨p0, cc, a⟩ := G
  obtain ⟨A0, n0, c0, A1, n1, c1, A2, n2, c2, A3, n3, c3, A4, n4, c4, p, cc, a, e9, X, hv, hf, ⟨r0, r1, r2, r3, r4⟩, ⟨l0, l1, l2, l3, l4⟩, ⟨m0, m1, m2, m3, m4⟩⟩ := h.open_
  cases e9
  obtain ⟨⟨x0, x1, x2, x3, x4, x5, x6, x7⟩, ⟨k0, k1, k2, k3, k4, k5, k6, k7⟩⟩ := X.cells
  have lb := X.lt
  have hlw : lo ≤ w.heap.size := by omega
  obtain ⟨q1, ⟨q2, q3⟩, q4, q5, q6⟩ := gcB_sizes hg
  have hph := phB_iff.1 (gcB_iff.1 hg).2.2
  have hcol : ∀ x ∈ cc, 0 ≤ x ∧ x ≤ 2 := (cvB_parts (gcB_iff.1 hg).2.1).2.2
  have hvh : hvB C.h = true := (stoB_parts (gcB_iff.1 hg).1).1
  dsimp only at q1 q2 q3 q4 q5 q6 hph hcol hp
  have l09 := l0.out
  have l29 := l2.out
  have l49 := l4.out
  obtain ⟨g4, rfl, hg4l, hg4⟩ := r4.at_ (k := 0) (by omega)
  have nb4 : b ≠ g4 := fun e => hf.2.2.2.2 (by rw [e]; rfl)
  subst hp
  obtain ⟨k, rfl⟩ := Int.eq_ofNat_of_zero_le (show 0 ≤ a by omega)
  have hk4 : k < n4 := by omega
  have hki : (k : Int) < (n4 : Int) := by omega
  have hSO : swO C ⟨3, cc, (k : Int)⟩ = swI C ⟨3, cc, (k : Int)⟩ := by unfold swO; rw [if_pos hg]
  have hR0 : stepG C ⟨3, cc, (k : Int)⟩ = (clrS C (swI C ⟨3, cc, (k : Int)⟩), nextG 3 (cc.set k 0) (k : Int) n4 0) := by
    rw [stepG_3]
    simp only [Int.toNat_natCast, l49]
  have K := fun W h9 => implSwept_any W lo (.agg #[.slice A0 n0 c0, .slice A1 n1 c1, .slice A2 n2 c2, .slice A3 n3 c3]) (.agg #[.int .i64 3, .slice (some ⟨g4, 0, none⟩) n4 c4, .int .i64 (k : Int)]) C ⟨3, cc, (k : Int)⟩ h9
  simp only [hSO] at K
  have hlen := (stoB_parts (gcB_iff.1 hg).1).2.1
  have hk0 : k < C.h.l.length := by omega
  have hkn : k < cc.length := by omega
  have hk100 : k < 100 := by omega
  have c16 : C.c.length ≤ 16 := by omega
  have KW := fun W h9 => implWith_any W lo (.agg #[.slice A0 n0 c0, .slice A1 n1 c1, .slice A2 n2 c2, .slice A3 n3 c3]) C h9 hvh c16 k hk0
  rcases swI_cases C ⟨3, cc, (k : Int)⟩ with hs | ⟨hs, _⟩
  · simp only [hs] at K
    have hR : Hid (stepG C ⟨3, cc, (k : Int)⟩ = (C, nextG 3 (cc.set k 0) (k : Int) n4 0)) := by unfold Hid; rw [hR0, hs]; rfl
    clear hs hR0 hSO q1 q2 q3 q4 q5 q6 hph hvh l09 l29 hg KW hlen c16 hk0 hcol
    go_enter Tryz.func142, Tryz.ntmps142
    go_wp2_with fail
    go_region_held3 (fun w' => w'.cell? ⟨b, 0, none⟩ = some (.slice A0 n0 c0) ∧ w'.cell? ⟨b, 1, none⟩ = some (.slice A1 n1 c1) ∧ w'.cell? ⟨b, 2, none⟩ = some (.slice A2 n2 c2) ∧ w'.cell? ⟨b, 3, none⟩ = some (.slice A3 n3 c3) ∧ w'.cell? ⟨b, 4, none⟩ = some (.int .i64 3) ∧ w'.cell? ⟨b, 5, none⟩ = some (.slice (some ⟨g4, 0, none⟩) n4 c4) ∧ w'.cell? ⟨b, 6, none⟩ = some (.int .i64 (k : Int)))
      (((try dsimp only); (repeat' apply And.intro) <;> (with_reducible (first | exact y0 | exact y1 | exact y2 | exact y3 | exact y4 | exact y5 | exact y6 | exact x0 | exact x1 | exact x2 | exact x3 | exact x4 | exact x5 | exact x6 | exact cellD x0 | exact cellD x1 | exact cellD x2 | exact cellD x3 | exact cellD x4 | exact cellD x5 | exact cellD x6)) <;> done))
      (first | (go_at_call 19; (with_reducible refine (K w.drew hv.drew).mono ?_); rintro e w1 ⟨rfl, hb0⟩; (have hb1 : Below w.heap.size w w1 := (Below.refl w.heap.size w).drew.trans (hb0.mono (Nat.le_refl _))); (have X1 := X.below hb1); (obtain ⟨⟨y0, y1, y2, y3, y4, y5, y6, y7⟩, _⟩ := X1.cells); (have V1 := hv.below hb1); (have R1 := r4.below hb1)))
    try (rename_i hHeld; clear hHeld)
    have B1 := hb1.mono hlw
    clear x0 x1 x2 x3 x4 x5 x6 x7 k0 k1 k2 k3 k4 k5 k6 k7 y0 y1 y2 y3 y4 y5 y6 y7
    obtain ⟨_, xk, e8, _, _, _, hck, hfk⟩ := R1.get (k := k) (by omega)
    cases e8
    obtain ⟨⟨z0, z1, z2, z3, z4, z5, z6, z7⟩, ⟨t0, t1, t2, t3, t4, t5, t6, t7⟩⟩ := X1.cells
    go_wp2_with fail
    go_region
    have X6 : Blk8 (w1.setCell ⟨g4, k, none⟩ (.int .i64 0)).drew b _ _ _ _ _ _ _ _ _ := (X1.other (p := ⟨g4, k, none⟩) nb4 (.int .i64 0)).drew
    have hgr : w1.grownBy (w1.setCell ⟨g4, k, none⟩ (.int .i64 0)).drew (some g4) := grown_drew (grown_set ⟨rfl, rfl, rfl, Nat.le_refl _, fun _ _ _ => rfl⟩ (.inl rfl) _)
    have V6 := V1.recolor hgr (R1.set_ k 0)
    have B6 := (B1.setCell (p := ⟨g4, k, none⟩) hg4l (.int .i64 0)).drew
    have GO := goOn_any _ lo b hlo _ 3 (cc.set k 0) k f ⟨_, _, _, _, _, X6, V6, hf⟩ n4 hk100 0
    obtain ⟨⟨u0, u1, u2, u3, u4, u5, u6, u7⟩, _⟩ := X6.cells
    clear z0 z1 z2 z3 z4 z5 z6 z7 t0 t1 t2 t3 t4 t5 t6 t7 hck hfk
    go_wp2_with fail
    refine GO.mono ?_; rintro e w7 ⟨rfl, M7, B7⟩
    go_wp2_with fail
    go_ret
    unfold MetPost; rw [hR.out]
    exact ⟨rfl, by rw [show (nextG 3 (cc.set k 0) (k : Int) n4 0).c = cc.set k 0 from nextG_c _ _ _ _ _]; exact M7, B6.trans B7⟩
  · dsimp only at hs
    simp only [hs] at K
    have hk1 : ((k : Int) != -1) = true := by simp only [bne, Bool.not_eq_true', beq_eq_false_iff_ne]; omega
    have hR : Hid (stepG C ⟨3, cc, (k : Int)⟩ = (clearC C [(k : Int)], nextG 3 (cc.set k 0) (k : Int) n4 0)) := by unfold Hid; rw [hR0, hs]; unfold clrS; rw [if_neg (by omega)]
    clear hs hR0 hSO q1 q2 q3 q4 q5 q6 hph hvh l09 l29 hg hlen c16 hk0 hcol
    go_enter Tryz.func142, Tryz.ntmps142
    go_wp2_with fail
    go_region_held3 (fun w' => w'.cell? ⟨b, 0, none⟩ = some (.slice A0 n0 c0) ∧ w'.cell? ⟨b, 1, none⟩ = some (.slice A1 n1 c1) ∧ w'.cell? ⟨b, 2, none⟩ = some (.slice A2 n2 c2) ∧ w'.cell? ⟨b, 3, none⟩ = some (.slice A3 n3 c3) ∧ w'.cell? ⟨b, 4, none⟩ = some (.int .i64 3) ∧ w'.cell? ⟨b, 5, none⟩ = some (.slice (some ⟨g4, 0, none⟩) n4 c4) ∧ w'.cell? ⟨b, 6, none⟩ = some (.int .i64 (k : Int)))
      (((try dsimp only); (repeat' apply And.intro) <;> (with_reducible (first | exact y0 | exact y1 | exact y2 | exact y3 | exact y4 | exact y5 | exact y6 | exact x0 | exact x1 | exact x2 | exact x3 | exact x4 | exact x5 | exact x6 | exact cellD x0 | exact cellD x1 | exact cellD x2 | exact cellD x3 | exact cellD x4 | exact cellD x5 | exact cellD x6)) <;> done))
      (first | (go_at_call 19; (with_reducible refine (K w.drew hv.drew).mono ?_); rintro e w1 ⟨rfl, hb0⟩; (have hb1 : Below w.heap.size w w1 := (Below.refl w.heap.size w).drew.trans (hb0.mono (Nat.le_refl _))); (have X1 := X.below hb1); (obtain ⟨⟨y0, y1, y2, y3, y4, y5, y6, y7⟩, _⟩ := X1.cells); (have V1 := hv.below hb1); (have R1 := r4.below hb1)))
    try (rename_i hHeld; clear hHeld)
    have B1 := hb1.mono hlw
    clear x0 x1 x2 x3 x4 x5 x6 x7 k0 k1 k2 k3 k4 k5 k6 k7
    go_wp2_with fail
    refine (KW _ V1.cv).mono ?_; rintro e w2 ⟨vv, rfl, hD, hb2⟩
    have hDo := hD
    obtain ⟨D0, i0, d0, D1, i1, d1, D2, i2, d2, D3, i3, d3, rfl, _, ⟨s0, s1, s2, s3⟩, _⟩ := hDo.open_
    have z12 := hb1.size
    have lb1 : b < w1.heap.size := by omega
    have hf2 : FarG (.slice D0 i0 d0) (.slice D1 i1 d1) (.slice D2 i2 d2) (.slice D3 i3 d3) (.slice (some ⟨g4, 0, none⟩) n4 c4) b := ⟨own_ne s0 lb1, own_ne s1 lb1, own_ne s2 lb1, own_ne s3 lb1, hf.2.2.2.2⟩
    have V2 := V1.newStore (by omega) hD hb2
    have X2 := X1.below hb2
    obtain ⟨⟨y0, y1, y2, y3, y4, y5, y6, y7⟩, ⟨t0, t1, t2, t3, t4, t5, t6, t7⟩⟩ := X2.cells
    have X3 := X2.set03 (.slice D0 i0 d0) (.slice D1 i1 d1) (.slice D2 i2 d2) (.slice D3 i3 d3)
    have V3 := (((V2.setFar (p := ⟨b, 0, none⟩) hf2 (.slice D0 i0 d0)).setFar (p := ⟨b, 1, none⟩) hf2 (.slice D1 i1 d1)).setFar (p := ⟨b, 2, none⟩) hf2 (.slice D2 i2 d2)).setFar (p := ⟨b, 3, none⟩) hf2 (.slice D3 i3 d3)
    have R3 := ((((R1.below hb2).other (a := ⟨b, 0, none⟩) hf.2.2.2.2 (.slice D0 i0 d0)).other (a := ⟨b, 1, none⟩) hf.2.2.2.2 (.slice D1 i1 d1)).other (a := ⟨b, 2, none⟩) hf.2.2.2.2 (.slice D2 i2 d2)).other (a := ⟨b, 3, none⟩) hf.2.2.2.2 (.slice D3 i3 d3)
    have B2 : Below lo w w2 := B1.trans (hb2.mono (by omega))
    have B3 := (((B2.setCell (p := ⟨b, 0, none⟩) (by simpa using hlo) (.slice D0 i0 d0)).setCell (p := ⟨b, 1, none⟩) (by simpa using hlo) (.slice D1 i1 d1)).setCell (p := ⟨b, 2, none⟩) (by simpa using hlo) (.slice D2 i2 d2)).setCell (p := ⟨b, 3, none⟩) (by simpa using hlo) (.slice D3 i3 d3)
    clear hD hDo s0 s1 s2 s3 V2
    obtain ⟨⟨z0, z1, z2, z3, z4, z5, z6, z7⟩, ⟨t0, t1, t2, t3, t4, t5, t6, t7⟩⟩ := X3.cells
    obtain ⟨_, xk, e8, _, _, _, hck, hfk⟩ := R3.get (k := k) (by omega)
    cases e8
    go_wp2_with fail
    generalize (((w2.setCell ⟨b, 0, none⟩ (.slice D0 i0 d0)).setCell ⟨b, 1, none⟩ (.slice D1 i1 d1)).setCell ⟨b, 2, none⟩ (.slice D2 i2 d2)).setCell ⟨b, 3, none⟩ (.slice D3 i3 d3) = w3 at X3 V3 R3 B3 z0 z1 z2 z3 z4 z5 z6 z7 t0 t1 t2 t3 t4 t5 t6 t7 hck hfk ⊢
    clear y0 y1 y2 y3 y4 y5 y6 y7 hck hfk
    obtain ⟨_, xk, e8, _, _, _, hck, hfk⟩ := R3.get (k := k) (by omega)
    cases e8
    obtain ⟨⟨z0, z1, z2, z3, z4, z5, z6, z7⟩, ⟨t0, t1, t2, t3, t4, t5, t6, t7⟩⟩ := X3.cells
    go_wp2_with fail
    go_region
    have X6 : Blk8 (w3.setCell ⟨g4, k, none⟩ (.int .i64 0)).drew b _ _ _ _ _ _ _ _ _ := (X3.other (p := ⟨g4, k, none⟩) nb4 (.int .i64 0)).drew
    have hgr : w3.grownBy (w3.setCell ⟨g4, k, none⟩ (.int .i64 0)).drew (some g4) := grown_drew (grown_set ⟨rfl, rfl, rfl, Nat.le_refl _, fun _ _ _ => rfl⟩ (.inl rfl) _)
    have V6 := V3.recolor hgr (R3.set_ k 0)
    have B6 := (B3.setCell (p := ⟨g4, k, none⟩) hg4l (.int .i64 0)).drew
    have GO := goOn_any _ lo b hlo _ 3 (cc.set k 0) k f ⟨_, _, _, _, _, X6, V6, hf2⟩ n4 hk100 0
    obtain ⟨⟨u0, u1, u2, u3, u4, u5, u6, u7⟩, _⟩ := X6.cells
    clear z0 z1 z2 z3 z4 z5 z6 z7 t0 t1 t2 t3 t4 t5 t6 t7 hck hfk
    go_wp2_with fail
    refine GO.mono ?_; rintro e w7 ⟨rfl, M7, B7⟩
    go_wp2_with fail
    go_ret
    unfold MetPost; rw [hR.out]
    exact ⟨rfl, by rw [show (nextG 3 (cc.set k 0) (k : Int) n4 0).c = cc.set k 0 from nextG_c _ _ _ _ _]; exact M7, B6.trans B7⟩
end Go.Proofs.YtfoimicbmkiigaaGreat

/- Steps and runs of impl's collectors. -/
namespace Go.Proofs.YtfoimicbmkiigaaGreat
open Go.RowKit

theorem call_begin (args : Array Value) (w : World) : (callFunc 139 args).run Tryz.prog w = .ok (.enter 139 args) w := by kernel_rfl
theorem call_lookAtRoot (args : Array Value) (w : World) : (callFunc 140 args).run Tryz.prog w = .ok (.enter 140 args) w := by kernel_rfl
theorem call_mark (args : Array Value) (w : World) : (callFunc 141 args).run Tryz.prog w = .ok (.enter 141 args) w := by kernel_rfl
theorem call_sweep (args : Array Value) (w : World) : (callFunc 142 args).run Tryz.prog w = .ok (.enter 142 args) w := by kernel_rfl
/-- The method of a phase. -/
theorem met_any (p : Int) (hp : 0 ≤ p ∧ p ≤ 3) (b : Nat) : ∃ f : FuncId, fnV p b = .func (.func f) #[.pointer (some ⟨b, 0, none⟩)] #[] ∧ (∀ (args : Array Value) (w : World), (callFunc f args).run Tryz.prog w = .ok (.enter f args) w) ∧
    ∀ (w : World) (lo : Nat) (C : Cp) (G : Gp) (u : Value), lo ≤ b → MachQ w lo b C G u → gcB C G = true → G.p = p → Calls Tryz.prog f #[.pointer (some ⟨b, 0, none⟩)] w (MetPost w lo b C G u) := by
  have h : p = 0 ∨ p = 1 ∨ p = 2 ∨ p = 3 := by omega
  rcases h with rfl | rfl | rfl | rfl
  · exact ⟨_, rfl, call_begin, fun w lo C G u hlo hm hg hp => begin_any w lo b hlo C G u hm hg hp⟩
  · exact ⟨_, rfl, call_lookAtRoot, fun w lo C G u hlo hm hg hp => lookAtRoot_any w lo b hlo C G u hm hg hp⟩
  · exact ⟨_, rfl, call_mark, fun w lo C G u hlo hm hg hp => mark_any w lo b hlo C G u hm hg hp⟩
  · exact ⟨_, rfl, call_sweep, fun w lo C G u hlo hm hg hp => sweep_any w lo b hlo C G u hm hg hp⟩
theorem gcB_ph {C : Cp} {G : Gp} (h : gcB C G = true) : 0 ≤ G.p ∧ G.p ≤ 3 := by
  have := phB_iff.1 (gcB_iff.1 h).2.2
  omega

set_option maxRecDepth 100000 in
set_option maxHeartbeats 4000000 in
theorem mchStep_any (w : World) (lo b : Nat) (hlo : lo ≤ b) (C : Cp) (G : Gp) (h : MachAt w lo b C G) (hg : gcB C G = true) :
    Calls Tryz.prog 53 #[.pointer (some ⟨b, 0, none⟩)] w fun e w' => e = .returned (.bool (goB C G)) ∧ (goB C G = true → MachAt w' lo b (stepG C G).1 (stepG C G).2) ∧ Below lo w w' := by
  obtain ⟨p, cc, a⟩ := G
  obtain ⟨fi, hfi, hcall, MET⟩ := met_any p (gcB_ph hg) b
  unfold MachAt at h
  dsimp only at h
  rw [hfi] at h
  obtain ⟨A0, n0, c0, A1, n1, c1, A2, n2, c2, A3, n3, c3, A4, n4, c4, p9, cc9, a9, e9, X, hv, hf, ⟨r0, r1, r2, r3, r4⟩, ⟨l0, l1, l2, l3, l4⟩, ⟨m0, m1, m2, m3, m4⟩⟩ := h.open_
  cases e9
  obtain ⟨⟨x0, x1, x2, x3, x4, x5, x6, x7⟩, ⟨k0, k1, k2, k3, k4, k5, k6, k7⟩⟩ := X.cells
  have lb := X.lt
  have hlw : lo ≤ w.heap.size := by omega
  have hSO : swO C ⟨p, cc, a⟩ = swI C ⟨p, cc, a⟩ := by unfold swO; rw [if_pos hg]
  have K := fun W h9 => implSwept_any W lo (.agg #[.slice A0 n0 c0, .slice A1 n1 c1, .slice A2 n2 c2, .slice A3 n3 c3]) (.agg #[.int .i64 p, .slice A4 n4 c4, .int .i64 a]) C ⟨p, cc, a⟩ h9
  simp only [hSO] at K
  have hv8 : goB C ⟨p, cc, a⟩ = true → 0 ≤ (stepG C ⟨p, cc, a⟩).2.p ∧ (stepG C ⟨p, cc, a⟩).2.p ≤ 3 := fun h9 => gcB_ph (step_valid h9)
  have hgo : goB C ⟨p, cc, a⟩ = decide (swI C ⟨p, cc, a⟩ ≠ -1 → swI C ⟨p, cc, a⟩ ∉ C.h.t) := by
    rw [Bool.eq_iff_iff, goB_iff, decide_eq_true_iff]
    exact ⟨fun h => h.2, fun h => ⟨hg, h⟩⟩
  rcases Int.decEq (swI C ⟨p, cc, a⟩) (-1) with hs | hs
  · generalize swI C ⟨p, cc, a⟩ = sw at K hs hgo
    have hs1 : (sw != -1) = true := by simp only [bne, Bool.not_eq_true', beq_eq_false_iff_ne]; exact hs
    by_cases ht : sw ∈ C.h.t
    · have hok : Hid (goB C ⟨p, cc, a⟩ = false) := by unfold Hid; rw [hgo, decide_eq_false_iff_not]; exact fun h9 => h9 hs ht
      have hd : decide (sw ∈ C.h.t) = true := decide_eq_true ht
      have CO := fun W h9 => slicesContains_any W lo A2 n2 c2 C.h.t h9 l2.out m2 sw
      simp only [hd] at CO
      clear hs ht hgo hd hSO
      go_enter Tryz.func53, Tryz.ntmps53
      go_wp2_with fail
      go_region_held3 (fun w' => w'.cell? ⟨b, 0, none⟩ = some (.slice A0 n0 c0) ∧ w'.cell? ⟨b, 1, none⟩ = some (.slice A1 n1 c1) ∧ w'.cell? ⟨b, 2, none⟩ = some (.slice A2 n2 c2) ∧ w'.cell? ⟨b, 3, none⟩ = some (.slice A3 n3 c3) ∧ w'.cell? ⟨b, 4, none⟩ = some (.int .i64 p) ∧ w'.cell? ⟨b, 5, none⟩ = some (.slice A4 n4 c4) ∧ w'.cell? ⟨b, 6, none⟩ = some (.int .i64 a))
        (((try dsimp only); (repeat' apply And.intro) <;> (with_reducible (first | exact y0 | exact y1 | exact y2 | exact y3 | exact y4 | exact y5 | exact y6 | exact x0 | exact x1 | exact x2 | exact x3 | exact x4 | exact x5 | exact x6 | exact cellD x0 | exact cellD x1 | exact cellD x2 | exact cellD x3 | exact cellD x4 | exact cellD x5 | exact cellD x6)) <;> done))
        (first | (go_at_call 19; (with_reducible refine (K w.drew hv.drew).mono ?_); rintro e w1 ⟨rfl, hb0⟩; (have hb1 : Below w.heap.size w w1 := (Below.refl w.heap.size w).drew.trans (hb0.mono (Nat.le_refl _))); (have X1 := X.below hb1); (obtain ⟨⟨y0, y1, y2, y3, y4, y5, y6, y7⟩, _⟩ := X1.cells); (have V1 := hv.below hb1); (have T1 := r2.below hb1)))
      try (rename_i hHeld; clear hHeld)
      have B1 := hb1.mono hlw
      clear x0 x1 x2 x3 x4 x5 x6 x7 k0 k1 k2 k3 k4 k5 k6 k7
      go_wp2_with fail
      refine (CO w1 T1).mono ?_; rintro e w' ⟨rfl, rfl⟩
      go_wp2_with fail
      go_ret
      exact ⟨ret_bool hok.out.symm, (fun h9 => by rw [hok.out] at h9; cases h9), B1⟩
    · have hok : Hid (goB C ⟨p, cc, a⟩ = true) := by unfold Hid; rw [hgo, decide_eq_true_iff]; exact fun _ => ht
      have hph := Lib.hid (hv8 hok.out)
      have hd : decide (sw ∈ C.h.t) = false := decide_eq_false ht
      have CO := fun W h9 => slicesContains_any W lo A2 n2 c2 C.h.t h9 l2.out m2 sw
      simp only [hd] at CO
      clear hs ht hgo hd hSO
      go_enter Tryz.func53, Tryz.ntmps53
      go_wp2_with fail
      go_region_held3 (fun w' => w'.cell? ⟨b, 0, none⟩ = some (.slice A0 n0 c0) ∧ w'.cell? ⟨b, 1, none⟩ = some (.slice A1 n1 c1) ∧ w'.cell? ⟨b, 2, none⟩ = some (.slice A2 n2 c2) ∧ w'.cell? ⟨b, 3, none⟩ = some (.slice A3 n3 c3) ∧ w'.cell? ⟨b, 4, none⟩ = some (.int .i64 p) ∧ w'.cell? ⟨b, 5, none⟩ = some (.slice A4 n4 c4) ∧ w'.cell? ⟨b, 6, none⟩ = some (.int .i64 a))
        (((try dsimp only); (repeat' apply And.intro) <;> (with_reducible (first | exact y0 | exact y1 | exact y2 | exact y3 | exact y4 | exact y5 | exact y6 | exact x0 | exact x1 | exact x2 | exact x3 | exact x4 | exact x5 | exact x6 | exact cellD x0 | exact cellD x1 | exact cellD x2 | exact cellD x3 | exact cellD x4 | exact cellD x5 | exact cellD x6)) <;> done))
        (first | (go_at_call 19; (with_reducible refine (K w.drew hv.drew).mono ?_); rintro e w1 ⟨rfl, hb0⟩; (have hb1 : Below w.heap.size w w1 := (Below.refl w.heap.size w).drew.trans (hb0.mono (Nat.le_refl _))); (have X1 := X.below hb1); (obtain ⟨⟨y0, y1, y2, y3, y4, y5, y6, y7⟩, _⟩ := X1.cells); (have V1 := hv.below hb1); (have T1 := r2.below hb1)))
      try (rename_i hHeld; clear hHeld)
      have B1 := hb1.mono hlw
      clear x0 x1 x2 x3 x4 x5 x6 x7 k0 k1 k2 k3 k4 k5 k6 k7
      have M1 := MET w1 lo C ⟨p, cc, a⟩ _ hlo ⟨_, _, _, _, _, X1, V1, hf⟩ hg rfl
      go_wp2_with fail
      refine (CO w1 T1).mono ?_; rintro e w' ⟨rfl, rfl⟩
      go_wp2_with fail
      refine M1.mono ?_; rintro e w2 ⟨rfl, Q2, B2⟩
      have EN := enter_any w2 lo b hlo _ _ _ Q2 (stepG C ⟨p, cc, a⟩).2.p hph.out
      go_wp2_with fail
      refine EN.mono ?_; rintro e w3 ⟨rfl, Q3, B3⟩
      go_wp2_with fail
      go_ret
      exact ⟨ret_bool hok.out.symm, fun _ => Q3, (B1.trans B2).trans B3⟩
  · have hok : Hid (goB C ⟨p, cc, a⟩ = true) := by unfold Hid; rw [hgo, decide_eq_true_iff]; exact fun h9 => absurd hs h9
    have hph := Lib.hid (hv8 hok.out)
    simp only [hs] at K
    clear hs hgo hSO
    go_enter Tryz.func53, Tryz.ntmps53
    go_wp2_with fail
    go_region_held3 (fun w' => w'.cell? ⟨b, 0, none⟩ = some (.slice A0 n0 c0) ∧ w'.cell? ⟨b, 1, none⟩ = some (.slice A1 n1 c1) ∧ w'.cell? ⟨b, 2, none⟩ = some (.slice A2 n2 c2) ∧ w'.cell? ⟨b, 3, none⟩ = some (.slice A3 n3 c3) ∧ w'.cell? ⟨b, 4, none⟩ = some (.int .i64 p) ∧ w'.cell? ⟨b, 5, none⟩ = some (.slice A4 n4 c4) ∧ w'.cell? ⟨b, 6, none⟩ = some (.int .i64 a))
      (((try dsimp only); (repeat' apply And.intro) <;> (with_reducible (first | exact y0 | exact y1 | exact y2 | exact y3 | exact y4 | exact y5 | exact y6 | exact x0 | exact x1 | exact x2 | exact x3 | exact x4 | exact x5 | exact x6 | exact cellD x0 | exact cellD x1 | exact cellD x2 | exact cellD x3 | exact cellD x4 | exact cellD x5 | exact cellD x6)) <;> done))
      (first | (go_at_call 19; (with_reducible refine (K w.drew hv.drew).mono ?_); rintro e w1 ⟨rfl, hb0⟩; (have hb1 : Below w.heap.size w w1 := (Below.refl w.heap.size w).drew.trans (hb0.mono (Nat.le_refl _))); (have X1 := X.below hb1); (obtain ⟨⟨y0, y1, y2, y3, y4, y5, y6, y7⟩, _⟩ := X1.cells); (have V1 := hv.below hb1); (have T1 := r2.below hb1)))
    try (rename_i hHeld; clear hHeld)
    have B1 := hb1.mono hlw
    clear x0 x1 x2 x3 x4 x5 x6 x7 k0 k1 k2 k3 k4 k5 k6 k7
    have M1 := MET w1 lo C ⟨p, cc, a⟩ _ hlo ⟨_, _, _, _, _, X1, V1, hf⟩ hg rfl
    go_wp2_with fail
    refine M1.mono ?_; rintro e w2 ⟨rfl, Q2, B2⟩
    have EN := enter_any w2 lo b hlo _ _ _ Q2 (stepG C ⟨p, cc, a⟩).2.p hph.out
    go_wp2_with fail
    refine EN.mono ?_; rintro e w3 ⟨rfl, Q3, B3⟩
    go_wp2_with fail
    go_ret
    exact ⟨ret_bool hok.out.symm, fun _ => Q3, (B1.trans B2).trans B3⟩

set_option maxRecDepth 100000 in
set_option maxHeartbeats 4000000 in
theorem newMachine_any (w : World) (lo : Nat) (vs vg : Value) (C : Cp) (G : Gp) (h : CGv w lo vs vg C G) (hg : gcB C G = true) :
    Calls Tryz.prog 52 #[vs, vg] w fun e w' => ∃ b, e = .returned (.pointer (some ⟨b, 0, none⟩)) ∧ w.heap.size ≤ b ∧ MachAt w' w.heap.size b C G ∧ Below w.heap.size w w' := by
  obtain ⟨A0, n0, c0, A1, n1, c1, A2, n2, c2, A3, n3, c3, A4, n4, c4, p, cc, a, rfl, rfl, rfl, hv, hk, ⟨r0, r1, r2, r3, r4⟩, ⟨l0, l1, l2, l3, l4⟩, ⟨m0, m1, m2, m3, m4⟩⟩ := h.open_
  have X := (Blk4.new w (.slice A0 n0 c0) (.slice A1 n1 c1) (.slice A2 n2 c2) (.slice A3 n3 c3) 27).alloc (.cells #[.int .i64 p, .slice A4 n4 c4, .int .i64 a] 29)
  have Y := Blk3.new_at (w := w.alloc (.cells #[.slice A0 n0 c0, .slice A1 n1 c1, .slice A2 n2 c2, .slice A3 n3 c3] 27)) (b := w.heap.size + 1) (by simp) (.int .i64 p) (.slice A4 n4 c4) (.int .i64 a) 29
  have VV := (hv.alloc (.cells #[.slice A0 n0 c0, .slice A1 n1 c1, .slice A2 n2 c2, .slice A3 n3 c3] 27)).alloc (.cells #[.int .i64 p, .slice A4 n4 c4, .int .i64 a] 29)
  have GG := (h.gv.alloc (.cells #[.slice A0 n0 c0, .slice A1 n1 c1, .slice A2 n2 c2, .slice A3 n3 c3] 27)).alloc (.cells #[.int .i64 p, .slice A4 n4 c4, .int .i64 a] 29)
  have BB : Below w.heap.size w ((w.alloc (.cells #[.slice A0 n0 c0, .slice A1 n1 c1, .slice A2 n2 c2, .slice A3 n3 c3] 27)).alloc (.cells #[.int .i64 p, .slice A4 n4 c4, .int .i64 a] 29)) := ((Below.refl _ _).alloc (Nat.le_refl _) _).alloc (by simp) _
  have hC := (gcB_iff.1 hg).1
  have hz := gcB_sizes hg
  dsimp only at hz
  have h48 : cc.length ≤ 1048576 := by omega
  have hph := gcB_ph hg
  dsimp only at hph
  have sz : ((w.alloc (.cells #[.slice A0 n0 c0, .slice A1 n1 c1, .slice A2 n2 c2, .slice A3 n3 c3] 27)).alloc (.cells #[.int .i64 p, .slice A4 n4 c4, .int .i64 a] 29)).heap.size = w.heap.size + 2 := by simp
  clear hv hk r0 r1 r2 r3 r4 h hg hz
  go_enter Tryz.func52, Tryz.ntmps52
  go_wp2_with fail
  generalize (w.alloc (.cells #[.slice A0 n0 c0, .slice A1 n1 c1, .slice A2 n2 c2, .slice A3 n3 c3] 27)).alloc (.cells #[.int .i64 p, .slice A4 n4 c4, .int .i64 a] 29) = W at X Y VV GG BB sz ⊢
  obtain ⟨x0, x1, x2, x3, _⟩ := X.cells
  obtain ⟨y0, y1, y2, _⟩ := Y.cells
  go_region_held3 (fun w' => w'.cell? ⟨w.heap.size, 0, none⟩ = some (.slice A0 n0 c0) ∧ w'.cell? ⟨w.heap.size, 1, none⟩ = some (.slice A1 n1 c1) ∧ w'.cell? ⟨w.heap.size, 2, none⟩ = some (.slice A2 n2 c2) ∧ w'.cell? ⟨w.heap.size, 3, none⟩ = some (.slice A3 n3 c3) ∧ w'.cell? ⟨w.heap.size + 1, 0, none⟩ = some (.int .i64 p) ∧ w'.cell? ⟨w.heap.size + 1, 1, none⟩ = some (.slice A4 n4 c4) ∧ w'.cell? ⟨w.heap.size + 1, 2, none⟩ = some (.int .i64 a))
    (((try dsimp only); (repeat' apply And.intro) <;> (with_reducible (first | exact cellA s0 _ | exact cellA s1 _ | exact cellA s2 _ | exact cellA s3 _ | exact cellA t0 _ | exact cellA t1 _ | exact cellA t2 _ | exact s0 | exact s1 | exact s2 | exact s3 | exact t0 | exact t1 | exact t2 | exact p0 | exact p1 | exact p2 | exact p3 | exact q0 | exact q1 | exact q2 | exact x0 | exact x1 | exact x2 | exact x3 | exact y0 | exact y1 | exact y2 | exact cellD x0 | exact cellD x1 | exact cellD x2 | exact cellD x3 | exact cellD y0 | exact cellD y1 | exact cellD y2)) <;> done))
    (first
      | (go_at_call 39; (with_reducible refine (copyS_valid W.drew lo _ C VV.drew hC).mono ?_); rintro e w1 ⟨vv, rfl, HN0, hb0⟩; (have HN : Cv w1 W.heap.size vv C := HN0); (have hb1 : Below W.heap.size W w1 := (Below.refl W.heap.size W).drew.trans (hb0.mono (Nat.le_refl _))); (obtain ⟨p0, p1, p2, p3, _⟩ := (X.below hb1).cells); (obtain ⟨q0, q1, q2, _⟩ := (Y.below hb1).cells); (have hNo := HN); (obtain ⟨B0, u0, e0, B1, u1, e1, B2, u2, e2, B3, u3, e3, rfl, _⟩ := hNo.open_))
      | (go_at_call 74; (with_reducible refine (copyOfGc_any w1 lo _ ⟨p, cc, a⟩ (GG.below hb1) h48).mono ?_); rintro e w2 ⟨gg, rfl, HG, hb2⟩; (obtain ⟨s0, s1, s2, s3, _⟩ := ((X.below hb1).below hb2).cells); (obtain ⟨t0, t1, t2, _⟩ := ((Y.below hb1).below hb2).cells); (have hGo := HG); (obtain ⟨B4, u4, e4, rfl, rB, _⟩ := hGo.open_)))
  try (rename_i hHeld; clear hHeld)
  have z1 := hb1.size
  have z2 := hb2.size
  have CG := CGv.mk HN HG (by omega) hb2
  have hf2 : FarG (.slice B0 u0 e0) (.slice B1 u1 e1) (.slice B2 u2 e2) (.slice B3 u3 e3) (.slice B4 u4 e4) w2.heap.size := by
    obtain ⟨_, _, _, _, _, e, e', ⟨_, _, _, _, e2, ⟨_, _, _, e3, h0, h1, h2, _⟩, h3, _⟩, h4, _⟩ := CG
    cases e; cases e'; cases e2; cases e3
    exact ⟨own_new h0 (Nat.le_refl _), own_new h1 (Nat.le_refl _), own_new h2 (Nat.le_refl _), own_new h3 (Nat.le_refl _), own_new h4 (Nat.le_refl _)⟩
  have M8 := Blk8.new w2 (.slice B0 u0 e0) (.slice B1 u1 e1) (.slice B2 u2 e2) (.slice B3 u3 e3) (.int .i64 p) (.slice B4 u4 e4) (.int .i64 a) .nilFunc 97
  have B3_ : Below w.heap.size w w2 := BB.trans ((hb1.mono (by omega)).trans (hb2.mono (by omega)))
  have Q3 : MachQ (w2.alloc (.cells #[.slice B0 u0 e0, .slice B1 u1 e1, .slice B2 u2 e2, .slice B3 u3 e3, .int .i64 p, .slice B4 u4 e4, .int .i64 a, .nilFunc] 97)) w.heap.size w2.heap.size C ⟨p, cc, a⟩ .nilFunc := ⟨_, _, _, _, _, M8, (CG.alloc (.cells #[.slice B0 u0 e0, .slice B1 u1 e1, .slice B2 u2 e2, .slice B3 u3 e3, .int .i64 p, .slice B4 u4 e4, .int .i64 a, .nilFunc] 97)).mono (by omega), hf2⟩
  have B4_ := B3_.alloc B3_.size (.cells #[.slice B0 u0 e0, .slice B1 u1 e1, .slice B2 u2 e2, .slice B3 u3 e3, .int .i64 p, .slice B4 u4 e4, .int .i64 a, .nilFunc] 97)
  have EN := enter_any _ w.heap.size w2.heap.size (by omega) C ⟨p, cc, a⟩ .nilFunc Q3 p hph
  obtain ⟨tt0, tt1, tt2, _⟩ := (((Y.below hb1).below hb2).alloc (.cells #[.slice B0 u0 e0, .slice B1 u1 e1, .slice B2 u2 e2, .slice B3 u3 e3, .int .i64 p, .slice B4 u4 e4, .int .i64 a, .nilFunc] 97)).cells
  clear x0 x1 x2 x3 y0 y1 y2 p0 p1 p2 p3 q0 q1 q2 s0 s1 s2 s3
  go_wp2_with fail
  refine EN.mono ?_; rintro e w4 ⟨rfl, Q4, B5⟩
  go_wp2_with fail
  go_ret
  exact ⟨_, rfl, by omega, Q4, B4_.trans B5⟩
end Go.Proofs.YtfoimicbmkiigaaGreat

/- StepGc and RunGc of impl. -/
namespace Go.Proofs.YtfoimicbmkiigaaGreat
open Go.RowKit

/-- A store and a collector that were stored into two results. -/
theorem sg_done {w w3 : World} {lo bS bG : Nat} {v0 v1 v2 v3 r : Value} {C : Cp} {G : Gp} (h : CGv w3 lo (.agg #[v0, v1, v2, v3]) (.agg #[.int .i64 G.p, r, .int .i64 G.a]) C G) (hlo : w.heap.size ≤ lo) (f : FarG v0 v1 v2 v3 r bS) (f' : FarG v0 v1 v2 v3 r bG) (hS : w.heap.size ≤ bS) (hG : w.heap.size ≤ bG) (hB : Below w.heap.size w w3) (x0 x1 x2 x3 y0 y1 y2 : Value) :
    CGv (((((((w3.setCell ⟨bS, 0, none⟩ x0).setCell ⟨bS, 1, none⟩ x1).setCell ⟨bS, 2, none⟩ x2).setCell ⟨bS, 3, none⟩ x3).setCell ⟨bG, 0, none⟩ y0).setCell ⟨bG, 1, none⟩ y1).setCell ⟨bG, 2, none⟩ y2) w.heap.size (.agg #[v0, v1, v2, v3]) (.agg #[.int .i64 G.p, r, .int .i64 G.a]) C G ∧
    Below w.heap.size w (((((((w3.setCell ⟨bS, 0, none⟩ x0).setCell ⟨bS, 1, none⟩ x1).setCell ⟨bS, 2, none⟩ x2).setCell ⟨bS, 3, none⟩ x3).setCell ⟨bG, 0, none⟩ y0).setCell ⟨bG, 1, none⟩ y1).setCell ⟨bG, 2, none⟩ y2) :=
  ⟨(((((((h.setFar (p := ⟨bS, 0, none⟩) f x0).setFar (p := ⟨bS, 1, none⟩) f x1).setFar (p := ⟨bS, 2, none⟩) f x2).setFar (p := ⟨bS, 3, none⟩) f x3).setFar (p := ⟨bG, 0, none⟩) f' y0).setFar (p := ⟨bG, 1, none⟩) f' y1).setFar (p := ⟨bG, 2, none⟩) f' y2).mono hlo,
   ((((((hB.setCell (p := ⟨bS, 0, none⟩) hS x0).setCell (p := ⟨bS, 1, none⟩) hS x1).setCell (p := ⟨bS, 2, none⟩) hS x2).setCell (p := ⟨bS, 3, none⟩) hS x3).setCell (p := ⟨bG, 0, none⟩) hG y0).setCell (p := ⟨bG, 1, none⟩) hG y1).setCell (p := ⟨bG, 2, none⟩) hG y2⟩
theorem farG_nil (b : Nat) : FarG (.slice none 0 0) (.slice none 0 0) (.slice none 0 0) (.slice none 0 0) (.slice none 0 0) b := by
  simp [FarG, Value.ownBlock]
/-- What a value owns lies from lo on. -/
theorem CGv.far {w : World} {lo b : Nat} {v0 v1 v2 v3 r x y : Value} {C : Cp} {G : Gp} (h : CGv w lo (.agg #[v0, v1, v2, v3]) (.agg #[x, r, y]) C G) (hb : b < lo ∨ w.heap.size ≤ b) : FarG v0 v1 v2 v3 r b := by
  obtain ⟨_, _, _, _, _, e, e', ⟨_, _, _, _, e2, ⟨_, _, _, e3, h0, h1, h2, _⟩, h3, _⟩, h4, _⟩ := h
  cases e; cases e'; cases e2; cases e3
  have k : ∀ (v : Value) (xs : List Int), Row w lo v xs → v.ownBlock ≠ some b := fun v xs rv e => by have := rv.lt _ e; omega
  exact ⟨k _ _ h0, k _ _ h1, k _ _ h2, k _ _ h3, k _ _ h4⟩

set_option maxRecDepth 100000 in
set_option maxHeartbeats 4000000 in
theorem implStepGc_any (w : World) (lo : Nat) (vs vg : Value) (C : Cp) (G : Gp) (h : CGv w lo vs vg C G) : Calls Tryz.prog 22 #[vs, vg] w (OptCG w (stepO C G)) := by
  obtain ⟨A0, n0, c0, A1, n1, c1, A2, n2, c2, A3, n3, c3, A4, n4, c4, p, cc, a, rfl, rfl, rfl, hv, hk, ⟨r0, r1, r2, r3, r4⟩, ⟨l0, l1, l2, l3, l4⟩, ⟨m0, m1, m2, m3, m4⟩⟩ := h.open_
  have X := (((Blk4.new w (.slice A0 n0 c0) (.slice A1 n1 c1) (.slice A2 n2 c2) (.slice A3 n3 c3) 27).alloc (.cells #[.int .i64 p, .slice A4 n4 c4, .int .i64 a] 29)).alloc (.cells #[.slice none 0 0, .slice none 0 0, .slice none 0 0, .slice none 0 0] 27)).alloc (.cells #[.int .i64 0, .slice none 0 0, .int .i64 0] 29)
  have Y := ((Blk3.new_at (w := w.alloc (.cells #[.slice A0 n0 c0, .slice A1 n1 c1, .slice A2 n2 c2, .slice A3 n3 c3] 27)) (b := w.heap.size + 1) (by simp) (.int .i64 p) (.slice A4 n4 c4) (.int .i64 a) 29).alloc (.cells #[.slice none 0 0, .slice none 0 0, .slice none 0 0, .slice none 0 0] 27)).alloc (.cells #[.int .i64 0, .slice none 0 0, .int .i64 0] 29)
  have Z := (Blk4.new_at (w := (w.alloc (.cells #[.slice A0 n0 c0, .slice A1 n1 c1, .slice A2 n2 c2, .slice A3 n3 c3] 27)).alloc (.cells #[.int .i64 p, .slice A4 n4 c4, .int .i64 a] 29)) (b := w.heap.size + 2) (by simp) (.slice none 0 0) (.slice none 0 0) (.slice none 0 0) (.slice none 0 0) 27).alloc (.cells #[.int .i64 0, .slice none 0 0, .int .i64 0] 29)
  have U := Blk3.new_at (w := ((w.alloc (.cells #[.slice A0 n0 c0, .slice A1 n1 c1, .slice A2 n2 c2, .slice A3 n3 c3] 27)).alloc (.cells #[.int .i64 p, .slice A4 n4 c4, .int .i64 a] 29)).alloc (.cells #[.slice none 0 0, .slice none 0 0, .slice none 0 0, .slice none 0 0] 27)) (b := w.heap.size + 3) (by simp) (.int .i64 0) (.slice none 0 0) (.int .i64 0) 29
  have HH := (((h.alloc (.cells #[.slice A0 n0 c0, .slice A1 n1 c1, .slice A2 n2 c2, .slice A3 n3 c3] 27)).alloc (.cells #[.int .i64 p, .slice A4 n4 c4, .int .i64 a] 29)).alloc (.cells #[.slice none 0 0, .slice none 0 0, .slice none 0 0, .slice none 0 0] 27)).alloc (.cells #[.int .i64 0, .slice none 0 0, .int .i64 0] 29)
  have BB : Below w.heap.size w ((((w.alloc (.cells #[.slice A0 n0 c0, .slice A1 n1 c1, .slice A2 n2 c2, .slice A3 n3 c3] 27)).alloc (.cells #[.int .i64 p, .slice A4 n4 c4, .int .i64 a] 29)).alloc (.cells #[.slice none 0 0, .slice none 0 0, .slice none 0 0, .slice none 0 0] 27)).alloc (.cells #[.int .i64 0, .slice none 0 0, .int .i64 0] 29)) := ((((Below.refl _ _).alloc (Nat.le_refl _) _).alloc (by simp) _).alloc (by simp <;> omega) _).alloc (by simp <;> omega) _
  have sz : ((((w.alloc (.cells #[.slice A0 n0 c0, .slice A1 n1 c1, .slice A2 n2 c2, .slice A3 n3 c3] 27)).alloc (.cells #[.int .i64 p, .slice A4 n4 c4, .int .i64 a] 29)).alloc (.cells #[.slice none 0 0, .slice none 0 0, .slice none 0 0, .slice none 0 0] 27)).alloc (.cells #[.int .i64 0, .slice none 0 0, .int .i64 0] 29)).heap.size = w.heap.size + 4 := by simp
  clear hv hk r0 r1 r2 r3 r4 h
  go_enter Tryz.func22, Tryz.ntmps22
  go_wp2_with fail
  generalize ((((w.alloc (.cells #[.slice A0 n0 c0, .slice A1 n1 c1, .slice A2 n2 c2, .slice A3 n3 c3] 27)).alloc (.cells #[.int .i64 p, .slice A4 n4 c4, .int .i64 a] 29)).alloc (.cells #[.slice none 0 0, .slice none 0 0, .slice none 0 0, .slice none 0 0] 27)).alloc (.cells #[.int .i64 0, .slice none 0 0, .int .i64 0] 29)) = W at X Y Z U HH BB sz ⊢
  obtain ⟨x0, x1, x2, x3, _⟩ := X.cells
  obtain ⟨y0, y1, y2, _⟩ := Y.cells
  have V := implGcValid_any _ _ _ _ _ _ HH
  rcases ev : gcB C ⟨p, cc, a⟩
  · rw [ev] at V
    have hgo : goB C ⟨p, cc, a⟩ = false := by unfold goB; rw [ev]; rfl
    have hf : Hid (stepO C ⟨p, cc, a⟩ = none) := by unfold Hid stepO; rw [if_neg (by rw [hgo]; decide)]
    clear ev hgo
    go_wp2_with fail
    refine V.mono ?_; rintro e w1 ⟨rfl, hb1⟩
    obtain ⟨z0, z1, z2, z3, f0, f1, f2, f3⟩ := (Z.below hb1).cells
    obtain ⟨u0, u1, u2, h0, h1, h2⟩ := (U.below hb1).cells
    obtain ⟨hZ, hB⟩ := sg_done (w := w) (bS := w.heap.size + 1 + 1) (bG := w.heap.size + 1 + 1 + 1) (C := Cp.zero) (G := Gp.zero) (CGv.zero w1 w.heap.size) (Nat.le_refl _) (farG_nil _) (farG_nil _) (by omega) (by omega) (BB.trans (hb1.mono (by omega))) (.slice none 0 0) (.slice none 0 0) (.slice none 0 0) (.slice none 0 0) (.int .i64 0) (.slice none 0 0) (.int .i64 0)
    go_wp2_with fail
    rw [hf.out]
    refine bodyPost_ret (v := .tuple #[.agg #[.slice none 0 0, .slice none 0 0, .slice none 0 0, .slice none 0 0], .agg #[.int .i64 0, .slice none 0 0, .int .i64 0], .bool false]) ?_ rfl ⟨_, _, rfl, hZ, hB⟩
    simp [results, Tryz.results22, go_sem, z0, z1, z2, z3, u0, u1, u2]
  rw [ev] at V
  go_wp2_with fail
  refine V.mono ?_; rintro e w1 ⟨rfl, hb1⟩
  have NM := newMachine_any w1 _ _ _ _ _ (HH.below hb1) ev
  obtain ⟨x0, x1, x2, x3, _⟩ := (X.below hb1).cells
  obtain ⟨y0, y1, y2, _⟩ := (Y.below hb1).cells
  have z1 := hb1.size
  go_wp2_with fail
  refine NM.mono ?_; rintro e w2 ⟨b, rfl, hbl, M2, hb2⟩
  have B2 := BB.trans ((hb1.trans (hb2.mono z1)).mono (by omega))
  have Z2 := (Z.below hb1).below hb2
  have U2 := (U.below hb1).below hb2
  have z2 := hb2.size
  clear V NM X Y Z U HH BB hb1 hb2 x0 x1 x2 x3 y0 y1 y2
  have ST := mchStep_any w2 _ b hbl C ⟨p, cc, a⟩ M2 ev
  rcases eg : goB C ⟨p, cc, a⟩
  · have hf : Hid (stepO C ⟨p, cc, a⟩ = none) := by unfold Hid stepO; rw [if_neg (by rw [eg]; decide)]
    rw [eg] at ST
    clear eg ev
    go_wp2_with fail
    refine ST.mono ?_; rintro e w3 ⟨rfl, _, B3⟩
    have B4 : Below w.heap.size w w3 := B2.trans (B3.mono (by omega))
    have hb3 : Below w1.heap.size w2 w3 := B3
    obtain ⟨z0, z1, z2, z3, f0, f1, f2, f3⟩ := (show Blk4 w3 (w.heap.size + 2) _ _ _ _ _ from (B3.block _ (by omega)).trans Z2).cells
    obtain ⟨u0, u1, u2, h0, h1, h2⟩ := (Blk3.far U2 B3 (by omega)).cells
    obtain ⟨hZ, hB⟩ := sg_done (w := w) (bS := w.heap.size + 1 + 1) (bG := w.heap.size + 1 + 1 + 1) (C := Cp.zero) (G := Gp.zero) (CGv.zero w3 w.heap.size) (Nat.le_refl _) (farG_nil _) (farG_nil _) (by omega) (by omega) B4 (.slice none 0 0) (.slice none 0 0) (.slice none 0 0) (.slice none 0 0) (.int .i64 0) (.slice none 0 0) (.int .i64 0)
    go_wp2_with fail
    rw [hf.out]
    refine bodyPost_ret (v := .tuple #[.agg #[.slice none 0 0, .slice none 0 0, .slice none 0 0, .slice none 0 0], .agg #[.int .i64 0, .slice none 0 0, .int .i64 0], .bool false]) ?_ rfl ⟨_, _, rfl, hZ, hB⟩
    simp [results, Tryz.results22, go_sem, z0, z1, z2, z3, u0, u1, u2]
  · have hf : Hid (stepO C ⟨p, cc, a⟩ = some (stepG C ⟨p, cc, a⟩)) := by unfold Hid stepO; rw [if_pos eg]
    rw [eg] at ST
    generalize stepG C ⟨p, cc, a⟩ = R at ST hf
    clear eg ev
    obtain ⟨C', G'⟩ := R
    go_wp2_with fail
    refine ST.mono ?_; rintro e w3 ⟨rfl, M3', B3⟩
    have M3 := M3' (by trivial)
    clear M3' ST M2
    have B4 : Below w.heap.size w w3 := B2.trans (B3.mono (by omega))
    have Z3 : Blk4 w3 (w.heap.size + 2) (.slice none 0 0) (.slice none 0 0) (.slice none 0 0) (.slice none 0 0) 27 := (B3.block _ (by omega)).trans Z2
    have U3 := Blk3.far U2 B3 (by omega)
    unfold MachAt at M3
    try dsimp only at M3
    obtain ⟨D0, i0, d0, D1, i1, d1, D2, i2, d2, D3, i3, d3, D4, i4, d4, p', cc', a', e9, X3, V3, hf3, _⟩ := M3.open_
    obtain ⟨⟨x0, x1, x2, x3, x4, x5, x6, x7⟩, ⟨k0, k1, k2, k3, k4, k5, k6, k7⟩⟩ := X3.cells
    obtain ⟨z0, z1, z2, z3, f0, f1, f2, f3⟩ := Z3.cells
    obtain ⟨u0, u1, u2, h0, h1, h2⟩ := U3.cells
    have hne1 : b ≠ w.heap.size + 1 + 1 := by omega
    have hne2 : b ≠ w.heap.size + 1 + 1 + 1 := by omega
    have SO : ∀ w' : World, Blk8 w' b (.slice D0 i0 d0) (.slice D1 i1 d1) (.slice D2 i2 d2) (.slice D3 i3 d3) (.int .i64 p') (.slice D4 i4 d4) (.int .i64 a') (fnV p' b) 97 → w'.cell? ⟨b, 0, none⟩ = some (.slice D0 i0 d0) ∧ w'.cell? ⟨b, 1, none⟩ = some (.slice D1 i1 d1) ∧ w'.cell? ⟨b, 2, none⟩ = some (.slice D2 i2 d2) ∧ w'.cell? ⟨b, 3, none⟩ = some (.slice D3 i3 d3) ∧ w'.cell? ⟨b, 4, none⟩ = some (.int .i64 p') ∧ w'.cell? ⟨b, 5, none⟩ = some (.slice D4 i4 d4) ∧ w'.cell? ⟨b, 6, none⟩ = some (.int .i64 a') := fun w' hX => ⟨hX.cells.1.1, hX.cells.1.2.1, hX.cells.1.2.2.1, hX.cells.1.2.2.2.1, hX.cells.1.2.2.2.2.1, hX.cells.1.2.2.2.2.2.1, hX.cells.1.2.2.2.2.2.2.1⟩
    subst e9
    have hz3 : w2.heap.size ≤ w3.heap.size := B3.size
    obtain ⟨hZ, hB⟩ := sg_done (w := w) (bS := w.heap.size + 1 + 1) (bG := w.heap.size + 1 + 1 + 1) (lo := w1.heap.size) (C := C') (G := ⟨p', cc', a'⟩) V3 (by omega) (V3.far (.inl (by omega))) (V3.far (.inl (by omega))) (by omega) (by omega) B4 (.slice D0 i0 d0) (.slice D1 i1 d1) (.slice D2 i2 d2) (.slice D3 i3 d3) (.int .i64 p') (.slice D4 i4 d4) (.int .i64 a')
    go_wp2_with fail
    go_region_held3 (fun w' => w'.cell? ⟨b, 0, none⟩ = some (.slice D0 i0 d0) ∧ w'.cell? ⟨b, 1, none⟩ = some (.slice D1 i1 d1) ∧ w'.cell? ⟨b, 2, none⟩ = some (.slice D2 i2 d2) ∧ w'.cell? ⟨b, 3, none⟩ = some (.slice D3 i3 d3) ∧ w'.cell? ⟨b, 4, none⟩ = some (.int .i64 p') ∧ w'.cell? ⟨b, 5, none⟩ = some (.slice D4 i4 d4) ∧ w'.cell? ⟨b, 6, none⟩ = some (.int .i64 a'))
      (((try dsimp only); (refine SO _ ?_); (repeat (with_reducible (first | exact X3 | refine Blk8.drew ?_ | refine Blk8.other ?_ hne1 _ | refine Blk8.other ?_ hne2 _)))))
      (fail)
    all_goals try (rename_i hHeld; clear hHeld)
    go_wp2_with fail
    rw [hf.out]
    refine bodyPost_ret (v := .tuple #[.agg #[.slice D0 i0 d0, .slice D1 i1 d1, .slice D2 i2 d2, .slice D3 i3 d3], .agg #[.int .i64 p', .slice D4 i4 d4, .int .i64 a'], .bool true]) ?_ rfl ⟨_, _, rfl, hZ.drew, hB.drew⟩
    simp [results, Tryz.results22, go_sem, z0, z1, z2, z3, u0, u1, u2]

end Go.Proofs.YtfoimicbmkiigaaGreat

