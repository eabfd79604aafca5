/- Colored heaps by value: a heap and a row of colors. -/
import Derived.Test.YtapkhgpifpgleaaCopys
import Derived.Test.YtapkhgpifpgleaaPure
namespace Go.Proofs.Ytapkhgpifpgleaa
open Go.RowKit

theorem Hv.low_set {w : World} {lo : Nat} {v : Value} {h : Hp} (hv : Hv w lo v h) {p : Addr} (hp : p.block < lo) (u : Value) : Hv (w.setCell p u) lo v h := by
  obtain ⟨v0, v1, v2, rfl, r0, r1, r2, a⟩ := hv
  exact ⟨v0, v1, v2, rfl, r0.other (fun e => by have := (r0.lt _ e).1; omega) u, r1.other (fun e => by have := (r1.lt _ e).1; omega) u, r2.other (fun e => by have := (r2.lt _ e).1; omega) u, a⟩
theorem Hv.low_kept {w w' : World} {lo rb : Nat} {v : Value} {h : Hp} (hv : Hv w lo v h) (hg : w.grownBy w' (some rb)) (hrb : rb < lo) : Hv w' lo v h := by
  obtain ⟨v0, v1, v2, rfl, r0, r1, r2, a⟩ := hv
  exact ⟨v0, v1, v2, rfl, r0.kept hg (.inr fun e => by have := (r0.lt _ e).1; omega), r1.kept hg (.inr fun e => by have := (r1.lt _ e).1; omega), r2.kept hg (.inr fun e => by have := (r2.lt _ e).1; omega), a⟩
/-- Nothing but block g has turned, and no block is new. -/
def OnlyB (g : Nat) (w w' : World) : Prop := w.grownBy w' (some g) ∧ w'.heap.size = w.heap.size

structure Cp where
  h : Hp
  c : List Int
def Cp.zero : Cp := ⟨Hp.zero, []⟩

/-- A colored heap by value: a heap, and a row in a block of its own. The four cells lie flat: a struct in a struct is no value of its own. -/
def Cv (w : World) (lo : Nat) (v : Value) (C : Cp) : Prop :=
  ∃ v0 v1 v2 v3, v = .agg #[v0, v1, v2, v3] ∧ Hv w lo (.agg #[v0, v1, v2]) C.h ∧ Row w lo v3 C.c ∧ Apart v0 v3 ∧ Apart v1 v3 ∧ Apart v2 v3
theorem Cv.open_ {w : World} {lo : Nat} {v : Value} {C : Cp} (hv : Cv w lo v C) : ∃ A0 n0 c0 A1 n1 c1 A2 n2 c2 A3 n3 c3, v = .agg #[.slice A0 n0 c0, .slice A1 n1 c1, .slice A2 n2 c2, .slice A3 n3 c3] ∧
    Hv w lo (.agg #[.slice A0 n0 c0, .slice A1 n1 c1, .slice A2 n2 c2]) C.h ∧
    (Row w lo (.slice A0 n0 c0) C.h.l ∧ Row w lo (.slice A1 n1 c1) C.h.r ∧ Row w lo (.slice A2 n2 c2) C.h.t ∧ Row w lo (.slice A3 n3 c3) C.c) ∧
    (Hid (C.h.l.length = n0) ∧ Hid (C.h.r.length = n1) ∧ Hid (C.h.t.length = n2) ∧ Hid (C.c.length = n3)) ∧ (n0 ≤ 9223372036854775807 ∧ n1 ≤ 9223372036854775807 ∧ n2 ≤ 9223372036854775807 ∧ n3 ≤ 9223372036854775807) ∧
    (Apart (.slice A0 n0 c0) (.slice A1 n1 c1) ∧ Apart (.slice A0 n0 c0) (.slice A2 n2 c2) ∧ Apart (.slice A1 n1 c1) (.slice A2 n2 c2)) ∧
    (Apart (.slice A0 n0 c0) (.slice A3 n3 c3) ∧ Apart (.slice A1 n1 c1) (.slice A3 n3 c3) ∧ Apart (.slice A2 n2 c2) (.slice A3 n3 c3)) := by
  obtain ⟨v0, v1, v2, v3, rfl, hh, h3, a⟩ := hv
  obtain ⟨A0, n0, c0, A1, n1, c1, A2, n2, c2, e, ⟨h0, h1, h2⟩, ⟨l0, l1, l2⟩, ⟨m0, m1, m2⟩, _, b⟩ := hh.open_
  cases e
  obtain ⟨A3, c3, rfl, _, m3⟩ := h3.form
  unfold maxLen at m3
  exact ⟨A0, n0, c0, A1, n1, c1, A2, n2, c2, A3, _, c3, rfl, hh, ⟨h0, h1, h2, h3⟩, ⟨l0, l1, l2, rfl⟩, ⟨m0, m1, m2, by omega⟩, b, a⟩
section
variable {w w' : World} {lo : Nat} {v : Value} {C : Cp}
theorem Cv.below (hv : Cv w lo v C) (hb : Below w.heap.size w w') : Cv w' lo v C := by
  obtain ⟨v0, v1, v2, v3, rfl, h, h3, a⟩ := hv
  exact ⟨v0, v1, v2, v3, rfl, h.below hb, h3.below hb, a⟩
theorem Cv.alloc (hv : Cv w lo v C) (o : Obj) : Cv (w.alloc o) lo v C := by
  obtain ⟨v0, v1, v2, v3, rfl, h, h3, a⟩ := hv
  exact ⟨v0, v1, v2, v3, rfl, h.alloc o, h3.alloc o, a⟩
theorem Cv.drew (hv : Cv w lo v C) : Cv w.drew lo v C := hv
theorem Cv.drewN (hv : Cv w lo v C) (n : Nat) : Cv (w.drewN n) lo v C := hv
theorem Cv.mono {lo' : Nat} (hv : Cv w lo v C) (hl : lo' ≤ lo) : Cv w lo' v C := by
  obtain ⟨v0, v1, v2, v3, rfl, h, h3, a⟩ := hv
  exact ⟨v0, v1, v2, v3, rfl, h.mono hl, h3.mono hl, a⟩
theorem Cv.set_low (hv : Cv w lo v C) {p : Addr} (hp : p.block < lo) (u : Value) : Cv (w.setCell p u) lo v C := by
  obtain ⟨v0, v1, v2, v3, rfl, h, h3, a⟩ := hv
  exact ⟨v0, v1, v2, v3, rfl, h.low_set hp u, h3.other (fun e => by have := (h3.lt _ e).1; omega) u, a⟩
theorem Cv.kept_low {rb : Nat} (hv : Cv w lo v C) (hg : w.grownBy w' (some rb)) (hrb : rb < lo) : Cv w' lo v C := by
  obtain ⟨v0, v1, v2, v3, rfl, h, h3, a⟩ := hv
  exact ⟨v0, v1, v2, v3, rfl, h.low_kept hg hrb, h3.kept hg (.inr fun e => by have := (h3.lt _ e).1; omega), a⟩
end
theorem Cv.zero (w : World) (lo : Nat) : Cv w lo (.agg #[.slice none 0 0, .slice none 0 0, .slice none 0 0, .slice none 0 0]) Cp.zero :=
  ⟨_, _, _, _, rfl, Hv.zero w lo, Row.nil _ _, fun _ h => by simp [Value.ownBlock] at h, fun _ h => by simp [Value.ownBlock] at h, fun _ h => by simp [Value.ownBlock] at h⟩

/-- A block of four cells, known whole. -/
def Blk4 (w : World) (b : Nat) (x y z u : Value) (t : TypeId) : Prop := w.heap[b]? = some (.cells #[x, y, z, u] t (0, 0))
section
variable {w w' : World} {b : Nat} {x y z u : Value} {t : TypeId}
theorem Blk4.cells (h : Blk4 w b x y z u t) :
    w.cell? ⟨b, 0, none⟩ = some x ∧ w.cell? ⟨b, 1, none⟩ = some y ∧ w.cell? ⟨b, 2, none⟩ = some z ∧ w.cell? ⟨b, 3, none⟩ = some u ∧ w.frozen? ⟨b, 0, none⟩ = false ∧ w.frozen? ⟨b, 1, none⟩ = false ∧ w.frozen? ⟨b, 2, none⟩ = false ∧ w.frozen? ⟨b, 3, none⟩ = false := by
  unfold Blk4 at h
  simp [World.cell?, World.frozen?, h]
theorem Blk4.lt (h : Blk4 w b x y z u t) : b < w.heap.size := (Array.getElem?_eq_some_iff.1 h).1
theorem Blk4.below (h : Blk4 w b x y z u t) (hb : Below w.heap.size w w') : Blk4 w' b x y z u t := (hb.block b h.lt).trans h
theorem Blk4.new (w : World) (x y z u : Value) (t : TypeId) : Blk4 (w.alloc (.cells #[x, y, z, u] t)) w.heap.size x y z u t := heap_alloc_new w _
theorem Blk4.new_at {w : World} {b : Nat} (hb : b = w.heap.size) (x y z u : Value) (t : TypeId) : Blk4 (w.alloc (.cells #[x, y, z, u] t)) b x y z u t := by subst hb; exact heap_alloc_new w _
theorem Blk4.alloc (h : Blk4 w b x y z u t) (o : Obj) : Blk4 (w.alloc o) b x y z u t := (Below.heap_alloc w o b h.lt).trans h
theorem Blk4.other (h : Blk4 w b x y z u t) {p : Addr} (hp : b ≠ p.block) (a : Value) : Blk4 (w.setCell p a) b x y z u t := (Below.heap_setCell w p a b hp).trans h
theorem Blk4.kept {rb : Nat} (h : Blk4 w b x y z u t) (hg : w.grownBy w' (some rb)) (hb : b ≠ rb) : Blk4 w' b x y z u t := (hg.block b h.lt (fun e => hb (Option.some.inj e))).trans h
theorem Blk4.set3 (h : Blk4 w b x y z u t) (a : Value) : Blk4 (w.setCell ⟨b, 3, none⟩ a) b x y z a t := by
  unfold Blk4 at h ⊢; simp [World.setCell, Array.getElem?_modify, h]
end

def colB (x : Int) : Bool := decide (0 ≤ x ∧ x ≤ 2)
/-- A colored heap is valid. -/
def cvB (C : Cp) : Bool := hvB C.h && decide (C.c.length = C.h.l.length) && C.c.all colB
theorem cvB_parts {C : Cp} (h : cvB C = true) : hvB C.h = true ∧ C.c.length = C.h.l.length ∧ ∀ x ∈ C.c, 0 ≤ x ∧ x ≤ 2 := by
  simp only [cvB, Bool.and_eq_true, decide_eq_true_eq, List.all_eq_true, colB] at h
  exact ⟨h.1.1, h.1.2, h.2⟩
def sameC (a b : Cp) : Bool := sameB a.h b.h && decide (a.c = b.c)
theorem sameC_self (a : Cp) : sameC a a = true := by simp [sameC, sameB]
/-- A cell that is white is made gray. -/
def shade (c : List Int) (k : Int) : List Int := if 0 ≤ k ∧ c[k.toNat]? = some 0 then c.set k.toNat 1 else c
theorem shade_len (c : List Int) (k : Int) : (shade c k).length = c.length := by unfold shade; split <;> simp
theorem shade_none (c : List Int) : shade c (-1) = c := by unfold shade; rw [if_neg (by omega)]
theorem shade_white {c : List Int} {k : Nat} (h : c[k]? = some 0) : shade c k = c.set k 1 := by
  unfold shade; rw [if_pos ⟨by omega, by simpa using h⟩]; simp
theorem shade_other {c : List Int} {k : Nat} {x : Int} (h : c[k]? = some x) (hx : x ≠ 0) : shade c k = c := by
  unfold shade; rw [if_neg]; rintro ⟨_, e⟩; simp [h] at e; exact hx e
theorem shade_valid {c : List Int} (k : Int) (h : ∀ x ∈ c, 0 ≤ x ∧ x ≤ 2) : ∀ x ∈ shade c k, 0 ≤ x ∧ x ≤ 2 := by
  unfold shade; split
  · intro x hx
    rcases List.mem_or_eq_of_mem_set hx with h9 | rfl
    · exact h x h9
    · omega
  · exact h
/-- A cell is made black, and what it points to gray. -/
def blackC (h : Hp) (c : List Int) (k : Nat) : List Int := (shade (shade c (h.l.getD k 0)) (h.r.getD k 0)).set k 2
theorem blackC_len (h : Hp) (c : List Int) (k : Nat) : (blackC h c k).length = c.length := by unfold blackC; rw [List.length_set, shade_len, shade_len]
theorem blackC_valid {c : List Int} (h : Hp) (k : Nat) (hc : ∀ x ∈ c, 0 ≤ x ∧ x ≤ 2) : ∀ x ∈ blackC h c k, 0 ≤ x ∧ x ≤ 2 := by
  intro x hx
  rcases List.mem_or_eq_of_mem_set hx with h9 | rfl
  · exact shade_valid _ (shade_valid _ hc) x h9
  · omega
/-- The first cell of a color, or -1. -/
def firstOf (c : List Int) (x : Int) : Int := if x ∈ c then (c.idxOf x : Int) else -1
/-- The colored heap that a list of cells shades. -/
def shadeAll (c : List Int) (ks : List Int) : List Int := ks.foldl shade c
theorem shadeAll_len (ks : List Int) : ∀ c : List Int, (shadeAll c ks).length = c.length := by
  induction ks with
  | nil => intro c; rfl
  | cons k r ih => intro c; exact (ih (shade c k)).trans (shade_len c k)
theorem shadeAll_take {c ks : List Int} {i : Nat} {k : Int} (h : ks[i]? = some k) : shadeAll c (ks.take (i + 1)) = shade (shadeAll c (ks.take i)) k := by
  unfold shadeAll
  rw [List.take_add_one, h, Option.toList_some, List.foldl_append]; rfl
/-- No black cell points to a white one. -/
def holdsAt (C : Cp) (i : Nat) : Bool := !(decide (C.c[i]? = some 2) && (decide (0 ≤ C.h.l.getD i 0 ∧ C.c[(C.h.l.getD i 0).toNat]? = some 0) || decide (0 ≤ C.h.r.getD i 0 ∧ C.c[(C.h.r.getD i 0).toNat]? = some 0)))
def holdsB (C : Cp) : Bool := cvB C && (List.range C.c.length).all (holdsAt C)
end Go.Proofs.Ytapkhgpifpgleaa
