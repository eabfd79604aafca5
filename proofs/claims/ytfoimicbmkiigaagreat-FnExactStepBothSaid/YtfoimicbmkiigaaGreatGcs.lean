import Derived.Test.YtfoimicbmkiigaaGreatPureKS
import Derived.Test.YtfoimicbmkiigaaGreatStos
import Derived.Test.YtfoimicbmkiigaaGreatSp3
import Derived.Test.YtfoimicbmkiigaaGreatICols
/- Collectors by value: a phase, a row of colors, a place; and what a step does to them. Plain words. -/
namespace Go.Proofs.YtfoimicbmkiigaaGreat
open Go.RowKit

structure Gp where
  p : Int
  c : List Int
  a : Int
def Gp.zero : Gp := ⟨0, [], 0⟩
theorem Gp.ext' {a b : Gp} (h1 : a.p = b.p) (h2 : a.c = b.c) (h3 : a.a = b.a) : a = b := by cases a; cases b; simp_all
/-- A collector by value: three cells, the second of which owns a row. -/
def Gv (w : World) (lo : Nat) (v : Value) (G : Gp) : Prop := ∃ r, v = .agg #[.int .i64 G.p, r, .int .i64 G.a] ∧ Row w lo r G.c
section
variable {w w' : World} {lo : Nat} {v : Value} {G : Gp}
theorem Gv.open_ (h : Gv w lo v G) : ∃ A n c, v = .agg #[.int .i64 G.p, .slice A n c, .int .i64 G.a] ∧ Row w lo (.slice A n c) G.c ∧ Hid (G.c.length = n) ∧ n ≤ 9223372036854775807 ∧ n ≤ c := by
  obtain ⟨r, rfl, hr⟩ := h
  obtain ⟨A, c, rfl, b, m⟩ := hr.form
  unfold maxLen at m
  exact ⟨A, _, c, rfl, hr, rfl, by omega, b⟩
theorem Gv.below (h : Gv w lo v G) (hb : Below w.heap.size w w') : Gv w' lo v G := by obtain ⟨r, rfl, hr⟩ := h; exact ⟨r, rfl, hr.below hb⟩
theorem Gv.alloc (h : Gv w lo v G) (o : Obj) : Gv (w.alloc o) lo v G := by obtain ⟨r, rfl, hr⟩ := h; exact ⟨r, rfl, hr.alloc o⟩
theorem Gv.drew (h : Gv w lo v G) : Gv w.drew lo v G := h
theorem Gv.drewN (h : Gv w lo v G) (n : Nat) : Gv (w.drewN n) lo v G := h
theorem Gv.mono {lo' : Nat} (h : Gv w lo v G) (hl : lo' ≤ lo) : Gv w lo' v G := by obtain ⟨r, rfl, hr⟩ := h; exact ⟨r, rfl, hr.mono hl⟩
theorem Gv.other (h : Gv w lo v G) {a : Addr} (ha : ∀ r, v = .agg #[.int .i64 G.p, r, .int .i64 G.a] → r.ownBlock ≠ some a.block) (u : Value) : Gv (w.setCell a u) lo v G := by obtain ⟨r, rfl, hr⟩ := h; exact ⟨r, rfl, hr.other (ha r rfl) u⟩
theorem Gv.mk {A : Option Addr} {n c : Nat} {G : Gp} (hr : Row w lo (.slice A n c) G.c) {p a : Int} (hp : p = G.p) (ha : a = G.a) : Gv w lo (.agg #[.int .i64 p, .slice A n c, .int .i64 a]) G := ⟨_, by rw [hp, ha], hr⟩
end
theorem Gv.zero (w : World) (lo : Nat) : Gv w lo (.agg #[.int .i64 0, .slice none 0 0, .int .i64 0]) Gp.zero := ⟨_, rfl, Row.nil _ _⟩

/-- A collector, or none. -/
def OptGv (w : World) (o : Option Gp) (e : Ending) (w' : World) : Prop := ∃ v, e = .returned (.tuple #[v, .bool o.isSome]) ∧ Gv w' w.heap.size v (o.getD Gp.zero) ∧ Below w.heap.size w w'
def NewGv (w : World) (G : Gp) (e : Ending) (w' : World) : Prop := ∃ v, e = .returned v ∧ Gv w' w.heap.size v G ∧ Below w.heap.size w w'
/-- A store and a collector, apart. -/
def CGv (w : World) (lo : Nat) (vs vg : Value) (C : Cp) (G : Gp) : Prop := ∃ v0 v1 v2 v3 r, vs = .agg #[v0, v1, v2, v3] ∧ vg = .agg #[.int .i64 G.p, r, .int .i64 G.a] ∧ Cv w lo vs C ∧ Row w lo r G.c ∧ Apart v0 r ∧ Apart v1 r ∧ Apart v2 r ∧ Apart v3 r
theorem CGv.cv {w : World} {lo : Nat} {vs vg : Value} {C : Cp} {G : Gp} (h : CGv w lo vs vg C G) : Cv w lo vs C := by obtain ⟨_, _, _, _, _, _, _, h, _⟩ := h; exact h
theorem CGv.gv {w : World} {lo : Nat} {vs vg : Value} {C : Cp} {G : Gp} (h : CGv w lo vs vg C G) : Gv w lo vg G := by obtain ⟨_, _, _, _, r, _, e, _, h, _⟩ := h; exact ⟨r, e, h⟩
theorem CGv.below {w w' : World} {lo : Nat} {vs vg : Value} {C : Cp} {G : Gp} (h : CGv w lo vs vg C G) (hb : Below w.heap.size w w') : CGv w' lo vs vg C G := by
  obtain ⟨v0, v1, v2, v3, r, e, e', h, hr, a⟩ := h; exact ⟨v0, v1, v2, v3, r, e, e', h.below hb, hr.below hb, a⟩
theorem CGv.alloc {w : World} {lo : Nat} {vs vg : Value} {C : Cp} {G : Gp} (h : CGv w lo vs vg C G) (o : Obj) : CGv (w.alloc o) lo vs vg C G := by
  obtain ⟨v0, v1, v2, v3, r, e, e', h, hr, a⟩ := h; exact ⟨v0, v1, v2, v3, r, e, e', h.alloc o, hr.alloc o, a⟩
theorem CGv.drew {w : World} {lo : Nat} {vs vg : Value} {C : Cp} {G : Gp} (h : CGv w lo vs vg C G) : CGv w.drew lo vs vg C G := h
theorem CGv.drewN {w : World} {lo : Nat} {vs vg : Value} {C : Cp} {G : Gp} (h : CGv w lo vs vg C G) (n : Nat) : CGv (w.drewN n) lo vs vg C G := h
theorem CGv.mono {w : World} {lo lo' : Nat} {vs vg : Value} {C : Cp} {G : Gp} (h : CGv w lo vs vg C G) (hl : lo' ≤ lo) : CGv w lo' vs vg C G := by
  obtain ⟨v0, v1, v2, v3, r, e, e', h, hr, a⟩ := h; exact ⟨v0, v1, v2, v3, r, e, e', h.mono hl, hr.mono hl, a⟩
/-- What was made later lies apart from what was there. -/
theorem CGv.mk {w w' : World} {lo : Nat} {vs vg : Value} {C : Cp} {G : Gp} (h : Cv w lo vs C) (g : Gv w' w.heap.size vg G) (hl : lo ≤ w.heap.size) (hb : Below w.heap.size w w') : CGv w' lo vs vg C G := by
  obtain ⟨r, rfl, hr⟩ := g
  have h' := h
  obtain ⟨v0, v1, v2, v3, rfl, ⟨_, _, _, e, r0, r1, r2, _⟩, r3, _⟩ := h'
  cases e
  have ap : ∀ (v : Value) (xs : List Int), Row w lo v xs → Apart v r := fun v xs rv j e e' => by
    have h1 := (rv.lt j e).2
    have h2 := (hr.lt j e').1
    omega
  exact ⟨v0, v1, v2, v3, r, rfl, rfl, h.below hb, hr.mono hl, ap _ _ r0, ap _ _ r1, ap _ _ r2, ap _ _ r3⟩
/-- The same, the collector made first. -/
theorem CGv.mk' {w w' : World} {lo : Nat} {vs vg : Value} {C : Cp} {G : Gp} (g : Gv w lo vg G) (h : Cv w' w.heap.size vs C) (hl : lo ≤ w.heap.size) (hb : Below w.heap.size w w') : CGv w' lo vs vg C G := by
  obtain ⟨r, rfl, hr⟩ := g
  have h' := h
  obtain ⟨v0, v1, v2, v3, rfl, ⟨_, _, _, e, r0, r1, r2, _⟩, r3, _⟩ := h'
  cases e
  have ap : ∀ (v : Value) (xs : List Int), Row w' w.heap.size v xs → Apart v r := fun v xs rv j e e' => by
    have h1 := (rv.lt j e).1
    have h2 := (hr.lt j e').2
    omega
  exact ⟨v0, v1, v2, v3, r, rfl, rfl, h.mono hl, hr.below hb, ap _ _ r0, ap _ _ r1, ap _ _ r2, ap _ _ r3⟩
theorem CGv.open_ {w : World} {lo : Nat} {vs vg : Value} {C : Cp} {G : Gp} (h : CGv w lo vs vg C G) : ∃ A0 n0 c0 A1 n1 c1 A2 n2 c2 A3 n3 c3 A4 n4 c4 p cc a, G = ⟨p, cc, a⟩ ∧ vs = .agg #[.slice A0 n0 c0, .slice A1 n1 c1, .slice A2 n2 c2, .slice A3 n3 c3] ∧ vg = .agg #[.int .i64 p, .slice A4 n4 c4, .int .i64 a] ∧
    Cv w lo (.agg #[.slice A0 n0 c0, .slice A1 n1 c1, .slice A2 n2 c2, .slice A3 n3 c3]) C ∧ Cv w lo (.agg #[.slice A0 n0 c0, .slice A1 n1 c1, .slice A2 n2 c2, .slice A4 n4 c4]) ⟨C.h, cc⟩ ∧
    (Row w lo (.slice A0 n0 c0) C.h.l ∧ Row w lo (.slice A1 n1 c1) C.h.r ∧ Row w lo (.slice A2 n2 c2) C.h.t ∧ Row w lo (.slice A3 n3 c3) C.c ∧ Row w lo (.slice A4 n4 c4) cc) ∧
    (Hid (C.h.l.length = n0) ∧ Hid (C.h.r.length = n1) ∧ Hid (C.h.t.length = n2) ∧ Hid (C.c.length = n3) ∧ Hid (cc.length = n4)) ∧
    (n0 ≤ 9223372036854775807 ∧ n1 ≤ 9223372036854775807 ∧ n2 ≤ 9223372036854775807 ∧ n3 ≤ 9223372036854775807 ∧ n4 ≤ 9223372036854775807) := by
  obtain ⟨v0, v1, v2, v3, r, rfl, rfl, hv, hr, a0, a1, a2, a3⟩ := h
  obtain ⟨p, cc, a⟩ := G
  have hvo := hv
  obtain ⟨A0, n0, c0, A1, n1, c1, A2, n2, c2, A3, n3, c3, e, hh, ⟨r0, r1, r2, r3⟩, ⟨l0, l1, l2, l3⟩, ⟨m0, m1, m2, m3⟩, _, _⟩ := hvo.open_
  cases e
  obtain ⟨A4, c4, rfl, b, m⟩ := hr.form
  unfold maxLen at m
  exact ⟨A0, n0, c0, A1, n1, c1, A2, n2, c2, A3, n3, c3, A4, _, c4, p, cc, a, rfl, rfl, rfl, hv, ⟨_, _, _, _, rfl, hh, hr, a0, a1, a2⟩, ⟨r0, r1, r2, r3, hr⟩, ⟨l0, l1, l2, l3, rfl⟩, ⟨m0, m1, m2, m3, by omega⟩⟩
theorem Cv.hvP {w : World} {lo : Nat} {v0 v1 v2 v3 : Value} {C : Cp} (h : Cv w lo (.agg #[v0, v1, v2, v3]) C) : Hv w lo (.agg #[v0, v1, v2]) C.h := by
  obtain ⟨_, _, _, _, e, h, _⟩ := h
  cases e
  exact h
theorem CGv.zero (w : World) (lo : Nat) : CGv w lo (.agg #[.slice none 0 0, .slice none 0 0, .slice none 0 0, .slice none 0 0]) (.agg #[.int .i64 0, .slice none 0 0, .int .i64 0]) Cp.zero Gp.zero :=
  ⟨_, _, _, _, _, rfl, rfl, Cv.zero w lo, Row.nil _ _, fun _ h => by simp [Value.ownBlock] at h, fun _ h => by simp [Value.ownBlock] at h, fun _ h => by simp [Value.ownBlock] at h, fun _ h => by simp [Value.ownBlock] at h⟩
/-- A store and a collector, or none. -/
def OptCG (w : World) (o : Option (Cp × Gp)) (e : Ending) (w' : World) : Prop := ∃ vs vg, e = .returned (.tuple #[vs, vg, .bool o.isSome]) ∧ CGv w' w.heap.size vs vg (o.getD (Cp.zero, Gp.zero)).1 (o.getD (Cp.zero, Gp.zero)).2 ∧ Below w.heap.size w w'
def OptCGN (w : World) (o : Option (Cp × Gp × Int)) (e : Ending) (w' : World) : Prop := ∃ vs vg, e = .returned (.tuple #[vs, vg, .int .i64 (o.getD (Cp.zero, Gp.zero, 0)).2.2, .bool o.isSome]) ∧ CGv w' w.heap.size vs vg (o.getD (Cp.zero, Gp.zero, 0)).1 (o.getD (Cp.zero, Gp.zero, 0)).2.1 ∧ Below w.heap.size w w'

def phB (p a : Int) (nr nc : Nat) : Bool := decide (((p = 0 ∨ p = 2) ∧ a = 0) ∨ (p = 1 ∧ 0 ≤ a ∧ a < nr) ∨ (p = 3 ∧ 0 ≤ a ∧ a < nc))
theorem phB_iff {p a : Int} {nr nc : Nat} : phB p a nr nc = true ↔ ((p = 0 ∨ p = 2) ∧ a = 0) ∨ (p = 1 ∧ 0 ≤ a ∧ a < nr) ∨ (p = 3 ∧ 0 ≤ a ∧ a < nc) := by unfold phB; exact decide_eq_true_iff
/-- A collector is one of a store. -/
def gcB (C : Cp) (G : Gp) : Bool := stoB C && cvB ⟨C.h, G.c⟩ && phB G.p G.a C.h.t.length C.h.l.length
theorem gcB_iff {C : Cp} {G : Gp} : gcB C G = true ↔ stoB C = true ∧ cvB ⟨C.h, G.c⟩ = true ∧ phB G.p G.a C.h.t.length C.h.l.length = true := by
  unfold gcB; rw [Bool.and_eq_true, Bool.and_eq_true, and_assoc]
theorem gcB_sizes {C : Cp} {G : Gp} (h : gcB C G = true) : G.c.length = C.h.l.length ∧ (1 ≤ C.h.l.length ∧ C.h.l.length ≤ 8) ∧ C.h.r.length = C.h.l.length ∧ 1 ≤ C.h.t.length ∧ C.h.t.length ≤ 3 := by
  obtain ⟨h1, h2, _⟩ := gcB_iff.1 h
  obtain ⟨hv, hl, _⟩ := cvB_parts h2
  simp only at hv hl
  have := hvB_len hv
  exact ⟨hl, by omega, by omega, by omega, by omega⟩
def sameG (a b : Gp) : Bool := decide (a.p = b.p ∧ a.c = b.c ∧ a.a = b.a)
theorem sameG_iff {a b : Gp} : sameG a b = true ↔ a = b := by
  unfold sameG; rw [decide_eq_true_iff]
  exact ⟨fun ⟨h1, h2, h3⟩ => Gp.ext' h1 h2 h3, fun h => by rw [h]; exact ⟨rfl, rfl, rfl⟩⟩
theorem sameG_self (a : Gp) : sameG a a = true := sameG_iff.2 rfl
theorem sameG_comm (a b : Gp) : sameG b a = sameG a b := by
  rw [Bool.eq_iff_iff, sameG_iff, sameG_iff]; exact eq_comm
def newG (C : Cp) : Option Gp := if stoB C = true then some ⟨0, List.replicate C.h.l.length 0, 0⟩ else none
/-- What the next step of a valid collector makes free. -/
def swI (C : Cp) (G : Gp) : Int := if G.p = 3 ∧ G.c[G.a.toNat]? = some 0 ∧ G.a ∉ C.c then G.a else -1
def swO (C : Cp) (G : Gp) : Int := if gcB C G = true then swI C G else -1
def badB (C : Cp) (G : Gp) : Bool := decide (swI C G ≠ -1 ∧ swI C G ∈ C.h.t)
def goB (C : Cp) (G : Gp) : Bool := gcB C G && !badB C G
def nextG (p : Int) (c : List Int) (a : Int) (n : Nat) (q : Int) : Gp := if a + 1 < n then ⟨p, c, a + 1⟩ else ⟨q, c, 0⟩
def rootW (c ts : List Int) : Option Int := ts.find? (wtB c)
def markG (C : Cp) (c : List Int) : Gp := if firstOf c 1 = -1 then (match rootW c C.h.t with | some x => ⟨2, shade c x, 0⟩ | none => ⟨3, c, 0⟩) else ⟨2, blackC C.h c (firstOf c 1).toNat, 0⟩
def clrS (C : Cp) (x : Int) : Cp := if x = -1 then C else clearC C [x]
def stepG (C : Cp) (G : Gp) : Cp × Gp :=
  if G.p = 0 then (C, ⟨1, List.replicate G.c.length 0, 0⟩)
  else if G.p = 1 then (C, nextG 1 (shade G.c (C.h.t.getD G.a.toNat 0)) G.a C.h.t.length 2)
  else if G.p = 2 then (C, markG C G.c)
  else (clrS C (swI C G), nextG 3 (G.c.set G.a.toNat 0) G.a G.c.length 0)
def stepO (C : Cp) (G : Gp) : Option (Cp × Gp) := if goB C G = true then some (stepG C G) else none
def colorG (G : Gp) (k : Int) : Gp := ⟨G.p, G.c.set k.toNat (if G.p = 1 ∨ G.p = 2 ∨ (G.p = 3 ∧ G.a ≤ k) then 2 else 0), G.a⟩
def cellB (C : Cp) (k : Int) : Bool := plB k C.h.l.length
def colorO (C : Cp) (G : Gp) (k : Int) : Option Gp := if (gcB C G && cellB C k) = true then some (colorG G k) else none
def shadeG (G : Gp) (k : Int) : Gp := ⟨G.p, if G.p = 1 ∨ G.p = 2 then shade G.c k else G.c, G.a⟩
def shadeGO (C : Cp) (G : Gp) (k : Int) : Option Gp := if (gcB C G && cellB C k) = true then some (shadeG G k) else none

theorem wtB_iff {c : List Int} {p : Int} : wtB c p = true ↔ 0 ≤ p ∧ c[p.toNat]? = some 0 := by unfold wtB; exact decide_eq_true_iff
theorem rootW_some {c ts : List Int} {x : Int} (h : rootW c ts = some x) : x ∈ ts ∧ 0 ≤ x ∧ c[x.toNat]? = some 0 := by
  unfold rootW at h
  exact ⟨List.mem_of_find?_eq_some h, wtB_iff.1 (List.find?_some h)⟩
theorem rootW_none {c ts : List Int} (h : rootW c ts = none) : ∀ x ∈ ts, 0 ≤ x → c[x.toNat]? ≠ some 0 := by
  unfold rootW at h
  intro x hx h0 hw
  have := List.find?_eq_none.1 h x hx
  exact this (wtB_iff.2 ⟨h0, hw⟩)
/-- A cell that no root points to is cleared. -/
theorem sto_clear {C : Cp} (hC : stoB C = true) {k : Nat} (hk : k < C.h.l.length) (ht : (k : Int) ∉ C.h.t) (hf : (k : Int) ∉ C.c) : stoB (clearC C [(k : Int)]) = true := by
  obtain ⟨hv, hlen, hfr, hnd⟩ := stoB_parts hC
  have hn := hvB_len hv
  have hv' := clear_heap [(k : Int)] hv
  have fr : ∀ j : Nat, j < C.h.l.length → ((j : Int) = k ∨ (C.h.l[j]? = some (-1) ∧ C.h.r[j]? = some (-1) ∧ (j : Int) ∉ C.h.l ∧ (j : Int) ∉ C.h.r)) → (j : Int) ∉ C.h.t → freeB (clearC C [(k : Int)]).h (j : Int) = true := by
    intro j hj h hnt
    have hll : (clearC C [(k : Int)]).h.l.length = C.h.l.length := by simp [clearC, clrN_len]
    have at_ : ∀ l : List Int, l.length = C.h.l.length → ((j : Int) = k ∨ l[j]? = some (-1)) → (clrN l [(k : Int)] C.h.l.length)[j]? = some (-1) := by
      intro l hl h9
      obtain ⟨x, hx⟩ : ∃ x, l[j]? = some x := ⟨l[j]'(by omega), List.getElem?_eq_getElem _⟩
      rw [clr_at' hl hx]
      unfold clrF
      rcases h9 with h9 | h9
      · rw [if_pos (.inr (List.mem_singleton.2 h9))]
      · rw [h9] at hx; cases hx
        by_cases hb : (-1 : Int) ∈ [(k : Int)] ∨ (j : Int) ∈ [(k : Int)]
        · rw [if_pos hb]
        · rw [if_neg hb]
    have out : ∀ l : List Int, l.length = C.h.l.length → ((j : Int) = k ∨ (j : Int) ∉ l) → (j : Int) ∉ clrN l [(k : Int)] C.h.l.length := by
      intro l hl h9 hm
      rcases clr_mem hl hm with h1 | ⟨i, hi, h2, _⟩
      · omega
      · rcases h9 with h9 | h9
        · exact h2 (List.mem_singleton.2 h9)
        · exact h9 (List.mem_of_getElem? hi)
    have h1 := at_ C.h.l rfl (h.imp id fun h => h.1)
    have h2 := at_ C.h.r (by omega) (h.imp id fun h => h.2.1)
    have h3 := out C.h.l rfl (h.imp id fun h => h.2.2.1)
    have h4 := out C.h.r (by omega) (h.imp id fun h => h.2.2.2)
    unfold freeB
    rw [decide_eq_true_iff]
    exact ⟨by omega, by rw [hll]; omega, by simpa [clearC] using h1, by simpa [clearC] using h2, by simpa [clearC] using h3, by simpa [clearC] using h4, hnt⟩
  have fp : ∀ x ∈ C.c, ∃ j : Nat, x = j ∧ j < C.h.l.length ∧ C.h.l[j]? = some (-1) ∧ C.h.r[j]? = some (-1) ∧ (j : Int) ∉ C.h.l ∧ (j : Int) ∉ C.h.r ∧ (j : Int) ∉ C.h.t := by
    intro x hx
    have h9 := hfr x hx
    unfold freeB at h9
    rw [decide_eq_true_iff] at h9
    obtain ⟨g1, g2, g3, g4, g5, g6, g7⟩ := h9
    obtain ⟨j, rfl⟩ := Int.eq_ofNat_of_zero_le g1
    exact ⟨j, rfl, by omega, by simpa using g3, by simpa using g4, g5, g6, g7⟩
  have hcc : (clearC C [(k : Int)]).c = C.c ++ [(k : Int)] := rfl
  have hll : (clearC C [(k : Int)]).h.l.length = C.h.l.length := by simp [clearC, clrN_len]
  have nd : (C.c ++ [(k : Int)]).Nodup := by
    rw [List.nodup_append]
    refine ⟨hnd, by simp, ?_⟩
    intro a ha b hb e
    rw [List.mem_singleton] at hb
    exact hf (by rw [← hb, ← e]; exact ha)
  have rg : ∀ x ∈ C.c ++ [(k : Int)], 0 ≤ x ∧ x < C.h.l.length := by
    intro x hx
    rcases List.mem_append.1 hx with hx | hx
    · obtain ⟨j, rfl, hj, _⟩ := fp x hx; omega
    · rw [List.mem_singleton] at hx; omega
  refine stoB_of hv' ?_ ?_ ?_
  · rw [hcc, hll]; exact pigeon nd rg
  · intro x hx
    rw [hcc] at hx
    rcases List.mem_append.1 hx with hx | hx
    · obtain ⟨j, rfl, hj, g1, g2, g3, g4, g5⟩ := fp x hx
      exact fr j hj (.inr ⟨g1, g2, g3, g4⟩) g5
    · rw [List.mem_singleton] at hx; subst hx
      exact fr k hk (.inl rfl) ht
  · rw [hcc]; exact nd
theorem swI_cases (C : Cp) (G : Gp) : swI C G = -1 ∨ (swI C G = G.a ∧ G.p = 3 ∧ G.c[G.a.toNat]? = some 0 ∧ G.a ∉ C.c) := by
  unfold swI; split
  · rename_i h; exact .inr ⟨rfl, h⟩
  · exact .inl rfl
theorem goB_iff {C : Cp} {G : Gp} : goB C G = true ↔ gcB C G = true ∧ (swI C G ≠ -1 → swI C G ∉ C.h.t) := by
  unfold goB badB
  simp only [Bool.and_eq_true, Bool.not_eq_true', decide_eq_false_iff_not, not_and]
theorem clrS_heap {C : Cp} (x : Int) : (clrS C x).h.l.length = C.h.l.length ∧ (clrS C x).h.t = C.h.t := by
  unfold clrS; split
  · exact ⟨rfl, rfl⟩
  · exact ⟨by simp [clearC, clrN_len], rfl⟩
theorem clrS_valid {C : Cp} {G : Gp} (h : goB C G = true) : stoB (clrS C (swI C G)) = true := by
  obtain ⟨hg, hb⟩ := goB_iff.1 h
  obtain ⟨hC, _, hp⟩ := gcB_iff.1 hg
  unfold clrS; split
  · exact hC
  · rename_i hne
    rcases swI_cases C G with h1 | ⟨h1, h3, h4, h5⟩
    · exact absurd h1 hne
    · have ha := phB_iff.1 hp
      have ha' : 0 ≤ G.a ∧ G.a < C.h.l.length := by omega
      obtain ⟨k, hk⟩ := Int.eq_ofNat_of_zero_le ha'.1
      have ht := hb hne
      rw [h1, hk] at ht ⊢
      rw [hk] at h5
      exact sto_clear hC (by omega) ht h5
theorem cvB_set {h : Hp} {c : List Int} (hv : cvB ⟨h, c⟩ = true) (k : Nat) {x : Int} (hx : 0 ≤ x ∧ x ≤ 2) : cvB ⟨h, c.set k x⟩ = true := by
  obtain ⟨h1, h2, h3⟩ := cvB_parts hv
  unfold cvB
  simp only [Bool.and_eq_true, decide_eq_true_eq, List.all_eq_true, colB, List.length_set]
  refine ⟨⟨h1, h2⟩, fun y hy => ?_⟩
  rcases List.mem_or_eq_of_mem_set hy with h9 | rfl
  · exact h3 y h9
  · exact hx
theorem cvB_of {h : Hp} {c : List Int} (h1 : hvB h = true) (h2 : c.length = h.l.length) (h3 : ∀ x ∈ c, 0 ≤ x ∧ x ≤ 2) : cvB ⟨h, c⟩ = true := by
  unfold cvB
  simp only [Bool.and_eq_true, decide_eq_true_eq, List.all_eq_true, colB]
  exact ⟨⟨h1, h2⟩, h3⟩
theorem cvB_shade {h : Hp} {c : List Int} (hv : cvB ⟨h, c⟩ = true) (k : Int) : cvB ⟨h, shade c k⟩ = true := by
  obtain ⟨h1, h2, h3⟩ := cvB_parts hv
  exact cvB_of h1 (by rw [shade_len]; exact h2) (shade_valid k h3)
theorem cvB_blk {h : Hp} {c : List Int} (hv : cvB ⟨h, c⟩ = true) (k : Nat) : cvB ⟨h, blackC h c k⟩ = true := by
  obtain ⟨h1, h2, h3⟩ := cvB_parts hv
  exact cvB_of h1 (by rw [blackC_len]; exact h2) (blackC_valid h k h3)
theorem nextG_ph {p q a : Int} {c : List Int} {n nr nc : Nat} (h : phB p a nr nc = true) (hp : p ≠ 0 ∧ p ≠ 2) (hq : q = 0 ∨ q = 2) (hn : n = if p = 1 then nr else nc) : phB (nextG p c a n q).p (nextG p c a n q).a nr nc = true := by
  have h9 := phB_iff.1 h
  rw [phB_iff]
  have hn' : (p = 1 ∧ n = nr) ∨ (p ≠ 1 ∧ n = nc) := by
    by_cases h1 : p = 1
    · exact .inl ⟨h1, by rw [hn, if_pos h1]⟩
    · exact .inr ⟨h1, by rw [hn, if_neg h1]⟩
  unfold nextG
  by_cases hl : a + 1 < (n : Int)
  · rw [if_pos hl]; show ((p = 0 ∨ p = 2) ∧ a + 1 = 0) ∨ (p = 1 ∧ 0 ≤ a + 1 ∧ a + 1 < nr) ∨ (p = 3 ∧ 0 ≤ a + 1 ∧ a + 1 < nc); omega
  · rw [if_neg hl]; show ((q = 0 ∨ q = 2) ∧ (0 : Int) = 0) ∨ (q = 1 ∧ (0 : Int) ≤ 0 ∧ (0 : Int) < nr) ∨ (q = 3 ∧ (0 : Int) ≤ 0 ∧ (0 : Int) < nc); omega
theorem nextG_c (p : Int) (c : List Int) (a : Int) (n : Nat) (q : Int) : (nextG p c a n q).c = c := by unfold nextG; split <;> rfl
/-- A step keeps a collector valid. -/
theorem step_valid {C : Cp} {G : Gp} (h : goB C G = true) : gcB (stepG C G).1 (stepG C G).2 = true := by
  obtain ⟨hg, hb⟩ := goB_iff.1 h
  obtain ⟨hC, hv, hp⟩ := gcB_iff.1 hg
  obtain ⟨z1, z2, z3, z4, z5⟩ := gcB_sizes hg
  obtain ⟨hvh, hvl, hvc⟩ := cvB_parts hv
  simp only at hvh hvl hvc
  have h9 := phB_iff.1 hp
  rw [gcB_iff]
  unfold stepG
  split
  · exact ⟨hC, cvB_of hvh (by simpa using z1) (fun x hx => by have := (List.mem_replicate.1 hx).2; omega), phB_iff.2 (.inr (.inl ⟨rfl, Int.le_refl _, by show (0 : Int) < C.h.t.length; omega⟩))⟩
  · split
    · rename_i h0 h1
      simp only
      refine ⟨hC, ?_, nextG_ph (p := 1) (by rw [← h1]; exact hp) ⟨by decide, by decide⟩ (.inr rfl) (by simp)⟩
      rw [nextG_c]; exact cvB_shade hv _
    · split
      · rename_i h0 h1 h2
        refine ⟨hC, ?_, ?_⟩
        · unfold markG; split
          · split
            · exact cvB_shade hv _
            · exact hv
          · exact cvB_blk hv _
        · unfold markG; split
          · split
            · exact phB_iff.2 (by simp)
            · exact phB_iff.2 (.inr (.inr ⟨rfl, Int.le_refl _, by show (0 : Int) < C.h.l.length; omega⟩))
          · exact phB_iff.2 (by simp)
      · rename_i h0 h1 h2
        have h3 : G.p = 3 := by omega
        have hs := clrS_valid h
        obtain ⟨e1, e2⟩ := clrS_heap (C := C) (swI C G)
        simp only
        refine ⟨hs, ?_, ?_⟩
        · rw [nextG_c]
          refine cvB_of (stoB_parts hs).1 (by rw [List.length_set, e1]; exact z1) (fun x hx => ?_)
          rcases List.mem_or_eq_of_mem_set hx with h9 | rfl
          · exact hvc x h9
          · omega
        · rw [e1, e2, z1]
          exact nextG_ph (p := 3) (by rw [← h3]; exact hp) ⟨by decide, by decide⟩ (.inl rfl) (by simp)
theorem step_sizes {C : Cp} {G : Gp} : (stepG C G).1.h.l.length = C.h.l.length ∧ (stepG C G).1.h.t = C.h.t := by
  unfold stepG
  split
  · exact ⟨rfl, rfl⟩
  · split
    · exact ⟨rfl, rfl⟩
    · split
      · exact ⟨rfl, rfl⟩
      · exact clrS_heap _
end Go.Proofs.YtfoimicbmkiigaaGreat

/- Runs of a collector: they end, and how soon. Plain words. -/
namespace Go.Proofs.YtfoimicbmkiigaaGreat
open Go.RowKit

/-- How much is left to mark. -/
def wtC (c : List Int) : Nat := c.count 0 + (c.length - c.count 2)
/-- How many steps there can be. -/
def muG (C : Cp) (G : Gp) : Nat :=
  if G.p = 0 then C.h.t.length + 3 * C.h.l.length + 2
  else if G.p = 1 then (C.h.t.length - G.a.toNat) + wtC G.c + C.h.l.length + 1
  else if G.p = 2 then wtC G.c + C.h.l.length + 1
  else C.h.l.length - G.a.toNat
theorem cnt2_le (c : List Int) : c.count 2 ≤ c.length := List.count_le_length
theorem wtC_shade (c : List Int) (k : Int) : wtC (shade c k) ≤ wtC c := by
  unfold wtC
  rw [shade_len]
  have h1 := shade_white_le c k
  have h2 : (shade c k).count 2 = c.count 2 := shadeAll_count [k] c
  omega
theorem wtC_white {c : List Int} {k : Nat} (h : c[k]? = some 0) : wtC (shade c (k : Int)) + 1 = wtC c := by
  unfold wtC
  rw [shade_len, shade_white h]
  have h2 : (c.set k 1).count 2 = c.count 2 := by have := count_set_any (c := c) 2 1 h (by decide); simpa using this
  have h0 : (c.set k 1).count 0 + 1 = c.count 0 := by
    rw [List.count_set (by exact (List.getElem?_eq_some_iff.1 h).1)]
    have hk := (List.getElem?_eq_some_iff.1 h)
    obtain ⟨hk, e⟩ := hk
    have : 0 < c.count 0 := List.count_pos_iff.2 (List.mem_of_getElem? h)
    simp [e]; omega
  omega
theorem wtC_black {h : Hp} {c : List Int} {k : Nat} (hk : c[k]? = some 1) : wtC (blackC h c k) + 1 ≤ wtC c := by
  unfold wtC
  rw [blackC_len]
  have h0 := black_white_le h hk
  have h2 : (blackC h c k).count 2 = c.count 2 + 1 := by
    unfold blackC
    have e : (shade (shade c (h.l.getD k 0)) (h.r.getD k 0)).count 2 = c.count 2 := shadeAll_count [h.l.getD k 0, h.r.getD k 0] c
    have hs : (shade (shade c (h.l.getD k 0)) (h.r.getD k 0))[k]? = some 1 := shade_keeps _ (shade_keeps _ hk (by decide)) (by decide)
    have := count_set_any (c := shade (shade c (h.l.getD k 0)) (h.r.getD k 0)) 2 2 hs (by decide)
    rw [this, e]; simp
  have h3 := cnt2_le (blackC h c k)
  rw [blackC_len] at h3
  omega
theorem wtC_le (c : List Int) : wtC c ≤ 2 * c.length := by
  unfold wtC
  have := List.count_le_length (a := (0 : Int)) (l := c)
  omega
theorem toNat_succ {a : Int} (h : 0 ≤ a) : (a + 1).toNat = a.toNat + 1 := by omega
/-- A step that does not end a run leaves fewer. -/
theorem mu_step {C : Cp} {G : Gp} (h : goB C G = true) (hp : (stepG C G).2.p ≠ 0) : muG (stepG C G).1 (stepG C G).2 + 1 ≤ muG C G := by
  obtain ⟨hg, hb⟩ := goB_iff.1 h
  obtain ⟨hC, hv, hph⟩ := gcB_iff.1 hg
  obtain ⟨z1, z2, z3, z4, z5⟩ := gcB_sizes hg
  have h9 := phB_iff.1 hph
  obtain ⟨s1, s2⟩ := step_sizes (C := C) (G := G)
  unfold muG
  rw [s1, s2]
  unfold stepG at hp ⊢
  by_cases h0 : G.p = 0
  · simp only [if_pos h0] at hp ⊢
    have := wtC_le (List.replicate G.c.length (0 : Int))
    rw [List.length_replicate] at this
    simp
    omega
  · by_cases h1 : G.p = 1
    · simp only [if_neg h0, if_pos h1] at hp ⊢
      have hs := wtC_shade G.c (C.h.t.getD G.a.toNat 0)
      generalize shade G.c (C.h.t.getD G.a.toNat 0) = sc at hs hp ⊢
      unfold nextG at hp ⊢
      by_cases h2 : G.a + 1 < C.h.t.length
      · simp only [if_pos h2]
        simp
        have := toNat_succ (a := G.a) (by omega)
        omega
      · simp only [if_neg h2]
        simp
        omega
    · by_cases h2 : G.p = 2
      · simp only [if_neg h0, if_neg h1, if_pos h2] at hp ⊢
        unfold markG at hp ⊢
        rcases first_cases G.c 1 with e | ⟨k, e, hk, hk1⟩
        · simp only [if_pos e] at hp ⊢
          rcases er : rootW G.c C.h.t with _ | x
          · simp
          · obtain ⟨hx, x0, xw⟩ := rootW_some er
            obtain ⟨k, rfl⟩ := Int.eq_ofNat_of_zero_le x0
            have := wtC_white (by simpa using xw)
            simp
            omega
        · have hne : ¬ firstOf G.c 1 = -1 := by rw [e]; omega
          simp only [if_neg hne]
          have := wtC_black (h := C.h) hk1
          rw [e]
          simp
          omega
      · simp only [if_neg h0, if_neg h1, if_neg h2] at hp ⊢
        unfold nextG at hp ⊢
        by_cases h3 : G.a + 1 < G.c.length
        · simp only [if_pos h3]
          simp
          have := toNat_succ (a := G.a) (by omega)
          omega
        · simp only [if_neg h3] at hp
          exact absurd rfl hp
theorem mu_pos {C : Cp} {G : Gp} (h : gcB C G = true) : 1 ≤ muG C G := by
  obtain ⟨hC, hv, hph⟩ := gcB_iff.1 h
  have h9 := phB_iff.1 hph
  unfold muG
  split
  · omega
  · split
    · omega
    · split
      · omega
      · omega
theorem mu_le {C : Cp} {G : Gp} (h : gcB C G = true) : muG C G ≤ C.h.t.length + 3 * C.h.l.length + 2 := by
  obtain ⟨z1, z2, z3, z4, z5⟩ := gcB_sizes h
  have := wtC_le G.c
  unfold muG
  split
  · omega
  · split
    · omega
    · split <;> omega

/-- Steps until the phase is that of a collector which does nothing. -/
def runF : Nat → Cp → Gp → Int → Option (Cp × Gp × Int)
  | 0, _, _, _ => none
  | f + 1, C, G, n => if goB C G = true then (if (stepG C G).2.p = 0 then some ((stepG C G).1, (stepG C G).2, n + 1) else runF f (stepG C G).1 (stepG C G).2 (n + 1)) else none
theorem runF_more : ∀ (f : Nat) (C : Cp) (G : Gp) (n : Int), muG C G ≤ f → runF (f + 1) C G n = runF f C G n := by
  intro f
  induction f with
  | zero =>
    intro C G n h
    unfold runF
    split
    · rename_i hg
      have := mu_pos (goB_iff.1 hg).1
      omega
    · rfl
  | succ f ih =>
    intro C G n h
    rw [show runF (f + 1 + 1) C G n = if goB C G = true then (if (stepG C G).2.p = 0 then some ((stepG C G).1, (stepG C G).2, n + 1) else runF (f + 1) (stepG C G).1 (stepG C G).2 (n + 1)) else none from rfl,
      show runF (f + 1) C G n = if goB C G = true then (if (stepG C G).2.p = 0 then some ((stepG C G).1, (stepG C G).2, n + 1) else runF f (stepG C G).1 (stepG C G).2 (n + 1)) else none from rfl]
    by_cases hg : goB C G = true
    · rw [if_pos hg, if_pos hg]
      by_cases h0 : (stepG C G).2.p = 0
      · rw [if_pos h0, if_pos h0]
      · rw [if_neg h0, if_neg h0]
        exact ih _ _ _ (by have := mu_step hg h0; omega)
    · rw [if_neg hg, if_neg hg]
theorem runF_big (C : Cp) (G : Gp) (n : Int) : ∀ (d f : Nat), muG C G ≤ f → runF (f + d) C G n = runF f C G n := by
  intro d
  induction d with
  | zero => intro f _; rfl
  | succ d ih => intro f h; rw [← Nat.add_assoc, runF_more _ _ _ _ (by omega)]; exact ih f h
/-- What a run gives, counted from n. -/
def runN (C : Cp) (G : Gp) (n : Int) : Option (Cp × Gp × Int) := runF (muG C G) C G n
def runO (C : Cp) (G : Gp) : Option (Cp × Gp × Int) := runN C G 0
theorem runN_eq (C : Cp) (G : Gp) (n : Int) : runN C G n = if goB C G = true then (if (stepG C G).2.p = 0 then some ((stepG C G).1, (stepG C G).2, n + 1) else runN (stepG C G).1 (stepG C G).2 (n + 1)) else none := by
  unfold runN
  rw [← runF_more (muG C G) C G n (Nat.le_refl _)]
  show (if goB C G = true then (if (stepG C G).2.p = 0 then some ((stepG C G).1, (stepG C G).2, n + 1) else runF (muG C G) (stepG C G).1 (stepG C G).2 (n + 1)) else none) = _
  by_cases hg : goB C G = true
  · rw [if_pos hg, if_pos hg]
    by_cases h0 : (stepG C G).2.p = 0
    · rw [if_pos h0, if_pos h0]
    · rw [if_neg h0, if_neg h0]
      have := mu_step hg h0
      obtain ⟨d, hd⟩ := Nat.le.dest (show muG (stepG C G).1 (stepG C G).2 ≤ muG C G by omega)
      rw [← hd]
      exact runF_big _ _ _ d _ (Nat.le_refl _)
  · rw [if_neg hg, if_neg hg]
theorem runN_bad {C : Cp} {G : Gp} (n : Int) (h : goB C G = false) : runN C G n = none := by rw [runN_eq, h]; rfl
theorem runN_end {C : Cp} {G : Gp} (n : Int) (h : goB C G = true) (h0 : (stepG C G).2.p = 0) : runN C G n = some ((stepG C G).1, (stepG C G).2, n + 1) := by rw [runN_eq, if_pos h, if_pos h0]
theorem runN_on {C : Cp} {G : Gp} (n : Int) (h : goB C G = true) (h0 : (stepG C G).2.p ≠ 0) : runN C G n = runN (stepG C G).1 (stepG C G).2 (n + 1) := by rw [runN_eq, if_pos h, if_neg h0]
/-- What holds of each step holds of a run's end. -/
theorem runN_ind (P : Cp → Gp → Int → Prop) (hs : ∀ C G n, goB C G = true → P C G n → P (stepG C G).1 (stepG C G).2 (n + 1)) :
    ∀ (m : Nat) (C : Cp) (G : Gp) (n : Int), muG C G ≤ m → P C G n → ∀ D H k, runN C G n = some (D, H, k) → P D H k ∧ H.p = 0 ∧ gcB D H = true := by
  intro m
  induction m with
  | zero =>
    intro C G n hm _ D H k h
    unfold runN at h
    rw [show muG C G = 0 by omega] at h
    cases h
  | succ m ih =>
    intro C G n hm hP D H k h
    by_cases hg : goB C G = true
    · by_cases h0 : (stepG C G).2.p = 0
      · rw [runN_end n hg h0, Option.some.injEq, Prod.mk.injEq, Prod.mk.injEq] at h
        obtain ⟨rfl, rfl, rfl⟩ := h
        exact ⟨hs _ _ _ hg hP, h0, step_valid hg⟩
      · rw [runN_on n hg h0] at h
        have := mu_step hg h0
        exact ih _ _ _ (by omega) (hs _ _ _ hg hP) D H k h
    · rw [runN_bad n (by simpa using hg)] at h; cases h
theorem runN_count {C D : Cp} {G H : Gp} {k : Int} (h : runO C G = some (D, H, k)) : 1 ≤ k ∧ k ≤ C.h.t.length + 3 * C.h.l.length + 2 := by
  have key : ∀ (m : Nat) (C : Cp) (G : Gp) (n : Int), muG C G ≤ m → runN C G n = some (D, H, k) → n + 1 ≤ k ∧ k ≤ n + muG C G := by
    intro m
    induction m with
    | zero =>
      intro C G n hm h
      unfold runN at h
      rw [show muG C G = 0 by omega] at h
      cases h
    | succ m ih =>
      intro C G n hm h
      by_cases hg : goB C G = true
      · have hp := mu_pos (goB_iff.1 hg).1
        by_cases h0 : (stepG C G).2.p = 0
        · rw [runN_end n hg h0, Option.some.injEq, Prod.mk.injEq, Prod.mk.injEq] at h
          obtain ⟨_, _, rfl⟩ := h
          omega
        · rw [runN_on n hg h0] at h
          have := mu_step hg h0
          have := ih _ _ _ (by omega) h
          omega
      · rw [runN_bad n (by simpa using hg)] at h; cases h
  by_cases hg : gcB C G = true
  · have := key _ C G 0 (Nat.le_refl _) h
    have := mu_le hg
    omega
  · have : goB C G = false := by unfold goB; rw [show gcB C G = false by simpa using hg]; rfl
    unfold runO at h
    rw [runN_bad 0 this] at h; cases h
end Go.Proofs.YtfoimicbmkiigaaGreat

