/- Rows that begin anywhere in a block and are appended to; frames by sets of blocks. -/
import Derived.Test.YteogflkahoanlaaDv
import Derived.Deep.AppendSrc
import Derived.Deep.AppendLies
import Derived.Laws.IdiomCopy
namespace Go.Proofs.Yteogflkahoanlaa
open Go.RowKit

/-- Nothing has turned but what lies in S; blocks may be new. -/
structure Fr (S : Nat → Prop) (w w' : World) : Prop where
  os : w'.os = w.os
  tape : w'.tape = w.tape
  output : w'.output = w.output
  size : w.heap.size ≤ w'.heap.size
  block : ∀ k, k < w.heap.size → ¬ S k → w'.heap[k]? = w.heap[k]?
section
variable {S T : Nat → Prop} {a w w' : World}
theorem Fr.refl (S : Nat → Prop) (w : World) : Fr S w w := ⟨rfl, rfl, rfl, Nat.le_refl _, fun _ _ _ => rfl⟩
theorem Fr.trans (h : Fr S a w) (k : Fr S w w') : Fr S a w' :=
  ⟨k.os.trans h.os, k.tape.trans h.tape, k.output.trans h.output, Nat.le_trans h.size k.size, fun j hj hn => (k.block j (Nat.lt_of_lt_of_le hj h.size) hn).trans (h.block j hj hn)⟩
theorem Fr.drew (h : Fr S a w) : Fr S a w.drew := ⟨h.os, h.tape, h.output, h.size, h.block⟩
theorem Fr.alloc (h : Fr S a w) (o : Obj) : Fr S a (w.alloc o) :=
  ⟨h.os, h.tape, h.output, by simp; have := h.size; omega, fun j hj hn => (Below.heap_alloc w o j (Nat.lt_of_lt_of_le hj h.size)).trans (h.block j hj hn)⟩
theorem Fr.setCell (h : Fr S a w) {p : Addr} (hp : S p.block ∨ a.heap.size ≤ p.block) (u : Value) : Fr S a (w.setCell p u) :=
  ⟨h.os, h.tape, h.output, by simp [World.setCell]; exact h.size, fun j hj hn => (Below.heap_setCell w p u j (fun e => by subst e; rcases hp with h9 | h9 <;> first | exact hn h9 | omega)).trans (h.block j hj hn)⟩
theorem Fr.grown {row : Option Nat} (h : Fr S a w) (hg : w.grownBy w' row) (hr : ∀ k, row = some k → S k ∨ a.heap.size ≤ k) : Fr S a w' :=
  ⟨hg.os.trans h.os, hg.tape.trans h.tape, hg.output.trans h.output, Nat.le_trans h.size hg.size, fun j hj hn => (hg.block j (Nat.lt_of_lt_of_le hj h.size) (fun e => by rcases hr j e.symm with h9 | h9 <;> first | exact hn h9 | omega)).trans (h.block j hj hn)⟩
theorem Fr.below {B : Nat} (h : Fr S w w') (hS : ∀ k, S k → B ≤ k) (hB : B ≤ w.heap.size) : Below B w w' :=
  ⟨h.os, h.tape, h.output, h.size, fun k hk => h.block k (by omega) (fun hs => by have := hS k hs; omega)⟩
theorem Fr.mono (h : Fr S w w') (hS : ∀ k, k < w.heap.size → S k → T k) : Fr T w w' := ⟨h.os, h.tape, h.output, h.size, fun k hk hn => h.block k hk (fun hs => hn (hS k hk hs))⟩
theorem Fr.widen (h : Fr T w w') (hS : ∀ k, T k → S k ∨ a.heap.size ≤ k) (h0 : Fr S a w) : Fr S a w' :=
  ⟨h.os.trans h0.os, h.tape.trans h0.tape, h.output.trans h0.output, Nat.le_trans h0.size h.size, fun j hj hn => (h.block j (Nat.lt_of_lt_of_le hj h0.size) (fun ht => by rcases hS j ht with h9 | h9 <;> first | exact hn h9 | omega)).trans (h0.block j hj hn)⟩
theorem Fr.cell (h : Fr S w w') {p : Addr} (hp : p.block < w.heap.size) (hn : ¬ S p.block) : w'.cell? p = w.cell? p := World.cell?_of_block (w := w) (h.block p.block hp hn)
theorem Fr.frozen (h : Fr S w w') {p : Addr} (hp : p.block < w.heap.size) (hn : ¬ S p.block) : w'.frozen? p = w.frozen? p := World.frozen?_of_block (w := w) (h.block p.block hp hn)
end
theorem Row.fr {S : Nat → Prop} {w w' : World} {lo : Nat} {v : Value} {xs : List Int} (h : Row w lo v xs) (hf : Fr S w w') (hn : ∀ b, v.ownBlock = some b → ¬ S b) : Row w' lo v xs := by
  refine ⟨h.1, ?_⟩
  rcases h.2 with h2 | ⟨g, cap, cur, rfl, hg, hh, r⟩
  · exact .inl h2
  · exact .inr ⟨g, cap, cur, rfl, hg, by rw [hf.block g (h.lt g rfl).2 (hn g rfl)]; exact hh, r⟩
theorem Blk5.fr {S : Nat → Prop} {w w' : World} {b : Nat} {x0 x1 x2 x3 x4 : Value} {t : TypeId} (h : Blk5 w b x0 x1 x2 x3 x4 t) (hf : Fr S w w') (hn : ¬ S b) : Blk5 w' b x0 x1 x2 x3 x4 t := (hf.block b h.lt hn).trans h

/-- A row of numbers that begins anywhere in a block, with room behind it. -/
def RowC (w : World) (lo : Nat) (v : Value) (xs : List Int) : Prop := ∃ A c, v = .slice A xs.length c ∧ xs.length ≤ c ∧ c ≤ maxLen ∧ (∀ a, A = some a → lo ≤ a.block ∧ a.block < w.heap.size) ∧
  (0 < c → ∃ g o, A = some ⟨g, o, none⟩ ∧ (∀ j, j < c → (w.cell? ⟨g, o + j, none⟩).isSome = true ∧ w.frozen? ⟨g, o + j, none⟩ = false) ∧ ∀ j x, xs[j]? = some x → w.cell? ⟨g, o + j, none⟩ = some (iv x))
section
variable {S : Nat → Prop} {w w' : World} {lo : Nat} {v : Value} {xs : List Int}
theorem RowC.lt (h : RowC w lo v xs) : ∀ b, v.ownBlock = some b → lo ≤ b ∧ b < w.heap.size := by
  obtain ⟨A, c, rfl, _, _, h2, _⟩ := h
  intro b e
  cases A with
  | none => simp [Value.ownBlock] at e
  | some a =>
    simp [Value.ownBlock] at e
    subst e; exact h2 a rfl
theorem RowC.fr (h : RowC w lo v xs) (hf : Fr S w w') (hn : ∀ b, v.ownBlock = some b → ¬ S b) : RowC w' lo v xs := by
  obtain ⟨A, c, rfl, h0, h1, h2, h3⟩ := h
  refine ⟨A, c, rfl, h0, h1, fun a e => ⟨(h2 a e).1, Nat.lt_of_lt_of_le (h2 a e).2 hf.size⟩, fun hc => ?_⟩
  obtain ⟨g, o, rfl, h4, h5⟩ := h3 hc
  have hg := (h2 _ rfl).2
  have hs := hn g rfl
  refine ⟨g, o, rfl, fun j hj => ?_, fun j x hx => ?_⟩
  · rw [hf.cell (p := ⟨g, o + j, none⟩) hg hs, hf.frozen (p := ⟨g, o + j, none⟩) hg hs]; exact h4 j hj
  · rw [hf.cell (p := ⟨g, o + j, none⟩) hg hs]; exact h5 j x hx
theorem RowC.below (h : RowC w lo v xs) (hb : Below w.heap.size w w') : RowC w' lo v xs :=
  h.fr (S := fun k => w.heap.size ≤ k) ⟨hb.os, hb.tape, hb.output, hb.size, fun k hk _ => hb.block k hk⟩ (fun b e => by have := (h.lt b e).2; omega)
theorem RowC.alloc (h : RowC w lo v xs) (o : Obj) : RowC (w.alloc o) lo v xs := h.fr (S := fun _ => False) ((Fr.refl _ w).alloc o) (fun _ _ h => h)
theorem RowC.drew (h : RowC w lo v xs) : RowC w.drew lo v xs := h.fr (S := fun _ => False) (Fr.refl _ w).drew (fun _ _ h => h)
theorem RowC.mono {lo' : Nat} (h : RowC w lo v xs) (hl : lo' ≤ lo) : RowC w lo' v xs := by
  obtain ⟨A, c, e, h0, h1, h2, h3⟩ := h
  exact ⟨A, c, e, h0, h1, fun a e => ⟨Nat.le_trans hl (h2 a e).1, (h2 a e).2⟩, h3⟩
theorem RowC.other (h : RowC w lo v xs) {p : Addr} (hp : v.ownBlock ≠ some p.block) (u : Value) : RowC (w.setCell p u) lo v xs :=
  h.fr (S := fun k => k = p.block) (Fr.setCell (S := fun k => k = p.block) (Fr.refl _ w) (p := p) (Or.inl rfl) u) (fun b e e' => hp (by rw [e, e']))
theorem RowC.ofRow (h : Row w lo v xs) : RowC w lo v xs := by
  have hlt := h.lt
  obtain ⟨A, c, rfl, h0, h1⟩ := h.form
  refine ⟨A, c, rfl, h0, h1, fun a e => by subst e; exact hlt a.block rfl, fun hc => ?_⟩
  rcases h.2 with ⟨e, _⟩ | ⟨g, cap, cur, e, _, hg, _, _, h5, h6⟩
  · simp only [Value.slice.injEq] at e; omega
  · simp only [Value.slice.injEq, true_and] at e
    obtain ⟨rfl, rfl⟩ := e
    have hcell : ∀ j, w.cell? ⟨g, 0 + j, none⟩ = cur[j]? := fun j => by simp [World.cell?, hg]
    refine ⟨g, 0, rfl, fun j hj => ⟨?_, by simp [World.frozen?, hg]⟩, fun j x hx => ?_⟩
    · rw [hcell, Array.getElem?_eq_getElem (by omega)]; rfl
    · rw [hcell, ← Array.getElem?_toList]
      have hj := (List.getElem?_eq_some_iff.1 hx).1
      have h7 : (cur.toList.take (xs.length * 1))[j]? = some (iv x) := by rw [h6, List.getElem?_map, hx]; rfl
      rw [List.getElem?_take] at h7
      split at h7
      · exact h7
      · cases h7
theorem RowC.form {A : Option Addr} {n c : Nat} (h : RowC w lo (.slice A n c) xs) : xs.length = n ∧ n ≤ c ∧ c ≤ 9223372036854775807 := by
  obtain ⟨A', c', e, h0, h1, _⟩ := h
  cases e
  unfold maxLen at h1
  exact ⟨rfl, h0, by omega⟩
/-- The first of a row, and the row behind it. -/
theorem RowC.head {A : Option Addr} {n c : Nat} {x : Int} (h : RowC w lo (.slice A n c) (x :: xs)) : ∃ g o, A = some ⟨g, o, none⟩ ∧ lo ≤ g ∧ g < w.heap.size ∧ w.cell? ⟨g, o, none⟩ = some (.int .i64 x) ∧ 1 ≤ n ∧ n ≤ c ∧
    (c = 1 → n = 1 ∧ xs = [] ∧ RowC w lo (.slice (some ⟨g, o, none⟩) 0 0) xs) ∧ (1 < c → RowC w lo (.slice (some ⟨g, o + 1, none⟩) (n - 1) (c - 1)) xs) := by
  obtain ⟨A', c', e, h0, h1, h2, h3⟩ := h
  cases e
  simp only [List.length_cons] at h0 ⊢
  obtain ⟨g, o, rfl, h4, h5⟩ := h3 (by omega)
  have hg := h2 _ rfl
  refine ⟨g, o, rfl, hg.1, hg.2, by simpa using h5 0 x rfl, by omega, h0, fun hc => ?_, fun hc => ?_⟩
  · have hx : xs = [] := List.eq_nil_of_length_eq_zero (by omega)
    subst hx
    exact ⟨rfl, rfl, _, 0, rfl, Nat.le_refl _, by omega, fun a e => by cases e; exact hg, fun h => absurd h (Nat.lt_irrefl _)⟩
  · refine ⟨some ⟨g, o + 1, none⟩, c - 1, by rw [Nat.add_sub_cancel], by omega, by omega, fun a e => by cases e; exact hg, fun _ => ⟨g, o + 1, rfl, fun j hj => ?_, fun j y hy => ?_⟩⟩
    · have := h4 (j + 1) (by omega)
      rwa [show o + (j + 1) = o + 1 + j by omega] at this
    · have := h5 (j + 1) y (by simpa using hy)
      rwa [show o + (j + 1) = o + 1 + j by omega] at this
end
theorem twoC_new {w : World} {x y : Int} {t : TypeId} : ∀ j u, ([x, y].map iv)[j]? = some u → (w.alloc (.cells #[.int .i64 x, .int .i64 y] t)).cell? ((⟨w.heap.size, 0, none⟩ : Addr).add j) = some u := by
  intro j u hj
  have hadd : (⟨w.heap.size, 0, none⟩ : Addr).add j = ⟨w.heap.size, j, none⟩ := by unfold Addr.add; split <;> simp_all
  rw [hadd]
  have h9 := World.cell?_alloc_new w #[.int .i64 x, .int .i64 y] t j
  rw [h9]
  match j, hj with
  | 0, h => simpa using h
  | 1, h => simpa using h
theorem setCells_grown (b : Nat) : ∀ (vs : List Value) (o : Nat) (w : World), w.grownBy (w.setCells b o vs) (some b)
  | [], _, w => World.grownBy.refl w _
  | v :: r, o, w => by
    have h := setCells_grown b r (o + 1) (w.setCell ⟨b, o, none⟩ v)
    refine ⟨h.os, h.tape, h.output, Nat.le_trans (by simp [World.setCell]) h.size, fun k hk hne => ?_⟩
    exact (h.block k (by simpa [World.setCell] using hk) hne).trans (Below.heap_setCell w _ v k (fun e => hne (by rw [e])))
/-- append to such a row. -/
theorem run_append_rowC {w : World} {lo : Nat} {A : Option Addr} {n c : Nat} {xs : List Int} (h : RowC w lo (.slice A n c) xs) (gx : Nat) (m cx : Nat) (ys : List Int) (hy : ∀ j u, (ys.map iv)[j]? = some u → w.cell? ((⟨gx, 0, none⟩ : Addr).add j) = some u) (hm : ys.length = m) (h0 : 0 < m)
    (hb : n + m ≤ 1048576) (hlo : lo ≤ w.heap.size) (ty : TypeId) :
    ∃ A' c' w', (Builtin.append_ #[23, 23] ty #[.slice A n c, .slice (some ⟨gx, 0, none⟩) m cx]).run Try.prog w = .ok (.slice A' (n + m) c') w' ∧ RowC w' lo (.slice A' (n + m) c') (xs ++ ys) ∧ w.grownBy w' (Value.slice A n c).ownBlock ∧
      ((Value.slice A' (n + m) c').ownBlock = (Value.slice A n c).ownBlock ∨ (Value.slice A' (n + m) c').ownBlock = some w.heap.size) := by
  obtain ⟨i0, hi, hz0, hz1, hz2⟩ := info_parts Try.infoInt
  obtain ⟨A', c', e, h1, h2, h3, h4⟩ := h
  cases e
  have hsrc : Src Try.prog i0.size 23 (.slice (some ⟨gx, 0, none⟩) m cx) m (ys.map iv) w := Src.ofSlice w Try.underlying23 _ _ _ _ (by rw [hz1]; simp; omega) hy (ints_oneCell _ _)
  by_cases hroom : xs.length + m ≤ c
  · obtain ⟨g, o, rfl, h5, h6⟩ := h4 (by omega)
    have hg := h3 _ rfl
    have hl : (ys.map iv).length = m := by simpa using hm
    have hrun := run_append_room_src (P := Try.prog) (w := w) 23 23 ty 3 i0 Try.underlying23 hi g o xs.length c (.slice (some ⟨gx, 0, none⟩) m cx) m (ys.map iv) hsrc hroom
      (fun j hj => by rw [hz1]; have := (h5 (xs.length + j) (by omega)).1; rwa [show o + (xs.length + j) = o + xs.length * 1 + j by omega] at this)
      (fun j hj => by rw [hz1]; have := (h5 (xs.length + j) (by omega)).2; rwa [show o + (xs.length + j) = o + xs.length * 1 + j by omega] at this)
    rw [hz1, Nat.mul_one] at hrun
    have hin := World.cell?_setCells_in g (ys.map iv) (o + xs.length) w (fun j hj => by have := (h5 (xs.length + j) (by omega)).1; rwa [show o + (xs.length + j) = o + xs.length + j by omega] at this)
    have hG := setCells_grown g (ys.map iv) (o + xs.length) w
    refine ⟨_, _, _, hrun, ⟨some ⟨g, o, none⟩, c, by rw [List.length_append, hm], by rw [List.length_append, hm]; exact hroom, h2, fun a e => by cases e; exact ⟨hg.1, Nat.lt_of_lt_of_le hg.2 hG.size⟩, fun _ => ⟨g, o, rfl, fun j hj => ⟨?_, ?_⟩, fun j x hx => ?_⟩⟩, hG, .inl rfl⟩
    · by_cases hr : xs.length ≤ j ∧ j < xs.length + m
      · have := hin (j - xs.length) (by omega)
        rw [show o + j = o + xs.length + (j - xs.length) by omega, this]; rfl
      · rw [World.cell?_setCells_out g _ _ w ⟨g, o + j, none⟩ (fun _ _ => by dsimp only; omega)]
        exact (h5 j hj).1
    · rw [World.frozen?_setCells]; exact (h5 j hj).2
    · by_cases hr : j < xs.length
      · rw [List.getElem?_append_left hr] at hx
        rw [World.cell?_setCells_out g _ _ w ⟨g, o + j, none⟩ (fun _ _ => by dsimp only; omega)]
        exact h6 j x hx
      · rw [List.getElem?_append_right (by omega)] at hx
        have hj := (List.getElem?_eq_some_iff.1 hx).1
        have := hin (j - xs.length) (by omega)
        rw [show o + j = o + xs.length + (j - xs.length) by omega, this]
        simp only [List.getElem_map]
        rw [List.getElem?_eq_getElem hj] at hx
        rw [Option.some.inj hx]
  · have hold : (Builtin.firstCells i0.size xs.length (.slice A xs.length c)).run Try.prog w.drew = .ok (xs.map iv).toArray w.drew := by
      rw [hz1]
      rcases Nat.eq_zero_or_pos xs.length with hx0 | hx0
      · have hx : xs = [] := List.eq_nil_of_length_eq_zero hx0
        subst hx
        cases A with
        | none => exact run_firstCells_none w.drew 1 0 0 c
        | some a => exact run_firstCells_some w.drew 1 0 a 0 c [] (by simp) (fun j u hj => by simp at hj)
      · obtain ⟨g, o, rfl, _, h6⟩ := h4 (by omega)
        refine run_firstCells_some w.drew 1 xs.length ⟨g, o, none⟩ xs.length c (xs.map iv) (by simp) (fun j u hj => ?_)
        rw [List.getElem?_map] at hj
        cases hx : xs[j]? with
        | none => rw [hx] at hj; simp at hj
        | some x =>
          rw [hx] at hj; simp at hj; subst hj
          rw [show (⟨g, o, none⟩ : Addr).add j = ⟨g, o + j, none⟩ by unfold Addr.add; split <;> simp_all]
          exact h6 j x hx
    have hrun := run_append_grow_src (P := Try.prog) (w := w) 23 23 ty 3 i0 (.int .i64 0) Try.underlying23 hi hz0 A xs.length c (xs.map iv) hold (.slice (some ⟨gx, 0, none⟩) m cx) m (ys.map iv) hsrc (by omega) (by omega)
      (growslice_fits (by omega) (by rw [hz2]; omega))
    have hge := grownCap_ge w (xs.length + m) c 3
    have hcm := grownCap_le_maxLen w (xs.length + m) c 3 (by unfold maxLen; omega)
    generalize grownCap w (xs.length + m) c 3 = gc at hrun hge hcm
    have hcell : ∀ j, (w.drew.alloc (.cells ((xs.map iv ++ ys.map iv).toArray ++ Builtin.zeroCells (Value.int .i64 0).cells (gc - (xs.length + m))) 3)).cell? ⟨w.heap.size, 0 + j, none⟩ = ((xs.map iv ++ ys.map iv).toArray ++ Builtin.zeroCells (Value.int .i64 0).cells (gc - (xs.length + m)))[j]? := fun j => by
      rw [Nat.zero_add]; exact World.cell?_alloc_new w.drew _ _ j
    have hL : ((xs.map iv ++ ys.map iv).toArray : Array Value).size = xs.length + m := by simp [hm]
    have hzs : (Builtin.zeroCells (Value.int .i64 0).cells (gc - (xs.length + m))).size = gc - (xs.length + m) := by simp [Builtin.zeroCells, Value.cells]
    refine ⟨_, _, _, hrun, ⟨some ⟨w.heap.size, 0, none⟩, gc, by rw [List.length_append, hm], by rw [List.length_append, hm]; exact hge, hcm, fun a e => by cases e; exact ⟨hlo, by show w.heap.size < (w.drew.alloc _).heap.size; simp⟩, fun _ => ⟨w.heap.size, 0, rfl, fun j hj => ⟨?_, ?_⟩, fun j x hx => ?_⟩⟩, ?_, .inr rfl⟩
    · rw [hcell, Array.getElem?_eq_getElem (by rw [Array.size_append, hL, hzs]; omega)]; rfl
    · have h9 := heap_alloc_new w.drew (.cells ((xs.map iv ++ ys.map iv).toArray ++ Builtin.zeroCells (Value.int .i64 0).cells (gc - (xs.length + m))) 3)
      unfold World.frozen?
      rw [show (w.drew.alloc (.cells ((xs.map iv ++ ys.map iv).toArray ++ Builtin.zeroCells (Value.int .i64 0).cells (gc - (xs.length + m))) 3)).heap[w.heap.size]? = _ from h9]; simp
    · have hj := (List.getElem?_eq_some_iff.1 hx).1
      rw [List.length_append, hm] at hj
      rw [hcell, Array.getElem?_append_left (by rw [hL]; exact hj), List.getElem?_toArray, ← List.map_append, List.getElem?_map, hx]; rfl
    · exact ⟨rfl, rfl, rfl, by show w.heap.size ≤ (w.drew.alloc _).heap.size; simp, fun k hk _ => Below.heap_alloc w.drew _ k hk⟩
/-- .. at the list of a plain region's operations. -/
theorem wpList_append_rowC {ops : Array Oper} {rest : List Oper} {o : Oper} {a : Act} {w : World} {Q : Exit → Act → World → Prop} (hg : o.guard = none) (s x : Operand)
    (hop : o.op = Op.call { callee := Callee.builtin Builtin.append, args := #[s, x], argTypes := #[23, 23] })
    (lo : Nat) (A : Option Addr) (n c : Nat) (xs : List Int) (hs : a.eval s = .slice A n c) (h : RowC w lo (.slice A n c) xs) (gx m cx : Nat) (ys : List Int) (hx : a.eval x = .slice (some ⟨gx, 0, none⟩) m cx)
    (hy : ∀ j u, (ys.map iv)[j]? = some u → w.cell? ((⟨gx, 0, none⟩ : Addr).add j) = some u) (hm : ys.length = m) (h0 : 0 < m) (hb : n + m ≤ 1048576) (hlo : lo ≤ w.heap.size)
    (hK : ∀ A' c' w', RowC w' lo (.slice A' (n + m) c') (xs ++ ys) → w.grownBy w' (Value.slice A n c).ownBlock → ((Value.slice A' (n + m) c').ownBlock = (Value.slice A n c).ownBlock ∨ (Value.slice A' (n + m) c').ownBlock = some w.heap.size) → wpList Try.prog ops Q rest (a.put o.dst (.slice A' (n + m) c')) w') :
    wpList Try.prog ops Q (o :: rest) a w := by
  obtain ⟨A', c', w', hrun, h1, h2, h3⟩ := run_append_rowC h gx m cx ys hy hm h0 hb hlo o.type
  refine wpList_plain hg fun K hK' => ?_
  have h9 := hK' _ _ (hK A' c' w' h1 h2 h3)
  unfold Oper.wp
  simp [execOp, hop, resolve, invoke, builtin, hs, hx, hrun, Result.andThen]
  exact h9
/-- .. at a step of a region that draws its order. -/
theorem step_append_rowC {ops : Array Oper} {o : Oper} {a : Act} {w : World} {K : Act → World → Prop} {Q : Exit → Act → World → Prop} {E : Prop} (hg : o.guard = none) (s x : Operand)
    (hop : o.op = Op.call { callee := Callee.builtin Builtin.append, args := #[s, x], argTypes := #[23, 23] })
    (lo : Nat) (A : Option Addr) (n c : Nat) (xs : List Int) (hs : a.eval s = .slice A n c) (h : RowC w lo (.slice A n c) xs) (gx m cx : Nat) (ys : List Int) (hx : a.eval x = .slice (some ⟨gx, 0, none⟩) m cx)
    (hy : ∀ j u, (ys.map iv)[j]? = some u → w.cell? ((⟨gx, 0, none⟩ : Addr).add j) = some u) (hm : ys.length = m) (h0 : 0 < m) (hb : n + m ≤ 1048576) (hlo : lo ≤ w.heap.size)
    (hK : ∀ A' c' w', RowC w' lo (.slice A' (n + m) c') (xs ++ ys) → w.grownBy w' (Value.slice A n c).ownBlock → ((Value.slice A' (n + m) c').ownBlock = (Value.slice A n c).ownBlock ∨ (Value.slice A' (n + m) c').ownBlock = some w.heap.size) → K (a.put o.dst (.slice A' (n + m) c')) w') :
    if Region.wanted o (yielded ops a.tmps) = true then Oper.wp Try.prog o a w K Q else E := by
  obtain ⟨A', c', w', hrun, h1, h2, h3⟩ := run_append_rowC h gx m cx ys hy hm h0 hb hlo o.type
  have hw : Region.wanted o (yielded ops a.tmps) = true := by simp [Region.wanted, hg]
  rw [if_pos hw]
  unfold Oper.wp
  simp [execOp, hop, resolve, invoke, builtin, hs, hx, hrun, Result.andThen]
  exact hK A' c' w' h1 h2 h3
end Go.Proofs.Yteogflkahoanlaa
