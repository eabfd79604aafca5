/- A variable of five slices that is changed in place: a counted store, or a heap that counts. -/
import Derived.Test.YteogflkahoanlaaGiv
import Derived.Test.YteogflkahoanlaaWrong
namespace Go.Proofs.Yteogflkahoanlaa
open Go.RowKit

/-- A row of free cells: from the beginning of its block on, or (K) from anywhere. -/
def RowK (K : Bool) (w : World) (lo : Nat) (v : Value) (xs : List Int) : Prop := if K = true then RowC w lo v xs else Row w lo v xs
section
variable {K : Bool} {S : Nat → Prop} {w w' : World} {lo : Nat} {v : Value} {xs : List Int}
theorem RowK.toC (h : RowK K w lo v xs) : RowC w lo v xs := by
  cases K with
  | true => exact h
  | false => exact RowC.ofRow h
theorem RowK.fr (h : RowK K w lo v xs) (hf : Fr S w w') (hn : ∀ b, v.ownBlock = some b → ¬ S b) : RowK K w' lo v xs := by
  cases K with
  | true => exact RowC.fr (v := v) h hf hn
  | false => exact Row.fr (v := v) h hf hn
theorem RowK.lt (h : RowK K w lo v xs) : ∀ b, v.ownBlock = some b → lo ≤ b ∧ b < w.heap.size := h.toC.lt
theorem RowK.mono {lo' : Nat} (h : RowK K w lo v xs) (hl : lo' ≤ lo) : RowK K w lo' v xs := by
  cases K with
  | true => exact RowC.mono (v := v) h hl
  | false => exact Row.mono (v := v) h hl
theorem RowK.shape (h : RowK K w lo v xs) : ∃ A n c, v = .slice A n c ∧ xs.length = n := by
  obtain ⟨A, c, e, _⟩ := h.toC
  exact ⟨A, _, c, e, rfl⟩
end
/-- append to it. -/
theorem run_append_rowK {K : Bool} {w : World} {lo : Nat} {A : Option Addr} {n c : Nat} {xs : List Int} (h : RowK K w lo (.slice A n c) xs) (gx : Nat) (m cx : Nat) (ys : List Int) (hy : ∀ j u, (ys.map iv)[j]? = some u → w.cell? ((⟨gx, 0, none⟩ : Addr).add j) = some u) (hm : ys.length = m) (h0 : 0 < m)
    (hb : n + m ≤ 1048576) (hlo : lo ≤ w.heap.size) (ty : TypeId) :
    ∃ A' c' w', (Builtin.append_ #[23, 23] ty #[.slice A n c, .slice (some ⟨gx, 0, none⟩) m cx]).run Try.prog w = .ok (.slice A' (n + m) c') w' ∧ RowK K w' lo (.slice A' (n + m) c') (xs ++ ys) ∧ w.grownBy w' (Value.slice A n c).ownBlock ∧
      ((Value.slice A' (n + m) c').ownBlock = (Value.slice A n c).ownBlock ∨ (Value.slice A' (n + m) c').ownBlock = some w.heap.size) := by
  cases K with
  | true => exact run_append_rowC h gx m cx ys hy hm h0 hb hlo ty
  | false =>
    obtain ⟨i0, hi, hz0, hz1, hz2⟩ := info_parts Try.infoInt
    have h' : Row w lo (.slice A n c) xs := h
    have hn : xs.length = n := by obtain ⟨_, _, e, _⟩ := h'.form; cases e; rfl
    obtain ⟨g, cap, w', hrun, h2, h3, h4, _⟩ := run_append_lies (P := Try.prog) w 23 ty lo 3 i0 (.int .i64 0) 1 8 Try.underlying23 hi hz0 hz1 hz2 rfl (by decide) _ n (xs.map iv) (own_of h' hn) ⟨gx, 0, none⟩ m cx (ys.map iv) (by simp; omega) hy (ints_oneCell _ _) h0 (by unfold maxLen; omega) (by omega) hlo w.heap.size rfl
    refine ⟨_, _, w', hrun, Row.of_own h2 (by simp) (by rw [List.length_append]; omega), h3, ?_⟩
    rcases h4 with e | e
    · exact .inl e.symm
    · exact .inr (by rw [e]; rfl)
theorem wpList_append_rowK {K : Bool} {ops : Array Oper} {rest : List Oper} {o : Oper} {a : Act} {w : World} {Q : Exit → Act → World → Prop} (hg : o.guard = none) (s x : Operand)
    (hop : o.op = Op.call { callee := Callee.builtin Builtin.append, args := #[s, x], argTypes := #[23, 23] })
    (lo : Nat) (A : Option Addr) (n c : Nat) (xs : List Int) (hs : a.eval s = .slice A n c) (h : RowK K w lo (.slice A n c) xs) (gx m cx : Nat) (ys : List Int) (hx : a.eval x = .slice (some ⟨gx, 0, none⟩) m cx)
    (hy : ∀ j u, (ys.map iv)[j]? = some u → w.cell? ((⟨gx, 0, none⟩ : Addr).add j) = some u) (hm : ys.length = m) (h0 : 0 < m) (hb : n + m ≤ 1048576) (hlo : lo ≤ w.heap.size)
    (hK : ∀ A' c' w', RowK K w' lo (.slice A' (n + m) c') (xs ++ ys) → w.grownBy w' (Value.slice A n c).ownBlock → ((Value.slice A' (n + m) c').ownBlock = (Value.slice A n c).ownBlock ∨ (Value.slice A' (n + m) c').ownBlock = some w.heap.size) → wpList Try.prog ops Q rest (a.put o.dst (.slice A' (n + m) c')) w') :
    wpList Try.prog ops Q (o :: rest) a w := by
  obtain ⟨A', c', w', hrun, h1, h2, h3⟩ := run_append_rowK h gx m cx ys hy hm h0 hb hlo o.type
  refine wpList_plain hg fun K hK' => ?_
  have h9 := hK' _ _ (hK A' c' w' h1 h2 h3)
  unfold Oper.wp
  simp [execOp, hop, resolve, invoke, builtin, hs, hx, hrun, Result.andThen]
  exact h9
/-- The block and the rows of such a variable. -/
def OwnM (b : Nat) (x0 x1 x2 x3 x4 : Value) (k : Nat) : Prop := k = b ∨ x0.ownBlock = some k ∨ x1.ownBlock = some k ∨ x2.ownBlock = some k ∨ x3.ownBlock = some k ∨ x4.ownBlock = some k
structure MAt (K : Bool) (w : World) (lo b : Nat) (ty : TypeId) (x0 x1 x2 x3 x4 : Value) (D : Dp) : Prop where
  blk : Blk5 w b x0 x1 x2 x3 x4 ty
  r0 : Row w lo x0 D.C.h.l
  r1 : Row w lo x1 D.C.h.r
  r2 : Row w lo x2 D.C.h.t
  r3 : RowK K w lo x3 D.C.c
  r4 : Row w lo x4 D.n
  o0 : x0.ownBlock ≠ some b
  o1 : x1.ownBlock ≠ some b
  o2 : x2.ownBlock ≠ some b
  o3 : x3.ownBlock ≠ some b
  o4 : x4.ownBlock ≠ some b
  a01 : Apart x0 x1
  a02 : Apart x0 x2
  a12 : Apart x1 x2
  a03 : Apart x0 x3
  a13 : Apart x1 x3
  a23 : Apart x2 x3
  a04 : Apart x0 x4
  a14 : Apart x1 x4
  a24 : Apart x2 x4
  a34 : Apart x3 x4
theorem apart_no {u v : Value} {k : Nat} (h : Apart u v) (e : v.ownBlock = some k) : u.ownBlock ≠ some k := fun e' => h k e' e
theorem apart_no' {u v : Value} {k : Nat} (h : Apart u v) (e : u.ownBlock = some k) : v.ownBlock ≠ some k := h k e
section
variable {K : Bool} {S : Nat → Prop} {w w' : World} {lo b : Nat} {ty : TypeId} {x0 x1 x2 x3 x4 : Value} {D : Dp}
theorem MAt.fr (h : MAt K w lo b ty x0 x1 x2 x3 x4 D) (hf : Fr S w w') (hn : ∀ k, OwnM b x0 x1 x2 x3 x4 k → ¬ S k) : MAt K w' lo b ty x0 x1 x2 x3 x4 D :=
  { h with
    blk := h.blk.fr hf (hn b (.inl rfl))
    r0 := h.r0.fr hf (fun k e => hn k (.inr (.inl e)))
    r1 := h.r1.fr hf (fun k e => hn k (.inr (.inr (.inl e))))
    r2 := h.r2.fr hf (fun k e => hn k (.inr (.inr (.inr (.inl e)))))
    r3 := h.r3.fr hf (fun k e => hn k (.inr (.inr (.inr (.inr (.inl e))))))
    r4 := h.r4.fr hf (fun k e => hn k (.inr (.inr (.inr (.inr (.inr e)))))) }
theorem MAt.below (h : MAt K w lo b ty x0 x1 x2 x3 x4 D) (hb : Below w.heap.size w w') : MAt K w' lo b ty x0 x1 x2 x3 x4 D :=
  h.fr (S := fun k => w.heap.size ≤ k) ⟨hb.os, hb.tape, hb.output, hb.size, fun k hk _ => hb.block k hk⟩ (fun k e => by
    rcases e with e | e | e | e | e | e
    · subst e; have := h.blk.lt; omega
    · have := (h.r0.lt k e).2; omega
    · have := (h.r1.lt k e).2; omega
    · have := (h.r2.lt k e).2; omega
    · have := (h.r3.lt k e).2; omega
    · have := (h.r4.lt k e).2; omega)
theorem MAt.drew (h : MAt K w lo b ty x0 x1 x2 x3 x4 D) : MAt K w.drew lo b ty x0 x1 x2 x3 x4 D := h.fr (S := fun _ => False) (Fr.refl _ w).drew (fun _ _ h => h)
theorem MAt.alloc (h : MAt K w lo b ty x0 x1 x2 x3 x4 D) (o : Obj) : MAt K (w.alloc o) lo b ty x0 x1 x2 x3 x4 D := h.fr (S := fun _ => False) ((Fr.refl _ w).alloc o) (fun _ _ h => h)
theorem MAt.own (h : MAt K w lo b ty x0 x1 x2 x3 x4 D) : ∀ k, OwnM b x0 x1 x2 x3 x4 k → k < w.heap.size ∧ (k = b ∨ lo ≤ k) := fun k e => by
  rcases e with e | e | e | e | e | e
  · subst e; exact ⟨h.blk.lt, .inl rfl⟩
  · exact ⟨(h.r0.lt k e).2, .inr (h.r0.lt k e).1⟩
  · exact ⟨(h.r1.lt k e).2, .inr (h.r1.lt k e).1⟩
  · exact ⟨(h.r2.lt k e).2, .inr (h.r2.lt k e).1⟩
  · exact ⟨(h.r3.lt k e).2, .inr (h.r3.lt k e).1⟩
  · exact ⟨(h.r4.lt k e).2, .inr (h.r4.lt k e).1⟩
theorem MAt.mono {lo' : Nat} (h : MAt K w lo b ty x0 x1 x2 x3 x4 D) (hl : lo' ≤ lo) : MAt K w lo' b ty x0 x1 x2 x3 x4 D :=
  { h with r0 := h.r0.mono hl, r1 := h.r1.mono hl, r2 := h.r2.mono hl, r3 := h.r3.mono hl, r4 := h.r4.mono hl }
theorem only1 (w : World) (g k : Nat) (u : Value) : Fr (fun j => j = g) w (w.setCell ⟨g, k, none⟩ u) := Fr.setCell (S := fun j => j = g) (Fr.refl _ w) (p := ⟨g, k, none⟩) (Or.inl rfl) u
theorem Row.set1 {g n c : Nat} {A : Option Addr} {xs : List Int} (h : Row w lo (.slice A n c) xs) (hA : A = some ⟨g, 0, none⟩) (k : Nat) (y : Int) : Row (w.setCell ⟨g, k, none⟩ (.int .i64 y)) lo (.slice A n c) (xs.set k y) := by
  subst hA; exact h.set_ k y
/-- A number of the counts is stored. -/
theorem MAt.setN {g n c : Nat} {A : Option Addr} (h : MAt K w lo b ty x0 x1 x2 x3 (.slice A n c) D) (hA : A = some ⟨g, 0, none⟩) (k : Nat) (y : Int) : MAt K (w.setCell ⟨g, k, none⟩ (.int .i64 y)) lo b ty x0 x1 x2 x3 (.slice A n c) ⟨D.C, D.n.set k y⟩ := by
  have hg : (Value.slice A n c).ownBlock = some g := by rw [hA]; rfl
  exact { h with
    blk := h.blk.fr (only1 w g k _) (fun e => h.o4 (by rw [hg, e]))
    r0 := h.r0.fr (only1 w g k _) (fun j e e' => h.a04 j e (by rw [hg, e']))
    r1 := h.r1.fr (only1 w g k _) (fun j e e' => h.a14 j e (by rw [hg, e']))
    r2 := h.r2.fr (only1 w g k _) (fun j e e' => h.a24 j e (by rw [hg, e']))
    r3 := h.r3.fr (only1 w g k _) (fun j e e' => h.a34 j e (by rw [hg, e']))
    r4 := h.r4.set1 hA k y }
theorem MAt.setL {g n c : Nat} {A : Option Addr} (h : MAt K w lo b ty (.slice A n c) x1 x2 x3 x4 D) (hA : A = some ⟨g, 0, none⟩) (k : Nat) (y : Int) : MAt K (w.setCell ⟨g, k, none⟩ (.int .i64 y)) lo b ty (.slice A n c) x1 x2 x3 x4 ⟨⟨⟨D.C.h.l.set k y, D.C.h.r, D.C.h.t⟩, D.C.c⟩, D.n⟩ := by
  have hg : (Value.slice A n c).ownBlock = some g := by rw [hA]; rfl
  exact { h with
    blk := h.blk.fr (only1 w g k _) (fun e => h.o0 (by rw [hg, e]))
    r0 := h.r0.set1 hA k y
    r1 := h.r1.fr (only1 w g k _) (fun j e e' => h.a01 j (by rw [hg, e']) e)
    r2 := h.r2.fr (only1 w g k _) (fun j e e' => h.a02 j (by rw [hg, e']) e)
    r3 := h.r3.fr (only1 w g k _) (fun j e e' => h.a03 j (by rw [hg, e']) e)
    r4 := h.r4.fr (only1 w g k _) (fun j e e' => h.a04 j (by rw [hg, e']) e) }
theorem MAt.setR {g n c : Nat} {A : Option Addr} (h : MAt K w lo b ty x0 (.slice A n c) x2 x3 x4 D) (hA : A = some ⟨g, 0, none⟩) (k : Nat) (y : Int) : MAt K (w.setCell ⟨g, k, none⟩ (.int .i64 y)) lo b ty x0 (.slice A n c) x2 x3 x4 ⟨⟨⟨D.C.h.l, D.C.h.r.set k y, D.C.h.t⟩, D.C.c⟩, D.n⟩ := by
  have hg : (Value.slice A n c).ownBlock = some g := by rw [hA]; rfl
  exact { h with
    blk := h.blk.fr (only1 w g k _) (fun e => h.o1 (by rw [hg, e]))
    r0 := h.r0.fr (only1 w g k _) (fun j e e' => h.a01 j e (by rw [hg, e']))
    r1 := h.r1.set1 hA k y
    r2 := h.r2.fr (only1 w g k _) (fun j e e' => h.a12 j (by rw [hg, e']) e)
    r3 := h.r3.fr (only1 w g k _) (fun j e e' => h.a13 j (by rw [hg, e']) e)
    r4 := h.r4.fr (only1 w g k _) (fun j e e' => h.a14 j (by rw [hg, e']) e) }
theorem MAt.setT {g n c : Nat} {A : Option Addr} (h : MAt K w lo b ty x0 x1 (.slice A n c) x3 x4 D) (hA : A = some ⟨g, 0, none⟩) (k : Nat) (y : Int) : MAt K (w.setCell ⟨g, k, none⟩ (.int .i64 y)) lo b ty x0 x1 (.slice A n c) x3 x4 ⟨⟨⟨D.C.h.l, D.C.h.r, D.C.h.t.set k y⟩, D.C.c⟩, D.n⟩ := by
  have hg : (Value.slice A n c).ownBlock = some g := by rw [hA]; rfl
  exact { h with
    blk := h.blk.fr (only1 w g k _) (fun e => h.o2 (by rw [hg, e]))
    r0 := h.r0.fr (only1 w g k _) (fun j e e' => h.a02 j e (by rw [hg, e']))
    r1 := h.r1.fr (only1 w g k _) (fun j e e' => h.a12 j e (by rw [hg, e']))
    r2 := h.r2.set1 hA k y
    r3 := h.r3.fr (only1 w g k _) (fun j e e' => h.a23 j (by rw [hg, e']) e)
    r4 := h.r4.fr (only1 w g k _) (fun j e e' => h.a24 j (by rw [hg, e']) e) }
/-- The free cells have become another row: their slice is stored. -/
theorem MAt.free {x3' : Value} {c' : List Int} (h : MAt K w lo b ty x0 x1 x2 x3 x4 D) (hg : w.grownBy w' x3.ownBlock) (hr : RowK K w' lo x3' c') (ho : x3'.ownBlock = x3.ownBlock ∨ x3'.ownBlock = some w.heap.size) :
    MAt K (w'.setCell ⟨b, 3, none⟩ x3') lo b ty x0 x1 x2 x3' x4 ⟨⟨D.C.h, c'⟩, D.n⟩ := by
  have F : Fr (fun j => x3.ownBlock = some j ∨ j = b) w (w'.setCell ⟨b, 3, none⟩ x3') :=
    Fr.setCell (S := fun j => x3.ownBlock = some j ∨ j = b) (Fr.grown (S := fun j => x3.ownBlock = some j ∨ j = b) (Fr.refl _ w) hg (fun k e => .inl (.inl e))) (p := ⟨b, 3, none⟩) (.inl (.inr rfl)) x3'
  have ap : ∀ {v : Value} {xs : List Int}, Row w lo v xs → Apart v x3 → Apart v x3' := fun r a k e e' => by
    rcases ho with h9 | h9
    · exact a k e (by rw [← h9, e'])
    · rw [h9] at e'; have := (r.lt k e).2; simp at e'; omega
  have o3' : x3'.ownBlock ≠ some b := fun e => by
    rcases ho with h9 | h9
    · exact h.o3 (by rw [← h9, e])
    · rw [h9] at e; have := h.blk.lt; simp at e; omega
  refine { h with blk := ?_, r0 := ?_, r1 := ?_, r2 := ?_, r3 := ?_, r4 := ?_, o3 := o3', a03 := ap h.r0 h.a03, a13 := ap h.r1 h.a13, a23 := ap h.r2 h.a23, a34 := ?_ }
  · have hb : Blk5 w' b x0 x1 x2 x3 x4 ty := (hg.block b h.blk.lt (fun e => h.o3 e.symm)).trans h.blk
    exact hb.set3 x3'
  · exact h.r0.fr F (fun k e e' => by rcases e' with e' | e'; · exact h.a03 k e e'
                                      · exact h.o0 (by rw [e, e']))
  · exact h.r1.fr F (fun k e e' => by rcases e' with e' | e'; · exact h.a13 k e e'
                                      · exact h.o1 (by rw [e, e']))
  · exact h.r2.fr F (fun k e e' => by rcases e' with e' | e'; · exact h.a23 k e e'
                                      · exact h.o2 (by rw [e, e']))
  · exact hr.fr (only1 w' b 3 _) (fun k e e' => o3' (by rw [e, e']))
  · exact h.r4.fr F (fun k e e' => by rcases e' with e' | e'; · exact h.a34 k e' e
                                      · exact h.o4 (by rw [e, e']))
  · intro k e e'
    rcases ho with h9 | h9
    · exact h.a34 k (by rw [← h9, e]) e'
    · rw [h9] at e; have := (h.r4.lt k e').2; simp at e; omega
end
/-- A counted store by value, out of its variable, and into one. -/
theorem MAt.dv {w : World} {lo b : Nat} {ty : TypeId} {x0 x1 x2 x3 x4 : Value} {D : Dp} (h : MAt false w lo b ty x0 x1 x2 x3 x4 D) : Dv w lo (.agg #[x0, x1, x2, x3, x4]) D :=
  ⟨x0, x1, x2, x3, x4, rfl, ⟨_, _, _, _, rfl, ⟨_, _, _, rfl, h.r0, h.r1, h.r2, h.a01, h.a02, h.a12⟩, h.r3, h.a03, h.a13, h.a23⟩, h.r4, h.a04, h.a14, h.a24, h.a34⟩
theorem MAt.ofDv {w : World} {lo b : Nat} {ty : TypeId} {x0 x1 x2 x3 x4 : Value} {D : Dp} (h : Dv w lo (.agg #[x0, x1, x2, x3, x4]) D) (hb : Blk5 w b x0 x1 x2 x3 x4 ty)
    (h0 : x0.ownBlock ≠ some b) (h1 : x1.ownBlock ≠ some b) (h2 : x2.ownBlock ≠ some b) (h3 : x3.ownBlock ≠ some b) (h4 : x4.ownBlock ≠ some b) : MAt false w lo b ty x0 x1 x2 x3 x4 D := by
  obtain ⟨_, _, _, _, _, e, ⟨_, _, _, _, e1, ⟨_, _, _, e2, r0, r1, r2, a01, a02, a12⟩, r3, a03, a13, a23⟩, r4, a04, a14, a24, a34⟩ := h
  cases e; cases e1; cases e2
  exact ⟨hb, r0, r1, r2, r3, r4, h0, h1, h2, h3, h4, a01, a02, a12, a03, a13, a23, a04, a14, a24, a34⟩
end Go.Proofs.Yteogflkahoanlaa
