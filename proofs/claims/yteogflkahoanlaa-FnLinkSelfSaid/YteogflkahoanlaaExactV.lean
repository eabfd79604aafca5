/- The helpers of the exact laws of chapter 9. -/
import Derived.Test.YteogflkahoanlaaDv
import Derived.Test.YteogflkahoanlaaExactE
import Derived.Test.YteogflkahoanlaaExacts
namespace Go.Proofs.Yteogflkahoanlaa
open Go.RowKit

theorem Blk5.far4 {w : World} {b c : Nat} {x0 x1 x2 x3 x4 : Value} {t : TypeId} (h : Blk5 w b x0 x1 x2 x3 x4 t) (hne : b ≠ c) (y0 y1 y2 y3 : Value) : Blk5 ((((w.setCell ⟨c, 0, none⟩ y0).setCell ⟨c, 1, none⟩ y1).setCell ⟨c, 2, none⟩ y2).setCell ⟨c, 3, none⟩ y3) b x0 x1 x2 x3 x4 t := ((((h.other (p := ⟨c, 0, none⟩) hne y0).other (p := ⟨c, 1, none⟩) hne y1).other (p := ⟨c, 2, none⟩) hne y2).other (p := ⟨c, 3, none⟩) hne y3)
theorem Blk5.set03 {w : World} {b : Nat} {x0 x1 x2 x3 x4 : Value} {t : TypeId} (h : Blk5 w b x0 x1 x2 x3 x4 t) (y0 y1 y2 y3 : Value) : Blk5 ((((w.setCell ⟨b, 0, none⟩ y0).setCell ⟨b, 1, none⟩ y1).setCell ⟨b, 2, none⟩ y2).setCell ⟨b, 3, none⟩ y3) b y0 y1 y2 y3 x4 t := (((h.set0 y0).set1 y1).set2 y2).set3 y3
theorem below_set4d {w x : World} {lo c : Nat} (h : Below lo w x) (hc : lo ≤ c) (y0 y1 y2 y3 : Value) : Below lo w ((((x.setCell ⟨c, 0, none⟩ y0).setCell ⟨c, 1, none⟩ y1).setCell ⟨c, 2, none⟩ y2).setCell ⟨c, 3, none⟩ y3) := ((((h.setCell (p := ⟨c, 0, none⟩) hc y0).setCell (p := ⟨c, 1, none⟩) hc y1).setCell (p := ⟨c, 2, none⟩) hc y2).setCell (p := ⟨c, 3, none⟩) hc y3)
theorem Cv.low4 {w : World} {lo c : Nat} {v : Value} {C : Cp} (h : Cv w lo v C) (hc : c < lo) (y0 y1 y2 y3 : Value) : Cv ((((w.setCell ⟨c, 0, none⟩ y0).setCell ⟨c, 1, none⟩ y1).setCell ⟨c, 2, none⟩ y2).setCell ⟨c, 3, none⟩ y3) lo v C := ((((h.set_low (p := ⟨c, 0, none⟩) hc y0).set_low (p := ⟨c, 1, none⟩) hc y1).set_low (p := ⟨c, 2, none⟩) hc y2).set_low (p := ⟨c, 3, none⟩) hc y3)
/-- A counted store that is an argument: its slices lie somewhere below Bd. -/
def DArg (w : World) (Bd : Nat) (v : Value) (D : Dp) : Prop :=
  ∃ A0 c0 A1 c1 A2 c2 A3 c3 A4 c4, v = .agg #[.slice A0 D.C.h.l.length c0, .slice A1 D.C.h.r.length c1, .slice A2 D.C.h.t.length c2, .slice A3 D.C.c.length c3, .slice A4 D.n.length c4] ∧ CArg w Bd (.agg #[.slice A0 D.C.h.l.length c0, .slice A1 D.C.h.r.length c1, .slice A2 D.C.h.t.length c2, .slice A3 D.C.c.length c3]) D.C ∧ Ints w Bd A4 D.n.length D.n
theorem DArg.below {w w' : World} {Bd : Nat} {v : Value} {D : Dp} (h : DArg w Bd v D) (hb : Below Bd w w') : DArg w' Bd v D := by
  obtain ⟨A0, c0, A1, c1, A2, c2, A3, c3, A4, c4, e, h0, h1⟩ := h
  exact ⟨A0, c0, A1, c1, A2, c2, A3, c3, A4, c4, e, h0.below hb, h1.below hb⟩
theorem DArg.alloc {w : World} {Bd : Nat} {v : Value} {D : Dp} (h : DArg w Bd v D) (hB : Bd ≤ w.heap.size) (o : Obj) : DArg (w.alloc o) Bd v D := h.below ((Below.refl _ _).alloc hB _)
theorem DArg.drew {w : World} {Bd : Nat} {v : Value} {D : Dp} (h : DArg w Bd v D) : DArg w.drew Bd v D := h
def ShortD (D : Dp) (n : Nat) : Prop := D.C.h.l.length ≤ n ∧ D.C.h.r.length ≤ n ∧ D.C.h.t.length ≤ n ∧ D.C.c.length ≤ n ∧ D.n.length ≤ n
def DIn (w : World) (v : Value) (D : Dp) : Prop := DArg w w.heap.size v D ∧ ShortD D 9223372036854775807
def OptD (w : World) (ok : Bool) (D : Dp) (e : Ending) (w' : World) : Prop := ∃ v, e = .returned (.tuple #[v, .bool ok]) ∧ Dv w' w.heap.size v D ∧ Below w.heap.size w w'
theorem optD_of {P : Program} {f : FuncId} {args : Array Value} {w : World} {o : Option Dp} (h : Calls P f args w (OptDv w o)) : Calls P f args w (OptD w o.isSome (o.getD Dp.zero)) := h
theorem dpB_short {D : Dp} (h : dpB D = true) : ShortD D 1048576 := by
  obtain ⟨h1, h2⟩ := dpB_iff.1 h
  obtain ⟨s0, s1, s2, s3⟩ := stoB_short h1
  exact ⟨s0, s1, s2, s3, by rw [h2, cnts_len]; exact s0⟩
theorem zeroD_short : ShortD Dp.zero 1048576 := by simp [ShortD, Dp.zero, Cp.zero, Hp.zero]
theorem farD_or {v r : Value} (h : Apart v r) : v.ownBlock = none ∨ v.ownBlock ≠ r.ownBlock := by
  cases e : v.ownBlock with
  | none => exact .inl rfl
  | some b => exact .inr (fun e' => h b e e'.symm)
theorem Cv.keptD {w w' : World} {lo : Nat} {v0 v1 v2 v3 r : Value} {C : Cp} (h : Cv w lo (.agg #[v0, v1, v2, v3]) C) (hg : w.grownBy w' r.ownBlock) (a : Apart v0 r ∧ Apart v1 r ∧ Apart v2 r ∧ Apart v3 r) : Cv w' lo (.agg #[v0, v1, v2, v3]) C := by
  obtain ⟨_, _, _, _, e, ⟨_, _, _, e', r0, r1, r2, x⟩, r3, y⟩ := h
  cases e; cases e'
  exact ⟨_, _, _, _, rfl, ⟨_, _, _, rfl, r0.kept hg (farD_or a.1), r1.kept hg (farD_or a.2.1), r2.kept hg (farD_or a.2.2.1), x⟩, r3.kept hg (farD_or a.2.2.2), y⟩
/-- Block b is none of a counted store's own. -/
def FarD (v : Value) (b : Nat) : Prop := ∀ v0 v1 v2 v3 r, v = .agg #[v0, v1, v2, v3, r] → (some b ≠ v0.ownBlock ∧ some b ≠ v1.ownBlock ∧ some b ≠ v2.ownBlock ∧ some b ≠ v3.ownBlock) ∧ some b ≠ r.ownBlock
def markD (D : Dp) : Dp := ⟨markC 1 D.C, seqI (1 + sizeC D.C) D.n.length⟩
def numD (D : Dp) : Nat := 1 + sizeC D.C + D.n.length
/-- A counted store was marked: the number is N; below lo, and in every block that is not its own, nothing has turned. -/
def MarkedD (w : World) (lo : Nat) (N : Int) (v : Value) (D : Dp) (e : Ending) (w' : World) : Prop :=
  e = .returned (.int .i64 N) ∧ Dv w' lo v (markD D) ∧ Below lo w w' ∧ ∀ b, b < w.heap.size → FarD v b → w'.heap[b]? = w.heap[b]?
theorem farD_new {W : World} {lo b : Nat} {u : Value} {D : Dp} (hu : Dv W lo u D) (hb : W.heap.size ≤ b) : FarD u b := by
  obtain ⟨u0, u1, u2, u3, ur, rfl, hc, hr, _⟩ := hu
  have hn := notC_new hc hb
  intro v0 v1 v2 v3 r e
  cases e
  exact ⟨hn _ _ _ _ rfl, fun e => by have := (hr.lt b e.symm).2; omega⟩
theorem farD_old {W : World} {lo b : Nat} {u : Value} {D : Dp} (hu : Dv W lo u D) (hb : b < lo) : FarD u b := by
  obtain ⟨u0, u1, u2, u3, ur, rfl, hc, hr, _⟩ := hu
  have hn := notC_old hc hb
  intro v0 v1 v2 v3 r e
  cases e
  exact ⟨hn _ _ _ _ rfl, fun e => by have := (hr.lt b e.symm).1; omega⟩
theorem Blk5.frameD {w w' : World} {b : Nat} {x0 x1 x2 x3 x4 u : Value} {t : TypeId} (h : Blk5 w b x0 x1 x2 x3 x4 t) (fr : ∀ b, b < w.heap.size → FarD u b → w'.heap[b]? = w.heap[b]?) (hn : FarD u b) : Blk5 w' b x0 x1 x2 x3 x4 t := (fr b h.lt hn).trans h
theorem Blk5.frameN {w w' : World} {b : Nat} {x0 x1 x2 x3 x4 u : Value} {t : TypeId} (h : Blk5 w b x0 x1 x2 x3 x4 t) (fr : ∀ b, b < w.heap.size → NotC u b → w'.heap[b]? = w.heap[b]?) (hn : NotC u b) : Blk5 w' b x0 x1 x2 x3 x4 t := (fr b h.lt hn).trans h
theorem Blk4.frameD {w w' : World} {b : Nat} {x y z q u : Value} {t : TypeId} (h : Blk4 w b x y z q t) (fr : ∀ b, b < w.heap.size → FarD u b → w'.heap[b]? = w.heap[b]?) (hn : FarD u b) : Blk4 w' b x y z q t := (fr b h.lt hn).trans h
theorem Row.keptM {w w' : World} {lo : Nat} {v u : Value} {xs : List Int} (hv : Row w lo v xs) (fr : ∀ b, b < w.heap.size → FarD u b → w'.heap[b]? = w.heap[b]?) (hn : ∀ b, lo ≤ b → b < w.heap.size → FarD u b) : Row w' lo v xs := by
  refine ⟨hv.1, ?_⟩
  rcases hv.2 with h2 | ⟨g, cap, cur, rfl, hg, hh, r⟩
  · exact .inl h2
  · have hb := (hv.lt g rfl)
    exact .inr ⟨g, cap, cur, rfl, hg, by rw [fr g hb.2 (hn g hb.1 hb.2)]; exact hh, r⟩
theorem Cv.keptM {w w' : World} {lo : Nat} {v u : Value} {C : Cp} (hv : Cv w lo v C) (fr : ∀ b, b < w.heap.size → FarD u b → w'.heap[b]? = w.heap[b]?) (hn : ∀ b, lo ≤ b → b < w.heap.size → FarD u b) : Cv w' lo v C := by
  obtain ⟨v0, v1, v2, v3, e, ⟨_, _, _, e', r0, r1, r2, x⟩, r3, y⟩ := hv
  exact ⟨v0, v1, v2, v3, e, ⟨_, _, _, e', r0.keptM fr hn, r1.keptM fr hn, r2.keptM fr hn, x⟩, r3.keptM fr hn, y⟩
theorem Dv.keptM {w w' : World} {lo : Nat} {v u : Value} {D : Dp} (hv : Dv w lo v D) (fr : ∀ b, b < w.heap.size → FarD u b → w'.heap[b]? = w.heap[b]?) (hn : ∀ b, lo ≤ b → b < w.heap.size → FarD u b) : Dv w' lo v D := by
  obtain ⟨v0, v1, v2, v3, r, e, hc, hr, a⟩ := hv
  exact ⟨v0, v1, v2, v3, r, e, hc.keptM fr hn, hr.keptM fr hn, a⟩
theorem Dv.keptC {w w' : World} {lo : Nat} {v u : Value} {D : Dp} (hv : Dv w lo v D) (fr : ∀ b, b < w.heap.size → NotC u b → w'.heap[b]? = w.heap[b]?) (hn : ∀ b, lo ≤ b → b < w.heap.size → NotC u b) : Dv w' lo v D := by
  obtain ⟨v0, v1, v2, v3, r, e, hc, hr, a⟩ := hv
  exact ⟨v0, v1, v2, v3, r, e, hc.keptC fr hn, hr.keptC fr (fun b e => hn b (hr.lt b e).1 (hr.lt b e).2), a⟩
theorem Dv.keptFar {w w' : World} {lo Bd : Nat} {v : Value} {D : Dp} (hv : Dv w lo v D) (hb : Below Bd w w') {W : World} {D' : Dp} (hW : Dv W lo v D') (hs : W.heap.size ≤ Bd) : Dv w' lo v D := by
  obtain ⟨v0, v1, v2, v3, r, e, ⟨_, _, _, _, e3, ⟨_, _, _, e4, r0, r1, r2, x⟩, r3, y⟩, hr, a⟩ := hv
  obtain ⟨_, _, _, _, _, e', ⟨_, _, _, _, f3, ⟨_, _, _, f4, s0, s1, s2, _⟩, s3, _⟩, sr, _⟩ := hW
  subst e
  simp only [Value.agg.injEq, Array.mk.injEq, List.cons.injEq, and_true] at e'
  obtain ⟨rfl, rfl, rfl, rfl, rfl⟩ := e'
  cases e3; cases e4; cases f3; cases f4
  have k : ∀ (v : Value) (xs ys : List Int), Row w lo v xs → Row W lo v ys → Row w' lo v xs := fun v xs ys h h' => h.far hb (fun j e => by have := (h'.lt j e).2; omega)
  exact ⟨_, _, _, _, _, rfl, ⟨_, _, _, _, rfl, ⟨_, _, _, rfl, k _ _ _ r0 s0, k _ _ _ r1 s1, k _ _ _ r2 s2, x⟩, k _ _ _ r3 s3, y⟩, k _ _ _ hr sr, a⟩
end Go.Proofs.Yteogflkahoanlaa
