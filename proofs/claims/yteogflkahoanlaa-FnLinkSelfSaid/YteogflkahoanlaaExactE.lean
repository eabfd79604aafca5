/- The helpers of the exact laws over colored heaps: szColored, toColored, eqColored, markColored, heldColored. -/
import Derived.Test.YteogflkahoanlaaExacts
import Derived.Test.YteogflkahoanlaaSFreeG
import Derived.Test.YteogflkahoanlaaWrgA
namespace Go.Proofs.Yteogflkahoanlaa
open Go.RowKit

/-- A colored heap that is an argument. -/
def CArg (w : World) (B : Nat) (v : Value) (C : Cp) : Prop :=
  ∃ A0 c0 A1 c1 A2 c2 A3 c3, v = .agg #[.slice A0 C.h.l.length c0, .slice A1 C.h.r.length c1, .slice A2 C.h.t.length c2, .slice A3 C.c.length c3] ∧ Ints w B A0 C.h.l.length C.h.l ∧ Ints w B A1 C.h.r.length C.h.r ∧ Ints w B A2 C.h.t.length C.h.t ∧ Ints w B A3 C.c.length C.c
theorem CArg.below {w w' : World} {B : Nat} {v : Value} {C : Cp} (hv : CArg w B v C) (hb : Below B w w') : CArg w' B v C := by
  obtain ⟨A0, c0, A1, c1, A2, c2, A3, c3, rfl, h0, h1, h2, h3⟩ := hv
  exact ⟨A0, c0, A1, c1, A2, c2, A3, c3, rfl, h0.below hb, h1.below hb, h2.below hb, h3.below hb⟩
theorem CArg.alloc {w : World} {B : Nat} {v : Value} {C : Cp} (hv : CArg w B v C) (hB : B ≤ w.heap.size) (o : Obj) : CArg (w.alloc o) B v C := hv.below ((Below.refl _ _).alloc hB _)
theorem CArg.drew {w : World} {B : Nat} {v : Value} {C : Cp} (hv : CArg w B v C) : CArg w.drew B v C := hv
/-- .. and that its rows are not longer than a row can be. -/
def CIn (w : World) (v : Value) (C : Cp) : Prop := CArg w w.heap.size v C ∧ (C.h.l.length ≤ 9223372036854775807 ∧ C.h.r.length ≤ 9223372036854775807 ∧ C.h.t.length ≤ 9223372036854775807 ∧ C.c.length ≤ 9223372036854775807)

/-- The heap part of a variable was stored. -/
theorem Blk4.set012 {w : World} {b : Nat} {x y z u : Value} {t : TypeId} (h : Blk4 w b x y z u t) (x' y' z' : Value) : Blk4 (((w.setCell ⟨b, 0, none⟩ x').setCell ⟨b, 1, none⟩ y').setCell ⟨b, 2, none⟩ z') b x' y' z' u t := by
  unfold Blk4 at h ⊢; simp [World.setCell, Array.getElem?_modify, h]
theorem Hv.low3 {w : World} {lo b : Nat} {v : Value} {h : Hp} (hv : Hv w lo v h) (hb : b < lo) (x y z : Value) : Hv (((w.setCell ⟨b, 0, none⟩ x).setCell ⟨b, 1, none⟩ y).setCell ⟨b, 2, none⟩ z) lo v h :=
  ((hv.low_set (p := ⟨b, 0, none⟩) hb x).low_set (p := ⟨b, 1, none⟩) hb y).low_set (p := ⟨b, 2, none⟩) hb z
theorem size3 (w : World) (b : Nat) (x y z : Value) : (((w.setCell ⟨b, 0, none⟩ x).setCell ⟨b, 1, none⟩ y).setCell ⟨b, 2, none⟩ z).heap.size = w.heap.size := by simp [World.setCell]

def markC (k : Nat) (C : Cp) : Cp := ⟨markH k C.h, seqI (k + sizeH C.h) C.c.length⟩
def sizeC (C : Cp) : Nat := sizeH C.h + C.c.length
/-- Block b is none of the colored heap's own. -/
def NotC (v : Value) (b : Nat) : Prop := ∀ v0 v1 v2 v3, v = .agg #[v0, v1, v2, v3] → some b ≠ v0.ownBlock ∧ some b ≠ v1.ownBlock ∧ some b ≠ v2.ownBlock ∧ some b ≠ v3.ownBlock
/-- A colored heap was marked: the number is N; below lo, and in every block that is not its own, nothing has turned. -/
def MarkedC (w : World) (lo k : Nat) (N : Int) (v : Value) (C : Cp) (e : Ending) (w' : World) : Prop :=
  e = .returned (.int .i64 N) ∧ Cv w' lo v (markC k C) ∧ Below lo w w' ∧ ∀ b, b < w.heap.size → NotC v b → w'.heap[b]? = w.heap[b]?

theorem notC_new {W : World} {lo b : Nat} {u : Value} {C : Cp} (hu : Cv W lo u C) (hb : W.heap.size ≤ b) : NotC u b := by
  obtain ⟨u0, u1, u2, u3, rfl, ⟨_, _, _, e', r0, r1, r2, _⟩, r3, _⟩ := hu
  cases e'
  intro v0 v1 v2 v3 e
  cases e
  exact ⟨r0.notown hb, r1.notown hb, r2.notown hb, r3.notown hb⟩
theorem notC_old {W : World} {lo b : Nat} {u : Value} {C : Cp} (hu : Cv W lo u C) (hb : b < lo) : NotC u b := by
  obtain ⟨u0, u1, u2, u3, rfl, ⟨_, _, _, e', r0, r1, r2, _⟩, r3, _⟩ := hu
  cases e'
  intro v0 v1 v2 v3 e
  cases e
  exact ⟨fun e => by have := (r0.lt _ e.symm).1; omega, fun e => by have := (r1.lt _ e.symm).1; omega, fun e => by have := (r2.lt _ e.symm).1; omega, fun e => by have := (r3.lt _ e.symm).1; omega⟩
theorem Row.keptC {w w' : World} {lo : Nat} {v u : Value} {xs : List Int} (hv : Row w lo v xs) (fr : ∀ b, b < w.heap.size → NotC u b → w'.heap[b]? = w.heap[b]?) (hn : ∀ b, v.ownBlock = some b → NotC u b) : Row w' lo v xs := by
  refine ⟨hv.1, ?_⟩
  rcases hv.2 with h2 | ⟨g, cap, cur, rfl, hg, hh, r⟩
  · exact .inl h2
  · exact .inr ⟨g, cap, cur, rfl, hg, by rw [fr g (hv.lt g rfl).2 (hn g rfl)]; exact hh, r⟩
theorem Cv.keptC {w w' : World} {lo : Nat} {v u : Value} {C : Cp} (hv : Cv w lo v C) (fr : ∀ b, b < w.heap.size → NotC u b → w'.heap[b]? = w.heap[b]?) (hn : ∀ b, lo ≤ b → b < w.heap.size → NotC u b) : Cv w' lo v C := by
  obtain ⟨v0, v1, v2, v3, rfl, ⟨_, _, _, e', r0, r1, r2, a⟩, r3, b⟩ := hv
  cases e'
  exact ⟨v0, v1, v2, v3, rfl, ⟨_, _, _, rfl, r0.keptC fr fun b e => hn b (r0.lt b e).1 (r0.lt b e).2, r1.keptC fr fun b e => hn b (r1.lt b e).1 (r1.lt b e).2, r2.keptC fr fun b e => hn b (r2.lt b e).1 (r2.lt b e).2, a⟩, r3.keptC fr fun b e => hn b (r3.lt b e).1 (r3.lt b e).2, b⟩
/-- The same for a colored heap that is older than what is marked. -/
theorem Cv.keptFar {w w' : World} {lo B : Nat} {v : Value} {C : Cp} (hv : Cv w lo v C) (hb : Below B w w') {W : World} (hW : Cv W lo v C) (hs : W.heap.size ≤ B) : Cv w' lo v C := by
  obtain ⟨v0, v1, v2, v3, rfl, ⟨_, _, _, e', r0, r1, r2, a⟩, r3, b⟩ := hv
  cases e'
  obtain ⟨u0, u1, u2, u3, e, ⟨_, _, _, e2, q0, q1, q2, _⟩, q3, _⟩ := hW
  cases e
  cases e2
  exact ⟨v0, v1, v2, v3, rfl, ⟨_, _, _, rfl, r0.far hb fun k e => by have := (q0.lt k e).2; omega, r1.far hb fun k e => by have := (q1.lt k e).2; omega, r2.far hb fun k e => by have := (q2.lt k e).2; omega, a⟩, r3.far hb fun k e => by have := (q3.lt k e).2; omega, b⟩
/-- .. and for a colored heap that is older than a heap that is marked. -/
theorem Cv.keptN {w w' : World} {lo : Nat} {v u : Value} {C : Cp} (hv : Cv w lo v C) (fr : ∀ b, b < w.heap.size → NotIn u b → w'.heap[b]? = w.heap[b]?) (hn : ∀ b, lo ≤ b → b < w.heap.size → NotIn u b) : Cv w' lo v C := by
  obtain ⟨v0, v1, v2, v3, rfl, ⟨_, _, _, e', r0, r1, r2, a⟩, r3, b⟩ := hv
  cases e'
  exact ⟨v0, v1, v2, v3, rfl, ⟨_, _, _, rfl, r0.keptNot fr fun b e => hn b (r0.lt b e).1 (r0.lt b e).2, r1.keptNot fr fun b e => hn b (r1.lt b e).1 (r1.lt b e).2, r2.keptNot fr fun b e => hn b (r2.lt b e).1 (r2.lt b e).2, a⟩, r3.keptNot fr fun b e => hn b (r3.lt b e).1 (r3.lt b e).2, b⟩
theorem Blk4.drew {w : World} {b : Nat} {x y z q : Value} {t : TypeId} (h : Blk4 w b x y z q t) : Blk4 w.drew b x y z q t := h
theorem Blk4.frame {w w' : World} {b : Nat} {x y z q u : Value} {t : TypeId} (h : Blk4 w b x y z q t) (fr : ∀ b, b < w.heap.size → NotC u b → w'.heap[b]? = w.heap[b]?) (hn : NotC u b) : Blk4 w' b x y z q t := (fr b h.lt hn).trans h
theorem Blk3.frameC {w w' : World} {b : Nat} {x y z u : Value} {t : TypeId} (h : Blk3 w b x y z t) (fr : ∀ b, b < w.heap.size → NotC u b → w'.heap[b]? = w.heap[b]?) (hn : NotC u b) : Blk3 w' b x y z t := (fr b h.lt hn).trans h
theorem Blk4.frameH {w w' : World} {b : Nat} {x y z q u : Value} {t : TypeId} (h : Blk4 w b x y z q t) (fr : ∀ b, b < w.heap.size → NotIn u b → w'.heap[b]? = w.heap[b]?) (hn : NotIn u b) : Blk4 w' b x y z q t := (fr b h.lt hn).trans h

/-- Colored heaps that come back are short. -/
def ShortC (C : Cp) : Prop := C.h.l.length ≤ 1048576 ∧ C.h.r.length ≤ 1048576 ∧ C.h.t.length ≤ 1048576 ∧ C.c.length ≤ 1048576
theorem stoB_short {C : Cp} (h : stoB C = true) : ShortC C := by
  obtain ⟨h1, h2, _⟩ := stoB_parts h
  have := hvB_len h1
  exact ⟨by omega, by omega, by omega, by omega⟩
theorem zeroC_short : ShortC Cp.zero := by simp [ShortC, Cp.zero, Hp.zero]
theorem allocC_short (C : Cp) (k : Int) : ShortC (allocC C k) := by
  unfold allocC
  split
  · rename_i h
    obtain ⟨a, b, c, d⟩ := stoB_short (allocB_iff.1 h).1
    exact ⟨a, b, by simpa using c, by show C.c.tail.length ≤ _; rw [List.length_tail]; omega⟩
  · exact zeroC_short
theorem clearC_short {C : Cp} (cs : List Int) (h : stoB C = true) (hc : cs.length ≤ 8) : ShortC (clearC C cs) := by
  obtain ⟨a, b, c, d⟩ := stoB_short h
  obtain ⟨h1, h2, _⟩ := stoB_parts h
  have := hvB_len h1
  exact ⟨by show (clrN C.h.l cs C.h.l.length).length ≤ _; rw [clrN_len]; exact a, by show (clrN C.h.r cs C.h.l.length).length ≤ _; rw [clrN_len]; exact b, c, by show (C.c ++ cs).length ≤ _; rw [List.length_append]; omega⟩
theorem leak_len (C : Cp) : (leakL C).length ≤ 8 := by
  unfold leakL; split
  · exact Nat.le_trans (leakN_len _ _ _) (garb_len C.h)
  · simp
theorem collectO_short (C : Cp) : ShortC ((collectO C).getD Cp.zero) := by
  unfold collectO
  split
  · rename_i h; exact clearC_short _ h (leak_len C)
  · exact zeroC_short
theorem freeO_short (C : Cp) (x : Int) : ShortC ((freeO C x).getD Cp.zero) := by
  unfold freeO
  split
  · rename_i h; exact clearC_short _ (leak_sto h) (by simp)
  · exact zeroC_short
theorem newSO_short (c r : Int) : ShortC ((newSO c r).getD Cp.zero) := by
  unfold newSO
  split
  · rename_i h
    simp only [szB, decide_eq_true_eq] at h
    exact ⟨by simp; omega, by simp; omega, by simp; omega, by simp [nums]; omega⟩
  · exact zeroC_short
theorem Blk4.keptR {w w' : World} {b : Nat} {x y z u : Value} {t : TypeId} {row : Option Nat} (h : Blk4 w b x y z u t) (hg : w.grownBy w' row) (hb : some b ≠ row) : Blk4 w' b x y z u t := (hg.block b h.lt hb).trans h
/-- A colored heap and a Bool come back. -/
def OptC (w : World) (ok : Bool) (C : Cp) (e : Ending) (w' : World) : Prop := ∃ v, e = .returned (.tuple #[v, .bool ok]) ∧ Cv w' w.heap.size v C ∧ Below w.heap.size w w'
theorem optC_of {P : Program} {f : FuncId} {args : Array Value} {w : World} {o : Option Cp} (h : Calls P f args w (OptCv w o)) : Calls P f args w (OptC w o.isSome (o.getD Cp.zero)) := h

end Go.Proofs.Yteogflkahoanlaa
