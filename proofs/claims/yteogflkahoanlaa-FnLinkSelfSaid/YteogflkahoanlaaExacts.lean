import Derived.Test.YteogflkahoanlaaCntA
import Derived.Test.YteogflkahoanlaaLaws0
import Derived.Test.YteogflkahoanlaaPure
/- The arguments of the exact laws: ints that are read, toIntS, toHeap, szIntS, szHeap. -/
namespace Go.Proofs.Yteogflkahoanlaa
open Go.RowKit

/-- The ints of an argument: they lie somewhere below B. -/
def Ints (w : World) (B : Nat) (A : Option Addr) (n : Nat) (xs : List Int) : Prop :=
  xs.length = n ∧ (n = 0 ∨ ∃ b off, A = some ⟨b, off, none⟩ ∧ b < B ∧ ∀ k, k < n → w.cell? ⟨b, off + k, none⟩ = some (iv (xs.getD k 0)))
theorem Ints.below {w w' : World} {B : Nat} {A : Option Addr} {n : Nat} {xs : List Int} (h : Ints w B A n xs) (hb : Below B w w') : Ints w' B A n xs := by
  refine ⟨h.1, ?_⟩
  rcases h.2 with h | ⟨b, off, e, hlt, hc⟩
  · exact .inl h
  · exact .inr ⟨b, off, e, hlt, fun k hk => (hb.cell (p := ⟨b, off + k, none⟩) hlt).trans (hc k hk)⟩
theorem Ints.get {w : World} {B : Nat} {A : Option Addr} {n : Nat} {xs : List Int} (h : Ints w B A n xs) {k : Nat} (hk : k < n) :
    ∃ b off x, A = some ⟨b, off, none⟩ ∧ b < B ∧ Hid (xs[k]? = some x) ∧ w.cell? ⟨b, off + k, none⟩ = some (.int .i64 x) := by
  rcases h.2 with h0 | ⟨b, off, e, hlt, hc⟩
  · omega
  · have hkl : k < xs.length := by have := h.1; omega
    exact ⟨b, off, xs.getD k 0, e, hlt, by unfold Hid; simp [List.getD, List.getElem?_eq_getElem hkl], hc k hk⟩

theorem set_row {xs : List Int} {k n : Nat} {x : Int} (hk : k < n) (hn : xs.length = n) (hx : xs[k]? = some x) :
    (xs.take k ++ List.replicate (n - k) (0 : Int)).set k x = xs.take (k + 1) ++ List.replicate (n - (k + 1)) 0 := by
  have hl : (xs.take k).length = k := by simp; omega
  rw [List.set_append, if_neg (by omega), hl, Nat.sub_self, show n - k = (n - (k + 1)) + 1 from by omega, List.replicate_succ, List.set_cons_zero, take_snoc hx]
  simp

/-- What is left of a size. -/
def szV (n : Nat) (left : Int) : Int := if (n : Int) ≤ left then left - n else -1
theorem szV_in {n : Nat} {left : Int} (h0 : 0 ≤ left) (h1 : left ≤ 1048576) : -1 ≤ szV n left ∧ szV n left ≤ 1048576 := by
  unfold szV; split <;> omega

/-- A heap that is an argument. -/
def HArg (w : World) (B : Nat) (v : Value) (h : Hp) : Prop :=
  ∃ A0 c0 A1 c1 A2 c2, v = .agg #[.slice A0 h.l.length c0, .slice A1 h.r.length c1, .slice A2 h.t.length c2] ∧ Ints w B A0 h.l.length h.l ∧ Ints w B A1 h.r.length h.r ∧ Ints w B A2 h.t.length h.t
theorem HArg.below {w w' : World} {B : Nat} {v : Value} {h : Hp} (hv : HArg w B v h) (hb : Below B w w') : HArg w' B v h := by
  obtain ⟨A0, c0, A1, c1, A2, c2, rfl, h0, h1, h2⟩ := hv
  exact ⟨A0, c0, A1, c1, A2, c2, rfl, h0.below hb, h1.below hb, h2.below hb⟩
theorem HArg.mono {w : World} {B B' : Nat} {v : Value} {h : Hp} (hv : HArg w B v h) (hB : B ≤ B') : HArg w B' v h := by
  have t : ∀ (A : Option Addr) (n : Nat) (xs : List Int), Ints w B A n xs → Ints w B' A n xs := fun A n xs h => ⟨h.1, h.2.imp id fun ⟨b, off, e, hlt, hc⟩ => ⟨b, off, e, by omega, hc⟩⟩
  obtain ⟨A0, c0, A1, c1, A2, c2, rfl, h0, h1, h2⟩ := hv
  exact ⟨A0, c0, A1, c1, A2, c2, rfl, t _ _ _ h0, t _ _ _ h1, t _ _ _ h2⟩
theorem Ints.alloc {w : World} {B : Nat} {A : Option Addr} {n : Nat} {xs : List Int} (h : Ints w B A n xs) (hB : B ≤ w.heap.size) (o : Obj) : Ints (w.alloc o) B A n xs := h.below ((Below.refl _ _).alloc hB _)
theorem Ints.mono {w : World} {B B' : Nat} {A : Option Addr} {n : Nat} {xs : List Int} (h : Ints w B A n xs) (hB : B ≤ B') : Ints w B' A n xs := ⟨h.1, h.2.imp id fun ⟨b, off, e, hlt, hc⟩ => ⟨b, off, e, by omega, hc⟩⟩
theorem HArg.alloc {w : World} {B : Nat} {v : Value} {h : Hp} (hv : HArg w B v h) (hB : B ≤ w.heap.size) (o : Obj) : HArg (w.alloc o) B v h := hv.below ((Below.refl _ _).alloc hB _)

theorem HArg.drew {w : World} {B : Nat} {v : Value} {h : Hp} (hv : HArg w B v h) : HArg w.drew B v h := hv
/-- A heap that is an argument, and that its rows are not longer than a row can be. -/
def HIn (w : World) (v : Value) (h : Hp) : Prop := HArg w w.heap.size v h ∧ h.l.length ≤ 9223372036854775807 ∧ h.r.length ≤ 9223372036854775807 ∧ h.t.length ≤ 9223372036854775807
/-- A heap and a Bool come back. -/
def OptV (w : World) (ok : Bool) (hr : Hp) (e : Ending) (w' : World) : Prop := ∃ v, e = .returned (.tuple #[v, .bool ok]) ∧ Hv w' w.heap.size v hr ∧ Below w.heap.size w w'
theorem optV_of {P : Program} {f : FuncId} {args : Array Value} {w : World} {o : Option Hp} (h : Calls P f args w (OptHv w o)) : Calls P f args w (OptV w o.isSome (o.getD Hp.zero)) := h

theorem notIn_new {W : World} {lo b : Nat} {u : Value} {h : Hp} (hu : Hv W lo u h) (hb : W.heap.size ≤ b) : NotIn u b := by
  obtain ⟨u0, u1, u2, rfl, r0, r1, r2, _⟩ := hu
  intro v0 v1 v2 e
  cases e
  exact ⟨r0.notown hb, r1.notown hb, r2.notown hb⟩
theorem notIn_old {W : World} {lo b : Nat} {u : Value} {h : Hp} (hu : Hv W lo u h) (hb : b < lo) : NotIn u b := by
  obtain ⟨u0, u1, u2, rfl, r0, r1, r2, _⟩ := hu
  intro v0 v1 v2 e
  cases e
  exact ⟨fun e => by have := (r0.lt _ e.symm).1; omega, fun e => by have := (r1.lt _ e.symm).1; omega, fun e => by have := (r2.lt _ e.symm).1; omega⟩
theorem Row.keptNot {w w' : World} {lo : Nat} {v u : Value} {xs : List Int} (hv : Row w lo v xs) (fr : ∀ b, b < w.heap.size → NotIn u b → w'.heap[b]? = w.heap[b]?) (hn : ∀ b, v.ownBlock = some b → NotIn u b) : Row w' lo v xs := by
  refine ⟨hv.1, ?_⟩
  rcases hv.2 with h2 | ⟨g, cap, cur, rfl, hg, hh, r⟩
  · exact .inl h2
  · exact .inr ⟨g, cap, cur, rfl, hg, by rw [fr g (hv.lt g rfl).2 (hn g rfl)]; exact hh, r⟩
theorem Hv.keptNot {w w' : World} {lo : Nat} {v u : Value} {h : Hp} (hv : Hv w lo v h) (fr : ∀ b, b < w.heap.size → NotIn u b → w'.heap[b]? = w.heap[b]?) (hn : ∀ b, lo ≤ b → b < w.heap.size → NotIn u b) : Hv w' lo v h := by
  obtain ⟨v0, v1, v2, rfl, r0, r1, r2, a⟩ := hv
  exact ⟨v0, v1, v2, rfl, r0.keptNot fr fun b e => hn b (r0.lt b e).1 (r0.lt b e).2, r1.keptNot fr fun b e => hn b (r1.lt b e).1 (r1.lt b e).2, r2.keptNot fr fun b e => hn b (r2.lt b e).1 (r2.lt b e).2, a⟩
/-- The same for a heap that is older than the one that is marked. -/
theorem Hv.keptFar {w w' : World} {lo B : Nat} {v : Value} {h : Hp} (hv : Hv w lo v h) (hb : Below B w w') {W : World} (hW : Hv W lo v h) (hs : W.heap.size ≤ B) : Hv w' lo v h := by
  obtain ⟨v0, v1, v2, rfl, r0, r1, r2, a⟩ := hv
  obtain ⟨u0, u1, u2, e, q0, q1, q2, _⟩ := hW
  cases e
  exact ⟨v0, v1, v2, rfl, r0.far hb fun k e => by have := (q0.lt k e).2; omega, r1.far hb fun k e => by have := (q1.lt k e).2; omega, r2.far hb fun k e => by have := (q2.lt k e).2; omega, a⟩
end Go.Proofs.Yteogflkahoanlaa

/- The marks of the exact laws, with the number that comes back under a name; results of the puts are short. -/
namespace Go.Proofs.Yteogflkahoanlaa
open Go.RowKit

/-- A heap was marked: the number is N; below lo, and in every block that is not the heap's own, nothing has turned. -/
def MarkedN (w : World) (lo : Nat) (N : Int) (v : Value) (h : Hp) (e : Ending) (w' : World) : Prop :=
  e = .returned (.int .i64 N) ∧ Hv w' lo v (markH 1 h) ∧ Below lo w w' ∧ ∀ b, b < w.heap.size → NotIn v b → w'.heap[b]? = w.heap[b]?
theorem hvB_short {h : Hp} (hv : hvB h = true) : h.l.length ≤ 1048576 ∧ h.r.length ≤ 1048576 ∧ h.t.length ≤ 1048576 := by
  have := hvB_len hv; omega
theorem zero_short : Hp.zero.l.length ≤ 1048576 ∧ Hp.zero.r.length ≤ 1048576 ∧ Hp.zero.t.length ≤ 1048576 := by simp [Hp.zero]
theorem putL_short (h : Hp) (x y : Int) : ((putL h x y).getD Hp.zero).l.length ≤ 1048576 ∧ ((putL h x y).getD Hp.zero).r.length ≤ 1048576 ∧ ((putL h x y).getD Hp.zero).t.length ≤ 1048576 := by
  cases e : putL h x y with
  | none => exact zero_short
  | some h' => exact hvB_short (putL_valid e)
theorem putR_short (h : Hp) (x y : Int) : ((putR h x y).getD Hp.zero).l.length ≤ 1048576 ∧ ((putR h x y).getD Hp.zero).r.length ≤ 1048576 ∧ ((putR h x y).getD Hp.zero).t.length ≤ 1048576 := by
  cases e : putR h x y with
  | none => exact zero_short
  | some h' => exact hvB_short (putR_valid e)
theorem putT_short (h : Hp) (x y : Int) : ((putT h x y).getD Hp.zero).l.length ≤ 1048576 ∧ ((putT h x y).getD Hp.zero).r.length ≤ 1048576 ∧ ((putT h x y).getD Hp.zero).t.length ≤ 1048576 := by
  cases e : putT h x y with
  | none => exact zero_short
  | some h' => exact hvB_short (putT_valid e)
theorem Blk3.frame {w w' : World} {b : Nat} {x y z u : Value} {t : TypeId} (h : Blk3 w b x y z t) (fr : ∀ b, b < w.heap.size → NotIn u b → w'.heap[b]? = w.heap[b]?) (hn : NotIn u b) : Blk3 w' b x y z t := (fr b h.lt hn).trans h
end Go.Proofs.Yteogflkahoanlaa

/- The helpers of the exact laws over rows of ints, with the number that comes back under a name. -/
namespace Go.Proofs.Yteogflkahoanlaa
open Go.RowKit

theorem row_apart {w w' : World} {lo lo' : Nat} {v u : Value} {xs ys : List Int} (hv : Row w lo v xs) (hu : Row w' lo' u ys) (h : w.heap.size ≤ lo') : v.ownBlock = none ∨ v.ownBlock ≠ u.ownBlock := by
  cases hob : v.ownBlock with
  | none => exact .inl rfl
  | some b =>
    refine .inr fun e => ?_
    have h1 := (hv.lt b hob).2
    have h2 := (hu.lt b e.symm).1
    omega
theorem Row.max {w : World} {lo n c : Nat} {A : Option Addr} {xs : List Int} (h : Row w lo (.slice A n c) xs) : xs.length ≤ 9223372036854775807 := by
  obtain ⟨A', c', _, h1, h2⟩ := h.form
  unfold maxLen at h2; omega
end Go.Proofs.Yteogflkahoanlaa

