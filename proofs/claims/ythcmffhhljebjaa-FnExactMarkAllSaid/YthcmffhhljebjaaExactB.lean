/- The marks of the exact laws, with the number that comes back under a name; results of the puts are short. -/
import Derived.Test.YthcmffhhljebjaaExactA
namespace Go.Proofs.Ythcmffhhljebjaa
open Go.RowKit

/-- A heap was marked: the number is N; below lo, and in every block that is not the heap's own, nothing has turned. -/
def MarkedN (w : World) (lo : Nat) (N : Int) (v : Value) (h : Hp) (e : Ending) (w' : World) : Prop :=
  e = .returned (.int .i64 N) ∧ Hv w' lo v (markH 1 h) ∧ Below lo w w' ∧ ∀ b, b < w.heap.size → NotIn v b → w'.heap[b]? = w.heap[b]?
theorem mark1 (h : Hp) (b0 : h.l.length ≤ 1048576) (b1 : h.r.length ≤ 1048576) (b2 : h.t.length ≤ 1048576) :
    ∃ N : Int, ¬ (N < 0) ∧ (N != N) = false ∧
      (∀ (w : World) (lo : Nat) (v : Value), Hv w lo v h → lo ≤ w.heap.size → Calls Try.prog 24 #[v, .int .i64 1] w (MarkedN w lo N v h)) ∧
      (∀ (w : World) (lo : Nat) (v : Value), Hv w lo v (markH 1 h) → Calls Try.prog 53 #[v, .int .i64 1] w (RetI w N)) := by
  refine ⟨((1 + sizeH h : Nat) : Int), by omega, by simp, fun w lo v hv hlo => ?_, fun w lo v hv => heldHeap_one' w lo v h hv b0 b1 b2⟩
  exact markHeap_any w lo v h hv hlo b0 b1 b2 1 (by omega)

theorem markX (h : Hp) (b0 : h.l.length ≤ 1048576) (b1 : h.r.length ≤ 1048576) (b2 : h.t.length ≤ 1048576) :
    ∃ N : Int, ¬ (N < 0) ∧ (N != N) = false ∧
      (∀ (w : World) (lo : Nat) (v : Value), Hv w lo v h → lo ≤ w.heap.size → Calls Try.prog 24 #[v, .int .i64 1] w (MarkedN w lo N v h)) :=
  ⟨((1 + sizeH h : Nat) : Int), by omega, by simp, fun w lo v hv hlo => markHeap_any w lo v h hv hlo b0 b1 b2 1 (by omega)⟩

theorem hvB_short {h : Hp} (hv : hvB h = true) : h.l.length ≤ 1048576 ∧ h.r.length ≤ 1048576 ∧ h.t.length ≤ 1048576 := by
  have := hvB_len hv; omega
theorem zero_short : Hp.zero.l.length ≤ 1048576 ∧ Hp.zero.r.length ≤ 1048576 ∧ Hp.zero.t.length ≤ 1048576 := by simp [Hp.zero]
theorem putL_short (h : Hp) (x y : Int) : ((putL h x y).getD Hp.zero).l.length ≤ 1048576 ∧ ((putL h x y).getD Hp.zero).r.length ≤ 1048576 ∧ ((putL h x y).getD Hp.zero).t.length ≤ 1048576 := by
  cases e : putL h x y with
  | none => exact zero_short
  | some h' => exact hvB_short (putL_valid e)
theorem putR_short (h : Hp) (x y : Int) : ((putR h x y).getD Hp.zero).l.length ≤ 1048576 ∧ ((putR h x y).getD Hp.zero).r.length ≤ 1048576 ∧ ((putR h x y).getD Hp.zero).t.length ≤ 1048576 := by
  cases e : putR h x y with
  | none => exact zero_short
  | some h' => exact hvB_short (putR_valid e)
theorem putT_short (h : Hp) (x y : Int) : ((putT h x y).getD Hp.zero).l.length ≤ 1048576 ∧ ((putT h x y).getD Hp.zero).r.length ≤ 1048576 ∧ ((putT h x y).getD Hp.zero).t.length ≤ 1048576 := by
  cases e : putT h x y with
  | none => exact zero_short
  | some h' => exact hvB_short (putT_valid e)
theorem Blk3.frame {w w' : World} {b : Nat} {x y z u : Value} {t : TypeId} (h : Blk3 w b x y z t) (fr : ∀ b, b < w.heap.size → NotIn u b → w'.heap[b]? = w.heap[b]?) (hn : NotIn u b) : Blk3 w' b x y z t := (fr b h.lt hn).trans h
end Go.Proofs.Ythcmffhhljebjaa
