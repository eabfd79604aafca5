/- The helpers of the exact laws over operations: toOp; what a region with a result's variable leaves. -/
import Derived.Test.YtdifplakkepnkaaExactE
import Derived.Test.YtdifplakkepnkaaOp
import Derived.Test.YtdifplakkepnkaaSDoH
import Derived.Test.YtdifplakkepnkaaBlks1
import Derived.Deep.CutRange
namespace Go.Proofs.Ytdifplakkepnkaa
open Go.RowKit

set_option maxRecDepth 100000 in
set_option maxHeartbeats 1000000 in
theorem toOp_any (w : World) (o : Opv) : Calls Try.prog 48 #[opV o] w fun e w' => e = .returned (opV o) ∧ Below w.heap.size w w' := by
  obtain ⟨k, a, b⟩ := o
  show Calls Try.prog 48 #[.agg #[.int .i64 k, .int .i64 a, .int .i64 b]] w _
  have Q := (Blk3.new_at (w := w.alloc (.cells #[.int .i64 k, .int .i64 a, .int .i64 b] 79)) (b := w.heap.size + 1) (by simp) (.int .i64 k) (.int .i64 a) (.int .i64 b) 70).alloc (.cells #[.int .i64 k, .int .i64 a, .int .i64 b] 70)
  have B0 : Below w.heap.size w (((w.alloc (.cells #[.int .i64 k, .int .i64 a, .int .i64 b] 79)).alloc (.cells #[.int .i64 k, .int .i64 a, .int .i64 b] 70)).alloc (.cells #[.int .i64 k, .int .i64 a, .int .i64 b] 70)) := (((Below.refl _ w).alloc (Nat.le_refl _) _).alloc (by simp) _).alloc (by simp; omega) _
  obtain ⟨q0, q1, q2, _⟩ := Q.cells
  go_enter Try.func48, Try.ntmps48
  go_wp2_with fail
  refine bodyPost_ret (v := .agg #[.int .i64 k, .int .i64 a, .int .i64 b]) ?_ rfl ⟨rfl, B0⟩
  simp [results, Try.results48, go_sem, q0, q1, q2]
theorem Blk3.drewO {w : World} {b : Nat} {x y z : Value} {t : TypeId} (h : Blk3 w b x y z t) : Blk3 w.drew b x y z t := h
theorem Blk4.drewO {w : World} {b : Nat} {x y z q : Value} {t : TypeId} (h : Blk4 w b x y z q t) : Blk4 w.drew b x y z q t := h
theorem Blk4.far4O {w : World} {b c : Nat} {x y z u : Value} {t : TypeId} (h : Blk4 w b x y z u t) (hne : c ≠ b) (u0 u1 u2 u3 : Value) : Blk4 ((((w.setCell ⟨c, 0, none⟩ u0).setCell ⟨c, 1, none⟩ u1).setCell ⟨c, 2, none⟩ u2).setCell ⟨c, 3, none⟩ u3) b x y z u t := h.far4 hne.symm u0 u1 u2 u3
theorem Blk3.far4O {w : World} {b c : Nat} {x y z : Value} {t : TypeId} (h : Blk3 w b x y z t) (hne : c ≠ b) (u0 u1 u2 u3 : Value) : Blk3 ((((w.setCell ⟨c, 0, none⟩ u0).setCell ⟨c, 1, none⟩ u1).setCell ⟨c, 2, none⟩ u2).setCell ⟨c, 3, none⟩ u3) b x y z t :=
  (((h.other (p := ⟨c, 0, none⟩) hne.symm u0).other (p := ⟨c, 1, none⟩) hne.symm u1).other (p := ⟨c, 2, none⟩) hne.symm u2).other (p := ⟨c, 3, none⟩) hne.symm u3
/-- A store came back into a variable of its own. -/
def GotS (W0 : World) (D : Cp) (x : Int) (b : Bool) (p e1 e2 : Value) (w' : World) : Prop :=
  ∃ (bk : Nat) (v0 v1 v2 v3 : Value), p = .pointer (some ⟨bk, 0, none⟩) ∧ e1 = .int .i64 x ∧ e2 = .bool b ∧ Blk4 w' bk v0 v1 v2 v3 27 ∧ Cv w' W0.heap.size (.agg #[v0, v1, v2, v3]) D ∧ NotC (.agg #[v0, v1, v2, v3]) bk ∧ W0.heap.size ≤ bk ∧ Below W0.heap.size W0 w'
theorem notC_of {v0 v1 v2 v3 : Value} {b : Nat} (h : v0.ownBlock ≠ some b ∧ v1.ownBlock ≠ some b ∧ v2.ownBlock ≠ some b ∧ v3.ownBlock ≠ some b) : NotC (.agg #[v0, v1, v2, v3]) b := by
  intro u0 u1 u2 u3 e
  cases e
  exact ⟨fun e => h.1 e.symm, fun e => h.2.1 e.symm, fun e => h.2.2.1 e.symm, fun e => h.2.2.2 e.symm⟩
theorem got_new {W0 w' : World} {lo : Nat} {v0 v1 v2 v3 : Value} {D : Cp} {x : Int} {b : Bool} (hN : Cv w' lo (.agg #[v0, v1, v2, v3]) D) (hl : W0.heap.size ≤ lo) (hB : Below W0.heap.size W0 w') :
    GotS W0 D x b (.pointer (some ⟨w'.heap.size, 0, none⟩)) (.int .i64 x) (.bool b) (w'.alloc (.cells #[v0, v1, v2, v3] 27)) :=
  ⟨_, _, _, _, _, rfl, rfl, rfl, Blk4.new _ _ _ _ _ _, (hN.alloc _).mono hl, notC_of (hN.ownLt w'.heap.size (.inr (Nat.le_refl _))), hB.size, hB.alloc hB.size _⟩
theorem got_set {W0 w' : World} {lo zb : Nat} {v0 v1 v2 v3 u0 u1 u2 u3 : Value} {D : Cp} {x : Int} {b : Bool} (hZ : Blk4 w' zb u0 u1 u2 u3 27) (hN : Cv w' lo (.agg #[v0, v1, v2, v3]) D) (hz : W0.heap.size ≤ zb) (hl : zb < lo) (hB : Below W0.heap.size W0 w') :
    GotS W0 D x b (.pointer (some ⟨zb, 0, none⟩)) (.int .i64 x) (.bool b) ((((w'.setCell ⟨zb, 0, none⟩ v0).setCell ⟨zb, 1, none⟩ v1).setCell ⟨zb, 2, none⟩ v2).setCell ⟨zb, 3, none⟩ v3) :=
  ⟨_, _, _, _, _, rfl, rfl, rfl, hZ.set4R _ _ _ _, (hN.set4O (hN.ownLt zb (.inl hl)) _ _ _ _).mono (by omega), notC_of (hN.ownLt zb (.inl hl)), hz, below_set4 hB hz _ _ _ _⟩
end Go.Proofs.Ytdifplakkepnkaa
