/- The helpers of the exact laws over heaps: eqHeap, markHeap, heldHeap. -/
import Derived.Test.YtkonlhmmkcpgnaaDoorExactR
import Derived.Test.YtkonlhmmkcpgnaaDoorSame
import Derived.Test.YtkonlhmmkcpgnaaDoorPut
import Derived.Test.YtkonlhmmkcpgnaaDoorCount
namespace Go.Proofs.YtkonlhmmkcpgnaaDoor
open Go.RowKit

set_option maxHeartbeats 1000000 in
theorem eqHeap_any (w : World) (lo lo' : Nat) (v v' : Value) (a b : Hp) (hv : Hv w lo v a) (hv' : Hv w lo' v' b) : Calls Tryd.prog 45 #[v, v'] w (RetB w (sameB a b)) := by
  obtain ⟨A0, n0, c0, A1, n1, c1, A2, n2, c2, rfl, ⟨h0, h1, h2⟩, ⟨l0, l1, l2⟩, ⟨m0, m1, m2⟩, _⟩ := hv.open_
  obtain ⟨A0', n0', c0', A1', n1', c1', A2', n2', c2', rfl, ⟨h0', h1', h2'⟩, ⟨l0', l1', l2'⟩, ⟨m0', m1', m2'⟩, _⟩ := hv'.open_
  obtain ⟨o, ho⟩ : ∃ o : Obj, Hid (o = .cells #[.slice A0 n0 c0, .slice A1 n1 c1, .slice A2 n2 c2] 25) := ⟨_, rfl⟩
  obtain ⟨o', ho'⟩ : ∃ o : Obj, Hid (o = .cells #[.slice A0' n0' c0', .slice A1' n1' c1', .slice A2' n2' c2'] 25) := ⟨_, rfl⟩
  have k0 := (h0.alloc o).alloc o'
  have k1 := (h1.alloc o).alloc o'
  have k2 := (h2.alloc o).alloc o'
  have k0' := (h0'.alloc o).alloc o'
  have k1' := (h1'.alloc o).alloc o'
  have k2' := (h2'.alloc o).alloc o'
  have fin : Below w.heap.size w ((w.alloc o).alloc o') := ((Below.refl _ _).alloc (Nat.le_refl _) _).alloc (by simp) _
  rw [ho.out, ho'.out] at k0 k1 k2 k0' k1' k2' fin
  clear h0 h1 h2 h0' h1' h2' ho ho'
  have E0 := fun W p q => eqIntS_any W lo lo' A0 A0' n0 c0 n0' c0' a.l b.l p l0.out m0 q l0'.out m0'
  have E1 := fun W p q => eqIntS_any W lo lo' A1 A1' n1 c1 n1' c1' a.r b.r p l1.out m1 q l1'.out m1'
  have E2 := fun W p q => eqIntS_any W lo lo' A2 A2' n2 c2 n2' c2' a.t b.t p l2.out m2 q l2'.out m2'
  by_cases e0 : a.l = b.l
  · rw [decide_eq_true e0] at E0
    by_cases e1 : a.r = b.r
    · rw [decide_eq_true e1] at E1
      have hf : Hid (sameB a b = decide (a.t = b.t)) := by unfold Hid sameB; simp [e0, e1]
      rcases ed : decide (a.t = b.t)
      all_goals
        rw [ed] at E2 hf
        clear ed
        clear e0 e1
        go_enter Tryd.func45, Tryd.ntmps45
        go_wp2_with fail
        refine (E0 _ (by exact k0) (by exact k0')).mono ?_; rintro e w' ⟨rfl, q0, rfl⟩
        go_wp2_with fail
        refine (E1 _ (by exact k1.drewN _) (by exact k1'.drewN _)).mono ?_; rintro e w' ⟨rfl, q1, rfl⟩
        go_wp2_with fail
        refine (E2 _ (by exact k2.drewN _) (by exact k2'.drewN _)).mono ?_; rintro e w' ⟨rfl, q2, rfl⟩
        go_wp2_with fail
        go_ret
        exact ⟨ret_bool hf.out.symm, by repeat (first | exact fin | refine below_drewN ?_ _)⟩
    · rw [decide_eq_false e1] at E1
      have hf : Hid (sameB a b = false) := by unfold Hid sameB; simp [e1]
      clear e0 e1
      go_enter Tryd.func45, Tryd.ntmps45
      go_wp2_with fail
      refine (E0 _ (by exact k0) (by exact k0')).mono ?_; rintro e w' ⟨rfl, q0, rfl⟩
      go_wp2_with fail
      refine (E1 _ (by exact k1.drewN _) (by exact k1'.drewN _)).mono ?_; rintro e w' ⟨rfl, q1, rfl⟩
      go_wp2_with fail
      go_ret
      exact ⟨ret_bool hf.out.symm, by repeat (first | exact fin | refine below_drewN ?_ _)⟩
  · rw [decide_eq_false e0] at E0
    have hf : Hid (sameB a b = false) := by unfold Hid sameB; simp [e0]
    clear e0
    go_enter Tryd.func45, Tryd.ntmps45
    go_wp2_with fail
    refine (E0 _ (by exact k0) (by exact k0')).mono ?_; rintro e w' ⟨rfl, q0, rfl⟩
    go_wp2_with fail
    go_ret
    exact ⟨ret_bool hf.out.symm, by repeat (first | exact fin | refine below_drewN ?_ _)⟩

theorem apart_row {u v : Value} (h : Apart u v) : v.ownBlock = none ∨ v.ownBlock ≠ u.ownBlock := by
  cases hv : v.ownBlock with
  | none => exact .inl rfl
  | some b => exact .inr fun e => h b e.symm hv
theorem Blk3.keptR {w w' : World} {row : Option Nat} {b : Nat} {x y z : Value} {t : TypeId} (h : Blk3 w b x y z t) (hg : w.grownBy w' row) (hb : some b ≠ row) : Blk3 w' b x y z t := (hg.block b h.lt hb).trans h
theorem Row.notown {w : World} {lo b : Nat} {v : Value} {xs : List Int} (h : Row w lo v xs) (hb : w.heap.size ≤ b) : some b ≠ v.ownBlock := fun e => by have := (h.lt b e.symm).2; omega
theorem Row.belowLo {w w' : World} {lo : Nat} {v : Value} {xs : List Int} (h : Row w lo v xs) (hl : lo ≤ w.heap.size) (hg : w.grownBy w' v.ownBlock) : Below lo w w' :=
  ⟨hg.os, hg.tape, hg.output, hg.size, fun k hk => hg.block k (by omega) (fun e => by have := (h.lt k e.symm).1; omega)⟩

def markH (k : Nat) (h : Hp) : Hp := ⟨seqI k h.l.length, seqI (k + h.l.length) h.r.length, seqI (k + h.l.length + h.r.length) h.t.length⟩
def sizeH (h : Hp) : Nat := h.l.length + h.r.length + h.t.length
/-- Block b is none of the heap's own. -/
def NotIn (v : Value) (b : Nat) : Prop := ∀ v0 v1 v2, v = .agg #[v0, v1, v2] → some b ≠ v0.ownBlock ∧ some b ≠ v1.ownBlock ∧ some b ≠ v2.ownBlock
/-- The heap holds k, k+1, ..; below lo nothing has turned. -/
def MarkedH (w : World) (lo k : Nat) (v : Value) (h : Hp) (e : Ending) (w' : World) : Prop :=
  e = .returned (.int .i64 ((k + sizeH h : Nat) : Int)) ∧ Hv w' lo v (markH k h) ∧ Below lo w w' ∧ ∀ b, b < w.heap.size → NotIn v b → w'.heap[b]? = w.heap[b]?

end Go.Proofs.YtkonlhmmkcpgnaaDoor
