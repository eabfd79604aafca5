/- HeapSame of both. -/
import Derived.Test.YthbflohanjnaeaaHeap
namespace Go.Proofs.Ythbflohanjnaeaa
open Go.RowKit

def sameB (a b : Hp) : Bool := decide (a.l = b.l) && decide (a.r = b.r) && decide (a.t = b.t)
theorem sameB_iff (a b : Hp) : sameB a b = true ↔ a = b := by cases a; cases b; simp [sameB, and_assoc]

set_option maxHeartbeats 1000000 in
theorem implHeapSame_any (w : World) (lo lo' : Nat) (v v' : Value) (a b : Hp) (hv : Hv w lo v a) (hv' : Hv w lo' v' b) : Calls Try.prog 42 #[v, v'] w (RetB w (sameB a b)) := by
  obtain ⟨A0, n0, c0, A1, n1, c1, A2, n2, c2, rfl, ⟨h0, h1, h2⟩, ⟨l0, l1, l2⟩, ⟨m0, m1, m2⟩, _⟩ := hv.open_
  obtain ⟨A0', n0', c0', A1', n1', c1', A2', n2', c2', rfl, ⟨h0', h1', h2'⟩, ⟨l0', l1', l2'⟩, ⟨m0', m1', m2'⟩, _⟩ := hv'.open_
  obtain ⟨o, ho⟩ : ∃ o : Obj, Hid (o = .cells #[.slice A0 n0 c0, .slice A1 n1 c1, .slice A2 n2 c2] 25) := ⟨_, rfl⟩
  obtain ⟨o', ho'⟩ : ∃ o : Obj, Hid (o = .cells #[.slice A0' n0' c0', .slice A1' n1' c1', .slice A2' n2' c2'] 25) := ⟨_, rfl⟩
  have k0 := (h0.alloc o).alloc o'
  have k1 := (h1.alloc o).alloc o'
  have k2 := (h2.alloc o).alloc o'
  have k0' := (h0'.alloc o).alloc o'
  have k1' := (h1'.alloc o).alloc o'
  have k2' := (h2'.alloc o).alloc o'
  have fin : Below w.heap.size w ((w.alloc o).alloc o') := ((Below.refl _ _).alloc (Nat.le_refl _) _).alloc (by simp) _
  rw [ho.out, ho'.out] at k0 k1 k2 k0' k1' k2' fin
  clear h0 h1 h2 h0' h1' h2' ho ho'
  have E0 := fun W p q => slicesEqual_any W lo lo' A0 A0' n0 c0 n0' c0' a.l b.l p l0.out m0 q l0'.out m0'
  have E1 := fun W p q => slicesEqual_any W lo lo' A1 A1' n1 c1 n1' c1' a.r b.r p l1.out m1 q l1'.out m1'
  have E2 := fun W p q => slicesEqual_any W lo lo' A2 A2' n2 c2 n2' c2' a.t b.t p l2.out m2 q l2'.out m2'
  by_cases e0 : a.l = b.l
  · rw [decide_eq_true e0] at E0
    by_cases e1 : a.r = b.r
    · rw [decide_eq_true e1] at E1
      have hf : Hid (sameB a b = decide (a.t = b.t)) := by unfold Hid sameB; simp [e0, e1]
      clear e0 e1
      go_enter Try.func42, Try.ntmps42
      go_wp2_with fail
      refine (E0 _ (by exact k0) (by exact k0')).mono ?_; rintro e w' ⟨rfl, q0, rfl⟩
      go_wp2_with fail
      refine (E1 _ (by exact k1.drewN _) (by exact k1'.drewN _)).mono ?_; rintro e w' ⟨rfl, q1, rfl⟩
      go_wp2_with fail
      refine (E2 _ (by exact k2.drewN _) (by exact k2'.drewN _)).mono ?_; rintro e w' ⟨rfl, q2, rfl⟩
      go_wp2_with fail
      go_ret
      exact ⟨ret_bool hf.out.symm, by repeat (first | exact fin | refine below_drewN ?_ _)⟩
    · rw [decide_eq_false e1] at E1
      have hf : Hid (sameB a b = false) := by unfold Hid sameB; simp [e1]
      clear e0 e1
      go_enter Try.func42, Try.ntmps42
      go_wp2_with fail
      refine (E0 _ (by exact k0) (by exact k0')).mono ?_; rintro e w' ⟨rfl, q0, rfl⟩
      go_wp2_with fail
      refine (E1 _ (by exact k1.drewN _) (by exact k1'.drewN _)).mono ?_; rintro e w' ⟨rfl, q1, rfl⟩
      go_wp2_with fail
      go_ret
      exact ⟨ret_bool hf.out.symm, by repeat (first | exact fin | refine below_drewN ?_ _)⟩
  · rw [decide_eq_false e0] at E0
    have hf : Hid (sameB a b = false) := by unfold Hid sameB; simp [e0]
    clear e0
    go_enter Try.func42, Try.ntmps42
    go_wp2_with fail
    refine (E0 _ (by exact k0) (by exact k0')).mono ?_; rintro e w' ⟨rfl, q0, rfl⟩
    go_wp2_with fail
    go_ret
    exact ⟨ret_bool hf.out.symm, by repeat (first | exact fin | refine below_drewN ?_ _)⟩

end Go.Proofs.Ythbflohanjnaeaa
