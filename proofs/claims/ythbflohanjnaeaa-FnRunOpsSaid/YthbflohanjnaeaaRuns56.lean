import Derived.Test.YthbflohanjnaeaaOp
import Derived.Test.YthbflohanjnaeaaSDoH
import Derived.Test.YthbflohanjnaeaaIStos
import Derived.Test.YthbflohanjnaeaaDrawss
/- Words for the laws of runs of one operation. -/
namespace Go.Proofs.Ythbflohanjnaeaa
open Go.RowKit

theorem sto_same5 {w : World} {lo lo' : Nat} {v v' : Value} {C : Cp} (h : Cv w lo v C) (h' : Cv w lo' v' C) : Calls Try.prog 16 #[v, v'] w (RetB w true) := by
  have h9 := implStoreSame_any w lo lo' v v' C C h h'
  rwa [sameC_self] at h9
theorem rootA_set {C : Cp} {a q x : Int} (h : rootA C q = x) : rootA ⟨⟨C.h.l, C.h.r, C.h.t.set a.toNat x⟩, C.c⟩ q = x := by
  unfold rootA at *
  simp only [List.getD_eq_getElem?_getD, List.getElem?_set] at *
  split
  · split
    · rfl
    · rename_i h1 h2
      rw [← h, List.getElem?_eq_none (by omega)]
  · exact h
theorem op_roots {C : Cp} {o : Opv} (h : runB C o = true) : (runC C o).h.t.length = C.h.t.length := by
  unfold runC
  rw [if_pos h]
  split
  · split
    · rename_i ha
      unfold allocC
      rw [if_pos ha]
      simp
    · rfl
  · unfold doC
    repeat' split
    all_goals simp
theorem op_again {C : Cp} {o p : Opv} (h : runB C o = true) (hp : opB p C.h.t.length = true) : runB (runC C o) p = true := runB_iff.2 ⟨run_valid h, by rw [op_roots h]; exact hp⟩
theorem op_idx {C : Cp} {k a q : Int} (h : runB C ⟨k, a, q⟩ = true) : ∃ ja jq : Nat, a = (ja : Int) ∧ q = (jq : Int) ∧ ja < C.h.t.length ∧ (¬ (k = 1 ∨ k = 7) → jq < C.h.t.length) ∧ (a < 3 ∧ q < 3) ∧ (1 ≤ k ∧ k ≤ 7) ∧ ((k = 1 ∨ k = 7) → q = 0) := by
  obtain ⟨hk, ⟨a0, a1, a3⟩, ⟨b0, b3⟩, hb7, hbn⟩ := opB_iff.1 (runB_iff.1 h).2
  simp only at hk a0 a1 a3 b0 b3 hb7 hbn
  exact ⟨a.toNat, q.toNat, by omega, by omega, by omega, fun h9 => by have := hbn h9; omega, ⟨a3, b3⟩, hk, hb7⟩
/-- A root that was copied. -/
theorem run_copy {C : Cp} {a q : Int} (h : runB C ⟨2, a, q⟩ = true) : runE C ⟨2, a, q⟩ = 0 ∧ runB (runC C ⟨2, a, q⟩) ⟨2, a, q⟩ = true ∧ runE (runC C ⟨2, a, q⟩) ⟨2, a, q⟩ = 0 ∧ runC (runC C ⟨2, a, q⟩) ⟨2, a, q⟩ = runC C ⟨2, a, q⟩ ∧ (runC C ⟨2, a, q⟩).h.t[a.toNat]? = some (rootA C q) := by
  have h2 := op_again h (runB_iff.1 h).2
  have e : runC C ⟨2, a, q⟩ = ⟨⟨C.h.l, C.h.r, C.h.t.set a.toNat (rootA C q)⟩, C.c⟩ := by unfold runC doC; rw [if_pos h]; simp
  have e2 : ∀ D : Cp, runB D ⟨2, a, q⟩ = true → runC D ⟨2, a, q⟩ = ⟨⟨D.h.l, D.h.r, D.h.t.set a.toNat (rootA D q)⟩, D.c⟩ := fun D hD => by unfold runC doC; rw [if_pos hD]; simp
  have e3 : ∀ D : Cp, runB D ⟨2, a, q⟩ = true → runE D ⟨2, a, q⟩ = 0 := fun D hD => by unfold runE doE; rw [if_pos hD]; simp
  refine ⟨e3 C h, h2, e3 _ h2, ?_, ?_⟩
  · rw [e2 _ h2, e]
    rw [rootA_set (x := rootA C q) rfl]
    simp
  · obtain ⟨ja, jq, rfl, rfl, hj, _⟩ := op_idx h
    rw [e]
    simp only [List.getElem?_set, Int.toNat_natCast, if_true]
    rw [if_pos hj]
/-- What was put is read back. -/
theorem run_put {C : Cp} {k a q : Int} (h : runB C ⟨k, a, q⟩ = true) (hk : k = 5 ∨ k = 6) (he : runE C ⟨k, a, q⟩ = 0) :
    runB (runC C ⟨k, a, q⟩) ⟨k - 2, a, a⟩ = true ∧ runE (runC C ⟨k, a, q⟩) ⟨k - 2, a, a⟩ = 0 ∧ (runC (runC C ⟨k, a, q⟩) ⟨k - 2, a, a⟩).h.t[a.toNat]? = some (rootA C q) := by
  obtain ⟨hC, ho⟩ := runB_iff.1 h
  obtain ⟨hv, _⟩ := stoB_parts hC
  obtain ⟨⟨hrl, _⟩, _⟩ := hvB_parts hv
  obtain ⟨_, ⟨a0, a1, a3⟩, _⟩ := opB_iff.1 ho
  simp only at a0 a1 a3
  have hb := op_again h (p := ⟨k - 2, a, a⟩) (opB_iff.2 ⟨⟨by simp only; omega, by simp only; omega⟩, ⟨a0, a1, a3⟩, ⟨a0, a3⟩, fun h9 => by simp only at h9; omega, fun _ => a1⟩)
  have hne : rootA C a ≠ -1 := by
    intro e
    unfold runE doE at he
    rw [if_pos h] at he
    rcases hk with rfl | rfl <;> simp [e] at he
  obtain ⟨kk, ek, hkk⟩ : ∃ kk : Nat, rootA C a = kk ∧ kk < C.h.l.length := (rootA_range hv a0 a1).resolve_left hne
  have hat : a.toNat < C.h.t.length := by omega
  have hn1 : ¬ ((kk : Int) = -1) := by omega
  refine ⟨hb, ?_, ?_⟩
  · rcases hk with rfl | rfl
    · have e : runC C ⟨5, a, q⟩ = ⟨⟨C.h.l.set kk (rootA C q), C.h.r, C.h.t⟩, C.c⟩ := by unfold runC doC; rw [if_pos h]; simp [ek, hn1]
      unfold runE doE; rw [if_pos hb, e]
      have e9 : rootA ⟨⟨C.h.l.set kk (rootA C q), C.h.r, C.h.t⟩, C.c⟩ a = kk := ek
      simp [e9, hn1]
    · have e : runC C ⟨6, a, q⟩ = ⟨⟨C.h.l, C.h.r.set kk (rootA C q), C.h.t⟩, C.c⟩ := by unfold runC doC; rw [if_pos h]; simp [ek, hn1]
      unfold runE doE; rw [if_pos hb, e]
      have e9 : rootA ⟨⟨C.h.l, C.h.r.set kk (rootA C q), C.h.t⟩, C.c⟩ a = kk := ek
      simp [e9, hn1]
  · rcases hk with rfl | rfl
    · have e : runC C ⟨5, a, q⟩ = ⟨⟨C.h.l.set kk (rootA C q), C.h.r, C.h.t⟩, C.c⟩ := by unfold runC doC; rw [if_pos h]; simp [ek, hn1]
      have e9 : rootA ⟨⟨C.h.l.set kk (rootA C q), C.h.r, C.h.t⟩, C.c⟩ a = kk := ek
      unfold runC
      rw [if_pos (by unfold runC at hb; exact hb)]
      have e8 : (if runB C ⟨5, a, q⟩ = true then (if (5 : Int) = 1 then (if allocB C a = true then allocC C a else C) else doC C ⟨5, a, q⟩) else Cp.zero) = ⟨⟨C.h.l.set kk (rootA C q), C.h.r, C.h.t⟩, C.c⟩ := e
      rw [e8]
      unfold doC
      simp [e9, hn1, hat, hkk]
    · have e : runC C ⟨6, a, q⟩ = ⟨⟨C.h.l, C.h.r.set kk (rootA C q), C.h.t⟩, C.c⟩ := by unfold runC doC; rw [if_pos h]; simp [ek, hn1]
      have e9 : rootA ⟨⟨C.h.l, C.h.r.set kk (rootA C q), C.h.t⟩, C.c⟩ a = kk := ek
      unfold runC
      rw [if_pos (by unfold runC at hb; exact hb)]
      have e8 : (if runB C ⟨6, a, q⟩ = true then (if (6 : Int) = 1 then (if allocB C a = true then allocC C a else C) else doC C ⟨6, a, q⟩) else Cp.zero) = ⟨⟨C.h.l, C.h.r.set kk (rootA C q), C.h.t⟩, C.c⟩ := e
      rw [e8]
      unfold doC
      have hkr : kk < C.h.r.length := by omega
      simp [e9, hn1, hat, hkr]
end Go.Proofs.Ythbflohanjnaeaa

/- More words for the laws of runs. -/
namespace Go.Proofs.Ythbflohanjnaeaa
open Go.RowKit

theorem Blk4.drew {w : World} {b : Nat} {x y z q : Value} {t : TypeId} (h : Blk4 w b x y z q t) : Blk4 w.drew b x y z q t := h
theorem Cv.hv5 {w : World} {lo : Nat} {v0 v1 v2 v3 : Value} {C : Cp} (h : Cv w lo (.agg #[v0, v1, v2, v3]) C) : Hv w lo (.agg #[v0, v1, v2]) C.h := by
  obtain ⟨_, _, _, _, e, hh, _⟩ := h
  cases e; exact hh
end Go.Proofs.Ythbflohanjnaeaa

