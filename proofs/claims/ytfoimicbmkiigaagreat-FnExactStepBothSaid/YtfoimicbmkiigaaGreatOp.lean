/- Operations on stores (chapter 5): what they are, when they are valid, what they do. -/
import Derived.Test.YtfoimicbmkiigaaGreatWrgA
namespace Go.Proofs.YtfoimicbmkiigaaGreat
open Go.RowKit

/-- An operation: its kind and two roots. -/
structure Opv where
  k : Int
  a : Int
  b : Int
def Opv.zero : Opv := ⟨0, 0, 0⟩
/-- As a value: three cells. -/
abbrev opV (o : Opv) : Value := .agg #[.int .i64 o.k, .int .i64 o.a, .int .i64 o.b]
def oneB (k : Int) : Bool := decide (k = 1 ∨ k = 7)
def opB (o : Opv) (n : Int) : Bool := decide (1 ≤ o.k ∧ o.k ≤ 7 ∧ 0 ≤ o.a ∧ o.a < n ∧ o.a < 3 ∧ 0 ≤ o.b ∧ o.b < 3) && (if oneB o.k = true then decide (o.b = 0) else decide (o.b < n))
theorem opB_iff {o : Opv} {n : Int} : opB o n = true ↔ (1 ≤ o.k ∧ o.k ≤ 7) ∧ (0 ≤ o.a ∧ o.a < n ∧ o.a < 3) ∧ (0 ≤ o.b ∧ o.b < 3) ∧ ((o.k = 1 ∨ o.k = 7) → o.b = 0) ∧ (¬ (o.k = 1 ∨ o.k = 7) → o.b < n) := by
  unfold opB oneB
  by_cases h : o.k = 1 ∨ o.k = 7
  · simp only [h, decide_true, if_true, Bool.and_eq_true, decide_eq_true_eq, true_implies, not_true, false_implies, and_true]
    constructor
    · rintro ⟨⟨h1, h2, h3, h4, h5, h6, h7⟩, h8⟩; exact ⟨⟨h1, h2⟩, ⟨h3, h4, h5⟩, ⟨h6, h7⟩, h8⟩
    · rintro ⟨⟨h1, h2⟩, ⟨h3, h4, h5⟩, ⟨h6, h7⟩, h8⟩; exact ⟨⟨h1, h2, h3, h4, h5, h6, h7⟩, h8⟩
  · simp only [h, decide_false, Bool.false_eq_true, if_false, Bool.and_eq_true, decide_eq_true_eq, false_implies, not_false_eq_true, true_implies, true_and]
    constructor
    · rintro ⟨⟨h1, h2, h3, h4, h5, h6, h7⟩, h8⟩; exact ⟨⟨h1, h2⟩, ⟨h3, h4, h5⟩, ⟨h6, h7⟩, h8⟩
    · rintro ⟨⟨h1, h2⟩, ⟨h3, h4, h5⟩, ⟨h6, h7⟩, h8⟩; exact ⟨⟨h1, h2, h3, h4, h5, h6, h7⟩, h8⟩
/-- The root b of a store. -/
def rootA (C : Cp) (a : Int) : Int := C.h.t.getD a.toNat (-1)
/-- What an operation other than 'new' does on a store of its own, and how it ends. -/
def doC (C : Cp) (o : Opv) : Cp :=
  if o.k = 2 then ⟨⟨C.h.l, C.h.r, C.h.t.set o.a.toNat (rootA C o.b)⟩, C.c⟩
  else if o.k = 7 then ⟨⟨C.h.l, C.h.r, C.h.t.set o.a.toNat (-1)⟩, C.c⟩
  else if o.k = 3 then (if rootA C o.b = -1 then C else ⟨⟨C.h.l, C.h.r, C.h.t.set o.a.toNat (C.h.l.getD (rootA C o.b).toNat (-1))⟩, C.c⟩)
  else if o.k = 4 then (if rootA C o.b = -1 then C else ⟨⟨C.h.l, C.h.r, C.h.t.set o.a.toNat (C.h.r.getD (rootA C o.b).toNat (-1))⟩, C.c⟩)
  else if o.k = 5 then (if rootA C o.a = -1 then C else ⟨⟨C.h.l.set (rootA C o.a).toNat (rootA C o.b), C.h.r, C.h.t⟩, C.c⟩)
  else (if rootA C o.a = -1 then C else ⟨⟨C.h.l, C.h.r.set (rootA C o.a).toNat (rootA C o.b), C.h.t⟩, C.c⟩)
def doE (C : Cp) (o : Opv) : Int :=
  if o.k = 2 ∨ o.k = 7 then 0
  else if o.k = 3 ∨ o.k = 4 then (if rootA C o.b = -1 then 2 else 0)
  else (if rootA C o.a = -1 then 2 else 0)
/-- RunOp: whether it is executed at all, the store, how it ended. -/
def runB (C : Cp) (o : Opv) : Bool := stoB C && opB o C.h.t.length
def runC (C : Cp) (o : Opv) : Cp := if runB C o = true then (if o.k = 1 then (if allocB C o.a = true then allocC C o.a else C) else doC C o) else Cp.zero
def runE (C : Cp) (o : Opv) : Int := if runB C o = true then (if o.k = 1 then (if allocB C o.a = true then 0 else 1) else doE C o) else 0
theorem runC_not {C : Cp} {o : Opv} (h : runB C o = false) : runC C o = Cp.zero := by unfold runC; rw [h]; simp
theorem runE_not {C : Cp} {o : Opv} (h : runB C o = false) : runE C o = 0 := by unfold runE; rw [h]; simp
theorem runB_iff {C : Cp} {o : Opv} : runB C o = true ↔ stoB C = true ∧ opB o C.h.t.length = true := by unfold runB; rw [Bool.and_eq_true]

theorem rootA_mem {C : Cp} {a : Int} (h0 : 0 ≤ a) (h1 : a < C.h.t.length) : rootA C a ∈ C.h.t := by
  unfold rootA
  have hk : a.toNat < C.h.t.length := by omega
  rw [List.getD_eq_getElem?_getD, List.getElem?_eq_getElem hk]
  exact List.getElem_mem hk
theorem rootA_at {C : Cp} {a : Int} (h0 : 0 ≤ a) (h1 : a < C.h.t.length) : C.h.t[a.toNat]? = some (rootA C a) := by
  unfold rootA
  have hk : a.toNat < C.h.t.length := by omega
  rw [List.getD_eq_getElem?_getD, List.getElem?_eq_getElem hk]; rfl
/-- What a root points to is a cell, or nothing. -/
theorem rootA_range {C : Cp} (hv : hvB C.h = true) {a : Int} (h0 : 0 ≤ a) (h1 : a < C.h.t.length) : rootA C a = -1 ∨ ∃ k : Nat, rootA C a = k ∧ k < C.h.l.length := by
  have h9 := root_pt hv (rootA_mem h0 h1)
  simp only [ptB, decide_eq_true_eq] at h9
  by_cases e : rootA C a = -1
  · exact .inl e
  · exact .inr ⟨(rootA C a).toNat, by omega, by omega⟩
/-- A root may take whatever a pointer of a valid store is. -/
theorem sto_rootG {C : Cp} (hC : stoB C = true) (k : Nat) {y : Int} (hy : y ∈ C.h.l ∨ y ∈ C.h.r ∨ y ∈ C.h.t ∨ y = -1) : stoB ⟨⟨C.h.l, C.h.r, C.h.t.set k y⟩, C.c⟩ = true := by
  obtain ⟨hv, _⟩ := stoB_parts hC
  obtain ⟨⟨hr, hs⟩, h3, h4, h5⟩ := hvB_parts hv
  have hp : ptB y C.h.l.length = true := by
    rcases hy with hy | hy | hy | rfl
    · rw [List.all_eq_true] at h3; exact h3 y hy
    · rw [List.all_eq_true] at h4; exact h4 y hy
    · exact root_pt hv hy
    · simp only [szB, decide_eq_true_eq] at hs
      simp [ptB]; omega
  refine sto_put hC (hvB_mk hr (by simpa using hs) h3 h4 (all_set h5 k hp)) rfl fun x hx hf => ?_
  obtain ⟨j, rfl, f1, f2, f3, f4, f5, f6⟩ := free_parts hf
  refine free_mk f1 f2 f3 f4 f5 (not_in_set f6 fun e => ?_)
  rcases hy with hy | hy | hy | h9
  · exact f4 (e ▸ hy)
  · exact f5 (e ▸ hy)
  · exact f6 (e ▸ hy)
  · omega
theorem getD_mem {l : List Int} {k : Nat} (hk : k < l.length) : l.getD k (-1) ∈ l := by
  rw [List.getD_eq_getElem?_getD, List.getElem?_eq_getElem hk]; exact List.getElem_mem hk
/-- Operations keep stores valid. -/
theorem do_valid {C : Cp} (hC : stoB C = true) {o : Opv} (ho : opB o C.h.t.length = true) : stoB (doC C o) = true := by
  obtain ⟨hv, _⟩ := stoB_parts hC
  obtain ⟨⟨hr, _⟩, _⟩ := hvB_parts hv
  obtain ⟨⟨k1, k7⟩, ⟨a0, a1, _⟩, ⟨b0, _⟩, hb7, hbn⟩ := opB_iff.1 ho
  have hbt : o.b < C.h.t.length := by
    by_cases h : o.k = 1 ∨ o.k = 7
    · rw [hb7 h]; omega
    · exact hbn h
  unfold doC
  split
  · exact sto_rootG hC _ (.inr (.inr (.inl (rootA_mem b0 hbt))))
  split
  · exact sto_rootG hC _ (.inr (.inr (.inr rfl)))
  split
  · split
    · exact hC
    · rename_i h9
      rcases rootA_range hv b0 hbt with e | ⟨k, e, hk⟩
      · exact absurd e h9
      · rw [e]; exact sto_rootG hC _ (.inl (getD_mem (by simpa using hk)))
  split
  · split
    · exact hC
    · rename_i h9
      rcases rootA_range hv b0 hbt with e | ⟨k, e, hk⟩
      · exact absurd e h9
      · rw [e]; exact sto_rootG hC _ (.inr (.inl (getD_mem (by simpa [hr] using hk))))
  split
  · split
    · exact hC
    · rename_i h9
      rcases rootA_range hv a0 a1 with e | ⟨k, e, hk⟩
      · exact absurd e h9
      · rw [e]; exact sto_left hC (e ▸ rootA_mem a0 a1) (rootA_mem b0 hbt)
  · split
    · exact hC
    · rename_i h9
      rcases rootA_range hv a0 a1 with e | ⟨k, e, hk⟩
      · exact absurd e h9
      · rw [e]; exact sto_right hC (e ▸ rootA_mem a0 a1) (rootA_mem b0 hbt)
theorem run_valid {C : Cp} {o : Opv} (h : runB C o = true) : stoB (runC C o) = true := by
  obtain ⟨hC, ho⟩ := runB_iff.1 h
  unfold runC
  rw [if_pos h]
  split
  · split
    · rename_i ha; exact alloc_valid ha
    · exact hC
  · exact do_valid hC ho
/-- An operation that did not end well left the store as it was. -/
theorem run_same {C : Cp} {o : Opv} (h : runB C o = true) (he : runE C o ≠ 0) : runC C o = C := by
  unfold runE at he
  unfold runC
  rw [if_pos h] at he ⊢
  split
  · rename_i h1
    rw [if_pos h1] at he
    split
    · rename_i ha; rw [if_pos ha] at he; exact absurd rfl he
    · rfl
  · rename_i h1
    rw [if_neg h1] at he
    unfold doE at he
    unfold doC
    obtain ⟨⟨k1, k7⟩, _⟩ := opB_iff.1 (runB_iff.1 h).2
    split at he
    · exact absurd rfl he
    · rename_i h27
      rw [if_neg (fun e => h27 (.inl e)), if_neg (fun e => h27 (.inr e))]
      split at he
      · rename_i h34
        split at he
        · rename_i e9
          rcases h34 with e | e
          · rw [if_pos e, if_pos e9]
          · rw [if_neg (by omega), if_pos e, if_pos e9]
        · exact absurd rfl he
      · rename_i h34
        rw [if_neg (fun e => h34 (.inl e)), if_neg (fun e => h34 (.inr e))]
        split at he
        · rename_i e9
          split <;> rfl
        · exact absurd rfl he
/-- Free cells: as before, or the first one was taken. -/
theorem run_free {C : Cp} {o : Opv} (h : runB C o = true) : (runC C o).c = C.c ∨ (o.k = 1 ∧ C.c ≠ [] ∧ (runC C o).c = C.c.tail) := by
  unfold runC
  rw [if_pos h]
  split
  · rename_i h1
    split
    · rename_i ha
      refine .inr ⟨h1, (allocB_iff.1 ha).2.2, ?_⟩
      unfold allocC; rw [if_pos ha]
    · exact .inl rfl
  · left
    unfold doC
    repeat' split
    all_goals rfl
end Go.Proofs.YtfoimicbmkiigaaGreat
