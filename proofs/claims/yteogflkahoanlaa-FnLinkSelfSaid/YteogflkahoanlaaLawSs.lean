import Derived.Test.YteogflkahoanlaaCaseS
import Derived.Test.YteogflkahoanlaaHpB
import Derived.Test.YteogflkahoanlaaPureKS
import Derived.Test.YteogflkahoanlaaWrgA
import Derived.Test.YteogflkahoanlaaSFreeG
/- Words for the walks of the laws of stores. -/
namespace Go.Proofs.Yteogflkahoanlaa
open Go.RowKit

theorem Cv.hvS {w : World} {lo : Nat} {v0 v1 v2 v3 : Value} {C : Cp} (h : Cv w lo (.agg #[v0, v1, v2, v3]) C) : Hv w lo (.agg #[v0, v1, v2]) C.h := by
  obtain ⟨_, _, _, _, e, hh, _⟩ := h
  cases e; exact hh
theorem sameB_selfS (a : Hp) : sameB a a = true := by simp [sameB]
/-- A new heap and an older row make a store. -/
theorem cv_join {W w : World} {lo2 : Nat} {v0 v1 v2 v3 : Value} {h : Hp} {c : List Int} (hh : Hv w 0 (.agg #[v0, v1, v2]) h) (h3 : Row w 0 v3 c) (hn : Hv w W.heap.size (.agg #[v0, v1, v2]) h) (ho : Row W lo2 v3 c) : Cv w 0 (.agg #[v0, v1, v2, v3]) ⟨h, c⟩ := by
  obtain ⟨_, _, _, e, r0, r1, r2, _⟩ := hn
  cases e
  have ap : ∀ (v : Value) (xs : List Int), Row w W.heap.size v xs → Apart v v3 := fun v xs r b hb hb' => by
    have h1 := (r.lt b hb).1
    have h2 := (ho.lt b hb').2
    omega
  exact ⟨_, _, _, _, rfl, hh, h3, ap _ _ r0, ap _ _ r1, ap _ _ r2⟩
end Go.Proofs.Yteogflkahoanlaa

/- Plain facts of stores, for the laws. -/
namespace Go.Proofs.Yteogflkahoanlaa
open Go.RowKit

theorem isFree_in {C : Cp} (hC : stoB C = true) {x : Int} (h : x ∈ C.c) : isFreeB C x = true := by unfold isFreeB; rw [hC]; simp [h]
theorem isFree_out {C : Cp} {x : Int} (h : x ∉ C.c) : isFreeB C x = false := by unfold isFreeB; simp [h]
theorem freeO_some {C D : Cp} {k : Int} (h : freeO C k = some D) : k ∈ leakL C ∧ D = clearC C [k] := by
  unfold freeO at h
  split at h
  · rename_i hk; exact ⟨hk, (Option.some.inj h).symm⟩
  · cases h
theorem freeO_of {C : Cp} {k : Int} (h : k ∈ leakL C) : freeO C k = some (clearC C [k]) := by unfold freeO; rw [if_pos h]
theorem collectO_some {C D : Cp} (h : collectO C = some D) : stoB C = true ∧ D = clearC C (leakL C) := by
  unfold collectO at h
  split at h
  · rename_i hk; exact ⟨hk, (Option.some.inj h).symm⟩
  · cases h
theorem collectO_of {C : Cp} (h : stoB C = true) : collectO C = some (clearC C (leakL C)) := by unfold collectO; rw [if_pos h]
theorem one_in {k : Int} {L : List Int} (h : k ∈ L) : ∀ x ∈ [k], x ∈ L := fun x hx => by rw [List.mem_singleton.1 hx]; exact h
/-- One leaked cell is freed. -/
theorem free_one {C : Cp} {k : Int} (h : k ∈ leakL C) : stoB (clearC C [k]) = true ∧ leakL (clearC C [k]) = (leakL C).filter (outF [k]) ∧ ((leakL C).filter (outF [k])).length + 1 = (leakL C).length ∧ k ∈ (clearC C [k]).c := by
  have hC := leak_sto h
  refine ⟨clear_valid hC (one_in h) (by simp), clear_leak hC (one_in h) (by simp), ?_, ?_⟩
  · exact filt_len (leak_nodup C) (c := [k]) (by simp) (one_in h)
  · show k ∈ C.c ++ [k]; simp
/-- .. and the others then: all are freed. -/
theorem free_all {C : Cp} {k : Int} (h : k ∈ leakL C) : (clearC (clearC C [k]) (leakL (clearC C [k]))).h = (clearC C (leakL C)).h ∧ (clearC (clearC C [k]) (leakL (clearC C [k]))).c.length = (clearC C (leakL C)).c.length := by
  obtain ⟨h1, h2, h3, _⟩ := free_one h
  have hC := leak_sto h
  obtain ⟨hv, _⟩ := stoB_parts hC
  have h8 := hvB_len hv
  rw [h2]
  refine ⟨clear_clear h8.1 [k] _ (leakL C) (fun x => ?_), ?_⟩
  · rw [List.mem_filter, outF_iff, List.mem_singleton]
    constructor
    · intro hx
      by_cases e : x = k
      · exact .inl e
      · exact .inr ⟨hx, e⟩
    · rintro (rfl | ⟨hx, _⟩)
      · exact h
      · exact hx
  · show ((C.c ++ [k]) ++ (leakL C).filter (outF [k])).length = (C.c ++ leakL C).length
    simp only [List.length_append, List.length_singleton]; omega
/-- What taking a cell leaves. -/
theorem alloc_parts {C : Cp} {j : Nat} (h : allocB C (j : Int) = true) : ∃ x tl, C.c = x :: tl ∧ allocX C (j : Int) = x ∧ allocC C (j : Int) = ⟨⟨C.h.l, C.h.r, C.h.t.set j x⟩, tl⟩ ∧ stoB C = true ∧ j < C.h.t.length ∧ x ∉ tl ∧ tl.Nodup := by
  obtain ⟨hC, ⟨h0, h1⟩, hne⟩ := allocB_iff.1 h
  obtain ⟨_, _, _, hnd⟩ := stoB_parts hC
  obtain ⟨x, tl, ec⟩ : ∃ x tl, C.c = x :: tl := by
    cases e : C.c with
    | nil => exact absurd e hne
    | cons x tl => exact ⟨x, tl, rfl⟩
  rw [ec, List.nodup_cons] at hnd
  refine ⟨x, tl, ec, ?_, ?_, hC, by omega, hnd.1, hnd.2⟩
  · unfold allocX; rw [if_pos h, ec]; rfl
  · unfold allocC; rw [if_pos h, ec]; rfl
theorem alloc_nat {C : Cp} {k : Int} (h : allocB C k = true) : ∃ j : Nat, k = j := by
  obtain ⟨_, ⟨h0, _⟩, _⟩ := allocB_iff.1 h
  exact ⟨k.toNat, by omega⟩
/-- A cell that is taken and forgotten is leaked. -/
theorem forget_parts {C : Cp} {j : Nat} (h : allocB C (j : Int) = true) {x : Int} {tl : List Int} (ec : C.c = x :: tl) :
    putT (allocC C (j : Int)).h (j : Int) (-1) = some ⟨C.h.l, C.h.r, C.h.t.set j (-1)⟩ ∧ stoB ⟨⟨C.h.l, C.h.r, C.h.t.set j (-1)⟩, tl⟩ = true ∧ x ∈ leakL ⟨⟨C.h.l, C.h.r, C.h.t.set j (-1)⟩, tl⟩ := by
  obtain ⟨x', tl', ec', _, eA, hC, hj, hx, _⟩ := alloc_parts h
  rw [ec] at ec'
  cases ec'
  have hX := alloc_valid h
  rw [eA] at hX ⊢
  obtain ⟨hvX, _⟩ := stoB_parts hX
  obtain ⟨hv, _, hf, _⟩ := stoB_parts hC
  have hss : (C.h.t.set j x).set j (-1) = C.h.t.set j (-1) := by rw [List.set_set]
  have hY := sto_root hX j (y := -1) (.inr rfl)
  rw [show (⟨⟨C.h.l, C.h.r, (C.h.t.set j x).set j (-1)⟩, tl⟩ : Cp) = ⟨⟨C.h.l, C.h.r, C.h.t.set j (-1)⟩, tl⟩ by rw [hss]] at hY
  obtain ⟨hvY, _⟩ := stoB_parts hY
  refine ⟨?_, hY, ?_⟩
  · have h8 := hvB_len hvX
    have h9 : (0 : Int) ≤ (j : Int) ∧ (j : Int) < (((C.h.t.set j x).length : Nat) : Int) := by rw [List.length_set]; omega
    have hc : (hvB ⟨C.h.l, C.h.r, C.h.t.set j x⟩ && plB (j : Int) ((C.h.t.set j x).length : Nat) && ptB (-1) (C.h.l.length : Nat)) = true := by
      have p1 : plB (j : Int) ((C.h.t.set j x).length : Nat) = true := by simp only [plB, decide_eq_true_eq]; exact h9
      have p2 : ptB (-1) (C.h.l.length : Nat) = true := by simp only [ptB, decide_eq_true_eq]; omega
      rw [hvX, p1, p2]; rfl
    unfold putT
    rw [if_pos hc]
    show some (⟨C.h.l, C.h.r, (C.h.t.set j x).set (j : Int).toNat (-1)⟩ : Hp) = _
    rw [show (j : Int).toNat = j by omega, hss]
  · obtain ⟨k, rfl, f1, f2, f3, f4, f5, f6⟩ := freeB_parts (hf x (by rw [ec]; exact List.mem_cons_self ..))
    refine leak_mem hY (mem_garb.2 (unlive hvY f1 f4 f5 (not_in_set f6 (by omega)))) hx
end Go.Proofs.Yteogflkahoanlaa

