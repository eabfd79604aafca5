/- The marks of the exact laws over a heap and a row. -/
import Derived.Test.YtapkhgpifpgleaaExacts
namespace Go.Proofs.Ytapkhgpifpgleaa
open Go.RowKit

theorem markHR (h : Hp) (ys : List Int) (b0 : h.l.length ≤ 1048576) (b1 : h.r.length ≤ 1048576) (b2 : h.t.length ≤ 1048576) (b3 : ys.length ≤ 1048576) :
    ∃ (N M : Int) (ms : List Int), (¬ (N < 0) ∧ ¬ (M < 0) ∧ (M != M) = false ∧ ms.length = ys.length) ∧
      (∀ (w : World) (lo : Nat) (v : Value), Hv w lo v h → lo ≤ w.heap.size → Calls Try.prog 18 #[v, .int .i64 1] w (MarkedN w lo N v h)) ∧
      (∀ (w : World) (lo : Nat) (A : Option Addr) (c : Nat), Row w lo (.slice A ys.length c) ys → Calls Try.prog 19 #[.slice A ys.length c, .int .i64 N] w
        (fun e w' => e = .returned (.int .i64 M) ∧ Row w' lo (.slice A ys.length c) ms ∧ w.grownBy w' (Value.slice A ys.length c).ownBlock)) := by
  refine ⟨((1 + sizeH h : Nat) : Int), ((1 + sizeH h + ys.length : Nat) : Int), seqI (1 + sizeH h) ys.length, ⟨by omega, by omega, by simp, seqI_len _ _⟩, fun w lo v hv hlo => markHeap_any w lo v h hv hlo b0 b1 b2 1 (by omega), fun w lo A c hr => ?_⟩
  exact (markIntS_any w lo A ys.length c ys hr rfl b3 (1 + sizeH h) (by unfold sizeH; omega)).mono fun _ _ ⟨a, b, c, _⟩ => ⟨a, b, c⟩
/-- The same, and what is held afterwards. -/
theorem markHQ (h : Hp) (ys : List Int) (b0 : h.l.length ≤ 1048576) (b1 : h.r.length ≤ 1048576) (b2 : h.t.length ≤ 1048576) (b3 : ys.length ≤ 1048576) :
    ∃ (N M : Int) (ms : List Int), (¬ (N < 0) ∧ ¬ (M < 0) ∧ (M != M) = false ∧ ms.length = ys.length) ∧
      (∀ (w : World) (lo : Nat) (v : Value), Hv w lo v h → lo ≤ w.heap.size → Calls Try.prog 18 #[v, .int .i64 1] w (MarkedN w lo N v h)) ∧
      (∀ (w : World) (lo : Nat) (A : Option Addr) (c : Nat), Row w lo (.slice A ys.length c) ys → Calls Try.prog 19 #[.slice A ys.length c, .int .i64 N] w
        (fun e w' => e = .returned (.int .i64 M) ∧ Row w' lo (.slice A ys.length c) ms ∧ w.grownBy w' (Value.slice A ys.length c).ownBlock)) ∧
      (∀ (w : World) (lo : Nat) (v : Value), Hv w lo v (markH 1 h) → Calls Try.prog 23 #[v, .int .i64 1] w (RetI w N)) ∧
      (∀ (w : World) (lo : Nat) (A : Option Addr) (c : Nat), Row w lo (.slice A ys.length c) ms → Calls Try.prog 20 #[.slice A ys.length c, .int .i64 N] w (RetI w M)) := by
  refine ⟨((1 + sizeH h : Nat) : Int), ((1 + sizeH h + ys.length : Nat) : Int), seqI (1 + sizeH h) ys.length, ⟨by omega, by omega, by simp, seqI_len _ _⟩, fun w lo v hv hlo => markHeap_any w lo v h hv hlo b0 b1 b2 1 (by omega), fun w lo A c hr => ?_, fun w lo v hv => heldHeap_one' w lo v h hv b0 b1 b2, fun w lo A c hr => ?_⟩
  · exact (markIntS_any w lo A ys.length c ys hr rfl b3 (1 + sizeH h) (by unfold sizeH; omega)).mono fun _ _ ⟨a, b, c, _⟩ => ⟨a, b, c⟩
  · refine (heldIntS_any w lo A ys.length c (seqI (1 + sizeH h) ys.length) hr (seqI_len _ _) b3 (1 + sizeH h) (by unfold sizeH; omega)).mono fun e w' ⟨a, b⟩ => ⟨?_, ?_⟩
    · rw [a]
      unfold heldR
      rw [seqI_len, if_pos rfl]
    · subst b; exact Below.refl _ _
theorem Ints.drew {w : World} {B : Nat} {A : Option Addr} {n : Nat} {xs : List Int} (h : Ints w B A n xs) : Ints w.drew B A n xs := h
theorem row_apart2 {w w' : World} {lo lo' : Nat} {v u : Value} {xs ys : List Int} (hv : Row w lo v xs) (hu : Row w' lo' u ys) (h : w'.heap.size ≤ lo) : v.ownBlock = none ∨ v.ownBlock ≠ u.ownBlock := by
  cases hob : v.ownBlock with
  | none => exact .inl rfl
  | some b =>
    refine .inr fun e => ?_
    have h1 := (hv.lt b hob).1
    have h2 := (hu.lt b e.symm).2
    omega
theorem Hv.keptN {w w' : World} {lo : Nat} {v : Value} {h : Hp} {r : Option Nat} (hv : Hv w lo v h) (hg : w.grownBy w' r) (hn : ∀ b, r = some b → NotIn v b) : Hv w' lo v h := by
  obtain ⟨v0, v1, v2, rfl, r0, r1, r2, a⟩ := hv
  have key : ∀ (u : Value), (∀ b, r = some b → some b ≠ u.ownBlock) → u.ownBlock = none ∨ u.ownBlock ≠ r := fun u hu => by
    cases hr : r with
    | none => cases u.ownBlock with
      | none => exact .inl rfl
      | some b => exact .inr (by simp)
    | some b => exact .inr (fun e => hu b hr e.symm)
  exact ⟨v0, v1, v2, rfl, r0.kept hg (key _ fun b e => (hn b e v0 v1 v2 rfl).1), r1.kept hg (key _ fun b e => (hn b e v0 v1 v2 rfl).2.1), r2.kept hg (key _ fun b e => (hn b e v0 v1 v2 rfl).2.2), a⟩
end Go.Proofs.Ytapkhgpifpgleaa
