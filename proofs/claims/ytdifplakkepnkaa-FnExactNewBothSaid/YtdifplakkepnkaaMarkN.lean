/- What marking a store, or operations, leaves of a Both. -/
import Derived.Test.YtdifplakkepnkaaMarkB
namespace Go.Proofs.Ytdifplakkepnkaa
open Go.RowKit

theorem Bv.keptC {w w' : World} {lo : Nat} {v u : Value} {B : Bp} (hv : Bv w lo v B) (fr : ∀ b, b < w.heap.size → NotC u b → w'.heap[b]? = w.heap[b]?) (hn : ∀ b, lo ≤ b → b < w.heap.size → NotC u b) : Bv w' lo v B := by
  obtain ⟨v0, v1, v2, v3, r, o, e, ⟨_, _, _, _, _, e1, e2, hc, hr, ap⟩, ho, a⟩ := hv
  exact ⟨v0, v1, v2, v3, r, o, e, ⟨_, _, _, _, _, e1, e2, hc.keptC fr hn, hr.keptC fr (fun b e => hn b (hr.lt b e).1 (hr.lt b e).2), ap⟩, ho.keptC fr (fun b e => hn b (ORow.lt ho b e).1 (ORow.lt ho b e).2), a⟩
theorem Bv.keptO {w w' : World} {lo : Nat} {v : Value} {B : Bp} {row : Option Nat} (hv : Bv w lo v B) (hg : w.grownBy w' row) (hn : ∀ k, row = some k → k < lo) : Bv w' lo v B := by
  have k : ∀ (b : Option Nat), (∀ j, b = some j → lo ≤ j) → b = none ∨ b ≠ row := fun b h => by
    cases b with
    | none => exact .inl rfl
    | some j => exact .inr (fun e => by have := hn j e.symm; have := h j rfl; omega)
  obtain ⟨v0, v1, v2, v3, r, o, e, ⟨_, _, _, _, _, e1, e2, ⟨_, _, _, _, e3, ⟨_, _, _, e4, r0, r1, r2, x⟩, r3, y⟩, hr, ap⟩, ho, a⟩ := hv
  subst e
  cases e1; cases e2; cases e3; cases e4
  exact ⟨_, _, _, _, _, _, rfl, ⟨_, _, _, _, _, rfl, rfl, ⟨_, _, _, _, rfl, ⟨_, _, _, rfl, r0.kept hg (k _ fun j e => (r0.lt j e).1), r1.kept hg (k _ fun j e => (r1.lt j e).1), r2.kept hg (k _ fun j e => (r2.lt j e).1), x⟩, r3.kept hg (k _ fun j e => (r3.lt j e).1), y⟩, hr.kept hg (k _ fun j e => (hr.lt j e).1), ap⟩, ORow.kept ho hg (k _ fun j e => (ORow.lt ho j e).1), a⟩
end Go.Proofs.Ytdifplakkepnkaa
