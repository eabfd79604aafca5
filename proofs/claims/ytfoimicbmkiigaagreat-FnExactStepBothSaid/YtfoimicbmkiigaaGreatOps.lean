/- Programs (chapter 5): rows of operations in memory; what a program does. -/
import Derived.Test.YtfoimicbmkiigaaGreatOp
import Derived.Test.YtfoimicbmkiigaaGreatMemos
namespace Go.Proofs.YtfoimicbmkiigaaGreat
open Go.RowKit

/-- The cells of a row of operations. -/
def ovs (os : List Opv) : List Value := os.flatMap fun o => [.int .i64 o.k, .int .i64 o.a, .int .i64 o.b]
theorem ovs_nil : ovs [] = [] := rfl
theorem ovs_cons (o : Opv) (os : List Opv) : ovs (o :: os) = .int .i64 o.k :: .int .i64 o.a :: .int .i64 o.b :: ovs os := rfl
theorem ovs_app (os ps : List Opv) : ovs (os ++ ps) = ovs os ++ ovs ps := by unfold ovs; exact List.flatMap_append
theorem ovs_len : ∀ os : List Opv, (ovs os).length = os.length * 3
  | [] => rfl
  | o :: os => by rw [ovs_cons]; simp only [List.length_cons, ovs_len os]; omega
theorem ovs_get : ∀ (os : List Opv) (k : Nat) (o : Opv), os[k]? = some o → (ovs os)[k * 3]? = some (.int .i64 o.k) ∧ (ovs os)[k * 3 + 1]? = some (.int .i64 o.a) ∧ (ovs os)[k * 3 + 2]? = some (.int .i64 o.b)
  | [], _, _, h => by simp at h
  | p :: os, 0, o, h => by simp only [List.getElem?_cons_zero, Option.some.injEq] at h; subst h; exact ⟨rfl, rfl, rfl⟩
  | p :: os, k + 1, o, h => by
    rw [List.getElem?_cons_succ] at h
    obtain ⟨h0, h1, h2⟩ := ovs_get os k o h
    rw [ovs_cons, show (k + 1) * 3 = k * 3 + 3 by omega]
    exact ⟨h0, h1, h2⟩
/-- The slice value owns a row of operations, in a block from 'lo' on (or it is nil). -/
def ORow (w : World) (lo : Nat) (v : Value) (os : List Opv) : Prop := w.ownsRow lo 40 3 v os.length (ovs os)
theorem ORow.form {w : World} {lo : Nat} {v : Value} {os : List Opv} (h : ORow w lo v os) : ∃ A c, v = .slice A os.length c ∧ os.length ≤ c ∧ c ≤ maxLen := by
  rcases h.2 with ⟨rfl, e⟩ | ⟨g, cap, cur, rfl, _, _, h1, h2, _⟩
  · exact ⟨none, 0, by rw [e], by omega, by unfold maxLen; omega⟩
  · exact ⟨_, cap, rfl, h1, h2⟩
theorem ORow.nil (w : World) (lo : Nat) : ORow w lo (.slice none 0 0) [] := World.ownsRow_nil w lo _ _
theorem ORow.get {w : World} {lo : Nat} {A : Option Addr} {n c : Nat} {os : List Opv} (h : ORow w lo (.slice A n c) os) {k : Nat} (hk : k < os.length) :
    ∃ g o, A = some ⟨g, 0, none⟩ ∧ lo ≤ g ∧ g < w.heap.size ∧ Hid (os[k]? = some o) ∧ w.cell? ⟨g, k * 3, none⟩ = some (.int .i64 o.k) ∧ w.cell? ⟨g, k * 3 + 1, none⟩ = some (.int .i64 o.a) ∧ w.cell? ⟨g, k * 3 + 2, none⟩ = some (.int .i64 o.b) := by
  have hc := h
  unfold ORow at hc
  have hl := ovs_len os
  obtain ⟨g0, g1, g2⟩ := ovs_get os k os[k] (List.getElem?_eq_getElem hk)
  rcases h.2 with ⟨e, h0⟩ | ⟨g, cap, cur, e, hb, hg, h1, h2, h3, h4⟩
  · omega
  · cases e
    refine ⟨g, os[k], rfl, hb, (Array.getElem?_eq_some_iff.1 hg).1, Lib.hid (List.getElem?_eq_getElem hk), ?_, ?_, ?_⟩
    · rw [hc.cellAt (k * 3) (by omega)]; exact g0
    · rw [hc.cellAt (k * 3 + 1) (by omega)]; exact g1
    · rw [hc.cellAt (k * 3 + 2) (by omega)]; exact g2
theorem ORow.lt {w : World} {lo : Nat} {v : Value} {os : List Opv} (h : ORow w lo v os) : ∀ k, v.ownBlock = some k → lo ≤ k ∧ k < w.heap.size := World.ownsRow.lt h
theorem ORow.kept {w w' : World} {lo : Nat} {v : Value} {os : List Opv} {row : Option Nat} (h : ORow w lo v os) (hg : w.grownBy w' row) (hne : v.ownBlock = none ∨ v.ownBlock ≠ row) : ORow w' lo v os := World.ownsRow.kept h hg hne
theorem ORow.below {w w' : World} {lo : Nat} {v : Value} {os : List Opv} (h : ORow w lo v os) (hb : Below w.heap.size w w') : ORow w' lo v os :=
  h.kept (grown_of_below hb) (by cases v.ownBlock <;> simp)
theorem ORow.farO {w w' : World} {lo B : Nat} {v : Value} {os : List Opv} (h : ORow w lo v os) (hb : Below B w w') (hB : ∀ k, v.ownBlock = some k → k < B) : ORow w' lo v os := by
  refine ⟨h.1, ?_⟩
  rcases h.2 with h2 | ⟨g, cap, cur, rfl, hg, hh, r⟩
  · exact .inl h2
  · exact .inr ⟨g, cap, cur, rfl, hg, by rw [hb.block g (hB g rfl)]; exact hh, r⟩
theorem ORow.alloc {w : World} {lo : Nat} {v : Value} {os : List Opv} (h : ORow w lo v os) (o : Obj) : ORow (w.alloc o) lo v os := World.ownsRow.alloc h o
theorem ORow.drew {w : World} {lo : Nat} {v : Value} {os : List Opv} (h : ORow w lo v os) : ORow w.drew lo v os := h
theorem ORow.drewN {w : World} {lo : Nat} {v : Value} {os : List Opv} (h : ORow w lo v os) (n : Nat) : ORow (w.drewN n) lo v os := h
theorem ORow.mono {w : World} {lo lo' : Nat} {v : Value} {os : List Opv} (h : ORow w lo v os) (hl : lo' ≤ lo) : ORow w lo' v os := by
  refine ⟨h.1, ?_⟩
  rcases h.2 with h2 | ⟨g, cap, cur, e, hb, r⟩
  · exact .inl h2
  · exact .inr ⟨g, cap, cur, e, by omega, r⟩

/-- A program: its operations one after another, up to the first that does not end well. -/
def runsC : Cp → List Opv → Cp × Nat
  | C, [] => (C, 0)
  | C, o :: os => if runE C o = 0 then ((runsC (runC C o) os).1, (runsC (runC C o) os).2 + 1) else (C, 0)
def opsB (n : Int) (os : List Opv) : Bool := os.all (opB · n)
def progB (C : Cp) (os : List Opv) : Bool := stoB C && decide (os.length ≤ 12) && opsB C.h.t.length os
def progC (C : Cp) (os : List Opv) : Cp := if progB C os = true then (runsC C os).1 else Cp.zero
def progN (C : Cp) (os : List Opv) : Int := if progB C os = true then ((runsC C os).2 : Int) else 0
theorem progB_iff {C : Cp} {os : List Opv} : progB C os = true ↔ stoB C = true ∧ os.length ≤ 12 ∧ opsB C.h.t.length os = true := by
  unfold progB; rw [Bool.and_eq_true, Bool.and_eq_true, decide_eq_true_eq, and_assoc]
theorem opsB_iff {n : Int} {os : List Opv} : opsB n os = true ↔ ∀ o ∈ os, opB o n = true := by unfold opsB; rw [List.all_eq_true]
theorem opsB_not {n : Int} {os : List Opv} {k : Nat} {o : Opv} (h : os[k]? = some o) (ho : opB o n = false) : opsB n os = false := by
  rw [← Bool.not_eq_true, opsB_iff]
  intro h9
  have := h9 o (List.mem_of_getElem? h)
  rw [ho] at this
  exact absurd this (by decide)
theorem opsB_all {n : Int} {os : List Opv} (h : ∀ (k : Nat) (o : Opv), os[k]? = some o → opB o n = true) : opsB n os = true := by
  rw [opsB_iff]
  intro o ho
  obtain ⟨k, hk, e⟩ := List.mem_iff_getElem.1 ho
  exact h k o (e ▸ List.getElem?_eq_getElem hk)
/-- Where a run stands behind k operations that ended well. -/
def AtK (C : Cp) (os : List Opv) (k : Nat) (D : Cp) : Prop := runsC C os = ((runsC D (os.drop k)).1, (runsC D (os.drop k)).2 + k)
theorem atK_start (C : Cp) (os : List Opv) : AtK C os 0 C := by unfold AtK; simp
theorem atK_next {C D : Cp} {os : List Opv} {k : Nat} {o : Opv} (h : AtK C os k D) (ho : os[k]? = some o) (he : runE D o = 0) : AtK C os (k + 1) (runC D o) := by
  obtain ⟨hk, e⟩ := List.getElem?_eq_some_iff.1 ho
  unfold AtK at h ⊢
  rw [List.drop_eq_getElem_cons hk, e] at h
  rw [h]
  simp only [runsC, he, if_true, Prod.mk.injEq, true_and]
  omega
theorem atK_stop {C D : Cp} {os : List Opv} {k : Nat} {o : Opv} (h : AtK C os k D) (ho : os[k]? = some o) (he : runE D o ≠ 0) : runsC C os = (D, k) := by
  obtain ⟨hk, e⟩ := List.getElem?_eq_some_iff.1 ho
  unfold AtK at h
  rw [List.drop_eq_getElem_cons hk, e] at h
  rw [h]
  simp only [runsC, he, if_false, Nat.zero_add]
theorem atK_end {C D : Cp} {os : List Opv} (h : AtK C os os.length D) : runsC C os = (D, os.length) := by
  unfold AtK at h
  rw [List.drop_length] at h
  rw [h]; simp only [runsC, Nat.zero_add]
end Go.Proofs.YtfoimicbmkiigaaGreat
