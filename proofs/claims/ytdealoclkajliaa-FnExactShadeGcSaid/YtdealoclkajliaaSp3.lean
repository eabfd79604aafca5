import Derived.Test.YtdealoclkajliaaSStep
import Derived.Deep.LoopGhost
import Derived.Test.YtdealoclkajliaaSCols
import Derived.Test.YtdealoclkajliaaShades
/- MarkAll of spec. -/
namespace Go.Proofs.Ytdealoclkajliaa
open Go.RowKit

theorem count_set2 : ∀ (c : List Int) (k : Nat) (x y : Int), c[k]? = some x → (c.set k y).count 2 + (if x = 2 then 1 else 0) = c.count 2 + (if y = 2 then 1 else 0)
  | [], _, _, _, h => by simp at h
  | a :: r, 0, x, y, h => by
    simp at h; subst h
    simp only [List.set_cons_zero, List.count_cons, beq_iff_eq]; omega
  | a :: r, k + 1, x, y, h => by
    have ih := count_set2 r k x y (by simpa using h)
    simp only [List.set_cons_succ, List.count_cons]; omega
theorem shade_count (c : List Int) (k : Int) : (shade c k).count 2 = c.count 2 := by
  unfold shade
  split
  · rename_i h
    have := count_set2 c k.toNat 0 1 h.2
    simpa using this
  · rfl
theorem shade_keep {c : List Int} {j : Nat} (k : Int) (h : c[j]? = some 1) : (shade c k)[j]? = some 1 := by
  unfold shade
  split
  · rename_i h9
    rw [List.getElem?_set_ne (fun e => by rw [e, h] at h9; simp at h9)]; exact h
  · exact h
theorem black_count {c : List Int} {k : Nat} (h : Hp) (hk : c[k]? = some 1) : (blackC h c k).count 2 = c.count 2 + 1 := by
  have h1 := count_set2 (shade (shade c (h.l.getD k 0)) (h.r.getD k 0)) k 1 2 (shade_keep _ (shade_keep _ hk))
  rw [shade_count, shade_count] at h1
  simpa [blackC] using h1
def allN (h : Hp) : Nat → List Int → List Int
  | 0, c => c
  | n + 1, c => if firstOf c 1 = -1 then c else allN h n (blackC h c (firstOf c 1).toNat)
/-- What is left when no cell is gray. -/
def allL (h : Hp) (c : List Int) : List Int := allN h (c.length - c.count 2) c
theorem all_done {h : Hp} {c : List Int} (e : firstOf c 1 = -1) : allL h c = c := by
  unfold allL
  cases c.length - c.count 2 with
  | zero => rfl
  | succ n => simp [allN, e]
theorem black_less {c : List Int} {k : Nat} (h : Hp) (hk : c[k]? = some 1) : (blackC h c k).length - (blackC h c k).count 2 + 1 = c.length - c.count 2 := by
  have h1 := black_count h hk
  have h2 : (blackC h c k).count 2 ≤ (blackC h c k).length := List.count_le_length
  have h3 := blackC_len h c k
  omega
theorem all_step {h : Hp} {c : List Int} {k : Nat} (e : firstOf c 1 = k) (hk : c[k]? = some 1) : allL h (blackC h c k) = allL h c := by
  have h1 := black_less h hk
  unfold allL
  rw [← h1]
  show _ = if firstOf c 1 = -1 then c else allN h ((blackC h c k).length - (blackC h c k).count 2) (blackC h c (firstOf c 1).toNat)
  rw [if_neg (by omega), e]; rfl
def allO (C : Cp) : Option Cp := if cvB C = true then some ⟨C.h, allL C.h C.c⟩ else none
theorem cvB_black {h : Hp} {c : List Int} (k : Nat) (hc : cvB ⟨h, c⟩ = true) : cvB ⟨h, blackC h c k⟩ = true := by
  obtain ⟨h1, h2, h3⟩ := cvB_parts hc
  simp only [cvB, Bool.and_eq_true, decide_eq_true_eq, List.all_eq_true, colB]
  exact ⟨⟨h1, by rw [blackC_len]; exact h2⟩, blackC_valid h k h3⟩
theorem Cv.set_far {w : World} {lo : Nat} {v0 v1 v2 v3 : Value} {C : Cp} (hv : Cv w lo (.agg #[v0, v1, v2, v3]) C) {p : Addr} (f : v0.ownBlock ≠ some p.block ∧ v1.ownBlock ≠ some p.block ∧ v2.ownBlock ≠ some p.block ∧ v3.ownBlock ≠ some p.block) (u : Value) : Cv (w.setCell p u) lo (.agg #[v0, v1, v2, v3]) C := by
  obtain ⟨_, _, _, _, e, ⟨_, _, _, e', r0, r1, r2, a⟩, r3, b⟩ := hv
  cases e; cases e'
  exact ⟨_, _, _, _, rfl, ⟨_, _, _, rfl, r0.other f.1 u, r1.other f.2.1 u, r2.other f.2.2.1 u, a⟩, r3.other f.2.2.2 u, b⟩
theorem Blk4.set4 {w : World} {b : Nat} {x y z u : Value} {t : TypeId} (h : Blk4 w b x y z u t) (x' y' z' u' : Value) : Blk4 ((((w.setCell ⟨b, 0, none⟩ x').setCell ⟨b, 1, none⟩ y').setCell ⟨b, 2, none⟩ z').setCell ⟨b, 3, none⟩ u') b x' y' z' u' t := by
  unfold Blk4 at h ⊢; simp [World.setCell, Array.getElem?_modify, h]

end Go.Proofs.Ytdealoclkajliaa

/- ColorHolds of spec. -/
namespace Go.Proofs.Ytdealoclkajliaa
open Go.RowKit

theorem holdsAt_eq {C : Cp} {k : Nat} {x y z : Int} (hx : C.h.l[k]? = some x) (hy : C.h.r[k]? = some y) (hz : C.c[k]? = some z) :
    holdsAt C k = !(decide (z = 2) && (decide (0 ≤ x ∧ C.c[x.toNat]? = some 0) || decide (0 ≤ y ∧ C.c[y.toNat]? = some 0))) := by
  unfold holdsAt
  rw [show C.h.l.getD k 0 = x by simp [List.getD, hx], show C.h.r.getD k 0 = y by simp [List.getD, hy], hz]
  simp
theorem holds_bad {C : Cp} {k : Nat} (hk : k < C.c.length) (h : holdsAt C k = false) : holdsB C = false := by
  rw [Bool.eq_false_iff]; intro h9
  unfold holdsB at h9
  rw [Bool.and_eq_true, List.all_eq_true] at h9
  rw [h9.2 k (List.mem_range.2 hk)] at h; cases h
theorem holds_good {C : Cp} (hv : cvB C = true) (h : ∀ j, j < C.c.length → holdsAt C j = true) : holdsB C = true := by
  unfold holdsB
  rw [Bool.and_eq_true, List.all_eq_true]
  exact ⟨hv, fun j hj => h j (List.mem_range.1 hj)⟩

end Go.Proofs.Ytdealoclkajliaa

/- ShadeRoots of spec. -/
namespace Go.Proofs.Ytdealoclkajliaa
open Go.RowKit

def rootsO (C : Cp) : Option Cp := if cvB C = true then some ⟨C.h, shadeAll C.c C.h.t⟩ else none

end Go.Proofs.Ytdealoclkajliaa

/- CountColor of spec. -/
namespace Go.Proofs.Ytdealoclkajliaa
open Go.RowKit

/-- How many cells have a color. -/
def countO (C : Cp) (x : Int) : Int := if cvB C = true then (C.c.count x : Int) else 0
theorem count_take {c : List Int} {k : Nat} {y : Int} (x : Int) (h : c[k]? = some y) : (c.take (k + 1)).count x = (c.take k).count x + (if y = x then 1 else 0) := by
  rw [List.take_add_one, h, Option.toList_some, List.count_append, List.count_singleton]
  simp only [beq_iff_eq]

end Go.Proofs.Ytdealoclkajliaa

