/- Counts of references: what is dropped, taken, linked. -/
import Derived.Test.YteogflkahoanlaaCnt
namespace Go.Proofs.Yteogflkahoanlaa
open Go.RowKit

theorem dp_inv {D : Dp} (h : dpB D = true) : InvD ⟨D.C.h, D.C.c, D.n, []⟩ := by
  obtain ⟨h1, h2⟩ := dpB_iff.1 h
  obtain ⟨hv, hl, hf, hn⟩ := stoB_parts h1
  refine ⟨hv, by dsimp only; rw [h2, cnts_len], fun x hx => absurd hx (by simp), fun k hk => ?_, hl, fun x hx => ⟨hf x hx, by simp⟩, hn⟩
  dsimp only at hk ⊢
  rw [h2, cnts_get hk]; simp
theorem pt_rng {h : Hp} (hv : hvB h = true) : 1 ≤ h.l.length := by
  have := (hvB_parts hv).1.2
  simp only [szB, decide_eq_true_eq] at this; omega
theorem put_pt {h : Hp} (_hv : hvB h = true) {x : Int} (h1 : -1 ≤ x) (h2 : x < h.l.length) : ptB x h.l.length = true := by
  simp [ptB]; omega
/-- A root is put elsewhere: what it pointed to is left to be given up. -/
theorem drop_inv {D : Dp} (h : dpB D = true) {k : Nat} {old : Int} (ho : D.C.h.t[k]? = some old) : InvD ⟨⟨D.C.h.l, D.C.h.r, D.C.h.t.set k (-1)⟩, D.C.c, D.n, [old]⟩ := by
  obtain ⟨v, nl, _, cnt, cl, cf, cn⟩ := dp_inv h
  dsimp only at v nl cnt cl cf cn
  obtain ⟨⟨e1, e2⟩, a1, a2, a3⟩ := hvB_parts v
  have mo := List.mem_of_getElem? ho
  have ro := (hv_rng v).2.2 old mo
  have hp := put_pt v (x := -1) (by omega) (by have := pt_rng v; omega)
  refine ⟨hvB_mk e1 (by simpa using e2) a1 a2 (all_upd a3 hp), nl, fun x hx => by rw [List.mem_singleton.1 hx]; exact ro, fun j hj => ?_, cl, fun x hx => ?_, cn⟩
  · dsimp only at hj ⊢
    have h9 := cnt j hj
    have s := count_set D.C.h.t (z := -1) (j := (j : Int)) ho
    rw [if_neg (show ¬ ((-1 : Int) = (j : Int)) by omega)] at s
    have hc : [old].count (j : Int) = if old = (j : Int) then 1 else 0 := by rw [List.count_cons]; simp
    rw [h9, List.count_nil]
    congr 1; omega
  · obtain ⟨f1, _⟩ := cf x hx
    obtain ⟨j, rfl⟩ := fr_nat f1
    obtain ⟨g1, g2, g3, g4, g5, g6⟩ := fr_iff.1 f1
    exact ⟨fr_iff.2 ⟨g1, g2, g3, g4, g5, notin_upd g6 (by omega)⟩, fun hm => g6 (by rw [List.mem_singleton.1 hm]; exact mo)⟩
/-- A left pointer is put elsewhere, and what it points to is counted. -/
theorem link_inv {D : Dp} (h : dpB D = true) {f : Nat} {to old : Int} (hf : (f : Int) ∈ D.C.h.t) (ht : to ∈ D.C.h.t) (ho : D.C.h.l[f]? = some old) : InvD ⟨⟨D.C.h.l.set f to, D.C.h.r, D.C.h.t⟩, D.C.c, bump D.n to, [old]⟩ := by
  obtain ⟨v, nl, _, cnt, cl, cf, cn⟩ := dp_inv h
  dsimp only at v nl cnt cl cf cn
  obtain ⟨⟨e1, e2⟩, a1, a2, a3⟩ := hvB_parts v
  have mo := List.mem_of_getElem? ho
  have ro := (hv_rng v).1 old mo
  have rt := (hv_rng v).2.2 to ht
  have hp := put_pt v rt.1 rt.2
  refine ⟨hvB_mk (by simpa using e1) (by simpa using e2) (by rw [List.length_set]; exact all_upd a1 hp) (by simpa using a2) (by simpa using a3), by simp [bump_len]; exact nl, fun x hx => by rw [List.mem_singleton.1 hx]; simpa using ro, fun j hj => ?_, by simpa using cl, fun x hx => ?_, cn⟩
  · have hj' : j < D.C.h.l.length := by simpa using hj
    have h9 := bump_get (x := to) (cnt j hj')
    have s := count_set D.C.h.l (z := to) (j := (j : Int)) ho
    have hc : [old].count (j : Int) = if old = (j : Int) then 1 else 0 := by rw [List.count_cons]; simp
    show (bump D.n to)[j]? = some (((D.C.h.l.set f to).count (j : Int) + D.C.h.r.count (j : Int) + D.C.h.t.count (j : Int) + [old].count (j : Int) : Nat) : Int)
    rw [h9, List.count_nil]
    congr 1
    split at s <;> split at s <;> simp_all <;> omega
  · obtain ⟨f1, _⟩ := cf x hx
    obtain ⟨j, rfl⟩ := fr_nat f1
    obtain ⟨g1, g2, g3, g4, g5, g6⟩ := fr_iff.1 f1
    have hfj : f ≠ j := fun e => g6 (e ▸ hf)
    exact ⟨fr_iff.2 ⟨by simpa using g1, by show (D.C.h.l.set f to)[j]? = _; rw [List.getElem?_set_ne hfj]; exact g2, g3, notin_upd g4 (fun e => g6 (e ▸ ht)), g5, g6⟩, fun hm => g4 (by rw [List.mem_singleton.1 hm]; exact mo)⟩
/-- The first free cell is taken for a root. -/
theorem take_inv {D : Dp} (h : dpB D = true) {k : Nat} {x old : Int} {cs : List Int} (hc : D.C.c = x :: cs) (ho : D.C.h.t[k]? = some old) : InvD ⟨⟨D.C.h.l, D.C.h.r, D.C.h.t.set k x⟩, cs, bump D.n x, [old]⟩ ∧ ∃ j : Nat, x = j ∧ j < D.C.h.l.length ∧ D.n[j]? = some 0 := by
  obtain ⟨v, nl, _, cnt, cl, cf, cn⟩ := dp_inv h
  dsimp only at v nl cnt cl cf cn
  rw [hc] at cl cf cn
  obtain ⟨⟨e1, e2⟩, a1, a2, a3⟩ := hvB_parts v
  have mo := List.mem_of_getElem? ho
  have ro := (hv_rng v).2.2 old mo
  obtain ⟨fx, _⟩ := cf x (List.mem_cons_self ..)
  obtain ⟨i, rfl⟩ := fr_nat fx
  obtain ⟨x1, x2, x3, x4, x5, x6⟩ := fr_iff.1 fx
  have hp := put_pt v (x := (i : Int)) (by omega) (by omega)
  have hi0 : D.n[i]? = some 0 := by
    rw [cnt i x1, List.count_eq_zero.2 x4, List.count_eq_zero.2 x5, List.count_eq_zero.2 x6]; simp
  refine ⟨⟨hvB_mk e1 (by simpa using e2) a1 a2 (all_upd a3 hp), by dsimp only; rw [bump_len]; exact nl, fun y hy => by rw [List.mem_singleton.1 hy]; exact ro, fun j hj => ?_, by dsimp only; simp at cl; omega, fun y hy => ?_, (List.nodup_cons.1 cn).2⟩, i, rfl, x1, hi0⟩
  · dsimp only at hj
    have h9 := bump_get (x := (i : Int)) (cnt j hj)
    have s := count_set D.C.h.t (z := (i : Int)) (j := (j : Int)) ho
    have hc : [old].count (j : Int) = if old = (j : Int) then 1 else 0 := by rw [List.count_cons]; simp
    show (bump D.n (i : Int))[j]? = some ((D.C.h.l.count (j : Int) + D.C.h.r.count (j : Int) + (D.C.h.t.set k (i : Int)).count (j : Int) + [old].count (j : Int) : Nat) : Int)
    rw [h9, List.count_nil]
    congr 1
    split at s <;> split at s <;> simp_all <;> omega
  · obtain ⟨f1, _⟩ := cf y (List.mem_cons_of_mem _ hy)
    obtain ⟨j, rfl⟩ := fr_nat f1
    obtain ⟨g1, g2, g3, g4, g5, g6⟩ := fr_iff.1 f1
    have hij : i ≠ j := fun e => (List.nodup_cons.1 cn).1 (e ▸ hy)
    exact ⟨fr_iff.2 ⟨g1, g2, g3, g4, g5, notin_upd g6 (by omega)⟩, fun hm => g6 (by rw [List.mem_singleton.1 hm]; exact mo)⟩
def dropO (D : Dp) (k : Int) : Option Dp := if (dpB D && plB k D.C.h.t.length) = true then some (fin_ ⟨⟨D.C.h.l, D.C.h.r, D.C.h.t.set k.toNat (-1)⟩, D.C.c, D.n, [D.C.h.t.getD k.toNat 0]⟩) else none
def takeO (D : Dp) (k : Int) : Option Dp := if (dpB D && plB k D.C.h.t.length && decide (D.C.c ≠ [])) = true then some (fin_ ⟨⟨D.C.h.l, D.C.h.r, D.C.h.t.set k.toNat (D.C.c.getD 0 0)⟩, D.C.c.tail, bump D.n (D.C.c.getD 0 0), [D.C.h.t.getD k.toNat 0]⟩) else none
def linkO (D : Dp) (a b : Int) : Option Dp := if (dpB D && plB a D.C.h.t.length && plB b D.C.h.t.length && decide (D.C.h.t.getD a.toNat 0 ≠ -1)) = true then
  some (fin_ ⟨⟨D.C.h.l.set (D.C.h.t.getD a.toNat 0).toNat (D.C.h.t.getD b.toNat 0), D.C.h.r, D.C.h.t⟩, D.C.c, bump D.n (D.C.h.t.getD b.toNat 0), [D.C.h.l.getD (D.C.h.t.getD a.toNat 0).toNat 0]⟩) else none
theorem getD_of {l : List Int} {k : Nat} {x : Int} (h : l[k]? = some x) : l.getD k 0 = x := by simp [List.getD, h]
theorem dropO_some {D : Dp} {k : Nat} {old : Int} (h : dpB D = true) (ho : D.C.h.t[k]? = some old) : dropO D k = some (fin_ ⟨⟨D.C.h.l, D.C.h.r, D.C.h.t.set k (-1)⟩, D.C.c, D.n, [old]⟩) := by
  have hk := (List.getElem?_eq_some_iff.1 ho).1
  unfold dropO
  rw [h, if_pos (by simp [plB]; omega), Int.toNat_natCast, getD_of ho]
theorem takeO_some {D : Dp} {k : Nat} {x old : Int} {cs : List Int} (h : dpB D = true) (ho : D.C.h.t[k]? = some old) (hc : D.C.c = x :: cs) : takeO D k = some (fin_ ⟨⟨D.C.h.l, D.C.h.r, D.C.h.t.set k x⟩, cs, bump D.n x, [old]⟩) := by
  have hk := (List.getElem?_eq_some_iff.1 ho).1
  unfold takeO
  rw [h, hc, if_pos (by simp [plB]; omega), Int.toNat_natCast, getD_of ho]; rfl
theorem linkO_some {D : Dp} {a b f : Nat} {to old : Int} (h : dpB D = true) (ha : D.C.h.t[a]? = some (f : Int)) (hb : D.C.h.t[b]? = some to) (ho : D.C.h.l[f]? = some old) : linkO D a b = some (fin_ ⟨⟨D.C.h.l.set f to, D.C.h.r, D.C.h.t⟩, D.C.c, bump D.n to, [old]⟩) := by
  have ka := (List.getElem?_eq_some_iff.1 ha).1
  have kb := (List.getElem?_eq_some_iff.1 hb).1
  unfold linkO
  rw [Int.toNat_natCast, Int.toNat_natCast, getD_of ha, getD_of hb, Int.toNat_natCast, getD_of ho, h, if_pos (by simp [plB]; omega)]

end Go.Proofs.Yteogflkahoanlaa
