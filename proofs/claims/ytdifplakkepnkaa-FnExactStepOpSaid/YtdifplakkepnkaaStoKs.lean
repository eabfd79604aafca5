import Derived.Test.YtdifplakkepnkaaStos
import Derived.Test.YtdifplakkepnkaaLives
import Derived.Test.YtdifplakkepnkaaStoA
/- LeakedOf of spec. -/
namespace Go.Proofs.Ytdifplakkepnkaa
open Go.RowKit

def leakF (c : List Int) (x : Int) : Bool := !decide (x ∈ c)
def leakN (gs c : List Int) (k : Nat) : List Int := (gs.take k).filter (leakF c)
/-- The leaked cells of a store. -/
def leakL (C : Cp) : List Int := if stoB C = true then leakN (garb C.h) C.c (garb C.h).length else []
theorem leakN_in {gs c : List Int} {k : Nat} {x : Int} (hx : gs[k]? = some x) (h : x ∈ c) : leakN gs c (k + 1) = leakN gs c k := by
  unfold leakN; rw [List.take_add_one, hx, Option.toList_some, List.filter_append]; simp [leakF, h]
theorem leakN_not {gs c : List Int} {k : Nat} {x : Int} (hx : gs[k]? = some x) (h : x ∉ c) : leakN gs c (k + 1) = leakN gs c k ++ [x] := by
  unfold leakN; rw [List.take_add_one, hx, Option.toList_some, List.filter_append]; simp [leakF, h]
theorem leakN_len (gs c : List Int) (k : Nat) : (leakN gs c k).length ≤ k := by
  unfold leakN; exact Nat.le_trans (List.length_filter_le _ _) (by rw [List.length_take]; omega)

theorem Blk4.kept_own {w w' : World} {b : Nat} {x y z u : Value} {t : TypeId} {row : Option Nat} (h : Blk4 w b x y z u t) (hg : w.grownBy w' row) (hb : some b ≠ row) : Blk4 w' b x y z u t := (hg.block b h.lt hb).trans h

end Go.Proofs.Ytdifplakkepnkaa

/- l4Clear of spec. -/
namespace Go.Proofs.Ytdifplakkepnkaa
open Go.RowKit

def clrF (cs : List Int) (i : Nat) (x : Int) : Int := if x ∈ cs ∨ (i : Int) ∈ cs then -1 else x
/-- The first k pointers of a row are cleared. -/
def clrN (l cs : List Int) (k : Nat) : List Int := l.mapIdx fun i x => if i < k then clrF cs i x else x
theorem clrN_len (l cs : List Int) (k : Nat) : (clrN l cs k).length = l.length := by unfold clrN; simp
theorem clrN_at (l cs : List Int) (k i : Nat) : (clrN l cs k)[i]? = l[i]?.map fun x => if i < k then clrF cs i x else x := by unfold clrN; simp
theorem clrN_zero (l cs : List Int) : clrN l cs 0 = l := by
  apply List.ext_getElem?; intro i; rw [clrN_at]; simp
theorem clrN_get (l cs : List Int) (k : Nat) : (clrN l cs k)[k]? = l[k]? := by rw [clrN_at]; simp
theorem clrN_hit {l cs : List Int} {k : Nat} {x : Int} (hx : l[k]? = some x) (h : x ∈ cs ∨ (k : Int) ∈ cs) : clrN l cs (k + 1) = (clrN l cs k).set k (-1) := by
  apply List.ext_getElem?; intro i
  rw [List.getElem?_set, clrN_at, clrN_at, clrN_len]
  obtain ⟨hk, _⟩ := List.getElem?_eq_some_iff.1 hx
  by_cases e : k = i
  · subst e
    rw [if_pos rfl, if_pos hk, hx]
    simp [clrF, h]
  · rw [if_neg e]
    congr 1; funext y
    by_cases h9 : i < k
    · rw [if_pos h9, if_pos (by omega)]
    · rw [if_neg h9, if_neg (by omega)]
theorem clrN_miss {l cs : List Int} {k : Nat} {x : Int} (hx : l[k]? = some x) (h : ¬ (x ∈ cs ∨ (k : Int) ∈ cs)) : clrN l cs (k + 1) = clrN l cs k := by
  apply List.ext_getElem?; intro i
  rw [clrN_at, clrN_at]
  by_cases e : i = k
  · subst e
    rw [hx]; simp [clrF, h]
  · congr 1; funext y
    by_cases h9 : i < k
    · rw [if_pos h9, if_pos (by omega)]
    · rw [if_neg h9, if_neg (by omega)]
def clearC (C : Cp) (cs : List Int) : Cp := ⟨⟨clrN C.h.l cs C.h.l.length, clrN C.h.r cs C.h.l.length, C.h.t⟩, C.c ++ cs⟩

end Go.Proofs.Ytdifplakkepnkaa

