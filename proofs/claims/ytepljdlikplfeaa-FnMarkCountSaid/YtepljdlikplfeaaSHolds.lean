/- ColorHolds of spec. -/
import Derived.Test.YtepljdlikplfeaaSCol2
namespace Go.Proofs.Ytepljdlikplfeaa
open Go.RowKit

theorem holdsAt_eq {C : Cp} {k : Nat} {x y z : Int} (hx : C.h.l[k]? = some x) (hy : C.h.r[k]? = some y) (hz : C.c[k]? = some z) :
    holdsAt C k = !(decide (z = 2) && (decide (0 ≤ x ∧ C.c[x.toNat]? = some 0) || decide (0 ≤ y ∧ C.c[y.toNat]? = some 0))) := by
  unfold holdsAt
  rw [show C.h.l.getD k 0 = x by simp [List.getD, hx], show C.h.r.getD k 0 = y by simp [List.getD, hy], hz]
  simp
theorem holds_bad {C : Cp} {k : Nat} (hk : k < C.c.length) (h : holdsAt C k = false) : holdsB C = false := by
  rw [Bool.eq_false_iff]; intro h9
  unfold holdsB at h9
  rw [Bool.and_eq_true, List.all_eq_true] at h9
  rw [h9.2 k (List.mem_range.2 hk)] at h; cases h
theorem holds_good {C : Cp} (hv : cvB C = true) (h : ∀ j, j < C.c.length → holdsAt C j = true) : holdsB C = true := by
  unfold holdsB
  rw [Bool.and_eq_true, List.all_eq_true]
  exact ⟨hv, fun j hj => h j (List.mem_range.1 hj)⟩

end Go.Proofs.Ytepljdlikplfeaa
