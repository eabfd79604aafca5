/- More words for the laws of runs. -/
import Derived.Test.YthbflohanjnaeaaRun5
namespace Go.Proofs.Ythbflohanjnaeaa
open Go.RowKit

theorem Blk4.drew {w : World} {b : Nat} {x y z q : Value} {t : TypeId} (h : Blk4 w b x y z q t) : Blk4 w.drew b x y z q t := h
theorem Cv.hv5 {w : World} {lo : Nat} {v0 v1 v2 v3 : Value} {C : Cp} (h : Cv w lo (.agg #[v0, v1, v2, v3]) C) : Hv w lo (.agg #[v0, v1, v2]) C.h := by
  obtain ⟨_, _, _, _, e, hh, _⟩ := h
  cases e; exact hh
end Go.Proofs.Ythbflohanjnaeaa
