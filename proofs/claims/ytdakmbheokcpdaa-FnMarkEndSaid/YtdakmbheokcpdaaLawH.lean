/- More words for the walks of the laws of collectors. -/
import Derived.Test.YtdakmbheokcpdaaLwG
namespace Go.Proofs.Ytdakmbheokcpdaa
open Go.RowKit

theorem BL_dn {w w' : World} (h : Below w.heap.size w w') (n : Nat) : Below w.heap.size w (w'.drewN n) := below_drewN h n
theorem CGv.col {w : World} {lo : Nat} {v0 v1 v2 v3 x r y : Value} {C : Cp} {G : Gp} (h : CGv w lo (.agg #[v0, v1, v2, v3]) (.agg #[x, r, y]) C G) : Cv w lo (.agg #[v0, v1, v2, r]) ⟨C.h, G.c⟩ := by
  obtain ⟨_, _, _, _, _, e, e', hv, hr, a0, a1, a2, _⟩ := h
  cases e; cases e'
  obtain ⟨_, _, _, _, e, hh, _⟩ := hv
  cases e
  exact ⟨_, _, _, _, rfl, hh, hr, a0, a1, a2⟩
theorem Blk4.dnL {w : World} {b : Nat} {x y z q : Value} {t : TypeId} (h : Blk4 w b x y z q t) (n : Nat) : Blk4 (w.drewN n) b x y z q t := h
theorem Blk3.dnL {w : World} {b : Nat} {x y z : Value} {t : TypeId} (h : Blk3 w b x y z t) (n : Nat) : Blk3 (w.drewN n) b x y z t := h
theorem CGv.dnL {w : World} {lo : Nat} {vs vg : Value} {C : Cp} {G : Gp} (h : CGv w lo vs vg C G) (n : Nat) : CGv (w.drewN n) lo vs vg C G := h
theorem Cv.dnL {w : World} {lo : Nat} {v : Value} {C : Cp} (h : Cv w lo v C) (n : Nat) : Cv (w.drewN n) lo v C := h
end Go.Proofs.Ytdakmbheokcpdaa
