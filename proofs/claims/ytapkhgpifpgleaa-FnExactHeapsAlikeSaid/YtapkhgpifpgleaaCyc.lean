/- HasCycle of both. -/
import Derived.Test.YtapkhgpifpgleaaLives
import Derived.Test.YtapkhgpifpgleaaSrc
namespace Go.Proofs.Ytapkhgpifpgleaa
open Go.RowKit Go.Maps

theorem lit2 (w : World) (x y : Int) : Row (w.alloc (.cells #[.int .i64 x, .int .i64 y] 3)) w.heap.size (.slice (some ⟨w.heap.size, 0, none⟩) 2 2) [x, y] := Row.lit_lo rfl w.heap.size (Nat.le_refl _) [x, y] (by simp)
/-- Does a way lead from a cell back to it? -/
def cycB (h : Hp) (c : Int) : Bool := hvB h && plB c h.l.length && decide (0 ≤ gd (dist h [gd h.l c, gd h.r c]) c)

end Go.Proofs.Ytapkhgpifpgleaa
