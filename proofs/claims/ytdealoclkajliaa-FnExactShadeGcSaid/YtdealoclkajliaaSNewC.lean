/- NewColored of spec. -/
import Derived.Test.YtdealoclkajliaaShades
import Derived.Deep.OwnRows
namespace Go.Proofs.Ytdealoclkajliaa
open Go.RowKit

theorem rowMade (w : World) (lo n : Nat) (hlo : lo ≤ w.heap.size) (hn : n ≤ 1048576) : Row (w.alloc (.cells (madeCells #[.int .i64 0] n) 3)) lo (.slice (some ⟨w.heap.size, 0, none⟩) n n) (List.replicate n 0) := by
  have hs : (madeCells #[Value.int .i64 0] n).size = n * 1 := by
    have h9 := congrArg List.length (mc_int n)
    simpa using h9
  have h9 := World.ownsRow_lit (e := 3) (size := 1) w (madeCells #[.int .i64 0] n) n hlo (by unfold maxLen; omega) hs
  rw [mc_int] at h9
  exact Row.of_own h9 rfl (by simp)
def newCO (h : Hp) : Option Cp := if hvB h = true then some ⟨h, List.replicate h.l.length 0⟩ else none

end Go.Proofs.Ytdealoclkajliaa
