/- What the draws of heaps leave. -/
import Derived.Test.YtapkhgpifpgleaaWrong
namespace Go.Proofs.Ytapkhgpifpgleaa
open Go.RowKit

theorem below_row {rb B : Nat} {w w' : World} (h : w.grownBy w' (some rb)) (hB : B ≤ rb) (hs : B ≤ w.heap.size) : Below B w w' :=
  ⟨h.os, h.tape, h.output, h.size, fun k hk => h.block k (by omega) (fun e => by cases e; omega)⟩
theorem lit7 (w : World) (a b c d e f g : Int) : Row (w.alloc (.cells #[.int .i64 a, .int .i64 b, .int .i64 c, .int .i64 d, .int .i64 e, .int .i64 f, .int .i64 g] 3)) 0 (.slice (some ⟨w.heap.size, 0, none⟩) 7 7) [a, b, c, d, e, f, g] := Row.lit_at rfl [a, b, c, d, e, f, g] (by simp)
theorem len7 (a b c d e f g : Int) : [a, b, c, d, e, f, g].length = 7 := rfl

/-- A heap and two numbers come back, and nothing that was there has turned. -/
def DrawnC (w : World) (e : Ending) (w' : World) : Prop := ∃ v h x y, e = .returned (.tuple #[v, .int .i64 x, .int .i64 y]) ∧ Hv w' w.heap.size v h ∧ Below w.heap.size w w'
/-- A heap comes back, and nothing that was there has turned. -/
def DrawnV (w : World) (e : Ending) (w' : World) : Prop := ∃ v h, e = .returned v ∧ Hv w' w.heap.size v h ∧ Below w.heap.size w w'

theorem inp_alloc {w : World} {A : Option Addr} {n c : Nat} (h : Inp w A n c) (o : Obj) : Inp (w.alloc o) A n c := by
  obtain ⟨hb, h1, h2⟩ := h
  refine ⟨?_, h1, h2⟩
  have hb' := hb.below ((Below.refl _ _).alloc (Nat.le_refl _) o)
  rcases hb' with h | ⟨b, off, e, hlt, hc⟩
  · exact .inl h
  · exact .inr ⟨b, off, e, by simp; omega, hc⟩

end Go.Proofs.Ytapkhgpifpgleaa
