/- spec.l1Wrong: a heap comes back, whatever it is, in new blocks; of what was there only the reader has turned. -/
import Derived.Test.YtdealoclkajliaaDraw
import Derived.Deep.AppendLies
namespace Go.Proofs.Ytdealoclkajliaa
open Go.RowKit

theorem Row.lit_lo {w : World} {g : Nat} (hg : g = w.heap.size) (lo : Nat) (hlo : lo ≤ w.heap.size) (xs : List Int) (hn : xs.length ≤ 1048576) : Row (w.alloc (.cells (xs.map iv).toArray 3)) lo (.slice (some ⟨g, 0, none⟩) xs.length xs.length) xs := by
  subst hg; exact Row.lit w lo xs hlo hn
theorem grown_new {a b c : World} {row : Option Nat} {g : Nat} (h : a.grownBy b row) (k : b.grownBy c (some g)) (hg : a.heap.size ≤ g) : a.grownBy c row :=
  ⟨k.os.trans h.os, k.tape.trans h.tape, k.output.trans h.output, Nat.le_trans h.size k.size, fun i hi hne => (k.block i (Nat.lt_of_lt_of_le hi h.size) (by simp; omega)).trans (h.block i hi hne)⟩

/-- What an append to one row of a drawn heap leaves. -/
theorem lies_apart {w4 : World} {g1 g lo n0 c0 n c : Nat} {v : Value} {xs : List Int} (hr : Row w4 lo v xs) (hat : (Value.slice (some ⟨g1, 0, none⟩) n0 c0).ownBlock = some g ∨ g = w4.heap.size + 1) (ha : Apart v (.slice (some ⟨g1, 0, none⟩) n0 c0)) : Apart v (.slice (some ⟨g, 0, none⟩) n c) := by
  intro b hb hb'
  have hgb : g = b := by simpa [Value.ownBlock] using hb'
  subst hgb
  rcases hat with h | h
  · exact ha g hb h
  · have := (hr.lt g hb).2; omega

theorem lit_ne {g rb n c : Nat} (h : rb < g) : (Value.slice (some ⟨g, 0, none⟩) n c).ownBlock ≠ some rb := by simp [Value.ownBlock]; omega

theorem lit3 (w : World) (a b c : Int) : Row (w.alloc (.cells #[.int .i64 a, .int .i64 b, .int .i64 c] 3)) 0 (.slice (some ⟨w.heap.size, 0, none⟩) 3 3) [a, b, c] := Row.lit_at rfl [a, b, c] (by simp)
theorem len3 (a b c : Int) : [a, b, c].length = 3 := rfl
theorem one_cell (x : Int) : ∀ u ∈ [Value.int .i64 x], u.oneCell' = true := fun u hu => by simp at hu; subst hu; rfl
theorem size_one (w : World) (x : Int) : (w.alloc (.cells #[.int .i64 x] 3)).heap.size = w.heap.size + 1 := by simp
theorem base_one {w : World} {lo b : Nat} (x : Int) (h : lo ≤ b) (h' : b < w.heap.size) : lo ≤ (w.alloc (.cells #[.int .i64 x] 3)).heap.size := by simp; omega
theorem own_of {w : World} {lo n : Nat} {v : Value} {zs : List Int} (h : Row w lo v zs) (e : zs.length = n) : w.ownsRow lo 3 1 v n (zs.map iv) := by subst e; exact h

end Go.Proofs.Ytdealoclkajliaa
