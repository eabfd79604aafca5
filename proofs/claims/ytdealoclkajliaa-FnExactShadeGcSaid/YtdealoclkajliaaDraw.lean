/- spec.l1Draw: whatever the source gives, a heap with 1 to 8 cells and 1 to 3 roots comes back, in new blocks; of what was there only the reader has turned. -/
import Derived.Test.YtdealoclkajliaaOpen
import Derived.Test.YtdealoclkajliaaCopys
import Derived.Test.YtdealoclkajliaaBlk3
namespace Go.Proofs.Ytdealoclkajliaa
open Go.RowKit

/-- A row of n ints, whatever they are. -/
def RowN (w : World) (lo : Nat) (v : Value) (n : Nat) : Prop := ∃ xs : List Int, xs.length = n ∧ Row w lo v xs

section
variable {w wr : World} {B rb b : Nat} {A : Option Addr} {nb c p : Nat} {s0 s1 s2 : Value} {n m lo rs : Nat}
theorem RowN.kept {w w' : World} {lo rb n : Nat} {v : Value} (h : RowN w lo v n) (hg : w.grownBy w' (some rb)) (hl : rb < lo) : RowN w' lo v n := by
  obtain ⟨xs, hn, hr⟩ := h
  refine ⟨xs, hn, hr.kept hg (.inr fun e => ?_)⟩
  have := (hr.lt rb e).1; omega
theorem RowN.other {w : World} {lo n : Nat} {v : Value} (h : RowN w lo v n) {a : Addr} (ha : v.ownBlock ≠ some a.block) (u : Value) : RowN (w.setCell a u) lo v n := by
  obtain ⟨xs, hn, hr⟩ := h
  exact ⟨xs, hn, hr.other ha u⟩
theorem RowN.set_ {w : World} {lo n g l cp : Nat} (h : RowN w lo (.slice (some ⟨g, 0, none⟩) l cp) n) (k : Nat) (x : Int) : RowN (w.setCell ⟨g, k, none⟩ (.int .i64 x)) lo (.slice (some ⟨g, 0, none⟩) l cp) n := by
  obtain ⟨xs, hn, hr⟩ := h
  exact ⟨xs.set k x, by simpa using hn, hr.set_ k x⟩
theorem RowN.get {w : World} {lo n l cp : Nat} {A : Option Addr} (h : RowN w lo (.slice A l cp) n) {k : Nat} (hk : k < n) :
    ∃ g x, A = some ⟨g, 0, none⟩ ∧ lo ≤ g ∧ g < w.heap.size ∧ w.cell? ⟨g, k, none⟩ = some (.int .i64 x) ∧ w.frozen? ⟨g, k, none⟩ = false := by
  obtain ⟨xs, hn, hr⟩ := h
  obtain ⟨g, x, h1, h2, h3, _, h4, h5⟩ := hr.get (k := k) (by omega)
  exact ⟨g, x, h1, h2, h3, h4, h5⟩
end

theorem Row.lit_at {w : World} {g : Nat} (hg : g = w.heap.size) (xs : List Int) (hn : xs.length ≤ 1048576) : Row (w.alloc (.cells (xs.map iv).toArray 3)) 0 (.slice (some ⟨g, 0, none⟩) xs.length xs.length) xs := by
  subst hg; exact Row.lit w 0 xs (by omega) hn

theorem wrap_sub1 {x : Nat} {N : Int} (h : (x : Int) < N) (hN : N ≤ 1048576) : IntKind.i64.wrap ((x : Int) - 1) = (x : Int) - 1 := IntWalk.i64_in _ (by omega)
theorem wrap_sub2 {x : Nat} {N : Int} (h : (x : Int) < N) (hN : N ≤ 1048576) : IntKind.i64.wrap ((x : Int) - 2) = (x : Int) - 2 := IntWalk.i64_in _ (by omega)

theorem shut_guard {α : Type} (x : α) : ∃ y, y = x := ⟨x, rfl⟩

end Go.Proofs.Ytdealoclkajliaa
