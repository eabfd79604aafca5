/- l13Open. -/
import Derived.Test.YtlabljanddjleaaRd
import Derived.Test.YtlabljanddjleaaNew
namespace Go.Proofs.Ytlabljanddjleaa
open Go.RowKit

theorem Only.below {rb B : Nat} {w w' : World} (h : Only rb w w') (hB : B ≤ rb) (hs : B ≤ w.heap.size) : Below B w w' :=
  ⟨h.1.os, h.1.tape, h.1.output, h.1.size, fun k hk => h.1.block k (by omega) (fun e => by cases e; omega)⟩

theorem Row.lit (w : World) (lo : Nat) (xs : List Int) (hlo : lo ≤ w.heap.size) (hn : xs.length ≤ 1048576) : Row (w.alloc (.cells (xs.map iv).toArray 3)) lo (.slice (some ⟨w.heap.size, 0, none⟩) xs.length xs.length) xs :=
  Row.of_own (World.ownsRow_lit w (xs.map iv).toArray xs.length hlo (by unfold maxLen; omega) (by simp)) (by simp) rfl

/-- A reader comes back, in a new block, at its beginning. -/
def Opened (w : World) (e : Ending) (w' : World) : Prop :=
  ∃ rb A n c, e = .returned (.pointer (some ⟨rb, 0, none⟩)) ∧ Rd w' w.heap.size rb A n c 0 ∧ Below w.heap.size w w'

/-- What is known of the input: its bytes lie where they lay. -/
def Inp (w : World) (A : Option Addr) (n c : Nat) : Prop := Bytes w w.heap.size A n ∧ n ≤ c ∧ c ≤ 9223372036854775807

set_option maxHeartbeats 400000 in
theorem l13Open_any (w : World) (A : Option Addr) (n c : Nat) (h : Inp w A n c) :
    Calls Try.prog 51 #[.slice A n c] w (Opened w) := by
  obtain ⟨hb, hnc, hc⟩ := h
  by_cases hn : 2000 < n
  · have hb2 : Bytes w w.heap.size A 2000 := by
      rcases hb with h | ⟨b, off, e, h1, h2⟩
      · omega
      · exact .inr ⟨b, off, e, h1, fun k hk => h2 k (by omega)⟩
    have hR : Rd (w.alloc (.cells #[.slice A 2000 c, .int .i64 0] 103)) w.heap.size w.heap.size A 2000 c 0 :=
      ⟨heap_alloc_new w _, hb2.below ((Below.refl _ _).alloc (Nat.le_refl _) _), Nat.le_refl _, by omega⟩
    rcases hb with h | ⟨b, off, rfl, _, _⟩
    · omega
    go_enter Try.func51, Try.ntmps51
    go_wp2_with fail
    go_ret
    exact ⟨_, _, _, _, rfl, hR, (Below.refl _ _).alloc (Nat.le_refl _) _⟩
  · have hR : Rd (w.alloc (.cells #[.slice A n c, .int .i64 0] 103)) w.heap.size w.heap.size A n c 0 :=
      ⟨heap_alloc_new w _, hb.below ((Below.refl _ _).alloc (Nat.le_refl _) _), Nat.le_refl _, by omega⟩
    go_enter Try.func51, Try.ntmps51
    go_wp2_with fail
    go_ret
    exact ⟨_, _, _, _, rfl, hR, (Below.refl _ _).alloc (Nat.le_refl _) _⟩

end Go.Proofs.Ytlabljanddjleaa
