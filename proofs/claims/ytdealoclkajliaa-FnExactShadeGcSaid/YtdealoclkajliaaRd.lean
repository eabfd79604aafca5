/- The source of numbers that the draws read: l13Open, pick, num. What a pick gives is only known to lie below n; nothing but the reader's own block turns. -/
import Derived.Test.YtdealoclkajliaaMake
import Derived.Laws.BitsAllLaws
import Derived.Laws.BitsLemmas
import Derived.IntWalk
namespace Go.Proofs.Ytdealoclkajliaa
open Go.RowKit

/-- n bytes lie at A, below block B. -/
def Bytes (w : World) (B : Nat) (A : Option Addr) (n : Nat) : Prop :=
  n = 0 ∨ ∃ b off, A = some ⟨b, off, none⟩ ∧ b < B ∧ ∀ k, k < n → ∃ x : Int, 0 ≤ x ∧ x ≤ 255 ∧ w.cell? ⟨b, off + k, none⟩ = some (.int .u8 x)
theorem Bytes.below {w w' : World} {B : Nat} {A : Option Addr} {n : Nat} (h : Bytes w B A n) (hb : Below B w w') : Bytes w' B A n := by
  rcases h with h | ⟨b, off, e, hbb, h⟩
  · exact .inl h
  · refine .inr ⟨b, off, e, hbb, fun k hk => ?_⟩
    obtain ⟨x, h0, h1, hc⟩ := h k hk
    exact ⟨x, h0, h1, (hb.cell (p := ⟨b, off + k, none⟩) hbb).trans hc⟩
theorem Bytes.grown {w w' : World} {B g : Nat} {A : Option Addr} {n : Nat} (h : Bytes w B A n) (hg : w.grownBy w' (some g)) (hB : B ≤ g) (hs : B ≤ w.heap.size) : Bytes w' B A n :=
  h.below ⟨hg.os, hg.tape, hg.output, hg.size, fun k hk => hg.block k (by omega) (fun e => by cases e; omega)⟩

/-- Nothing but block rb has turned, and no block is new. -/
def Only (rb : Nat) (w w' : World) : Prop := w.grownBy w' (some rb) ∧ w'.heap.size = w.heap.size

theorem ofInt_i64 (a : Nat) (ha : a < 9223372036854775808) : (BitVec.ofInt 64 (a : Int)).toNat = a := by
  rw [BitVec.ofInt_natCast, BitVec.toNat_ofNat]; exact Nat.mod_eq_of_lt (by omega)
theorem i64_xor_nat (a b : Nat) (ha : a < 9223372036854775808) (hb : b < 9223372036854775808) : bits .xor .i64 (a : Int) (b : Int) = ((a ^^^ b : Nat) : Int) := by
  have hx : a ^^^ b < 2 ^ 63 := Nat.xor_lt_two_pow (by omega) (by omega)
  show IntKind.i64.wrap ((BitVec.ofInt 64 (a : Int) ^^^ BitVec.ofInt 64 (b : Int)).toNat : Int) = _
  rw [BitVec.toNat_xor, ofInt_i64 a ha, ofInt_i64 b hb, IntKind.wrap_i64]
  omega

theorem only_drewN {rb : Nat} {w w' : World} (h : Only rb w w') (k : Nat) : Only rb w (w'.drewN k) := ⟨⟨h.1.os, h.1.tape, h.1.output, h.1.size, h.1.block⟩, h.2⟩

end Go.Proofs.Ytdealoclkajliaa
