/- l13Open. -/
import Derived.Test.YtdealoclkajliaaRd
import Derived.Test.YtdealoclkajliaaNew
namespace Go.Proofs.Ytdealoclkajliaa
open Go.RowKit

theorem Only.below {rb B : Nat} {w w' : World} (h : Only rb w w') (hB : B ≤ rb) (hs : B ≤ w.heap.size) : Below B w w' :=
  ⟨h.1.os, h.1.tape, h.1.output, h.1.size, fun k hk => h.1.block k (by omega) (fun e => by cases e; omega)⟩

theorem Row.lit (w : World) (lo : Nat) (xs : List Int) (hlo : lo ≤ w.heap.size) (hn : xs.length ≤ 1048576) : Row (w.alloc (.cells (xs.map iv).toArray 3)) lo (.slice (some ⟨w.heap.size, 0, none⟩) xs.length xs.length) xs :=
  Row.of_own (World.ownsRow_lit w (xs.map iv).toArray xs.length hlo (by unfold maxLen; omega) (by simp)) (by simp) rfl

/-- What is known of the input: its bytes lie where they lay. -/
def Inp (w : World) (A : Option Addr) (n c : Nat) : Prop := Bytes w w.heap.size A n ∧ n ≤ c ∧ c ≤ 9223372036854775807

end Go.Proofs.Ytdealoclkajliaa
