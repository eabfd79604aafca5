/- NewStore of spec. -/
import Derived.Test.YtdealoclkajliaaStoKs
import Derived.Test.YtdealoclkajliaaPureN
import Derived.Test.YtdealoclkajliaaNew
namespace Go.Proofs.Ytdealoclkajliaa
open Go.RowKit

/-- A new store. -/
def newSO (c r : Int) : Option Cp := if szB c r = true then some ⟨⟨List.replicate c.toNat (-1), List.replicate c.toNat (-1), List.replicate r.toNat (-1)⟩, nums c.toNat⟩ else none
theorem nums_set (k n : Nat) (hk : k < n) : (nums k ++ List.replicate (n - k) (0 : Int)).set k (k : Int) = nums (k + 1) ++ List.replicate (n - (k + 1)) 0 := by
  rw [List.set_append, if_neg (by rw [nums_len]; omega), nums_len, Nat.sub_self, show n - k = (n - (k + 1)) + 1 from by omega, List.replicate_succ, List.set_cons_zero, nums_succ]
  simp

end Go.Proofs.Ytdealoclkajliaa
