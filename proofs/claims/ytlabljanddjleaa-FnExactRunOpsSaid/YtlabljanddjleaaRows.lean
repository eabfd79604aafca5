/-
  No cell of these rows narrows 'for every input' (looked for: loops, veiled, ifaces, maps, wideKeys, modest, calm, conditions, laid).
  DERIVED. THE GIVEN ROWS OF THIS SEAT. 5 by the template 'for every input the law returns true; each argument reads behind the call as it read before'; 0 by the template 'total and deterministic' (their statements: YtlabljanddjleaaTotals.lean).
  GIVEN WITH THE SEED: the statements are not yours to turn. If you find one false, say at which input.
  Laid BY PROGRAM, IN A SANDBOX (cutbox-rows.mjs): the forced cells as the released guide's own fill.sh prints them over the translation bba8f8bb513a4b9a… (all of the seat's roots in one cut). By AI agents, Wed Nov 11 2026. No macro, syntax, notation, axiom, sorry.
-/
import Derived.Test.YtlabljanddjleaaChecked
import GoSem.Claim
import GoSem.ClaimJoined
import GoSem.ClaimMapViews
import Derived.JoinedTies
import Derived.KernelRfl
namespace Go.Proofs.Ytlabljanddjleaa
/- THE CELL 'sum', in the pinned program and in every row, IS THE sha256 OF THE DUMP (.gsa) THAT YtlabljanddjleaaProg.lean LOADS. Nothing in Lean hashes anything: it is a label: what it is worth is what the hold of that sum in a sandbox is worth. -/
noncomputable def Try.pinned : Pinned := { name := "ytlabljanddjleaa", sum := "bba8f8bb513a4b9a6b549dccf43e50abd67ece8a531355362f0b78f3d228ad4a", checked := Try.checked }
namespace Rows
def none {H : Type} : Left H := { results := [], args := [] }

/-- 'laws.FnExactOpValid': WHATEVER THE INPUT: true; the input reads as it did. -/
def fnExactOpValidSpec : ChangeSpec := { name := "fnExactOpValid", fn := fun _ => fun
  | [d1, d2] => { results := [.lit (.bool true)], args := [d1, d2] }
  | _ => none }
def fnExactOpValidRow : OpenClaim := { program := "ytlabljanddjleaa", sum := "bba8f8bb513a4b9a6b549dccf43e50abd67ece8a531355362f0b78f3d228ad4a", func := "loop.example/cellcollector/laws.FnExactOpValid", spec := "fnExactOpValid", apart := false }
def FnExactOpValidSaid : Prop := fnExactOpValidRow.holds Try.pinned (OpenSpec.ofChange fnExactOpValidSpec)

/-- ITS FALSE NEIGHBOUR: 'it returns false'. Refute it at one input. -/
def fnExactOpValidWrong : ChangeSpec := { name := "fnExactOpValid", fn := fun _ => fun
  | [d1, d2] => { results := [.lit (.bool false)], args := [d1, d2] }
  | _ => none }
def FnExactOpValidWrongFalsely : Prop := fnExactOpValidRow.holds Try.pinned (OpenSpec.ofChange fnExactOpValidWrong)

/-- 'laws.FnExactRunOp': WHATEVER THE INPUT: true; the input reads as it did. -/
def fnExactRunOpSpec : ChangeSpec := { name := "fnExactRunOp", fn := fun _ => fun
  | [d1, d2] => { results := [.lit (.bool true)], args := [d1, d2] }
  | _ => none }
def fnExactRunOpRow : OpenClaim := { program := "ytlabljanddjleaa", sum := "bba8f8bb513a4b9a6b549dccf43e50abd67ece8a531355362f0b78f3d228ad4a", func := "loop.example/cellcollector/laws.FnExactRunOp", spec := "fnExactRunOp", unfollowed := true, recurses := true, apart := false }
def FnExactRunOpSaid : Prop := fnExactRunOpRow.holds Try.pinned (OpenSpec.ofChange fnExactRunOpSpec)

/-- ITS FALSE NEIGHBOUR: 'it returns false'. Refute it at one input. -/
def fnExactRunOpWrong : ChangeSpec := { name := "fnExactRunOp", fn := fun _ => fun
  | [d1, d2] => { results := [.lit (.bool false)], args := [d1, d2] }
  | _ => none }
def FnExactRunOpWrongFalsely : Prop := fnExactRunOpRow.holds Try.pinned (OpenSpec.ofChange fnExactRunOpWrong)

/-- 'laws.FnExactRunOps': WHATEVER THE INPUT: true; the input reads as it did. -/
def fnExactRunOpsSpec : ChangeSpec := { name := "fnExactRunOps", fn := fun _ => fun
  | [d1, d2] => { results := [.lit (.bool true)], args := [d1, d2] }
  | _ => none }
def fnExactRunOpsRow : OpenClaim := { program := "ytlabljanddjleaa", sum := "bba8f8bb513a4b9a6b549dccf43e50abd67ece8a531355362f0b78f3d228ad4a", func := "loop.example/cellcollector/laws.FnExactRunOps", spec := "fnExactRunOps", unfollowed := true, recurses := true, apart := false }
def FnExactRunOpsSaid : Prop := fnExactRunOpsRow.holds Try.pinned (OpenSpec.ofChange fnExactRunOpsSpec)

/-- ITS FALSE NEIGHBOUR: 'it returns false'. Refute it at one input. -/
def fnExactRunOpsWrong : ChangeSpec := { name := "fnExactRunOps", fn := fun _ => fun
  | [d1, d2] => { results := [.lit (.bool false)], args := [d1, d2] }
  | _ => none }
def FnExactRunOpsWrongFalsely : Prop := fnExactRunOpsRow.holds Try.pinned (OpenSpec.ofChange fnExactRunOpsWrong)

/-- 'laws.FnExactTargetOf': WHATEVER THE INPUT: true; the input reads as it did. -/
def fnExactTargetOfSpec : ChangeSpec := { name := "fnExactTargetOf", fn := fun _ => fun
  | [d1, d2] => { results := [.lit (.bool true)], args := [d1, d2] }
  | _ => none }
def fnExactTargetOfRow : OpenClaim := { program := "ytlabljanddjleaa", sum := "bba8f8bb513a4b9a6b549dccf43e50abd67ece8a531355362f0b78f3d228ad4a", func := "loop.example/cellcollector/laws.FnExactTargetOf", spec := "fnExactTargetOf", apart := false }
def FnExactTargetOfSaid : Prop := fnExactTargetOfRow.holds Try.pinned (OpenSpec.ofChange fnExactTargetOfSpec)

/-- ITS FALSE NEIGHBOUR: 'it returns false'. Refute it at one input. -/
def fnExactTargetOfWrong : ChangeSpec := { name := "fnExactTargetOf", fn := fun _ => fun
  | [d1, d2] => { results := [.lit (.bool false)], args := [d1, d2] }
  | _ => none }
def FnExactTargetOfWrongFalsely : Prop := fnExactTargetOfRow.holds Try.pinned (OpenSpec.ofChange fnExactTargetOfWrong)

/-- 'laws.FnOpValid': WHATEVER THE INPUT: true; the input reads as it did. -/
def fnOpValidSpec : ChangeSpec := { name := "fnOpValid", fn := fun _ => fun
  | [d] => { results := [.lit (.bool true)], args := [d] }
  | _ => none }
def fnOpValidRow : OpenClaim := { program := "ytlabljanddjleaa", sum := "bba8f8bb513a4b9a6b549dccf43e50abd67ece8a531355362f0b78f3d228ad4a", func := "loop.example/cellcollector/laws.FnOpValid", spec := "fnOpValid", apart := false }
def FnOpValidSaid : Prop := fnOpValidRow.holds Try.pinned (OpenSpec.ofChange fnOpValidSpec)

/-- ITS FALSE NEIGHBOUR: 'it returns false'. Refute it at one input. -/
def fnOpValidWrong : ChangeSpec := { name := "fnOpValid", fn := fun _ => fun
  | [d] => { results := [.lit (.bool false)], args := [d] }
  | _ => none }
def FnOpValidWrongFalsely : Prop := fnOpValidRow.holds Try.pinned (OpenSpec.ofChange fnOpValidWrong)

/- THE SECOND FORM. 'bulk': how many values and letters a reading holds, each counted each time it is reached (what is shared counts as often as it is met; a slice's spare places count too). A statement '..UptoSaid' is the law's where the arguments, and the package variables that the reading takes, are together of bulk at most 1048576: NARROWER than '..Said'. Prove '..Said' where nothing that the law and all that it calls make is longer than what came in: it says more and counts as full. Else prove '..UptoSaid'. A law counts once. -/
mutual
def uptoBulk {H : Type} : DataW H → Nat
  | .lit (.string bytes) => bytes.length + 1
  | .lit _ => 1
  | .nil => 1
  | .ptr d => uptoBulk d + 1
  | .slice elems spare => uptoBulkAll elems + uptoBulkAll spare + 1
  | .agg parts => uptoBulkAll parts + 1
  | .iface _ d => uptoBulk d + 1
  | .map entries => uptoBulkEntries entries + 1
  | .held _ => 1
def uptoBulkAll {H : Type} : List (DataW H) → Nat
  | [] => 0
  | d :: r => uptoBulk d + uptoBulkAll r
def uptoBulkEntries {H : Type} : List (Lit × DataW H) → Nat
  | [] => 0
  | x :: r => uptoBulkEntry x + uptoBulkEntries r
def uptoBulkEntry {H : Type} : Lit × DataW H → Nat
  | (.string bytes, d) => bytes.length + uptoBulk d + 1
  | (_, d) => uptoBulk d + 1
 end
def uptoSmall : (H : Type) → List (DataW H) → Bool := fun _ ds => decide (uptoBulkAll ds ≤ 1048576)
def OpenSpec.upto (s : _root_.Go.ChangeSpec) : _root_.Go.OpenSpec := { _root_.Go.OpenSpec.ofChange s with cond := some uptoSmall }

/-- 'laws.FnExactOpValid', WHERE WHAT IT READS IS OF BULK AT MOST 1048576: true; the input reads as it did. -/
def fnExactOpValidUptoRow : OpenClaim := { program := "ytlabljanddjleaa", sum := "bba8f8bb513a4b9a6b549dccf43e50abd67ece8a531355362f0b78f3d228ad4a", func := "loop.example/cellcollector/laws.FnExactOpValid", spec := "fnExactOpValid", apart := false, narrowed := true }
def FnExactOpValidUptoSaid : Prop := fnExactOpValidUptoRow.holds Try.pinned (OpenSpec.upto fnExactOpValidSpec)

/-- 'laws.FnExactRunOp', WHERE WHAT IT READS IS OF BULK AT MOST 1048576: true; the input reads as it did. -/
def fnExactRunOpUptoRow : OpenClaim := { program := "ytlabljanddjleaa", sum := "bba8f8bb513a4b9a6b549dccf43e50abd67ece8a531355362f0b78f3d228ad4a", func := "loop.example/cellcollector/laws.FnExactRunOp", spec := "fnExactRunOp", unfollowed := true, recurses := true, apart := false, narrowed := true }
def FnExactRunOpUptoSaid : Prop := fnExactRunOpUptoRow.holds Try.pinned (OpenSpec.upto fnExactRunOpSpec)

/-- 'laws.FnExactRunOps', WHERE WHAT IT READS IS OF BULK AT MOST 1048576: true; the input reads as it did. -/
def fnExactRunOpsUptoRow : OpenClaim := { program := "ytlabljanddjleaa", sum := "bba8f8bb513a4b9a6b549dccf43e50abd67ece8a531355362f0b78f3d228ad4a", func := "loop.example/cellcollector/laws.FnExactRunOps", spec := "fnExactRunOps", unfollowed := true, recurses := true, apart := false, narrowed := true }
def FnExactRunOpsUptoSaid : Prop := fnExactRunOpsUptoRow.holds Try.pinned (OpenSpec.upto fnExactRunOpsSpec)

/-- 'laws.FnExactTargetOf', WHERE WHAT IT READS IS OF BULK AT MOST 1048576: true; the input reads as it did. -/
def fnExactTargetOfUptoRow : OpenClaim := { program := "ytlabljanddjleaa", sum := "bba8f8bb513a4b9a6b549dccf43e50abd67ece8a531355362f0b78f3d228ad4a", func := "loop.example/cellcollector/laws.FnExactTargetOf", spec := "fnExactTargetOf", apart := false, narrowed := true }
def FnExactTargetOfUptoSaid : Prop := fnExactTargetOfUptoRow.holds Try.pinned (OpenSpec.upto fnExactTargetOfSpec)

/-- 'laws.FnOpValid', WHERE WHAT IT READS IS OF BULK AT MOST 1048576: true; the input reads as it did. -/
def fnOpValidUptoRow : OpenClaim := { program := "ytlabljanddjleaa", sum := "bba8f8bb513a4b9a6b549dccf43e50abd67ece8a531355362f0b78f3d228ad4a", func := "loop.example/cellcollector/laws.FnOpValid", spec := "fnOpValid", apart := false, narrowed := true }
def FnOpValidUptoSaid : Prop := fnOpValidUptoRow.holds Try.pinned (OpenSpec.upto fnOpValidSpec)

end Rows
end Go.Proofs.Ytlabljanddjleaa
