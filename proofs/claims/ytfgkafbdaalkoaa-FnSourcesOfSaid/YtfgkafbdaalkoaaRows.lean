/-
  No cell of these rows narrows 'for every input' (looked for: loops, veiled, ifaces, maps, wideKeys, modest, calm, conditions, laid).
  DERIVED. THE GIVEN ROWS OF THIS SEAT. 12 by the template 'for every input the law returns true; each argument reads behind the call as it read before'; 0 by the template 'total and deterministic' (their statements: YtfgkafbdaalkoaaTotals.lean).
  GIVEN WITH THE SEED: the statements are not yours to turn. If you find one false, say at which input.
  Laid BY PROGRAM, IN A SANDBOX (cutbox-rows.mjs): the forced cells as the released guide's own fill.sh prints them over the translation f08614490038dfda… (all of the seat's roots in one cut). By AI agents, Wed Nov 11 2026. No macro, syntax, notation, axiom, sorry.
-/
import Derived.Test.YtfgkafbdaalkoaaChecked
import GoSem.Claim
import GoSem.ClaimJoined
import GoSem.ClaimMapViews
import Derived.JoinedTies
import Derived.KernelRfl
namespace Go.Proofs.Ytfgkafbdaalkoaa
/- THE CELL 'sum', in the pinned program and in every row, IS THE sha256 OF THE DUMP (.gsa) THAT YtfgkafbdaalkoaaProg.lean LOADS. Nothing in Lean hashes anything: it is a label: what it is worth is what the hold of that sum in a sandbox is worth. -/
noncomputable def Try.pinned : Pinned := { name := "ytfgkafbdaalkoaa", sum := "f08614490038dfdafeb6bcddd5f1831056920c15596f228b7343ceb698ab2cdb", checked := Try.checked }
namespace Rows
def none {H : Type} : Left H := { results := [], args := [] }

/-- 'laws.FnCountPointers': WHATEVER THE INPUT: true; the input reads as it did. -/
def fnCountPointersSpec : ChangeSpec := { name := "fnCountPointers", fn := fun _ => fun
  | [d] => { results := [.lit (.bool true)], args := [d] }
  | _ => none }
def fnCountPointersRow : OpenClaim := { program := "ytfgkafbdaalkoaa", sum := "f08614490038dfdafeb6bcddd5f1831056920c15596f228b7343ceb698ab2cdb", func := "loop.example/cellcollector/laws.FnCountPointers", spec := "fnCountPointers", apart := false }
def FnCountPointersSaid : Prop := fnCountPointersRow.holds Try.pinned (OpenSpec.ofChange fnCountPointersSpec)

/-- ITS FALSE NEIGHBOUR: 'it returns false'. Refute it at one input. -/
def fnCountPointersWrong : ChangeSpec := { name := "fnCountPointers", fn := fun _ => fun
  | [d] => { results := [.lit (.bool false)], args := [d] }
  | _ => none }
def FnCountPointersWrongFalsely : Prop := fnCountPointersRow.holds Try.pinned (OpenSpec.ofChange fnCountPointersWrong)

/-- 'laws.FnHeapValid': WHATEVER THE INPUT: true; the input reads as it did. -/
def fnHeapValidSpec : ChangeSpec := { name := "fnHeapValid", fn := fun _ => fun
  | [d] => { results := [.lit (.bool true)], args := [d] }
  | _ => none }
def fnHeapValidRow : OpenClaim := { program := "ytfgkafbdaalkoaa", sum := "f08614490038dfdafeb6bcddd5f1831056920c15596f228b7343ceb698ab2cdb", func := "loop.example/cellcollector/laws.FnHeapValid", spec := "fnHeapValid", apart := false }
def FnHeapValidSaid : Prop := fnHeapValidRow.holds Try.pinned (OpenSpec.ofChange fnHeapValidSpec)

/-- ITS FALSE NEIGHBOUR: 'it returns false'. Refute it at one input. -/
def fnHeapValidWrong : ChangeSpec := { name := "fnHeapValid", fn := fun _ => fun
  | [d] => { results := [.lit (.bool false)], args := [d] }
  | _ => none }
def FnHeapValidWrongFalsely : Prop := fnHeapValidRow.holds Try.pinned (OpenSpec.ofChange fnHeapValidWrong)

/-- 'laws.FnClearAll': WHATEVER THE INPUT: true; the input reads as it did. -/
def fnClearAllSpec : ChangeSpec := { name := "fnClearAll", fn := fun _ => fun
  | [d] => { results := [.lit (.bool true)], args := [d] }
  | _ => none }
def fnClearAllRow : OpenClaim := { program := "ytfgkafbdaalkoaa", sum := "f08614490038dfdafeb6bcddd5f1831056920c15596f228b7343ceb698ab2cdb", func := "loop.example/cellcollector/laws.FnClearAll", spec := "fnClearAll", apart := false }
def FnClearAllSaid : Prop := fnClearAllRow.holds Try.pinned (OpenSpec.ofChange fnClearAllSpec)

/-- ITS FALSE NEIGHBOUR: 'it returns false'. Refute it at one input. -/
def fnClearAllWrong : ChangeSpec := { name := "fnClearAll", fn := fun _ => fun
  | [d] => { results := [.lit (.bool false)], args := [d] }
  | _ => none }
def FnClearAllWrongFalsely : Prop := fnClearAllRow.holds Try.pinned (OpenSpec.ofChange fnClearAllWrong)

/-- 'laws.FnExactHeapValid': WHATEVER THE INPUT: true; the input reads as it did. -/
def fnExactHeapValidSpec : ChangeSpec := { name := "fnExactHeapValid", fn := fun _ => fun
  | [d] => { results := [.lit (.bool true)], args := [d] }
  | _ => none }
def fnExactHeapValidRow : OpenClaim := { program := "ytfgkafbdaalkoaa", sum := "f08614490038dfdafeb6bcddd5f1831056920c15596f228b7343ceb698ab2cdb", func := "loop.example/cellcollector/laws.FnExactHeapValid", spec := "fnExactHeapValid", apart := false }
def FnExactHeapValidSaid : Prop := fnExactHeapValidRow.holds Try.pinned (OpenSpec.ofChange fnExactHeapValidSpec)

/-- ITS FALSE NEIGHBOUR: 'it returns false'. Refute it at one input. -/
def fnExactHeapValidWrong : ChangeSpec := { name := "fnExactHeapValid", fn := fun _ => fun
  | [d] => { results := [.lit (.bool false)], args := [d] }
  | _ => none }
def FnExactHeapValidWrongFalsely : Prop := fnExactHeapValidRow.holds Try.pinned (OpenSpec.ofChange fnExactHeapValidWrong)

/-- 'laws.FnExactHeapSame': WHATEVER THE INPUT: true; the input reads as it did. -/
def fnExactHeapSameSpec : ChangeSpec := { name := "fnExactHeapSame", fn := fun _ => fun
  | [d1, d2] => { results := [.lit (.bool true)], args := [d1, d2] }
  | _ => none }
def fnExactHeapSameRow : OpenClaim := { program := "ytfgkafbdaalkoaa", sum := "f08614490038dfdafeb6bcddd5f1831056920c15596f228b7343ceb698ab2cdb", func := "loop.example/cellcollector/laws.FnExactHeapSame", spec := "fnExactHeapSame", apart := false }
def FnExactHeapSameSaid : Prop := fnExactHeapSameRow.holds Try.pinned (OpenSpec.ofChange fnExactHeapSameSpec)

/-- ITS FALSE NEIGHBOUR: 'it returns false'. Refute it at one input. -/
def fnExactHeapSameWrong : ChangeSpec := { name := "fnExactHeapSame", fn := fun _ => fun
  | [d1, d2] => { results := [.lit (.bool false)], args := [d1, d2] }
  | _ => none }
def FnExactHeapSameWrongFalsely : Prop := fnExactHeapSameRow.holds Try.pinned (OpenSpec.ofChange fnExactHeapSameWrong)

/-- 'laws.FnExactPutLeft': WHATEVER THE INPUT: true; the input reads as it did. -/
def fnExactPutLeftSpec : ChangeSpec := { name := "fnExactPutLeft", fn := fun _ => fun
  | [d1, d2, d3] => { results := [.lit (.bool true)], args := [d1, d2, d3] }
  | _ => none }
def fnExactPutLeftRow : OpenClaim := { program := "ytfgkafbdaalkoaa", sum := "f08614490038dfdafeb6bcddd5f1831056920c15596f228b7343ceb698ab2cdb", func := "loop.example/cellcollector/laws.FnExactPutLeft", spec := "fnExactPutLeft", apart := false }
def FnExactPutLeftSaid : Prop := fnExactPutLeftRow.holds Try.pinned (OpenSpec.ofChange fnExactPutLeftSpec)

/-- ITS FALSE NEIGHBOUR: 'it returns false'. Refute it at one input. -/
def fnExactPutLeftWrong : ChangeSpec := { name := "fnExactPutLeft", fn := fun _ => fun
  | [d1, d2, d3] => { results := [.lit (.bool false)], args := [d1, d2, d3] }
  | _ => none }
def FnExactPutLeftWrongFalsely : Prop := fnExactPutLeftRow.holds Try.pinned (OpenSpec.ofChange fnExactPutLeftWrong)

/-- 'laws.FnExactPutRight': WHATEVER THE INPUT: true; the input reads as it did. -/
def fnExactPutRightSpec : ChangeSpec := { name := "fnExactPutRight", fn := fun _ => fun
  | [d1, d2, d3] => { results := [.lit (.bool true)], args := [d1, d2, d3] }
  | _ => none }
def fnExactPutRightRow : OpenClaim := { program := "ytfgkafbdaalkoaa", sum := "f08614490038dfdafeb6bcddd5f1831056920c15596f228b7343ceb698ab2cdb", func := "loop.example/cellcollector/laws.FnExactPutRight", spec := "fnExactPutRight", apart := false }
def FnExactPutRightSaid : Prop := fnExactPutRightRow.holds Try.pinned (OpenSpec.ofChange fnExactPutRightSpec)

/-- ITS FALSE NEIGHBOUR: 'it returns false'. Refute it at one input. -/
def fnExactPutRightWrong : ChangeSpec := { name := "fnExactPutRight", fn := fun _ => fun
  | [d1, d2, d3] => { results := [.lit (.bool false)], args := [d1, d2, d3] }
  | _ => none }
def FnExactPutRightWrongFalsely : Prop := fnExactPutRightRow.holds Try.pinned (OpenSpec.ofChange fnExactPutRightWrong)

/-- 'laws.FnExactPutRoot': WHATEVER THE INPUT: true; the input reads as it did. -/
def fnExactPutRootSpec : ChangeSpec := { name := "fnExactPutRoot", fn := fun _ => fun
  | [d1, d2, d3] => { results := [.lit (.bool true)], args := [d1, d2, d3] }
  | _ => none }
def fnExactPutRootRow : OpenClaim := { program := "ytfgkafbdaalkoaa", sum := "f08614490038dfdafeb6bcddd5f1831056920c15596f228b7343ceb698ab2cdb", func := "loop.example/cellcollector/laws.FnExactPutRoot", spec := "fnExactPutRoot", apart := false }
def FnExactPutRootSaid : Prop := fnExactPutRootRow.holds Try.pinned (OpenSpec.ofChange fnExactPutRootSpec)

/-- ITS FALSE NEIGHBOUR: 'it returns false'. Refute it at one input. -/
def fnExactPutRootWrong : ChangeSpec := { name := "fnExactPutRoot", fn := fun _ => fun
  | [d1, d2, d3] => { results := [.lit (.bool false)], args := [d1, d2, d3] }
  | _ => none }
def FnExactPutRootWrongFalsely : Prop := fnExactPutRootRow.holds Try.pinned (OpenSpec.ofChange fnExactPutRootWrong)

/-- 'laws.FnExactCountPointers': WHATEVER THE INPUT: true; the input reads as it did. -/
def fnExactCountPointersSpec : ChangeSpec := { name := "fnExactCountPointers", fn := fun _ => fun
  | [d] => { results := [.lit (.bool true)], args := [d] }
  | _ => none }
def fnExactCountPointersRow : OpenClaim := { program := "ytfgkafbdaalkoaa", sum := "f08614490038dfdafeb6bcddd5f1831056920c15596f228b7343ceb698ab2cdb", func := "loop.example/cellcollector/laws.FnExactCountPointers", spec := "fnExactCountPointers", apart := false }
def FnExactCountPointersSaid : Prop := fnExactCountPointersRow.holds Try.pinned (OpenSpec.ofChange fnExactCountPointersSpec)

/-- ITS FALSE NEIGHBOUR: 'it returns false'. Refute it at one input. -/
def fnExactCountPointersWrong : ChangeSpec := { name := "fnExactCountPointers", fn := fun _ => fun
  | [d] => { results := [.lit (.bool false)], args := [d] }
  | _ => none }
def FnExactCountPointersWrongFalsely : Prop := fnExactCountPointersRow.holds Try.pinned (OpenSpec.ofChange fnExactCountPointersWrong)

/-- 'laws.FnSourcesOf': WHATEVER THE INPUT: true; the input reads as it did. -/
def fnSourcesOfSpec : ChangeSpec := { name := "fnSourcesOf", fn := fun _ => fun
  | [d] => { results := [.lit (.bool true)], args := [d] }
  | _ => none }
def fnSourcesOfRow : OpenClaim := { program := "ytfgkafbdaalkoaa", sum := "f08614490038dfdafeb6bcddd5f1831056920c15596f228b7343ceb698ab2cdb", func := "loop.example/cellcollector/laws.FnSourcesOf", spec := "fnSourcesOf", apart := false }
def FnSourcesOfSaid : Prop := fnSourcesOfRow.holds Try.pinned (OpenSpec.ofChange fnSourcesOfSpec)

/-- ITS FALSE NEIGHBOUR: 'it returns false'. Refute it at one input. -/
def fnSourcesOfWrong : ChangeSpec := { name := "fnSourcesOf", fn := fun _ => fun
  | [d] => { results := [.lit (.bool false)], args := [d] }
  | _ => none }
def FnSourcesOfWrongFalsely : Prop := fnSourcesOfRow.holds Try.pinned (OpenSpec.ofChange fnSourcesOfWrong)

/-- 'laws.FnExactSourcesOf': WHATEVER THE INPUT: true; the input reads as it did. -/
def fnExactSourcesOfSpec : ChangeSpec := { name := "fnExactSourcesOf", fn := fun _ => fun
  | [d1, d2] => { results := [.lit (.bool true)], args := [d1, d2] }
  | _ => none }
def fnExactSourcesOfRow : OpenClaim := { program := "ytfgkafbdaalkoaa", sum := "f08614490038dfdafeb6bcddd5f1831056920c15596f228b7343ceb698ab2cdb", func := "loop.example/cellcollector/laws.FnExactSourcesOf", spec := "fnExactSourcesOf", apart := false }
def FnExactSourcesOfSaid : Prop := fnExactSourcesOfRow.holds Try.pinned (OpenSpec.ofChange fnExactSourcesOfSpec)

/-- ITS FALSE NEIGHBOUR: 'it returns false'. Refute it at one input. -/
def fnExactSourcesOfWrong : ChangeSpec := { name := "fnExactSourcesOf", fn := fun _ => fun
  | [d1, d2] => { results := [.lit (.bool false)], args := [d1, d2] }
  | _ => none }
def FnExactSourcesOfWrongFalsely : Prop := fnExactSourcesOfRow.holds Try.pinned (OpenSpec.ofChange fnExactSourcesOfWrong)

/-- 'laws.FnReachable': WHATEVER THE INPUT: true; the input reads as it did. -/
def fnReachableSpec : ChangeSpec := { name := "fnReachable", fn := fun _ => fun
  | [d] => { results := [.lit (.bool true)], args := [d] }
  | _ => none }
def fnReachableRow : OpenClaim := { program := "ytfgkafbdaalkoaa", sum := "f08614490038dfdafeb6bcddd5f1831056920c15596f228b7343ceb698ab2cdb", func := "loop.example/cellcollector/laws.FnReachable", spec := "fnReachable", apart := false }
def FnReachableSaid : Prop := fnReachableRow.holds Try.pinned (OpenSpec.ofChange fnReachableSpec)

/-- ITS FALSE NEIGHBOUR: 'it returns false'. Refute it at one input. -/
def fnReachableWrong : ChangeSpec := { name := "fnReachable", fn := fun _ => fun
  | [d] => { results := [.lit (.bool false)], args := [d] }
  | _ => none }
def FnReachableWrongFalsely : Prop := fnReachableRow.holds Try.pinned (OpenSpec.ofChange fnReachableWrong)

/- THE SECOND FORM. 'bulk': how many values and letters a reading holds, each counted each time it is reached (what is shared counts as often as it is met; a slice's spare places count too). A statement '..UptoSaid' is the law's where the arguments, and the package variables that the reading takes, are together of bulk at most 1048576: NARROWER than '..Said'. Prove '..Said' where nothing that the law and all that it calls make is longer than what came in: it says more and counts as full. Else prove '..UptoSaid'. A law counts once. -/
mutual
def uptoBulk {H : Type} : DataW H → Nat
  | .lit (.string bytes) => bytes.length + 1
  | .lit _ => 1
  | .nil => 1
  | .ptr d => uptoBulk d + 1
  | .slice elems spare => uptoBulkAll elems + uptoBulkAll spare + 1
  | .agg parts => uptoBulkAll parts + 1
  | .iface _ d => uptoBulk d + 1
  | .map entries => uptoBulkEntries entries + 1
  | .held _ => 1
def uptoBulkAll {H : Type} : List (DataW H) → Nat
  | [] => 0
  | d :: r => uptoBulk d + uptoBulkAll r
def uptoBulkEntries {H : Type} : List (Lit × DataW H) → Nat
  | [] => 0
  | x :: r => uptoBulkEntry x + uptoBulkEntries r
def uptoBulkEntry {H : Type} : Lit × DataW H → Nat
  | (.string bytes, d) => bytes.length + uptoBulk d + 1
  | (_, d) => uptoBulk d + 1
 end
def uptoSmall : (H : Type) → List (DataW H) → Bool := fun _ ds => decide (uptoBulkAll ds ≤ 1048576)
def OpenSpec.upto (s : _root_.Go.ChangeSpec) : _root_.Go.OpenSpec := { _root_.Go.OpenSpec.ofChange s with cond := some uptoSmall }

/-- 'laws.FnCountPointers', WHERE WHAT IT READS IS OF BULK AT MOST 1048576: true; the input reads as it did. -/
def fnCountPointersUptoRow : OpenClaim := { program := "ytfgkafbdaalkoaa", sum := "f08614490038dfdafeb6bcddd5f1831056920c15596f228b7343ceb698ab2cdb", func := "loop.example/cellcollector/laws.FnCountPointers", spec := "fnCountPointers", apart := false, narrowed := true }
def FnCountPointersUptoSaid : Prop := fnCountPointersUptoRow.holds Try.pinned (OpenSpec.upto fnCountPointersSpec)

/-- 'laws.FnHeapValid', WHERE WHAT IT READS IS OF BULK AT MOST 1048576: true; the input reads as it did. -/
def fnHeapValidUptoRow : OpenClaim := { program := "ytfgkafbdaalkoaa", sum := "f08614490038dfdafeb6bcddd5f1831056920c15596f228b7343ceb698ab2cdb", func := "loop.example/cellcollector/laws.FnHeapValid", spec := "fnHeapValid", apart := false, narrowed := true }
def FnHeapValidUptoSaid : Prop := fnHeapValidUptoRow.holds Try.pinned (OpenSpec.upto fnHeapValidSpec)

/-- 'laws.FnClearAll', WHERE WHAT IT READS IS OF BULK AT MOST 1048576: true; the input reads as it did. -/
def fnClearAllUptoRow : OpenClaim := { program := "ytfgkafbdaalkoaa", sum := "f08614490038dfdafeb6bcddd5f1831056920c15596f228b7343ceb698ab2cdb", func := "loop.example/cellcollector/laws.FnClearAll", spec := "fnClearAll", apart := false, narrowed := true }
def FnClearAllUptoSaid : Prop := fnClearAllUptoRow.holds Try.pinned (OpenSpec.upto fnClearAllSpec)

/-- 'laws.FnExactHeapValid', WHERE WHAT IT READS IS OF BULK AT MOST 1048576: true; the input reads as it did. -/
def fnExactHeapValidUptoRow : OpenClaim := { program := "ytfgkafbdaalkoaa", sum := "f08614490038dfdafeb6bcddd5f1831056920c15596f228b7343ceb698ab2cdb", func := "loop.example/cellcollector/laws.FnExactHeapValid", spec := "fnExactHeapValid", apart := false, narrowed := true }
def FnExactHeapValidUptoSaid : Prop := fnExactHeapValidUptoRow.holds Try.pinned (OpenSpec.upto fnExactHeapValidSpec)

/-- 'laws.FnExactHeapSame', WHERE WHAT IT READS IS OF BULK AT MOST 1048576: true; the input reads as it did. -/
def fnExactHeapSameUptoRow : OpenClaim := { program := "ytfgkafbdaalkoaa", sum := "f08614490038dfdafeb6bcddd5f1831056920c15596f228b7343ceb698ab2cdb", func := "loop.example/cellcollector/laws.FnExactHeapSame", spec := "fnExactHeapSame", apart := false, narrowed := true }
def FnExactHeapSameUptoSaid : Prop := fnExactHeapSameUptoRow.holds Try.pinned (OpenSpec.upto fnExactHeapSameSpec)

/-- 'laws.FnExactPutLeft', WHERE WHAT IT READS IS OF BULK AT MOST 1048576: true; the input reads as it did. -/
def fnExactPutLeftUptoRow : OpenClaim := { program := "ytfgkafbdaalkoaa", sum := "f08614490038dfdafeb6bcddd5f1831056920c15596f228b7343ceb698ab2cdb", func := "loop.example/cellcollector/laws.FnExactPutLeft", spec := "fnExactPutLeft", apart := false, narrowed := true }
def FnExactPutLeftUptoSaid : Prop := fnExactPutLeftUptoRow.holds Try.pinned (OpenSpec.upto fnExactPutLeftSpec)

/-- 'laws.FnExactPutRight', WHERE WHAT IT READS IS OF BULK AT MOST 1048576: true; the input reads as it did. -/
def fnExactPutRightUptoRow : OpenClaim := { program := "ytfgkafbdaalkoaa", sum := "f08614490038dfdafeb6bcddd5f1831056920c15596f228b7343ceb698ab2cdb", func := "loop.example/cellcollector/laws.FnExactPutRight", spec := "fnExactPutRight", apart := false, narrowed := true }
def FnExactPutRightUptoSaid : Prop := fnExactPutRightUptoRow.holds Try.pinned (OpenSpec.upto fnExactPutRightSpec)

/-- 'laws.FnExactPutRoot', WHERE WHAT IT READS IS OF BULK AT MOST 1048576: true; the input reads as it did. -/
def fnExactPutRootUptoRow : OpenClaim := { program := "ytfgkafbdaalkoaa", sum := "f08614490038dfdafeb6bcddd5f1831056920c15596f228b7343ceb698ab2cdb", func := "loop.example/cellcollector/laws.FnExactPutRoot", spec := "fnExactPutRoot", apart := false, narrowed := true }
def FnExactPutRootUptoSaid : Prop := fnExactPutRootUptoRow.holds Try.pinned (OpenSpec.upto fnExactPutRootSpec)

/-- 'laws.FnExactCountPointers', WHERE WHAT IT READS IS OF BULK AT MOST 1048576: true; the input reads as it did. -/
def fnExactCountPointersUptoRow : OpenClaim := { program := "ytfgkafbdaalkoaa", sum := "f08614490038dfdafeb6bcddd5f1831056920c15596f228b7343ceb698ab2cdb", func := "loop.example/cellcollector/laws.FnExactCountPointers", spec := "fnExactCountPointers", apart := false, narrowed := true }
def FnExactCountPointersUptoSaid : Prop := fnExactCountPointersUptoRow.holds Try.pinned (OpenSpec.upto fnExactCountPointersSpec)

/-- 'laws.FnSourcesOf', WHERE WHAT IT READS IS OF BULK AT MOST 1048576: true; the input reads as it did. -/
def fnSourcesOfUptoRow : OpenClaim := { program := "ytfgkafbdaalkoaa", sum := "f08614490038dfdafeb6bcddd5f1831056920c15596f228b7343ceb698ab2cdb", func := "loop.example/cellcollector/laws.FnSourcesOf", spec := "fnSourcesOf", apart := false, narrowed := true }
def FnSourcesOfUptoSaid : Prop := fnSourcesOfUptoRow.holds Try.pinned (OpenSpec.upto fnSourcesOfSpec)

/-- 'laws.FnExactSourcesOf', WHERE WHAT IT READS IS OF BULK AT MOST 1048576: true; the input reads as it did. -/
def fnExactSourcesOfUptoRow : OpenClaim := { program := "ytfgkafbdaalkoaa", sum := "f08614490038dfdafeb6bcddd5f1831056920c15596f228b7343ceb698ab2cdb", func := "loop.example/cellcollector/laws.FnExactSourcesOf", spec := "fnExactSourcesOf", apart := false, narrowed := true }
def FnExactSourcesOfUptoSaid : Prop := fnExactSourcesOfUptoRow.holds Try.pinned (OpenSpec.upto fnExactSourcesOfSpec)

/-- 'laws.FnReachable', WHERE WHAT IT READS IS OF BULK AT MOST 1048576: true; the input reads as it did. -/
def fnReachableUptoRow : OpenClaim := { program := "ytfgkafbdaalkoaa", sum := "f08614490038dfdafeb6bcddd5f1831056920c15596f228b7343ceb698ab2cdb", func := "loop.example/cellcollector/laws.FnReachable", spec := "fnReachable", apart := false, narrowed := true }
def FnReachableUptoSaid : Prop := fnReachableUptoRow.holds Try.pinned (OpenSpec.upto fnReachableSpec)

end Rows
end Go.Proofs.Ytfgkafbdaalkoaa
