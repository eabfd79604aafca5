/-
  No cell of these rows narrows 'for every input' (looked for: loops, veiled, ifaces, maps, wideKeys, modest, calm, conditions, laid).
  DERIVED. THE GIVEN ROWS OF THIS SEAT. 9 by the template 'for every input the law returns true; each argument reads behind the call as it read before'; 0 by the template 'total and deterministic' (their statements: YtapkhgpifpgleaaTotals.lean).
  GIVEN WITH THE SEED: the statements are not yours to turn. If you find one false, say at which input.
  Laid BY PROGRAM, IN A SANDBOX (cutbox-rows.mjs): the forced cells as the released guide's own fill.sh prints them over the translation 85cfa739c0253dc5… (all of the seat's roots in one cut). By AI agents, Wed Nov 11 2026. No macro, syntax, notation, axiom, sorry.
-/
import Derived.Test.YtapkhgpifpgleaaChecked
import GoSem.Claim
import GoSem.ClaimJoined
import GoSem.ClaimMapViews
import Derived.JoinedTies
import Derived.KernelRfl
namespace Go.Proofs.Ytapkhgpifpgleaa
/- THE CELL 'sum', in the pinned program and in every row, IS THE sha256 OF THE DUMP (.gsa) THAT YtapkhgpifpgleaaProg.lean LOADS. Nothing in Lean hashes anything: it is a label: what it is worth is what the hold of that sum in a sandbox is worth. -/
noncomputable def Try.pinned : Pinned := { name := "ytapkhgpifpgleaa", sum := "85cfa739c0253dc5374c425e853cd3704fa029e67103e342d89cac0eb389942e", checked := Try.checked }
namespace Rows
def none {H : Type} : Left H := { results := [], args := [] }

/-- 'laws.FnExactOrderOf': WHATEVER THE INPUT: true; the input reads as it did. -/
def fnExactOrderOfSpec : ChangeSpec := { name := "fnExactOrderOf", fn := fun _ => fun
  | [d] => { results := [.lit (.bool true)], args := [d] }
  | _ => none }
def fnExactOrderOfRow : OpenClaim := { program := "ytapkhgpifpgleaa", sum := "85cfa739c0253dc5374c425e853cd3704fa029e67103e342d89cac0eb389942e", func := "loop.example/cellcollector/laws.FnExactOrderOf", spec := "fnExactOrderOf", unfollowed := true, recurses := true, apart := false }
def FnExactOrderOfSaid : Prop := fnExactOrderOfRow.holds Try.pinned (OpenSpec.ofChange fnExactOrderOfSpec)

/-- ITS FALSE NEIGHBOUR: 'it returns false'. Refute it at one input. -/
def fnExactOrderOfWrong : ChangeSpec := { name := "fnExactOrderOf", fn := fun _ => fun
  | [d] => { results := [.lit (.bool false)], args := [d] }
  | _ => none }
def FnExactOrderOfWrongFalsely : Prop := fnExactOrderOfRow.holds Try.pinned (OpenSpec.ofChange fnExactOrderOfWrong)

/-- 'laws.FnExactCopyHeap': WHATEVER THE INPUT: true; the input reads as it did. -/
def fnExactCopyHeapSpec : ChangeSpec := { name := "fnExactCopyHeap", fn := fun _ => fun
  | [d] => { results := [.lit (.bool true)], args := [d] }
  | _ => none }
def fnExactCopyHeapRow : OpenClaim := { program := "ytapkhgpifpgleaa", sum := "85cfa739c0253dc5374c425e853cd3704fa029e67103e342d89cac0eb389942e", func := "loop.example/cellcollector/laws.FnExactCopyHeap", spec := "fnExactCopyHeap", unfollowed := true, recurses := true, apart := false }
def FnExactCopyHeapSaid : Prop := fnExactCopyHeapRow.holds Try.pinned (OpenSpec.ofChange fnExactCopyHeapSpec)

/-- ITS FALSE NEIGHBOUR: 'it returns false'. Refute it at one input. -/
def fnExactCopyHeapWrong : ChangeSpec := { name := "fnExactCopyHeap", fn := fun _ => fun
  | [d] => { results := [.lit (.bool false)], args := [d] }
  | _ => none }
def FnExactCopyHeapWrongFalsely : Prop := fnExactCopyHeapRow.holds Try.pinned (OpenSpec.ofChange fnExactCopyHeapWrong)

/-- 'laws.FnExactHeapsAlike': WHATEVER THE INPUT: true; the input reads as it did. -/
def fnExactHeapsAlikeSpec : ChangeSpec := { name := "fnExactHeapsAlike", fn := fun _ => fun
  | [d1, d2] => { results := [.lit (.bool true)], args := [d1, d2] }
  | _ => none }
def fnExactHeapsAlikeRow : OpenClaim := { program := "ytapkhgpifpgleaa", sum := "85cfa739c0253dc5374c425e853cd3704fa029e67103e342d89cac0eb389942e", func := "loop.example/cellcollector/laws.FnExactHeapsAlike", spec := "fnExactHeapsAlike", unfollowed := true, recurses := true, apart := false }
def FnExactHeapsAlikeSaid : Prop := fnExactHeapsAlikeRow.holds Try.pinned (OpenSpec.ofChange fnExactHeapsAlikeSpec)

/-- ITS FALSE NEIGHBOUR: 'it returns false'. Refute it at one input. -/
def fnExactHeapsAlikeWrong : ChangeSpec := { name := "fnExactHeapsAlike", fn := fun _ => fun
  | [d1, d2] => { results := [.lit (.bool false)], args := [d1, d2] }
  | _ => none }
def FnExactHeapsAlikeWrongFalsely : Prop := fnExactHeapsAlikeRow.holds Try.pinned (OpenSpec.ofChange fnExactHeapsAlikeWrong)

/-- 'laws.FnExactCopyStep': WHATEVER THE INPUT: true; the input reads as it did. -/
def fnExactCopyStepSpec : ChangeSpec := { name := "fnExactCopyStep", fn := fun _ => fun
  | [d1, d2, d3] => { results := [.lit (.bool true)], args := [d1, d2, d3] }
  | _ => none }
def fnExactCopyStepRow : OpenClaim := { program := "ytapkhgpifpgleaa", sum := "85cfa739c0253dc5374c425e853cd3704fa029e67103e342d89cac0eb389942e", func := "loop.example/cellcollector/laws.FnExactCopyStep", spec := "fnExactCopyStep", unfollowed := true, recurses := true, apart := false }
def FnExactCopyStepSaid : Prop := fnExactCopyStepRow.holds Try.pinned (OpenSpec.ofChange fnExactCopyStepSpec)

/-- ITS FALSE NEIGHBOUR: 'it returns false'. Refute it at one input. -/
def fnExactCopyStepWrong : ChangeSpec := { name := "fnExactCopyStep", fn := fun _ => fun
  | [d1, d2, d3] => { results := [.lit (.bool false)], args := [d1, d2, d3] }
  | _ => none }
def FnExactCopyStepWrongFalsely : Prop := fnExactCopyStepRow.holds Try.pinned (OpenSpec.ofChange fnExactCopyStepWrong)

/-- 'laws.FnExactMoveCells': WHATEVER THE INPUT: true; the input reads as it did. -/
def fnExactMoveCellsSpec : ChangeSpec := { name := "fnExactMoveCells", fn := fun _ => fun
  | [d1, d2] => { results := [.lit (.bool true)], args := [d1, d2] }
  | _ => none }
def fnExactMoveCellsRow : OpenClaim := { program := "ytapkhgpifpgleaa", sum := "85cfa739c0253dc5374c425e853cd3704fa029e67103e342d89cac0eb389942e", func := "loop.example/cellcollector/laws.FnExactMoveCells", spec := "fnExactMoveCells", apart := false }
def FnExactMoveCellsSaid : Prop := fnExactMoveCellsRow.holds Try.pinned (OpenSpec.ofChange fnExactMoveCellsSpec)

/-- ITS FALSE NEIGHBOUR: 'it returns false'. Refute it at one input. -/
def fnExactMoveCellsWrong : ChangeSpec := { name := "fnExactMoveCells", fn := fun _ => fun
  | [d1, d2] => { results := [.lit (.bool false)], args := [d1, d2] }
  | _ => none }
def FnExactMoveCellsWrongFalsely : Prop := fnExactMoveCellsRow.holds Try.pinned (OpenSpec.ofChange fnExactMoveCellsWrong)

/-- 'laws.FnOrderRoots': WHATEVER THE INPUT: true; the input reads as it did. -/
def fnOrderRootsSpec : ChangeSpec := { name := "fnOrderRoots", fn := fun _ => fun
  | [d] => { results := [.lit (.bool true)], args := [d] }
  | _ => none }
def fnOrderRootsRow : OpenClaim := { program := "ytapkhgpifpgleaa", sum := "85cfa739c0253dc5374c425e853cd3704fa029e67103e342d89cac0eb389942e", func := "loop.example/cellcollector/laws.FnOrderRoots", spec := "fnOrderRoots", unfollowed := true, recurses := true, apart := false }
def FnOrderRootsSaid : Prop := fnOrderRootsRow.holds Try.pinned (OpenSpec.ofChange fnOrderRootsSpec)

/-- ITS FALSE NEIGHBOUR: 'it returns false'. Refute it at one input. -/
def fnOrderRootsWrong : ChangeSpec := { name := "fnOrderRoots", fn := fun _ => fun
  | [d] => { results := [.lit (.bool false)], args := [d] }
  | _ => none }
def FnOrderRootsWrongFalsely : Prop := fnOrderRootsRow.holds Try.pinned (OpenSpec.ofChange fnOrderRootsWrong)

/-- 'laws.FnCopyStep': WHATEVER THE INPUT: true; the input reads as it did. -/
def fnCopyStepSpec : ChangeSpec := { name := "fnCopyStep", fn := fun _ => fun
  | [d] => { results := [.lit (.bool true)], args := [d] }
  | _ => none }
def fnCopyStepRow : OpenClaim := { program := "ytapkhgpifpgleaa", sum := "85cfa739c0253dc5374c425e853cd3704fa029e67103e342d89cac0eb389942e", func := "loop.example/cellcollector/laws.FnCopyStep", spec := "fnCopyStep", unfollowed := true, recurses := true, apart := false }
def FnCopyStepSaid : Prop := fnCopyStepRow.holds Try.pinned (OpenSpec.ofChange fnCopyStepSpec)

/-- ITS FALSE NEIGHBOUR: 'it returns false'. Refute it at one input. -/
def fnCopyStepWrong : ChangeSpec := { name := "fnCopyStep", fn := fun _ => fun
  | [d] => { results := [.lit (.bool false)], args := [d] }
  | _ => none }
def FnCopyStepWrongFalsely : Prop := fnCopyStepRow.holds Try.pinned (OpenSpec.ofChange fnCopyStepWrong)

/-- 'laws.FnStepMeets': WHATEVER THE INPUT: true; the input reads as it did. -/
def fnStepMeetsSpec : ChangeSpec := { name := "fnStepMeets", fn := fun _ => fun
  | [d] => { results := [.lit (.bool true)], args := [d] }
  | _ => none }
def fnStepMeetsRow : OpenClaim := { program := "ytapkhgpifpgleaa", sum := "85cfa739c0253dc5374c425e853cd3704fa029e67103e342d89cac0eb389942e", func := "loop.example/cellcollector/laws.FnStepMeets", spec := "fnStepMeets", unfollowed := true, recurses := true, apart := false }
def FnStepMeetsSaid : Prop := fnStepMeetsRow.holds Try.pinned (OpenSpec.ofChange fnStepMeetsSpec)

/-- ITS FALSE NEIGHBOUR: 'it returns false'. Refute it at one input. -/
def fnStepMeetsWrong : ChangeSpec := { name := "fnStepMeets", fn := fun _ => fun
  | [d] => { results := [.lit (.bool false)], args := [d] }
  | _ => none }
def FnStepMeetsWrongFalsely : Prop := fnStepMeetsRow.holds Try.pinned (OpenSpec.ofChange fnStepMeetsWrong)

/-- 'laws.FnOrderOf': WHATEVER THE INPUT: true; the input reads as it did. -/
def fnOrderOfSpec : ChangeSpec := { name := "fnOrderOf", fn := fun _ => fun
  | [d] => { results := [.lit (.bool true)], args := [d] }
  | _ => none }
def fnOrderOfRow : OpenClaim := { program := "ytapkhgpifpgleaa", sum := "85cfa739c0253dc5374c425e853cd3704fa029e67103e342d89cac0eb389942e", func := "loop.example/cellcollector/laws.FnOrderOf", spec := "fnOrderOf", unfollowed := true, recurses := true, apart := false }
def FnOrderOfSaid : Prop := fnOrderOfRow.holds Try.pinned (OpenSpec.ofChange fnOrderOfSpec)

/-- ITS FALSE NEIGHBOUR: 'it returns false'. Refute it at one input. -/
def fnOrderOfWrong : ChangeSpec := { name := "fnOrderOf", fn := fun _ => fun
  | [d] => { results := [.lit (.bool false)], args := [d] }
  | _ => none }
def FnOrderOfWrongFalsely : Prop := fnOrderOfRow.holds Try.pinned (OpenSpec.ofChange fnOrderOfWrong)

/- THE SECOND FORM. 'bulk': how many values and letters a reading holds, each counted each time it is reached (what is shared counts as often as it is met; a slice's spare places count too). A statement '..UptoSaid' is the law's where the arguments, and the package variables that the reading takes, are together of bulk at most 1048576: NARROWER than '..Said'. Prove '..Said' where nothing that the law and all that it calls make is longer than what came in: it says more and counts as full. Else prove '..UptoSaid'. A law counts once. -/
mutual
def uptoBulk {H : Type} : DataW H → Nat
  | .lit (.string bytes) => bytes.length + 1
  | .lit _ => 1
  | .nil => 1
  | .ptr d => uptoBulk d + 1
  | .slice elems spare => uptoBulkAll elems + uptoBulkAll spare + 1
  | .agg parts => uptoBulkAll parts + 1
  | .iface _ d => uptoBulk d + 1
  | .map entries => uptoBulkEntries entries + 1
  | .held _ => 1
def uptoBulkAll {H : Type} : List (DataW H) → Nat
  | [] => 0
  | d :: r => uptoBulk d + uptoBulkAll r
def uptoBulkEntries {H : Type} : List (Lit × DataW H) → Nat
  | [] => 0
  | x :: r => uptoBulkEntry x + uptoBulkEntries r
def uptoBulkEntry {H : Type} : Lit × DataW H → Nat
  | (.string bytes, d) => bytes.length + uptoBulk d + 1
  | (_, d) => uptoBulk d + 1
 end
def uptoSmall : (H : Type) → List (DataW H) → Bool := fun _ ds => decide (uptoBulkAll ds ≤ 1048576)
def OpenSpec.upto (s : _root_.Go.ChangeSpec) : _root_.Go.OpenSpec := { _root_.Go.OpenSpec.ofChange s with cond := some uptoSmall }

/-- 'laws.FnExactOrderOf', WHERE WHAT IT READS IS OF BULK AT MOST 1048576: true; the input reads as it did. -/
def fnExactOrderOfUptoRow : OpenClaim := { program := "ytapkhgpifpgleaa", sum := "85cfa739c0253dc5374c425e853cd3704fa029e67103e342d89cac0eb389942e", func := "loop.example/cellcollector/laws.FnExactOrderOf", spec := "fnExactOrderOf", unfollowed := true, recurses := true, apart := false, narrowed := true }
def FnExactOrderOfUptoSaid : Prop := fnExactOrderOfUptoRow.holds Try.pinned (OpenSpec.upto fnExactOrderOfSpec)

/-- 'laws.FnExactCopyHeap', WHERE WHAT IT READS IS OF BULK AT MOST 1048576: true; the input reads as it did. -/
def fnExactCopyHeapUptoRow : OpenClaim := { program := "ytapkhgpifpgleaa", sum := "85cfa739c0253dc5374c425e853cd3704fa029e67103e342d89cac0eb389942e", func := "loop.example/cellcollector/laws.FnExactCopyHeap", spec := "fnExactCopyHeap", unfollowed := true, recurses := true, apart := false, narrowed := true }
def FnExactCopyHeapUptoSaid : Prop := fnExactCopyHeapUptoRow.holds Try.pinned (OpenSpec.upto fnExactCopyHeapSpec)

/-- 'laws.FnExactHeapsAlike', WHERE WHAT IT READS IS OF BULK AT MOST 1048576: true; the input reads as it did. -/
def fnExactHeapsAlikeUptoRow : OpenClaim := { program := "ytapkhgpifpgleaa", sum := "85cfa739c0253dc5374c425e853cd3704fa029e67103e342d89cac0eb389942e", func := "loop.example/cellcollector/laws.FnExactHeapsAlike", spec := "fnExactHeapsAlike", unfollowed := true, recurses := true, apart := false, narrowed := true }
def FnExactHeapsAlikeUptoSaid : Prop := fnExactHeapsAlikeUptoRow.holds Try.pinned (OpenSpec.upto fnExactHeapsAlikeSpec)

/-- 'laws.FnExactCopyStep', WHERE WHAT IT READS IS OF BULK AT MOST 1048576: true; the input reads as it did. -/
def fnExactCopyStepUptoRow : OpenClaim := { program := "ytapkhgpifpgleaa", sum := "85cfa739c0253dc5374c425e853cd3704fa029e67103e342d89cac0eb389942e", func := "loop.example/cellcollector/laws.FnExactCopyStep", spec := "fnExactCopyStep", unfollowed := true, recurses := true, apart := false, narrowed := true }
def FnExactCopyStepUptoSaid : Prop := fnExactCopyStepUptoRow.holds Try.pinned (OpenSpec.upto fnExactCopyStepSpec)

/-- 'laws.FnExactMoveCells', WHERE WHAT IT READS IS OF BULK AT MOST 1048576: true; the input reads as it did. -/
def fnExactMoveCellsUptoRow : OpenClaim := { program := "ytapkhgpifpgleaa", sum := "85cfa739c0253dc5374c425e853cd3704fa029e67103e342d89cac0eb389942e", func := "loop.example/cellcollector/laws.FnExactMoveCells", spec := "fnExactMoveCells", apart := false, narrowed := true }
def FnExactMoveCellsUptoSaid : Prop := fnExactMoveCellsUptoRow.holds Try.pinned (OpenSpec.upto fnExactMoveCellsSpec)

/-- 'laws.FnOrderRoots', WHERE WHAT IT READS IS OF BULK AT MOST 1048576: true; the input reads as it did. -/
def fnOrderRootsUptoRow : OpenClaim := { program := "ytapkhgpifpgleaa", sum := "85cfa739c0253dc5374c425e853cd3704fa029e67103e342d89cac0eb389942e", func := "loop.example/cellcollector/laws.FnOrderRoots", spec := "fnOrderRoots", unfollowed := true, recurses := true, apart := false, narrowed := true }
def FnOrderRootsUptoSaid : Prop := fnOrderRootsUptoRow.holds Try.pinned (OpenSpec.upto fnOrderRootsSpec)

/-- 'laws.FnCopyStep', WHERE WHAT IT READS IS OF BULK AT MOST 1048576: true; the input reads as it did. -/
def fnCopyStepUptoRow : OpenClaim := { program := "ytapkhgpifpgleaa", sum := "85cfa739c0253dc5374c425e853cd3704fa029e67103e342d89cac0eb389942e", func := "loop.example/cellcollector/laws.FnCopyStep", spec := "fnCopyStep", unfollowed := true, recurses := true, apart := false, narrowed := true }
def FnCopyStepUptoSaid : Prop := fnCopyStepUptoRow.holds Try.pinned (OpenSpec.upto fnCopyStepSpec)

/-- 'laws.FnStepMeets', WHERE WHAT IT READS IS OF BULK AT MOST 1048576: true; the input reads as it did. -/
def fnStepMeetsUptoRow : OpenClaim := { program := "ytapkhgpifpgleaa", sum := "85cfa739c0253dc5374c425e853cd3704fa029e67103e342d89cac0eb389942e", func := "loop.example/cellcollector/laws.FnStepMeets", spec := "fnStepMeets", unfollowed := true, recurses := true, apart := false, narrowed := true }
def FnStepMeetsUptoSaid : Prop := fnStepMeetsUptoRow.holds Try.pinned (OpenSpec.upto fnStepMeetsSpec)

/-- 'laws.FnOrderOf', WHERE WHAT IT READS IS OF BULK AT MOST 1048576: true; the input reads as it did. -/
def fnOrderOfUptoRow : OpenClaim := { program := "ytapkhgpifpgleaa", sum := "85cfa739c0253dc5374c425e853cd3704fa029e67103e342d89cac0eb389942e", func := "loop.example/cellcollector/laws.FnOrderOf", spec := "fnOrderOf", unfollowed := true, recurses := true, apart := false, narrowed := true }
def FnOrderOfUptoSaid : Prop := fnOrderOfUptoRow.holds Try.pinned (OpenSpec.upto fnOrderOfSpec)

end Rows
end Go.Proofs.Ytapkhgpifpgleaa
