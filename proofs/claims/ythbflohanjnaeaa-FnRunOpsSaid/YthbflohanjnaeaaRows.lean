/-
  No cell of these rows narrows 'for every input' (looked for: loops, veiled, ifaces, maps, wideKeys, modest, calm, conditions, laid).
  DERIVED. THE GIVEN ROWS OF THIS SEAT. 10 by the template 'for every input the law returns true; each argument reads behind the call as it read before'; 0 by the template 'total and deterministic' (their statements: YthbflohanjnaeaaTotals.lean).
  GIVEN WITH THE SEED: the statements are not yours to turn. If you find one false, say at which input.
  Laid BY PROGRAM, IN A SANDBOX (cutbox-rows.mjs): the forced cells as the released guide's own fill.sh prints them over the translation 5550810c07dbae8e… (all of the seat's roots in one cut). By AI agents, Wed Nov 11 2026. No macro, syntax, notation, axiom, sorry.
-/
import Derived.Test.YthbflohanjnaeaaChecked
import GoSem.Claim
import GoSem.ClaimJoined
import GoSem.ClaimMapViews
import Derived.JoinedTies
import Derived.KernelRfl
namespace Go.Proofs.Ythbflohanjnaeaa
/- THE CELL 'sum', in the pinned program and in every row, IS THE sha256 OF THE DUMP (.gsa) THAT YthbflohanjnaeaaProg.lean LOADS. Nothing in Lean hashes anything: it is a label: what it is worth is what the hold of that sum in a sandbox is worth. -/
noncomputable def Try.pinned : Pinned := { name := "ythbflohanjnaeaa", sum := "5550810c07dbae8edf9019e6ac759b11e90a34e72b71d707cb6c5515ab2f67ef", checked := Try.checked }
namespace Rows
def none {H : Type} : Left H := { results := [], args := [] }

/-- 'laws.FnRunOp': WHATEVER THE INPUT: true; the input reads as it did. -/
def fnRunOpSpec : ChangeSpec := { name := "fnRunOp", fn := fun _ => fun
  | [d] => { results := [.lit (.bool true)], args := [d] }
  | _ => none }
def fnRunOpRow : OpenClaim := { program := "ythbflohanjnaeaa", sum := "5550810c07dbae8edf9019e6ac759b11e90a34e72b71d707cb6c5515ab2f67ef", func := "loop.example/cellcollector/laws.FnRunOp", spec := "fnRunOp", unfollowed := true, recurses := true, apart := false }
def FnRunOpSaid : Prop := fnRunOpRow.holds Try.pinned (OpenSpec.ofChange fnRunOpSpec)

/-- ITS FALSE NEIGHBOUR: 'it returns false'. Refute it at one input. -/
def fnRunOpWrong : ChangeSpec := { name := "fnRunOp", fn := fun _ => fun
  | [d] => { results := [.lit (.bool false)], args := [d] }
  | _ => none }
def FnRunOpWrongFalsely : Prop := fnRunOpRow.holds Try.pinned (OpenSpec.ofChange fnRunOpWrong)

/-- 'laws.FnRunLive': WHATEVER THE INPUT: true; the input reads as it did. -/
def fnRunLiveSpec : ChangeSpec := { name := "fnRunLive", fn := fun _ => fun
  | [d] => { results := [.lit (.bool true)], args := [d] }
  | _ => none }
def fnRunLiveRow : OpenClaim := { program := "ythbflohanjnaeaa", sum := "5550810c07dbae8edf9019e6ac759b11e90a34e72b71d707cb6c5515ab2f67ef", func := "loop.example/cellcollector/laws.FnRunLive", spec := "fnRunLive", unfollowed := true, recurses := true, apart := false }
def FnRunLiveSaid : Prop := fnRunLiveRow.holds Try.pinned (OpenSpec.ofChange fnRunLiveSpec)

/-- ITS FALSE NEIGHBOUR: 'it returns false'. Refute it at one input. -/
def fnRunLiveWrong : ChangeSpec := { name := "fnRunLive", fn := fun _ => fun
  | [d] => { results := [.lit (.bool false)], args := [d] }
  | _ => none }
def FnRunLiveWrongFalsely : Prop := fnRunLiveRow.holds Try.pinned (OpenSpec.ofChange fnRunLiveWrong)

/-- 'laws.FnTargetOf': WHATEVER THE INPUT: true; the input reads as it did. -/
def fnTargetOfSpec : ChangeSpec := { name := "fnTargetOf", fn := fun _ => fun
  | [d] => { results := [.lit (.bool true)], args := [d] }
  | _ => none }
def fnTargetOfRow : OpenClaim := { program := "ythbflohanjnaeaa", sum := "5550810c07dbae8edf9019e6ac759b11e90a34e72b71d707cb6c5515ab2f67ef", func := "loop.example/cellcollector/laws.FnTargetOf", spec := "fnTargetOf", unfollowed := true, recurses := true, apart := false }
def FnTargetOfSaid : Prop := fnTargetOfRow.holds Try.pinned (OpenSpec.ofChange fnTargetOfSpec)

/-- ITS FALSE NEIGHBOUR: 'it returns false'. Refute it at one input. -/
def fnTargetOfWrong : ChangeSpec := { name := "fnTargetOf", fn := fun _ => fun
  | [d] => { results := [.lit (.bool false)], args := [d] }
  | _ => none }
def FnTargetOfWrongFalsely : Prop := fnTargetOfRow.holds Try.pinned (OpenSpec.ofChange fnTargetOfWrong)

/-- 'laws.FnRunNew': WHATEVER THE INPUT: true; the input reads as it did. -/
def fnRunNewSpec : ChangeSpec := { name := "fnRunNew", fn := fun _ => fun
  | [d] => { results := [.lit (.bool true)], args := [d] }
  | _ => none }
def fnRunNewRow : OpenClaim := { program := "ythbflohanjnaeaa", sum := "5550810c07dbae8edf9019e6ac759b11e90a34e72b71d707cb6c5515ab2f67ef", func := "loop.example/cellcollector/laws.FnRunNew", spec := "fnRunNew", unfollowed := true, recurses := true, apart := false }
def FnRunNewSaid : Prop := fnRunNewRow.holds Try.pinned (OpenSpec.ofChange fnRunNewSpec)

/-- ITS FALSE NEIGHBOUR: 'it returns false'. Refute it at one input. -/
def fnRunNewWrong : ChangeSpec := { name := "fnRunNew", fn := fun _ => fun
  | [d] => { results := [.lit (.bool false)], args := [d] }
  | _ => none }
def FnRunNewWrongFalsely : Prop := fnRunNewRow.holds Try.pinned (OpenSpec.ofChange fnRunNewWrong)

/-- 'laws.FnRunCopy': WHATEVER THE INPUT: true; the input reads as it did. -/
def fnRunCopySpec : ChangeSpec := { name := "fnRunCopy", fn := fun _ => fun
  | [d] => { results := [.lit (.bool true)], args := [d] }
  | _ => none }
def fnRunCopyRow : OpenClaim := { program := "ythbflohanjnaeaa", sum := "5550810c07dbae8edf9019e6ac759b11e90a34e72b71d707cb6c5515ab2f67ef", func := "loop.example/cellcollector/laws.FnRunCopy", spec := "fnRunCopy", unfollowed := true, recurses := true, apart := false }
def FnRunCopySaid : Prop := fnRunCopyRow.holds Try.pinned (OpenSpec.ofChange fnRunCopySpec)

/-- ITS FALSE NEIGHBOUR: 'it returns false'. Refute it at one input. -/
def fnRunCopyWrong : ChangeSpec := { name := "fnRunCopy", fn := fun _ => fun
  | [d] => { results := [.lit (.bool false)], args := [d] }
  | _ => none }
def FnRunCopyWrongFalsely : Prop := fnRunCopyRow.holds Try.pinned (OpenSpec.ofChange fnRunCopyWrong)

/-- 'laws.FnRunPutGet': WHATEVER THE INPUT: true; the input reads as it did. -/
def fnRunPutGetSpec : ChangeSpec := { name := "fnRunPutGet", fn := fun _ => fun
  | [d] => { results := [.lit (.bool true)], args := [d] }
  | _ => none }
def fnRunPutGetRow : OpenClaim := { program := "ythbflohanjnaeaa", sum := "5550810c07dbae8edf9019e6ac759b11e90a34e72b71d707cb6c5515ab2f67ef", func := "loop.example/cellcollector/laws.FnRunPutGet", spec := "fnRunPutGet", unfollowed := true, recurses := true, apart := false }
def FnRunPutGetSaid : Prop := fnRunPutGetRow.holds Try.pinned (OpenSpec.ofChange fnRunPutGetSpec)

/-- ITS FALSE NEIGHBOUR: 'it returns false'. Refute it at one input. -/
def fnRunPutGetWrong : ChangeSpec := { name := "fnRunPutGet", fn := fun _ => fun
  | [d] => { results := [.lit (.bool false)], args := [d] }
  | _ => none }
def FnRunPutGetWrongFalsely : Prop := fnRunPutGetRow.holds Try.pinned (OpenSpec.ofChange fnRunPutGetWrong)

/-- 'laws.FnClearOp': WHATEVER THE INPUT: true; the input reads as it did. -/
def fnClearOpSpec : ChangeSpec := { name := "fnClearOp", fn := fun _ => fun
  | [d] => { results := [.lit (.bool true)], args := [d] }
  | _ => none }
def fnClearOpRow : OpenClaim := { program := "ythbflohanjnaeaa", sum := "5550810c07dbae8edf9019e6ac759b11e90a34e72b71d707cb6c5515ab2f67ef", func := "loop.example/cellcollector/laws.FnClearOp", spec := "fnClearOp", unfollowed := true, recurses := true, apart := false }
def FnClearOpSaid : Prop := fnClearOpRow.holds Try.pinned (OpenSpec.ofChange fnClearOpSpec)

/-- ITS FALSE NEIGHBOUR: 'it returns false'. Refute it at one input. -/
def fnClearOpWrong : ChangeSpec := { name := "fnClearOp", fn := fun _ => fun
  | [d] => { results := [.lit (.bool false)], args := [d] }
  | _ => none }
def FnClearOpWrongFalsely : Prop := fnClearOpRow.holds Try.pinned (OpenSpec.ofChange fnClearOpWrong)

/-- 'laws.FnRunPointers': WHATEVER THE INPUT: true; the input reads as it did. -/
def fnRunPointersSpec : ChangeSpec := { name := "fnRunPointers", fn := fun _ => fun
  | [d] => { results := [.lit (.bool true)], args := [d] }
  | _ => none }
def fnRunPointersRow : OpenClaim := { program := "ythbflohanjnaeaa", sum := "5550810c07dbae8edf9019e6ac759b11e90a34e72b71d707cb6c5515ab2f67ef", func := "loop.example/cellcollector/laws.FnRunPointers", spec := "fnRunPointers", unfollowed := true, recurses := true, apart := false }
def FnRunPointersSaid : Prop := fnRunPointersRow.holds Try.pinned (OpenSpec.ofChange fnRunPointersSpec)

/-- ITS FALSE NEIGHBOUR: 'it returns false'. Refute it at one input. -/
def fnRunPointersWrong : ChangeSpec := { name := "fnRunPointers", fn := fun _ => fun
  | [d] => { results := [.lit (.bool false)], args := [d] }
  | _ => none }
def FnRunPointersWrongFalsely : Prop := fnRunPointersRow.holds Try.pinned (OpenSpec.ofChange fnRunPointersWrong)

/-- 'laws.FnRunOps': WHATEVER THE INPUT: true; the input reads as it did. -/
def fnRunOpsSpec : ChangeSpec := { name := "fnRunOps", fn := fun _ => fun
  | [d] => { results := [.lit (.bool true)], args := [d] }
  | _ => none }
def fnRunOpsRow : OpenClaim := { program := "ythbflohanjnaeaa", sum := "5550810c07dbae8edf9019e6ac759b11e90a34e72b71d707cb6c5515ab2f67ef", func := "loop.example/cellcollector/laws.FnRunOps", spec := "fnRunOps", unfollowed := true, recurses := true, apart := false }
def FnRunOpsSaid : Prop := fnRunOpsRow.holds Try.pinned (OpenSpec.ofChange fnRunOpsSpec)

/-- ITS FALSE NEIGHBOUR: 'it returns false'. Refute it at one input. -/
def fnRunOpsWrong : ChangeSpec := { name := "fnRunOps", fn := fun _ => fun
  | [d] => { results := [.lit (.bool false)], args := [d] }
  | _ => none }
def FnRunOpsWrongFalsely : Prop := fnRunOpsRow.holds Try.pinned (OpenSpec.ofChange fnRunOpsWrong)

/-- 'laws.FnOpsParts': WHATEVER THE INPUT: true; the input reads as it did. -/
def fnOpsPartsSpec : ChangeSpec := { name := "fnOpsParts", fn := fun _ => fun
  | [d] => { results := [.lit (.bool true)], args := [d] }
  | _ => none }
def fnOpsPartsRow : OpenClaim := { program := "ythbflohanjnaeaa", sum := "5550810c07dbae8edf9019e6ac759b11e90a34e72b71d707cb6c5515ab2f67ef", func := "loop.example/cellcollector/laws.FnOpsParts", spec := "fnOpsParts", unfollowed := true, recurses := true, apart := false }
def FnOpsPartsSaid : Prop := fnOpsPartsRow.holds Try.pinned (OpenSpec.ofChange fnOpsPartsSpec)

/-- ITS FALSE NEIGHBOUR: 'it returns false'. Refute it at one input. -/
def fnOpsPartsWrong : ChangeSpec := { name := "fnOpsParts", fn := fun _ => fun
  | [d] => { results := [.lit (.bool false)], args := [d] }
  | _ => none }
def FnOpsPartsWrongFalsely : Prop := fnOpsPartsRow.holds Try.pinned (OpenSpec.ofChange fnOpsPartsWrong)

/- THE SECOND FORM. 'bulk': how many values and letters a reading holds, each counted each time it is reached (what is shared counts as often as it is met; a slice's spare places count too). A statement '..UptoSaid' is the law's where the arguments, and the package variables that the reading takes, are together of bulk at most 1048576: NARROWER than '..Said'. Prove '..Said' where nothing that the law and all that it calls make is longer than what came in: it says more and counts as full. Else prove '..UptoSaid'. A law counts once. -/
mutual
def uptoBulk {H : Type} : DataW H → Nat
  | .lit (.string bytes) => bytes.length + 1
  | .lit _ => 1
  | .nil => 1
  | .ptr d => uptoBulk d + 1
  | .slice elems spare => uptoBulkAll elems + uptoBulkAll spare + 1
  | .agg parts => uptoBulkAll parts + 1
  | .iface _ d => uptoBulk d + 1
  | .map entries => uptoBulkEntries entries + 1
  | .held _ => 1
def uptoBulkAll {H : Type} : List (DataW H) → Nat
  | [] => 0
  | d :: r => uptoBulk d + uptoBulkAll r
def uptoBulkEntries {H : Type} : List (Lit × DataW H) → Nat
  | [] => 0
  | x :: r => uptoBulkEntry x + uptoBulkEntries r
def uptoBulkEntry {H : Type} : Lit × DataW H → Nat
  | (.string bytes, d) => bytes.length + uptoBulk d + 1
  | (_, d) => uptoBulk d + 1
 end
def uptoSmall : (H : Type) → List (DataW H) → Bool := fun _ ds => decide (uptoBulkAll ds ≤ 1048576)
def OpenSpec.upto (s : _root_.Go.ChangeSpec) : _root_.Go.OpenSpec := { _root_.Go.OpenSpec.ofChange s with cond := some uptoSmall }

/-- 'laws.FnRunOp', WHERE WHAT IT READS IS OF BULK AT MOST 1048576: true; the input reads as it did. -/
def fnRunOpUptoRow : OpenClaim := { program := "ythbflohanjnaeaa", sum := "5550810c07dbae8edf9019e6ac759b11e90a34e72b71d707cb6c5515ab2f67ef", func := "loop.example/cellcollector/laws.FnRunOp", spec := "fnRunOp", unfollowed := true, recurses := true, apart := false, narrowed := true }
def FnRunOpUptoSaid : Prop := fnRunOpUptoRow.holds Try.pinned (OpenSpec.upto fnRunOpSpec)

/-- 'laws.FnRunLive', WHERE WHAT IT READS IS OF BULK AT MOST 1048576: true; the input reads as it did. -/
def fnRunLiveUptoRow : OpenClaim := { program := "ythbflohanjnaeaa", sum := "5550810c07dbae8edf9019e6ac759b11e90a34e72b71d707cb6c5515ab2f67ef", func := "loop.example/cellcollector/laws.FnRunLive", spec := "fnRunLive", unfollowed := true, recurses := true, apart := false, narrowed := true }
def FnRunLiveUptoSaid : Prop := fnRunLiveUptoRow.holds Try.pinned (OpenSpec.upto fnRunLiveSpec)

/-- 'laws.FnTargetOf', WHERE WHAT IT READS IS OF BULK AT MOST 1048576: true; the input reads as it did. -/
def fnTargetOfUptoRow : OpenClaim := { program := "ythbflohanjnaeaa", sum := "5550810c07dbae8edf9019e6ac759b11e90a34e72b71d707cb6c5515ab2f67ef", func := "loop.example/cellcollector/laws.FnTargetOf", spec := "fnTargetOf", unfollowed := true, recurses := true, apart := false, narrowed := true }
def FnTargetOfUptoSaid : Prop := fnTargetOfUptoRow.holds Try.pinned (OpenSpec.upto fnTargetOfSpec)

/-- 'laws.FnRunNew', WHERE WHAT IT READS IS OF BULK AT MOST 1048576: true; the input reads as it did. -/
def fnRunNewUptoRow : OpenClaim := { program := "ythbflohanjnaeaa", sum := "5550810c07dbae8edf9019e6ac759b11e90a34e72b71d707cb6c5515ab2f67ef", func := "loop.example/cellcollector/laws.FnRunNew", spec := "fnRunNew", unfollowed := true, recurses := true, apart := false, narrowed := true }
def FnRunNewUptoSaid : Prop := fnRunNewUptoRow.holds Try.pinned (OpenSpec.upto fnRunNewSpec)

/-- 'laws.FnRunCopy', WHERE WHAT IT READS IS OF BULK AT MOST 1048576: true; the input reads as it did. -/
def fnRunCopyUptoRow : OpenClaim := { program := "ythbflohanjnaeaa", sum := "5550810c07dbae8edf9019e6ac759b11e90a34e72b71d707cb6c5515ab2f67ef", func := "loop.example/cellcollector/laws.FnRunCopy", spec := "fnRunCopy", unfollowed := true, recurses := true, apart := false, narrowed := true }
def FnRunCopyUptoSaid : Prop := fnRunCopyUptoRow.holds Try.pinned (OpenSpec.upto fnRunCopySpec)

/-- 'laws.FnRunPutGet', WHERE WHAT IT READS IS OF BULK AT MOST 1048576: true; the input reads as it did. -/
def fnRunPutGetUptoRow : OpenClaim := { program := "ythbflohanjnaeaa", sum := "5550810c07dbae8edf9019e6ac759b11e90a34e72b71d707cb6c5515ab2f67ef", func := "loop.example/cellcollector/laws.FnRunPutGet", spec := "fnRunPutGet", unfollowed := true, recurses := true, apart := false, narrowed := true }
def FnRunPutGetUptoSaid : Prop := fnRunPutGetUptoRow.holds Try.pinned (OpenSpec.upto fnRunPutGetSpec)

/-- 'laws.FnClearOp', WHERE WHAT IT READS IS OF BULK AT MOST 1048576: true; the input reads as it did. -/
def fnClearOpUptoRow : OpenClaim := { program := "ythbflohanjnaeaa", sum := "5550810c07dbae8edf9019e6ac759b11e90a34e72b71d707cb6c5515ab2f67ef", func := "loop.example/cellcollector/laws.FnClearOp", spec := "fnClearOp", unfollowed := true, recurses := true, apart := false, narrowed := true }
def FnClearOpUptoSaid : Prop := fnClearOpUptoRow.holds Try.pinned (OpenSpec.upto fnClearOpSpec)

/-- 'laws.FnRunPointers', WHERE WHAT IT READS IS OF BULK AT MOST 1048576: true; the input reads as it did. -/
def fnRunPointersUptoRow : OpenClaim := { program := "ythbflohanjnaeaa", sum := "5550810c07dbae8edf9019e6ac759b11e90a34e72b71d707cb6c5515ab2f67ef", func := "loop.example/cellcollector/laws.FnRunPointers", spec := "fnRunPointers", unfollowed := true, recurses := true, apart := false, narrowed := true }
def FnRunPointersUptoSaid : Prop := fnRunPointersUptoRow.holds Try.pinned (OpenSpec.upto fnRunPointersSpec)

/-- 'laws.FnRunOps', WHERE WHAT IT READS IS OF BULK AT MOST 1048576: true; the input reads as it did. -/
def fnRunOpsUptoRow : OpenClaim := { program := "ythbflohanjnaeaa", sum := "5550810c07dbae8edf9019e6ac759b11e90a34e72b71d707cb6c5515ab2f67ef", func := "loop.example/cellcollector/laws.FnRunOps", spec := "fnRunOps", unfollowed := true, recurses := true, apart := false, narrowed := true }
def FnRunOpsUptoSaid : Prop := fnRunOpsUptoRow.holds Try.pinned (OpenSpec.upto fnRunOpsSpec)

/-- 'laws.FnOpsParts', WHERE WHAT IT READS IS OF BULK AT MOST 1048576: true; the input reads as it did. -/
def fnOpsPartsUptoRow : OpenClaim := { program := "ythbflohanjnaeaa", sum := "5550810c07dbae8edf9019e6ac759b11e90a34e72b71d707cb6c5515ab2f67ef", func := "loop.example/cellcollector/laws.FnOpsParts", spec := "fnOpsParts", unfollowed := true, recurses := true, apart := false, narrowed := true }
def FnOpsPartsUptoSaid : Prop := fnOpsPartsUptoRow.holds Try.pinned (OpenSpec.upto fnOpsPartsSpec)

end Rows
end Go.Proofs.Ythbflohanjnaeaa
