/-
  No cell of these rows narrows 'for every input' (looked for: loops, veiled, ifaces, maps, wideKeys, modest, calm, conditions, laid).
  DERIVED. THE GIVEN ROWS OF THIS SEAT. 12 by the template 'for every input the law returns true; each argument reads behind the call as it read before'; 0 by the template 'total and deterministic' (their statements: YtdedffdmppckiaaTotals.lean).
  GIVEN WITH THE SEED: the statements are not yours to turn. If you find one false, say at which input.
  Laid BY PROGRAM, IN A SANDBOX (cutbox-rows.mjs): the forced cells as the released guide's own fill.sh prints them over the translation aeea467944851b82… (all of the seat's roots in one cut). By AI agents, Wed Nov 11 2026. No macro, syntax, notation, axiom, sorry.
-/
import Derived.Test.YtdedffdmppckiaaChecked
import GoSem.Claim
import GoSem.ClaimJoined
import GoSem.ClaimMapViews
import Derived.JoinedTies
import Derived.KernelRfl
namespace Go.Proofs.Ytdedffdmppckiaa
/- THE CELL 'sum', in the pinned program and in every row, IS THE sha256 OF THE DUMP (.gsa) THAT YtdedffdmppckiaaProg.lean LOADS. Nothing in Lean hashes anything: it is a label: what it is worth is what the hold of that sum in a sandbox is worth. -/
noncomputable def Try.pinned : Pinned := { name := "ytdedffdmppckiaa", sum := "aeea467944851b8257bbd1850f8dea3331a8a9e53c46d39f43adfc0785300c02", checked := Try.checked }
namespace Rows
def none {H : Type} : Left H := { results := [], args := [] }

/-- 'laws.FnRunGc': WHATEVER THE INPUT: true; the input reads as it did. -/
def fnRunGcSpec : ChangeSpec := { name := "fnRunGc", fn := fun _ => fun
  | [d] => { results := [.lit (.bool true)], args := [d] }
  | _ => none }
def fnRunGcRow : OpenClaim := { program := "ytdedffdmppckiaa", sum := "aeea467944851b8257bbd1850f8dea3331a8a9e53c46d39f43adfc0785300c02", func := "loop.example/cellcollector/laws.FnRunGc", spec := "fnRunGc", unfollowed := true, recurses := true, apart := false }
def FnRunGcSaid : Prop := fnRunGcRow.holds Try.pinned (OpenSpec.ofChange fnRunGcSpec)

/-- ITS FALSE NEIGHBOUR: 'it returns false'. Refute it at one input. -/
def fnRunGcWrong : ChangeSpec := { name := "fnRunGc", fn := fun _ => fun
  | [d] => { results := [.lit (.bool false)], args := [d] }
  | _ => none }
def FnRunGcWrongFalsely : Prop := fnRunGcRow.holds Try.pinned (OpenSpec.ofChange fnRunGcWrong)

/-- 'laws.FnStepGc': WHATEVER THE INPUT: true; the input reads as it did. -/
def fnStepGcSpec : ChangeSpec := { name := "fnStepGc", fn := fun _ => fun
  | [d] => { results := [.lit (.bool true)], args := [d] }
  | _ => none }
def fnStepGcRow : OpenClaim := { program := "ytdedffdmppckiaa", sum := "aeea467944851b8257bbd1850f8dea3331a8a9e53c46d39f43adfc0785300c02", func := "loop.example/cellcollector/laws.FnStepGc", spec := "fnStepGc", unfollowed := true, recurses := true, apart := false }
def FnStepGcSaid : Prop := fnStepGcRow.holds Try.pinned (OpenSpec.ofChange fnStepGcSpec)

/-- ITS FALSE NEIGHBOUR: 'it returns false'. Refute it at one input. -/
def fnStepGcWrong : ChangeSpec := { name := "fnStepGc", fn := fun _ => fun
  | [d] => { results := [.lit (.bool false)], args := [d] }
  | _ => none }
def FnStepGcWrongFalsely : Prop := fnStepGcRow.holds Try.pinned (OpenSpec.ofChange fnStepGcWrong)

/-- 'laws.FnStepLive': WHATEVER THE INPUT: true; the input reads as it did. -/
def fnStepLiveSpec : ChangeSpec := { name := "fnStepLive", fn := fun _ => fun
  | [d] => { results := [.lit (.bool true)], args := [d] }
  | _ => none }
def fnStepLiveRow : OpenClaim := { program := "ytdedffdmppckiaa", sum := "aeea467944851b8257bbd1850f8dea3331a8a9e53c46d39f43adfc0785300c02", func := "loop.example/cellcollector/laws.FnStepLive", spec := "fnStepLive", unfollowed := true, recurses := true, apart := false }
def FnStepLiveSaid : Prop := fnStepLiveRow.holds Try.pinned (OpenSpec.ofChange fnStepLiveSpec)

/-- ITS FALSE NEIGHBOUR: 'it returns false'. Refute it at one input. -/
def fnStepLiveWrong : ChangeSpec := { name := "fnStepLive", fn := fun _ => fun
  | [d] => { results := [.lit (.bool false)], args := [d] }
  | _ => none }
def FnStepLiveWrongFalsely : Prop := fnStepLiveRow.holds Try.pinned (OpenSpec.ofChange fnStepLiveWrong)

/-- 'laws.FnColorNew': WHATEVER THE INPUT: true; the input reads as it did. -/
def fnColorNewSpec : ChangeSpec := { name := "fnColorNew", fn := fun _ => fun
  | [d] => { results := [.lit (.bool true)], args := [d] }
  | _ => none }
def fnColorNewRow : OpenClaim := { program := "ytdedffdmppckiaa", sum := "aeea467944851b8257bbd1850f8dea3331a8a9e53c46d39f43adfc0785300c02", func := "loop.example/cellcollector/laws.FnColorNew", spec := "fnColorNew", apart := false }
def FnColorNewSaid : Prop := fnColorNewRow.holds Try.pinned (OpenSpec.ofChange fnColorNewSpec)

/-- ITS FALSE NEIGHBOUR: 'it returns false'. Refute it at one input. -/
def fnColorNewWrong : ChangeSpec := { name := "fnColorNew", fn := fun _ => fun
  | [d] => { results := [.lit (.bool false)], args := [d] }
  | _ => none }
def FnColorNewWrongFalsely : Prop := fnColorNewRow.holds Try.pinned (OpenSpec.ofChange fnColorNewWrong)

/-- 'laws.FnShadeGc': WHATEVER THE INPUT: true; the input reads as it did. -/
def fnShadeGcSpec : ChangeSpec := { name := "fnShadeGc", fn := fun _ => fun
  | [d] => { results := [.lit (.bool true)], args := [d] }
  | _ => none }
def fnShadeGcRow : OpenClaim := { program := "ytdedffdmppckiaa", sum := "aeea467944851b8257bbd1850f8dea3331a8a9e53c46d39f43adfc0785300c02", func := "loop.example/cellcollector/laws.FnShadeGc", spec := "fnShadeGc", apart := false }
def FnShadeGcSaid : Prop := fnShadeGcRow.holds Try.pinned (OpenSpec.ofChange fnShadeGcSpec)

/-- ITS FALSE NEIGHBOUR: 'it returns false'. Refute it at one input. -/
def fnShadeGcWrong : ChangeSpec := { name := "fnShadeGc", fn := fun _ => fun
  | [d] => { results := [.lit (.bool false)], args := [d] }
  | _ => none }
def FnShadeGcWrongFalsely : Prop := fnShadeGcRow.holds Try.pinned (OpenSpec.ofChange fnShadeGcWrong)

/-- 'laws.FnSweptCell': WHATEVER THE INPUT: true; the input reads as it did. -/
def fnSweptCellSpec : ChangeSpec := { name := "fnSweptCell", fn := fun _ => fun
  | [d] => { results := [.lit (.bool true)], args := [d] }
  | _ => none }
def fnSweptCellRow : OpenClaim := { program := "ytdedffdmppckiaa", sum := "aeea467944851b8257bbd1850f8dea3331a8a9e53c46d39f43adfc0785300c02", func := "loop.example/cellcollector/laws.FnSweptCell", spec := "fnSweptCell", apart := false }
def FnSweptCellSaid : Prop := fnSweptCellRow.holds Try.pinned (OpenSpec.ofChange fnSweptCellSpec)

/-- ITS FALSE NEIGHBOUR: 'it returns false'. Refute it at one input. -/
def fnSweptCellWrong : ChangeSpec := { name := "fnSweptCell", fn := fun _ => fun
  | [d] => { results := [.lit (.bool false)], args := [d] }
  | _ => none }
def FnSweptCellWrongFalsely : Prop := fnSweptCellRow.holds Try.pinned (OpenSpec.ofChange fnSweptCellWrong)

/-- 'laws.FnGcSame': WHATEVER THE INPUT: true; the input reads as it did. -/
def fnGcSameSpec : ChangeSpec := { name := "fnGcSame", fn := fun _ => fun
  | [d] => { results := [.lit (.bool true)], args := [d] }
  | _ => none }
def fnGcSameRow : OpenClaim := { program := "ytdedffdmppckiaa", sum := "aeea467944851b8257bbd1850f8dea3331a8a9e53c46d39f43adfc0785300c02", func := "loop.example/cellcollector/laws.FnGcSame", spec := "fnGcSame", apart := false }
def FnGcSameSaid : Prop := fnGcSameRow.holds Try.pinned (OpenSpec.ofChange fnGcSameSpec)

/-- ITS FALSE NEIGHBOUR: 'it returns false'. Refute it at one input. -/
def fnGcSameWrong : ChangeSpec := { name := "fnGcSame", fn := fun _ => fun
  | [d] => { results := [.lit (.bool false)], args := [d] }
  | _ => none }
def FnGcSameWrongFalsely : Prop := fnGcSameRow.holds Try.pinned (OpenSpec.ofChange fnGcSameWrong)

/-- 'laws.FnGcValid': WHATEVER THE INPUT: true; the input reads as it did. -/
def fnGcValidSpec : ChangeSpec := { name := "fnGcValid", fn := fun _ => fun
  | [d] => { results := [.lit (.bool true)], args := [d] }
  | _ => none }
def fnGcValidRow : OpenClaim := { program := "ytdedffdmppckiaa", sum := "aeea467944851b8257bbd1850f8dea3331a8a9e53c46d39f43adfc0785300c02", func := "loop.example/cellcollector/laws.FnGcValid", spec := "fnGcValid", unfollowed := true, recurses := true, apart := false }
def FnGcValidSaid : Prop := fnGcValidRow.holds Try.pinned (OpenSpec.ofChange fnGcValidSpec)

/-- ITS FALSE NEIGHBOUR: 'it returns false'. Refute it at one input. -/
def fnGcValidWrong : ChangeSpec := { name := "fnGcValid", fn := fun _ => fun
  | [d] => { results := [.lit (.bool false)], args := [d] }
  | _ => none }
def FnGcValidWrongFalsely : Prop := fnGcValidRow.holds Try.pinned (OpenSpec.ofChange fnGcValidWrong)

/-- 'laws.FnRunBound': WHATEVER THE INPUT: true; the input reads as it did. -/
def fnRunBoundSpec : ChangeSpec := { name := "fnRunBound", fn := fun _ => fun
  | [d] => { results := [.lit (.bool true)], args := [d] }
  | _ => none }
def fnRunBoundRow : OpenClaim := { program := "ytdedffdmppckiaa", sum := "aeea467944851b8257bbd1850f8dea3331a8a9e53c46d39f43adfc0785300c02", func := "loop.example/cellcollector/laws.FnRunBound", spec := "fnRunBound", unfollowed := true, recurses := true, apart := false }
def FnRunBoundSaid : Prop := fnRunBoundRow.holds Try.pinned (OpenSpec.ofChange fnRunBoundSpec)

/-- ITS FALSE NEIGHBOUR: 'it returns false'. Refute it at one input. -/
def fnRunBoundWrong : ChangeSpec := { name := "fnRunBound", fn := fun _ => fun
  | [d] => { results := [.lit (.bool false)], args := [d] }
  | _ => none }
def FnRunBoundWrongFalsely : Prop := fnRunBoundRow.holds Try.pinned (OpenSpec.ofChange fnRunBoundWrong)

/-- 'laws.FnStepPhase': WHATEVER THE INPUT: true; the input reads as it did. -/
def fnStepPhaseSpec : ChangeSpec := { name := "fnStepPhase", fn := fun _ => fun
  | [d] => { results := [.lit (.bool true)], args := [d] }
  | _ => none }
def fnStepPhaseRow : OpenClaim := { program := "ytdedffdmppckiaa", sum := "aeea467944851b8257bbd1850f8dea3331a8a9e53c46d39f43adfc0785300c02", func := "loop.example/cellcollector/laws.FnStepPhase", spec := "fnStepPhase", unfollowed := true, recurses := true, apart := false }
def FnStepPhaseSaid : Prop := fnStepPhaseRow.holds Try.pinned (OpenSpec.ofChange fnStepPhaseSpec)

/-- ITS FALSE NEIGHBOUR: 'it returns false'. Refute it at one input. -/
def fnStepPhaseWrong : ChangeSpec := { name := "fnStepPhase", fn := fun _ => fun
  | [d] => { results := [.lit (.bool false)], args := [d] }
  | _ => none }
def FnStepPhaseWrongFalsely : Prop := fnStepPhaseRow.holds Try.pinned (OpenSpec.ofChange fnStepPhaseWrong)

/-- 'laws.FnStepWhite': WHATEVER THE INPUT: true; the input reads as it did. -/
def fnStepWhiteSpec : ChangeSpec := { name := "fnStepWhite", fn := fun _ => fun
  | [d] => { results := [.lit (.bool true)], args := [d] }
  | _ => none }
def fnStepWhiteRow : OpenClaim := { program := "ytdedffdmppckiaa", sum := "aeea467944851b8257bbd1850f8dea3331a8a9e53c46d39f43adfc0785300c02", func := "loop.example/cellcollector/laws.FnStepWhite", spec := "fnStepWhite", unfollowed := true, recurses := true, apart := false }
def FnStepWhiteSaid : Prop := fnStepWhiteRow.holds Try.pinned (OpenSpec.ofChange fnStepWhiteSpec)

/-- ITS FALSE NEIGHBOUR: 'it returns false'. Refute it at one input. -/
def fnStepWhiteWrong : ChangeSpec := { name := "fnStepWhite", fn := fun _ => fun
  | [d] => { results := [.lit (.bool false)], args := [d] }
  | _ => none }
def FnStepWhiteWrongFalsely : Prop := fnStepWhiteRow.holds Try.pinned (OpenSpec.ofChange fnStepWhiteWrong)

/-- 'laws.FnSweepColor': WHATEVER THE INPUT: true; the input reads as it did. -/
def fnSweepColorSpec : ChangeSpec := { name := "fnSweepColor", fn := fun _ => fun
  | [d] => { results := [.lit (.bool true)], args := [d] }
  | _ => none }
def fnSweepColorRow : OpenClaim := { program := "ytdedffdmppckiaa", sum := "aeea467944851b8257bbd1850f8dea3331a8a9e53c46d39f43adfc0785300c02", func := "loop.example/cellcollector/laws.FnSweepColor", spec := "fnSweepColor", unfollowed := true, recurses := true, apart := false }
def FnSweepColorSaid : Prop := fnSweepColorRow.holds Try.pinned (OpenSpec.ofChange fnSweepColorSpec)

/-- ITS FALSE NEIGHBOUR: 'it returns false'. Refute it at one input. -/
def fnSweepColorWrong : ChangeSpec := { name := "fnSweepColor", fn := fun _ => fun
  | [d] => { results := [.lit (.bool false)], args := [d] }
  | _ => none }
def FnSweepColorWrongFalsely : Prop := fnSweepColorRow.holds Try.pinned (OpenSpec.ofChange fnSweepColorWrong)

/- THE SECOND FORM. 'bulk': how many values and letters a reading holds, each counted each time it is reached (what is shared counts as often as it is met; a slice's spare places count too). A statement '..UptoSaid' is the law's where the arguments, and the package variables that the reading takes, are together of bulk at most 1048576: NARROWER than '..Said'. Prove '..Said' where nothing that the law and all that it calls make is longer than what came in: it says more and counts as full. Else prove '..UptoSaid'. A law counts once. -/
mutual
def uptoBulk {H : Type} : DataW H → Nat
  | .lit (.string bytes) => bytes.length + 1
  | .lit _ => 1
  | .nil => 1
  | .ptr d => uptoBulk d + 1
  | .slice elems spare => uptoBulkAll elems + uptoBulkAll spare + 1
  | .agg parts => uptoBulkAll parts + 1
  | .iface _ d => uptoBulk d + 1
  | .map entries => uptoBulkEntries entries + 1
  | .held _ => 1
def uptoBulkAll {H : Type} : List (DataW H) → Nat
  | [] => 0
  | d :: r => uptoBulk d + uptoBulkAll r
def uptoBulkEntries {H : Type} : List (Lit × DataW H) → Nat
  | [] => 0
  | x :: r => uptoBulkEntry x + uptoBulkEntries r
def uptoBulkEntry {H : Type} : Lit × DataW H → Nat
  | (.string bytes, d) => bytes.length + uptoBulk d + 1
  | (_, d) => uptoBulk d + 1
 end
def uptoSmall : (H : Type) → List (DataW H) → Bool := fun _ ds => decide (uptoBulkAll ds ≤ 1048576)
def OpenSpec.upto (s : _root_.Go.ChangeSpec) : _root_.Go.OpenSpec := { _root_.Go.OpenSpec.ofChange s with cond := some uptoSmall }

/-- 'laws.FnRunGc', WHERE WHAT IT READS IS OF BULK AT MOST 1048576: true; the input reads as it did. -/
def fnRunGcUptoRow : OpenClaim := { program := "ytdedffdmppckiaa", sum := "aeea467944851b8257bbd1850f8dea3331a8a9e53c46d39f43adfc0785300c02", func := "loop.example/cellcollector/laws.FnRunGc", spec := "fnRunGc", unfollowed := true, recurses := true, apart := false, narrowed := true }
def FnRunGcUptoSaid : Prop := fnRunGcUptoRow.holds Try.pinned (OpenSpec.upto fnRunGcSpec)

/-- 'laws.FnStepGc', WHERE WHAT IT READS IS OF BULK AT MOST 1048576: true; the input reads as it did. -/
def fnStepGcUptoRow : OpenClaim := { program := "ytdedffdmppckiaa", sum := "aeea467944851b8257bbd1850f8dea3331a8a9e53c46d39f43adfc0785300c02", func := "loop.example/cellcollector/laws.FnStepGc", spec := "fnStepGc", unfollowed := true, recurses := true, apart := false, narrowed := true }
def FnStepGcUptoSaid : Prop := fnStepGcUptoRow.holds Try.pinned (OpenSpec.upto fnStepGcSpec)

/-- 'laws.FnStepLive', WHERE WHAT IT READS IS OF BULK AT MOST 1048576: true; the input reads as it did. -/
def fnStepLiveUptoRow : OpenClaim := { program := "ytdedffdmppckiaa", sum := "aeea467944851b8257bbd1850f8dea3331a8a9e53c46d39f43adfc0785300c02", func := "loop.example/cellcollector/laws.FnStepLive", spec := "fnStepLive", unfollowed := true, recurses := true, apart := false, narrowed := true }
def FnStepLiveUptoSaid : Prop := fnStepLiveUptoRow.holds Try.pinned (OpenSpec.upto fnStepLiveSpec)

/-- 'laws.FnColorNew', WHERE WHAT IT READS IS OF BULK AT MOST 1048576: true; the input reads as it did. -/
def fnColorNewUptoRow : OpenClaim := { program := "ytdedffdmppckiaa", sum := "aeea467944851b8257bbd1850f8dea3331a8a9e53c46d39f43adfc0785300c02", func := "loop.example/cellcollector/laws.FnColorNew", spec := "fnColorNew", apart := false, narrowed := true }
def FnColorNewUptoSaid : Prop := fnColorNewUptoRow.holds Try.pinned (OpenSpec.upto fnColorNewSpec)

/-- 'laws.FnShadeGc', WHERE WHAT IT READS IS OF BULK AT MOST 1048576: true; the input reads as it did. -/
def fnShadeGcUptoRow : OpenClaim := { program := "ytdedffdmppckiaa", sum := "aeea467944851b8257bbd1850f8dea3331a8a9e53c46d39f43adfc0785300c02", func := "loop.example/cellcollector/laws.FnShadeGc", spec := "fnShadeGc", apart := false, narrowed := true }
def FnShadeGcUptoSaid : Prop := fnShadeGcUptoRow.holds Try.pinned (OpenSpec.upto fnShadeGcSpec)

/-- 'laws.FnSweptCell', WHERE WHAT IT READS IS OF BULK AT MOST 1048576: true; the input reads as it did. -/
def fnSweptCellUptoRow : OpenClaim := { program := "ytdedffdmppckiaa", sum := "aeea467944851b8257bbd1850f8dea3331a8a9e53c46d39f43adfc0785300c02", func := "loop.example/cellcollector/laws.FnSweptCell", spec := "fnSweptCell", apart := false, narrowed := true }
def FnSweptCellUptoSaid : Prop := fnSweptCellUptoRow.holds Try.pinned (OpenSpec.upto fnSweptCellSpec)

/-- 'laws.FnGcSame', WHERE WHAT IT READS IS OF BULK AT MOST 1048576: true; the input reads as it did. -/
def fnGcSameUptoRow : OpenClaim := { program := "ytdedffdmppckiaa", sum := "aeea467944851b8257bbd1850f8dea3331a8a9e53c46d39f43adfc0785300c02", func := "loop.example/cellcollector/laws.FnGcSame", spec := "fnGcSame", apart := false, narrowed := true }
def FnGcSameUptoSaid : Prop := fnGcSameUptoRow.holds Try.pinned (OpenSpec.upto fnGcSameSpec)

/-- 'laws.FnGcValid', WHERE WHAT IT READS IS OF BULK AT MOST 1048576: true; the input reads as it did. -/
def fnGcValidUptoRow : OpenClaim := { program := "ytdedffdmppckiaa", sum := "aeea467944851b8257bbd1850f8dea3331a8a9e53c46d39f43adfc0785300c02", func := "loop.example/cellcollector/laws.FnGcValid", spec := "fnGcValid", unfollowed := true, recurses := true, apart := false, narrowed := true }
def FnGcValidUptoSaid : Prop := fnGcValidUptoRow.holds Try.pinned (OpenSpec.upto fnGcValidSpec)

/-- 'laws.FnRunBound', WHERE WHAT IT READS IS OF BULK AT MOST 1048576: true; the input reads as it did. -/
def fnRunBoundUptoRow : OpenClaim := { program := "ytdedffdmppckiaa", sum := "aeea467944851b8257bbd1850f8dea3331a8a9e53c46d39f43adfc0785300c02", func := "loop.example/cellcollector/laws.FnRunBound", spec := "fnRunBound", unfollowed := true, recurses := true, apart := false, narrowed := true }
def FnRunBoundUptoSaid : Prop := fnRunBoundUptoRow.holds Try.pinned (OpenSpec.upto fnRunBoundSpec)

/-- 'laws.FnStepPhase', WHERE WHAT IT READS IS OF BULK AT MOST 1048576: true; the input reads as it did. -/
def fnStepPhaseUptoRow : OpenClaim := { program := "ytdedffdmppckiaa", sum := "aeea467944851b8257bbd1850f8dea3331a8a9e53c46d39f43adfc0785300c02", func := "loop.example/cellcollector/laws.FnStepPhase", spec := "fnStepPhase", unfollowed := true, recurses := true, apart := false, narrowed := true }
def FnStepPhaseUptoSaid : Prop := fnStepPhaseUptoRow.holds Try.pinned (OpenSpec.upto fnStepPhaseSpec)

/-- 'laws.FnStepWhite', WHERE WHAT IT READS IS OF BULK AT MOST 1048576: true; the input reads as it did. -/
def fnStepWhiteUptoRow : OpenClaim := { program := "ytdedffdmppckiaa", sum := "aeea467944851b8257bbd1850f8dea3331a8a9e53c46d39f43adfc0785300c02", func := "loop.example/cellcollector/laws.FnStepWhite", spec := "fnStepWhite", unfollowed := true, recurses := true, apart := false, narrowed := true }
def FnStepWhiteUptoSaid : Prop := fnStepWhiteUptoRow.holds Try.pinned (OpenSpec.upto fnStepWhiteSpec)

/-- 'laws.FnSweepColor', WHERE WHAT IT READS IS OF BULK AT MOST 1048576: true; the input reads as it did. -/
def fnSweepColorUptoRow : OpenClaim := { program := "ytdedffdmppckiaa", sum := "aeea467944851b8257bbd1850f8dea3331a8a9e53c46d39f43adfc0785300c02", func := "loop.example/cellcollector/laws.FnSweepColor", spec := "fnSweepColor", unfollowed := true, recurses := true, apart := false, narrowed := true }
def FnSweepColorUptoSaid : Prop := fnSweepColorUptoRow.holds Try.pinned (OpenSpec.upto fnSweepColorSpec)

end Rows
end Go.Proofs.Ytdedffdmppckiaa
