/-
  No cell of these rows narrows 'for every input' (looked for: loops, veiled, ifaces, maps, wideKeys, modest, calm, conditions, laid).
  DERIVED. THE GIVEN ROWS OF THIS SEAT. 12 by the template 'for every input the law returns true; each argument reads behind the call as it read before'; 0 by the template 'total and deterministic' (their statements: YtmngkjcdaaladaaTotals.lean).
  GIVEN WITH THE SEED: the statements are not yours to turn. If you find one false, say at which input.
  Laid BY PROGRAM, IN A SANDBOX (cutbox-rows.mjs): the forced cells as the released guide's own fill.sh prints them over the translation 4e129badb09a39bc… (all of the seat's roots in one cut). By AI agents, Wed Nov 11 2026. No macro, syntax, notation, axiom, sorry.
-/
import Derived.Test.YtmngkjcdaaladaaChecked
import GoSem.Claim
import GoSem.ClaimJoined
import GoSem.ClaimMapViews
import Derived.JoinedTies
import Derived.KernelRfl
namespace Go.Proofs.Ytmngkjcdaaladaa
/- THE CELL 'sum', in the pinned program and in every row, IS THE sha256 OF THE DUMP (.gsa) THAT YtmngkjcdaaladaaProg.lean LOADS. Nothing in Lean hashes anything: it is a label: what it is worth is what the hold of that sum in a sandbox is worth. -/
noncomputable def Try.pinned : Pinned := { name := "ytmngkjcdaaladaa", sum := "4e129badb09a39bcb2e4c7fdb2a8c92739b934f5a19023b5396e02d802c359ed", checked := Try.checked }
namespace Rows
def none {H : Type} : Left H := { results := [], args := [] }

/-- 'laws.FnMarkStep': WHATEVER THE INPUT: true; the input reads as it did. -/
def fnMarkStepSpec : ChangeSpec := { name := "fnMarkStep", fn := fun _ => fun
  | [d] => { results := [.lit (.bool true)], args := [d] }
  | _ => none }
def fnMarkStepRow : OpenClaim := { program := "ytmngkjcdaaladaa", sum := "4e129badb09a39bcb2e4c7fdb2a8c92739b934f5a19023b5396e02d802c359ed", func := "loop.example/cellcollector/laws.FnMarkStep", spec := "fnMarkStep", apart := false }
def FnMarkStepSaid : Prop := fnMarkStepRow.holds Try.pinned (OpenSpec.ofChange fnMarkStepSpec)

/-- ITS FALSE NEIGHBOUR: 'it returns false'. Refute it at one input. -/
def fnMarkStepWrong : ChangeSpec := { name := "fnMarkStep", fn := fun _ => fun
  | [d] => { results := [.lit (.bool false)], args := [d] }
  | _ => none }
def FnMarkStepWrongFalsely : Prop := fnMarkStepRow.holds Try.pinned (OpenSpec.ofChange fnMarkStepWrong)

/-- 'laws.FnMarkAll': WHATEVER THE INPUT: true; the input reads as it did. -/
def fnMarkAllSpec : ChangeSpec := { name := "fnMarkAll", fn := fun _ => fun
  | [d] => { results := [.lit (.bool true)], args := [d] }
  | _ => none }
def fnMarkAllRow : OpenClaim := { program := "ytmngkjcdaaladaa", sum := "4e129badb09a39bcb2e4c7fdb2a8c92739b934f5a19023b5396e02d802c359ed", func := "loop.example/cellcollector/laws.FnMarkAll", spec := "fnMarkAll", apart := false }
def FnMarkAllSaid : Prop := fnMarkAllRow.holds Try.pinned (OpenSpec.ofChange fnMarkAllSpec)

/-- ITS FALSE NEIGHBOUR: 'it returns false'. Refute it at one input. -/
def fnMarkAllWrong : ChangeSpec := { name := "fnMarkAll", fn := fun _ => fun
  | [d] => { results := [.lit (.bool false)], args := [d] }
  | _ => none }
def FnMarkAllWrongFalsely : Prop := fnMarkAllRow.holds Try.pinned (OpenSpec.ofChange fnMarkAllWrong)

/-- 'laws.FnShadeRoots': WHATEVER THE INPUT: true; the input reads as it did. -/
def fnShadeRootsSpec : ChangeSpec := { name := "fnShadeRoots", fn := fun _ => fun
  | [d] => { results := [.lit (.bool true)], args := [d] }
  | _ => none }
def fnShadeRootsRow : OpenClaim := { program := "ytmngkjcdaaladaa", sum := "4e129badb09a39bcb2e4c7fdb2a8c92739b934f5a19023b5396e02d802c359ed", func := "loop.example/cellcollector/laws.FnShadeRoots", spec := "fnShadeRoots", apart := false }
def FnShadeRootsSaid : Prop := fnShadeRootsRow.holds Try.pinned (OpenSpec.ofChange fnShadeRootsSpec)

/-- ITS FALSE NEIGHBOUR: 'it returns false'. Refute it at one input. -/
def fnShadeRootsWrong : ChangeSpec := { name := "fnShadeRoots", fn := fun _ => fun
  | [d] => { results := [.lit (.bool false)], args := [d] }
  | _ => none }
def FnShadeRootsWrongFalsely : Prop := fnShadeRootsRow.holds Try.pinned (OpenSpec.ofChange fnShadeRootsWrong)

/-- 'laws.FnShadeCell': WHATEVER THE INPUT: true; the input reads as it did. -/
def fnShadeCellSpec : ChangeSpec := { name := "fnShadeCell", fn := fun _ => fun
  | [d] => { results := [.lit (.bool true)], args := [d] }
  | _ => none }
def fnShadeCellRow : OpenClaim := { program := "ytmngkjcdaaladaa", sum := "4e129badb09a39bcb2e4c7fdb2a8c92739b934f5a19023b5396e02d802c359ed", func := "loop.example/cellcollector/laws.FnShadeCell", spec := "fnShadeCell", apart := false }
def FnShadeCellSaid : Prop := fnShadeCellRow.holds Try.pinned (OpenSpec.ofChange fnShadeCellSpec)

/-- ITS FALSE NEIGHBOUR: 'it returns false'. Refute it at one input. -/
def fnShadeCellWrong : ChangeSpec := { name := "fnShadeCell", fn := fun _ => fun
  | [d] => { results := [.lit (.bool false)], args := [d] }
  | _ => none }
def FnShadeCellWrongFalsely : Prop := fnShadeCellRow.holds Try.pinned (OpenSpec.ofChange fnShadeCellWrong)

/-- 'laws.FnColorHolds': WHATEVER THE INPUT: true; the input reads as it did. -/
def fnColorHoldsSpec : ChangeSpec := { name := "fnColorHolds", fn := fun _ => fun
  | [d] => { results := [.lit (.bool true)], args := [d] }
  | _ => none }
def fnColorHoldsRow : OpenClaim := { program := "ytmngkjcdaaladaa", sum := "4e129badb09a39bcb2e4c7fdb2a8c92739b934f5a19023b5396e02d802c359ed", func := "loop.example/cellcollector/laws.FnColorHolds", spec := "fnColorHolds", apart := false }
def FnColorHoldsSaid : Prop := fnColorHoldsRow.holds Try.pinned (OpenSpec.ofChange fnColorHoldsSpec)

/-- ITS FALSE NEIGHBOUR: 'it returns false'. Refute it at one input. -/
def fnColorHoldsWrong : ChangeSpec := { name := "fnColorHolds", fn := fun _ => fun
  | [d] => { results := [.lit (.bool false)], args := [d] }
  | _ => none }
def FnColorHoldsWrongFalsely : Prop := fnColorHoldsRow.holds Try.pinned (OpenSpec.ofChange fnColorHoldsWrong)

/-- 'laws.FnCountColor': WHATEVER THE INPUT: true; the input reads as it did. -/
def fnCountColorSpec : ChangeSpec := { name := "fnCountColor", fn := fun _ => fun
  | [d] => { results := [.lit (.bool true)], args := [d] }
  | _ => none }
def fnCountColorRow : OpenClaim := { program := "ytmngkjcdaaladaa", sum := "4e129badb09a39bcb2e4c7fdb2a8c92739b934f5a19023b5396e02d802c359ed", func := "loop.example/cellcollector/laws.FnCountColor", spec := "fnCountColor", apart := false }
def FnCountColorSaid : Prop := fnCountColorRow.holds Try.pinned (OpenSpec.ofChange fnCountColorSpec)

/-- ITS FALSE NEIGHBOUR: 'it returns false'. Refute it at one input. -/
def fnCountColorWrong : ChangeSpec := { name := "fnCountColor", fn := fun _ => fun
  | [d] => { results := [.lit (.bool false)], args := [d] }
  | _ => none }
def FnCountColorWrongFalsely : Prop := fnCountColorRow.holds Try.pinned (OpenSpec.ofChange fnCountColorWrong)

/-- 'laws.FnColoredSame': WHATEVER THE INPUT: true; the input reads as it did. -/
def fnColoredSameSpec : ChangeSpec := { name := "fnColoredSame", fn := fun _ => fun
  | [d] => { results := [.lit (.bool true)], args := [d] }
  | _ => none }
def fnColoredSameRow : OpenClaim := { program := "ytmngkjcdaaladaa", sum := "4e129badb09a39bcb2e4c7fdb2a8c92739b934f5a19023b5396e02d802c359ed", func := "loop.example/cellcollector/laws.FnColoredSame", spec := "fnColoredSame", apart := false }
def FnColoredSameSaid : Prop := fnColoredSameRow.holds Try.pinned (OpenSpec.ofChange fnColoredSameSpec)

/-- ITS FALSE NEIGHBOUR: 'it returns false'. Refute it at one input. -/
def fnColoredSameWrong : ChangeSpec := { name := "fnColoredSame", fn := fun _ => fun
  | [d] => { results := [.lit (.bool false)], args := [d] }
  | _ => none }
def FnColoredSameWrongFalsely : Prop := fnColoredSameRow.holds Try.pinned (OpenSpec.ofChange fnColoredSameWrong)

/-- 'laws.FnMarkFirst': WHATEVER THE INPUT: true; the input reads as it did. -/
def fnMarkFirstSpec : ChangeSpec := { name := "fnMarkFirst", fn := fun _ => fun
  | [d] => { results := [.lit (.bool true)], args := [d] }
  | _ => none }
def fnMarkFirstRow : OpenClaim := { program := "ytmngkjcdaaladaa", sum := "4e129badb09a39bcb2e4c7fdb2a8c92739b934f5a19023b5396e02d802c359ed", func := "loop.example/cellcollector/laws.FnMarkFirst", spec := "fnMarkFirst", apart := false }
def FnMarkFirstSaid : Prop := fnMarkFirstRow.holds Try.pinned (OpenSpec.ofChange fnMarkFirstSpec)

/-- ITS FALSE NEIGHBOUR: 'it returns false'. Refute it at one input. -/
def fnMarkFirstWrong : ChangeSpec := { name := "fnMarkFirst", fn := fun _ => fun
  | [d] => { results := [.lit (.bool false)], args := [d] }
  | _ => none }
def FnMarkFirstWrongFalsely : Prop := fnMarkFirstRow.holds Try.pinned (OpenSpec.ofChange fnMarkFirstWrong)

/-- 'laws.FnShadeOthers': WHATEVER THE INPUT: true; the input reads as it did. -/
def fnShadeOthersSpec : ChangeSpec := { name := "fnShadeOthers", fn := fun _ => fun
  | [d] => { results := [.lit (.bool true)], args := [d] }
  | _ => none }
def fnShadeOthersRow : OpenClaim := { program := "ytmngkjcdaaladaa", sum := "4e129badb09a39bcb2e4c7fdb2a8c92739b934f5a19023b5396e02d802c359ed", func := "loop.example/cellcollector/laws.FnShadeOthers", spec := "fnShadeOthers", apart := false }
def FnShadeOthersSaid : Prop := fnShadeOthersRow.holds Try.pinned (OpenSpec.ofChange fnShadeOthersSpec)

/-- ITS FALSE NEIGHBOUR: 'it returns false'. Refute it at one input. -/
def fnShadeOthersWrong : ChangeSpec := { name := "fnShadeOthers", fn := fun _ => fun
  | [d] => { results := [.lit (.bool false)], args := [d] }
  | _ => none }
def FnShadeOthersWrongFalsely : Prop := fnShadeOthersRow.holds Try.pinned (OpenSpec.ofChange fnShadeOthersWrong)

/-- 'laws.FnHoldsShade': WHATEVER THE INPUT: true; the input reads as it did. -/
def fnHoldsShadeSpec : ChangeSpec := { name := "fnHoldsShade", fn := fun _ => fun
  | [d] => { results := [.lit (.bool true)], args := [d] }
  | _ => none }
def fnHoldsShadeRow : OpenClaim := { program := "ytmngkjcdaaladaa", sum := "4e129badb09a39bcb2e4c7fdb2a8c92739b934f5a19023b5396e02d802c359ed", func := "loop.example/cellcollector/laws.FnHoldsShade", spec := "fnHoldsShade", apart := false }
def FnHoldsShadeSaid : Prop := fnHoldsShadeRow.holds Try.pinned (OpenSpec.ofChange fnHoldsShadeSpec)

/-- ITS FALSE NEIGHBOUR: 'it returns false'. Refute it at one input. -/
def fnHoldsShadeWrong : ChangeSpec := { name := "fnHoldsShade", fn := fun _ => fun
  | [d] => { results := [.lit (.bool false)], args := [d] }
  | _ => none }
def FnHoldsShadeWrongFalsely : Prop := fnHoldsShadeRow.holds Try.pinned (OpenSpec.ofChange fnHoldsShadeWrong)

/-- 'laws.FnHoldsNew': WHATEVER THE INPUT: true; the input reads as it did. -/
def fnHoldsNewSpec : ChangeSpec := { name := "fnHoldsNew", fn := fun _ => fun
  | [d] => { results := [.lit (.bool true)], args := [d] }
  | _ => none }
def fnHoldsNewRow : OpenClaim := { program := "ytmngkjcdaaladaa", sum := "4e129badb09a39bcb2e4c7fdb2a8c92739b934f5a19023b5396e02d802c359ed", func := "loop.example/cellcollector/laws.FnHoldsNew", spec := "fnHoldsNew", apart := false }
def FnHoldsNewSaid : Prop := fnHoldsNewRow.holds Try.pinned (OpenSpec.ofChange fnHoldsNewSpec)

/-- ITS FALSE NEIGHBOUR: 'it returns false'. Refute it at one input. -/
def fnHoldsNewWrong : ChangeSpec := { name := "fnHoldsNew", fn := fun _ => fun
  | [d] => { results := [.lit (.bool false)], args := [d] }
  | _ => none }
def FnHoldsNewWrongFalsely : Prop := fnHoldsNewRow.holds Try.pinned (OpenSpec.ofChange fnHoldsNewWrong)

/-- 'laws.FnColorOthers': WHATEVER THE INPUT: true; the input reads as it did. -/
def fnColorOthersSpec : ChangeSpec := { name := "fnColorOthers", fn := fun _ => fun
  | [d] => { results := [.lit (.bool true)], args := [d] }
  | _ => none }
def fnColorOthersRow : OpenClaim := { program := "ytmngkjcdaaladaa", sum := "4e129badb09a39bcb2e4c7fdb2a8c92739b934f5a19023b5396e02d802c359ed", func := "loop.example/cellcollector/laws.FnColorOthers", spec := "fnColorOthers", apart := false }
def FnColorOthersSaid : Prop := fnColorOthersRow.holds Try.pinned (OpenSpec.ofChange fnColorOthersSpec)

/-- ITS FALSE NEIGHBOUR: 'it returns false'. Refute it at one input. -/
def fnColorOthersWrong : ChangeSpec := { name := "fnColorOthers", fn := fun _ => fun
  | [d] => { results := [.lit (.bool false)], args := [d] }
  | _ => none }
def FnColorOthersWrongFalsely : Prop := fnColorOthersRow.holds Try.pinned (OpenSpec.ofChange fnColorOthersWrong)

/- THE SECOND FORM. 'bulk': how many values and letters a reading holds, each counted each time it is reached (what is shared counts as often as it is met; a slice's spare places count too). A statement '..UptoSaid' is the law's where the arguments, and the package variables that the reading takes, are together of bulk at most 1048576: NARROWER than '..Said'. Prove '..Said' where nothing that the law and all that it calls make is longer than what came in: it says more and counts as full. Else prove '..UptoSaid'. A law counts once. -/
mutual
def uptoBulk {H : Type} : DataW H → Nat
  | .lit (.string bytes) => bytes.length + 1
  | .lit _ => 1
  | .nil => 1
  | .ptr d => uptoBulk d + 1
  | .slice elems spare => uptoBulkAll elems + uptoBulkAll spare + 1
  | .agg parts => uptoBulkAll parts + 1
  | .iface _ d => uptoBulk d + 1
  | .map entries => uptoBulkEntries entries + 1
  | .held _ => 1
def uptoBulkAll {H : Type} : List (DataW H) → Nat
  | [] => 0
  | d :: r => uptoBulk d + uptoBulkAll r
def uptoBulkEntries {H : Type} : List (Lit × DataW H) → Nat
  | [] => 0
  | x :: r => uptoBulkEntry x + uptoBulkEntries r
def uptoBulkEntry {H : Type} : Lit × DataW H → Nat
  | (.string bytes, d) => bytes.length + uptoBulk d + 1
  | (_, d) => uptoBulk d + 1
 end
def uptoSmall : (H : Type) → List (DataW H) → Bool := fun _ ds => decide (uptoBulkAll ds ≤ 1048576)
def OpenSpec.upto (s : _root_.Go.ChangeSpec) : _root_.Go.OpenSpec := { _root_.Go.OpenSpec.ofChange s with cond := some uptoSmall }

/-- 'laws.FnMarkStep', WHERE WHAT IT READS IS OF BULK AT MOST 1048576: true; the input reads as it did. -/
def fnMarkStepUptoRow : OpenClaim := { program := "ytmngkjcdaaladaa", sum := "4e129badb09a39bcb2e4c7fdb2a8c92739b934f5a19023b5396e02d802c359ed", func := "loop.example/cellcollector/laws.FnMarkStep", spec := "fnMarkStep", apart := false, narrowed := true }
def FnMarkStepUptoSaid : Prop := fnMarkStepUptoRow.holds Try.pinned (OpenSpec.upto fnMarkStepSpec)

/-- 'laws.FnMarkAll', WHERE WHAT IT READS IS OF BULK AT MOST 1048576: true; the input reads as it did. -/
def fnMarkAllUptoRow : OpenClaim := { program := "ytmngkjcdaaladaa", sum := "4e129badb09a39bcb2e4c7fdb2a8c92739b934f5a19023b5396e02d802c359ed", func := "loop.example/cellcollector/laws.FnMarkAll", spec := "fnMarkAll", apart := false, narrowed := true }
def FnMarkAllUptoSaid : Prop := fnMarkAllUptoRow.holds Try.pinned (OpenSpec.upto fnMarkAllSpec)

/-- 'laws.FnShadeRoots', WHERE WHAT IT READS IS OF BULK AT MOST 1048576: true; the input reads as it did. -/
def fnShadeRootsUptoRow : OpenClaim := { program := "ytmngkjcdaaladaa", sum := "4e129badb09a39bcb2e4c7fdb2a8c92739b934f5a19023b5396e02d802c359ed", func := "loop.example/cellcollector/laws.FnShadeRoots", spec := "fnShadeRoots", apart := false, narrowed := true }
def FnShadeRootsUptoSaid : Prop := fnShadeRootsUptoRow.holds Try.pinned (OpenSpec.upto fnShadeRootsSpec)

/-- 'laws.FnShadeCell', WHERE WHAT IT READS IS OF BULK AT MOST 1048576: true; the input reads as it did. -/
def fnShadeCellUptoRow : OpenClaim := { program := "ytmngkjcdaaladaa", sum := "4e129badb09a39bcb2e4c7fdb2a8c92739b934f5a19023b5396e02d802c359ed", func := "loop.example/cellcollector/laws.FnShadeCell", spec := "fnShadeCell", apart := false, narrowed := true }
def FnShadeCellUptoSaid : Prop := fnShadeCellUptoRow.holds Try.pinned (OpenSpec.upto fnShadeCellSpec)

/-- 'laws.FnColorHolds', WHERE WHAT IT READS IS OF BULK AT MOST 1048576: true; the input reads as it did. -/
def fnColorHoldsUptoRow : OpenClaim := { program := "ytmngkjcdaaladaa", sum := "4e129badb09a39bcb2e4c7fdb2a8c92739b934f5a19023b5396e02d802c359ed", func := "loop.example/cellcollector/laws.FnColorHolds", spec := "fnColorHolds", apart := false, narrowed := true }
def FnColorHoldsUptoSaid : Prop := fnColorHoldsUptoRow.holds Try.pinned (OpenSpec.upto fnColorHoldsSpec)

/-- 'laws.FnCountColor', WHERE WHAT IT READS IS OF BULK AT MOST 1048576: true; the input reads as it did. -/
def fnCountColorUptoRow : OpenClaim := { program := "ytmngkjcdaaladaa", sum := "4e129badb09a39bcb2e4c7fdb2a8c92739b934f5a19023b5396e02d802c359ed", func := "loop.example/cellcollector/laws.FnCountColor", spec := "fnCountColor", apart := false, narrowed := true }
def FnCountColorUptoSaid : Prop := fnCountColorUptoRow.holds Try.pinned (OpenSpec.upto fnCountColorSpec)

/-- 'laws.FnColoredSame', WHERE WHAT IT READS IS OF BULK AT MOST 1048576: true; the input reads as it did. -/
def fnColoredSameUptoRow : OpenClaim := { program := "ytmngkjcdaaladaa", sum := "4e129badb09a39bcb2e4c7fdb2a8c92739b934f5a19023b5396e02d802c359ed", func := "loop.example/cellcollector/laws.FnColoredSame", spec := "fnColoredSame", apart := false, narrowed := true }
def FnColoredSameUptoSaid : Prop := fnColoredSameUptoRow.holds Try.pinned (OpenSpec.upto fnColoredSameSpec)

/-- 'laws.FnMarkFirst', WHERE WHAT IT READS IS OF BULK AT MOST 1048576: true; the input reads as it did. -/
def fnMarkFirstUptoRow : OpenClaim := { program := "ytmngkjcdaaladaa", sum := "4e129badb09a39bcb2e4c7fdb2a8c92739b934f5a19023b5396e02d802c359ed", func := "loop.example/cellcollector/laws.FnMarkFirst", spec := "fnMarkFirst", apart := false, narrowed := true }
def FnMarkFirstUptoSaid : Prop := fnMarkFirstUptoRow.holds Try.pinned (OpenSpec.upto fnMarkFirstSpec)

/-- 'laws.FnShadeOthers', WHERE WHAT IT READS IS OF BULK AT MOST 1048576: true; the input reads as it did. -/
def fnShadeOthersUptoRow : OpenClaim := { program := "ytmngkjcdaaladaa", sum := "4e129badb09a39bcb2e4c7fdb2a8c92739b934f5a19023b5396e02d802c359ed", func := "loop.example/cellcollector/laws.FnShadeOthers", spec := "fnShadeOthers", apart := false, narrowed := true }
def FnShadeOthersUptoSaid : Prop := fnShadeOthersUptoRow.holds Try.pinned (OpenSpec.upto fnShadeOthersSpec)

/-- 'laws.FnHoldsShade', WHERE WHAT IT READS IS OF BULK AT MOST 1048576: true; the input reads as it did. -/
def fnHoldsShadeUptoRow : OpenClaim := { program := "ytmngkjcdaaladaa", sum := "4e129badb09a39bcb2e4c7fdb2a8c92739b934f5a19023b5396e02d802c359ed", func := "loop.example/cellcollector/laws.FnHoldsShade", spec := "fnHoldsShade", apart := false, narrowed := true }
def FnHoldsShadeUptoSaid : Prop := fnHoldsShadeUptoRow.holds Try.pinned (OpenSpec.upto fnHoldsShadeSpec)

/-- 'laws.FnHoldsNew', WHERE WHAT IT READS IS OF BULK AT MOST 1048576: true; the input reads as it did. -/
def fnHoldsNewUptoRow : OpenClaim := { program := "ytmngkjcdaaladaa", sum := "4e129badb09a39bcb2e4c7fdb2a8c92739b934f5a19023b5396e02d802c359ed", func := "loop.example/cellcollector/laws.FnHoldsNew", spec := "fnHoldsNew", apart := false, narrowed := true }
def FnHoldsNewUptoSaid : Prop := fnHoldsNewUptoRow.holds Try.pinned (OpenSpec.upto fnHoldsNewSpec)

/-- 'laws.FnColorOthers', WHERE WHAT IT READS IS OF BULK AT MOST 1048576: true; the input reads as it did. -/
def fnColorOthersUptoRow : OpenClaim := { program := "ytmngkjcdaaladaa", sum := "4e129badb09a39bcb2e4c7fdb2a8c92739b934f5a19023b5396e02d802c359ed", func := "loop.example/cellcollector/laws.FnColorOthers", spec := "fnColorOthers", apart := false, narrowed := true }
def FnColorOthersUptoSaid : Prop := fnColorOthersUptoRow.holds Try.pinned (OpenSpec.upto fnColorOthersSpec)

end Rows
end Go.Proofs.Ytmngkjcdaaladaa
