/-
  No cell of these rows narrows 'for every input' (looked for: loops, veiled, ifaces, maps, wideKeys, modest, calm, conditions, laid).
  DERIVED. THE GIVEN ROWS OF THIS SEAT. 4 by the template 'for every input the law returns true; each argument reads behind the call as it read before'; 0 by the template 'total and deterministic' (their statements: YthagchhegljphaaTotals.lean).
  GIVEN WITH THE SEED: the statements are not yours to turn. If you find one false, say at which input.
  Laid BY PROGRAM, IN A SANDBOX (cutbox-rows.mjs): the forced cells as the released guide's own fill.sh prints them over the translation 12d71ec7e8459a4d… (all of the seat's roots in one cut). By AI agents, Wed Nov 11 2026. No macro, syntax, notation, axiom, sorry.
-/
import Derived.Test.YthagchhegljphaaChecked
import GoSem.Claim
import GoSem.ClaimJoined
import GoSem.ClaimMapViews
import Derived.JoinedTies
import Derived.KernelRfl
namespace Go.Proofs.Ythagchhegljphaa
/- THE CELL 'sum', in the pinned program and in every row, IS THE sha256 OF THE DUMP (.gsa) THAT YthagchhegljphaaProg.lean LOADS. Nothing in Lean hashes anything: it is a label: what it is worth is what the hold of that sum in a sandbox is worth. -/
noncomputable def Try.pinned : Pinned := { name := "ythagchhegljphaa", sum := "12d71ec7e8459a4dff619f3aac831217a50494718fdd9f9418dee3b57142f25d", checked := Try.checked }
namespace Rows
def none {H : Type} : Left H := { results := [], args := [] }

/-- 'laws.FnDistanceOf': WHATEVER THE INPUT: true; the input reads as it did. -/
def fnDistanceOfSpec : ChangeSpec := { name := "fnDistanceOf", fn := fun _ => fun
  | [d] => { results := [.lit (.bool true)], args := [d] }
  | _ => none }
def fnDistanceOfRow : OpenClaim := { program := "ythagchhegljphaa", sum := "12d71ec7e8459a4dff619f3aac831217a50494718fdd9f9418dee3b57142f25d", func := "loop.example/cellcollector/laws.FnDistanceOf", spec := "fnDistanceOf", apart := false }
def FnDistanceOfSaid : Prop := fnDistanceOfRow.holds Try.pinned (OpenSpec.ofChange fnDistanceOfSpec)

/-- ITS FALSE NEIGHBOUR: 'it returns false'. Refute it at one input. -/
def fnDistanceOfWrong : ChangeSpec := { name := "fnDistanceOf", fn := fun _ => fun
  | [d] => { results := [.lit (.bool false)], args := [d] }
  | _ => none }
def FnDistanceOfWrongFalsely : Prop := fnDistanceOfRow.holds Try.pinned (OpenSpec.ofChange fnDistanceOfWrong)

/-- 'laws.FnGarbagePointers': WHATEVER THE INPUT: true; the input reads as it did. -/
def fnGarbagePointersSpec : ChangeSpec := { name := "fnGarbagePointers", fn := fun _ => fun
  | [d] => { results := [.lit (.bool true)], args := [d] }
  | _ => none }
def fnGarbagePointersRow : OpenClaim := { program := "ythagchhegljphaa", sum := "12d71ec7e8459a4dff619f3aac831217a50494718fdd9f9418dee3b57142f25d", func := "loop.example/cellcollector/laws.FnGarbagePointers", spec := "fnGarbagePointers", apart := false }
def FnGarbagePointersSaid : Prop := fnGarbagePointersRow.holds Try.pinned (OpenSpec.ofChange fnGarbagePointersSpec)

/-- ITS FALSE NEIGHBOUR: 'it returns false'. Refute it at one input. -/
def fnGarbagePointersWrong : ChangeSpec := { name := "fnGarbagePointers", fn := fun _ => fun
  | [d] => { results := [.lit (.bool false)], args := [d] }
  | _ => none }
def FnGarbagePointersWrongFalsely : Prop := fnGarbagePointersRow.holds Try.pinned (OpenSpec.ofChange fnGarbagePointersWrong)

/-- 'laws.FnHasCycle': WHATEVER THE INPUT: true; the input reads as it did. -/
def fnHasCycleSpec : ChangeSpec := { name := "fnHasCycle", fn := fun _ => fun
  | [d] => { results := [.lit (.bool true)], args := [d] }
  | _ => none }
def fnHasCycleRow : OpenClaim := { program := "ythagchhegljphaa", sum := "12d71ec7e8459a4dff619f3aac831217a50494718fdd9f9418dee3b57142f25d", func := "loop.example/cellcollector/laws.FnHasCycle", spec := "fnHasCycle", apart := false }
def FnHasCycleSaid : Prop := fnHasCycleRow.holds Try.pinned (OpenSpec.ofChange fnHasCycleSpec)

/-- ITS FALSE NEIGHBOUR: 'it returns false'. Refute it at one input. -/
def fnHasCycleWrong : ChangeSpec := { name := "fnHasCycle", fn := fun _ => fun
  | [d] => { results := [.lit (.bool false)], args := [d] }
  | _ => none }
def FnHasCycleWrongFalsely : Prop := fnHasCycleRow.holds Try.pinned (OpenSpec.ofChange fnHasCycleWrong)

/-- 'laws.FnCycleSelf': WHATEVER THE INPUT: true; the input reads as it did. -/
def fnCycleSelfSpec : ChangeSpec := { name := "fnCycleSelf", fn := fun _ => fun
  | [d] => { results := [.lit (.bool true)], args := [d] }
  | _ => none }
def fnCycleSelfRow : OpenClaim := { program := "ythagchhegljphaa", sum := "12d71ec7e8459a4dff619f3aac831217a50494718fdd9f9418dee3b57142f25d", func := "loop.example/cellcollector/laws.FnCycleSelf", spec := "fnCycleSelf", apart := false }
def FnCycleSelfSaid : Prop := fnCycleSelfRow.holds Try.pinned (OpenSpec.ofChange fnCycleSelfSpec)

/-- ITS FALSE NEIGHBOUR: 'it returns false'. Refute it at one input. -/
def fnCycleSelfWrong : ChangeSpec := { name := "fnCycleSelf", fn := fun _ => fun
  | [d] => { results := [.lit (.bool false)], args := [d] }
  | _ => none }
def FnCycleSelfWrongFalsely : Prop := fnCycleSelfRow.holds Try.pinned (OpenSpec.ofChange fnCycleSelfWrong)

/- THE SECOND FORM. 'bulk': how many values and letters a reading holds, each counted each time it is reached (what is shared counts as often as it is met; a slice's spare places count too). A statement '..UptoSaid' is the law's where the arguments, and the package variables that the reading takes, are together of bulk at most 1048576: NARROWER than '..Said'. Prove '..Said' where nothing that the law and all that it calls make is longer than what came in: it says more and counts as full. Else prove '..UptoSaid'. A law counts once. -/
mutual
def uptoBulk {H : Type} : DataW H → Nat
  | .lit (.string bytes) => bytes.length + 1
  | .lit _ => 1
  | .nil => 1
  | .ptr d => uptoBulk d + 1
  | .slice elems spare => uptoBulkAll elems + uptoBulkAll spare + 1
  | .agg parts => uptoBulkAll parts + 1
  | .iface _ d => uptoBulk d + 1
  | .map entries => uptoBulkEntries entries + 1
  | .held _ => 1
def uptoBulkAll {H : Type} : List (DataW H) → Nat
  | [] => 0
  | d :: r => uptoBulk d + uptoBulkAll r
def uptoBulkEntries {H : Type} : List (Lit × DataW H) → Nat
  | [] => 0
  | x :: r => uptoBulkEntry x + uptoBulkEntries r
def uptoBulkEntry {H : Type} : Lit × DataW H → Nat
  | (.string bytes, d) => bytes.length + uptoBulk d + 1
  | (_, d) => uptoBulk d + 1
 end
def uptoSmall : (H : Type) → List (DataW H) → Bool := fun _ ds => decide (uptoBulkAll ds ≤ 1048576)
def OpenSpec.upto (s : _root_.Go.ChangeSpec) : _root_.Go.OpenSpec := { _root_.Go.OpenSpec.ofChange s with cond := some uptoSmall }

/-- 'laws.FnDistanceOf', WHERE WHAT IT READS IS OF BULK AT MOST 1048576: true; the input reads as it did. -/
def fnDistanceOfUptoRow : OpenClaim := { program := "ythagchhegljphaa", sum := "12d71ec7e8459a4dff619f3aac831217a50494718fdd9f9418dee3b57142f25d", func := "loop.example/cellcollector/laws.FnDistanceOf", spec := "fnDistanceOf", apart := false, narrowed := true }
def FnDistanceOfUptoSaid : Prop := fnDistanceOfUptoRow.holds Try.pinned (OpenSpec.upto fnDistanceOfSpec)

/-- 'laws.FnGarbagePointers', WHERE WHAT IT READS IS OF BULK AT MOST 1048576: true; the input reads as it did. -/
def fnGarbagePointersUptoRow : OpenClaim := { program := "ythagchhegljphaa", sum := "12d71ec7e8459a4dff619f3aac831217a50494718fdd9f9418dee3b57142f25d", func := "loop.example/cellcollector/laws.FnGarbagePointers", spec := "fnGarbagePointers", apart := false, narrowed := true }
def FnGarbagePointersUptoSaid : Prop := fnGarbagePointersUptoRow.holds Try.pinned (OpenSpec.upto fnGarbagePointersSpec)

/-- 'laws.FnHasCycle', WHERE WHAT IT READS IS OF BULK AT MOST 1048576: true; the input reads as it did. -/
def fnHasCycleUptoRow : OpenClaim := { program := "ythagchhegljphaa", sum := "12d71ec7e8459a4dff619f3aac831217a50494718fdd9f9418dee3b57142f25d", func := "loop.example/cellcollector/laws.FnHasCycle", spec := "fnHasCycle", apart := false, narrowed := true }
def FnHasCycleUptoSaid : Prop := fnHasCycleUptoRow.holds Try.pinned (OpenSpec.upto fnHasCycleSpec)

/-- 'laws.FnCycleSelf', WHERE WHAT IT READS IS OF BULK AT MOST 1048576: true; the input reads as it did. -/
def fnCycleSelfUptoRow : OpenClaim := { program := "ythagchhegljphaa", sum := "12d71ec7e8459a4dff619f3aac831217a50494718fdd9f9418dee3b57142f25d", func := "loop.example/cellcollector/laws.FnCycleSelf", spec := "fnCycleSelf", apart := false, narrowed := true }
def FnCycleSelfUptoSaid : Prop := fnCycleSelfUptoRow.holds Try.pinned (OpenSpec.upto fnCycleSelfSpec)

end Rows
end Go.Proofs.Ythagchhegljphaa
