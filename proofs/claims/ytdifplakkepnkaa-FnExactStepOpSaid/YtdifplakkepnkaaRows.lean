/-
  No cell of these rows narrows 'for every input' (looked for: loops, veiled, ifaces, maps, wideKeys, modest, calm, conditions, laid).
  DERIVED. THE GIVEN ROWS OF THIS SEAT. 5 by the template 'for every input the law returns true; each argument reads behind the call as it read before'; 0 by the template 'total and deterministic' (their statements: YtdifplakkepnkaaTotals.lean).
  GIVEN WITH THE SEED: the statements are not yours to turn. If you find one false, say at which input.
  Laid BY PROGRAM, IN A SANDBOX (cutbox-rows.mjs): the forced cells as the released guide's own fill.sh prints them over the translation b604fb8a03307cf2… (all of the seat's roots in one cut). By AI agents, Wed Nov 11 2026. No macro, syntax, notation, axiom, sorry.
-/
import Derived.Test.YtdifplakkepnkaaChecked
import GoSem.Claim
import GoSem.ClaimJoined
import GoSem.ClaimMapViews
import Derived.JoinedTies
import Derived.KernelRfl
namespace Go.Proofs.Ytdifplakkepnkaa
/- THE CELL 'sum', in the pinned program and in every row, IS THE sha256 OF THE DUMP (.gsa) THAT YtdifplakkepnkaaProg.lean LOADS. Nothing in Lean hashes anything: it is a label: what it is worth is what the hold of that sum in a sandbox is worth. -/
noncomputable def Try.pinned : Pinned := { name := "ytdifplakkepnkaa", sum := "b604fb8a03307cf2cb02e66e5f7a4ebe2973e00042d66282477587656c01cd5f", checked := Try.checked }
namespace Rows
def none {H : Type} : Left H := { results := [], args := [] }

/-- 'laws.FnNewBoth': WHATEVER THE INPUT: true; the input reads as it did. -/
def fnNewBothSpec : ChangeSpec := { name := "fnNewBoth", fn := fun _ => fun
  | [d] => { results := [.lit (.bool true)], args := [d] }
  | _ => none }
def fnNewBothRow : OpenClaim := { program := "ytdifplakkepnkaa", sum := "b604fb8a03307cf2cb02e66e5f7a4ebe2973e00042d66282477587656c01cd5f", func := "loop.example/cellcollector/laws.FnNewBoth", spec := "fnNewBoth", apart := false }
def FnNewBothSaid : Prop := fnNewBothRow.holds Try.pinned (OpenSpec.ofChange fnNewBothSpec)

/-- ITS FALSE NEIGHBOUR: 'it returns false'. Refute it at one input. -/
def fnNewBothWrong : ChangeSpec := { name := "fnNewBoth", fn := fun _ => fun
  | [d] => { results := [.lit (.bool false)], args := [d] }
  | _ => none }
def FnNewBothWrongFalsely : Prop := fnNewBothRow.holds Try.pinned (OpenSpec.ofChange fnNewBothWrong)

/-- 'laws.FnExactNewBoth': WHATEVER THE INPUT: true; the input reads as it did. -/
def fnExactNewBothSpec : ChangeSpec := { name := "fnExactNewBoth", fn := fun _ => fun
  | [d1, d2] => { results := [.lit (.bool true)], args := [d1, d2] }
  | _ => none }
def fnExactNewBothRow : OpenClaim := { program := "ytdifplakkepnkaa", sum := "b604fb8a03307cf2cb02e66e5f7a4ebe2973e00042d66282477587656c01cd5f", func := "loop.example/cellcollector/laws.FnExactNewBoth", spec := "fnExactNewBoth", apart := false }
def FnExactNewBothSaid : Prop := fnExactNewBothRow.holds Try.pinned (OpenSpec.ofChange fnExactNewBothSpec)

/-- ITS FALSE NEIGHBOUR: 'it returns false'. Refute it at one input. -/
def fnExactNewBothWrong : ChangeSpec := { name := "fnExactNewBoth", fn := fun _ => fun
  | [d1, d2] => { results := [.lit (.bool false)], args := [d1, d2] }
  | _ => none }
def FnExactNewBothWrongFalsely : Prop := fnExactNewBothRow.holds Try.pinned (OpenSpec.ofChange fnExactNewBothWrong)

/-- 'laws.FnExactBothValid': WHATEVER THE INPUT: true; the input reads as it did. -/
def fnExactBothValidSpec : ChangeSpec := { name := "fnExactBothValid", fn := fun _ => fun
  | [d] => { results := [.lit (.bool true)], args := [d] }
  | _ => none }
def fnExactBothValidRow : OpenClaim := { program := "ytdifplakkepnkaa", sum := "b604fb8a03307cf2cb02e66e5f7a4ebe2973e00042d66282477587656c01cd5f", func := "loop.example/cellcollector/laws.FnExactBothValid", spec := "fnExactBothValid", apart := false }
def FnExactBothValidSaid : Prop := fnExactBothValidRow.holds Try.pinned (OpenSpec.ofChange fnExactBothValidSpec)

/-- ITS FALSE NEIGHBOUR: 'it returns false'. Refute it at one input. -/
def fnExactBothValidWrong : ChangeSpec := { name := "fnExactBothValid", fn := fun _ => fun
  | [d] => { results := [.lit (.bool false)], args := [d] }
  | _ => none }
def FnExactBothValidWrongFalsely : Prop := fnExactBothValidRow.holds Try.pinned (OpenSpec.ofChange fnExactBothValidWrong)

/-- 'laws.FnExactBothSame': WHATEVER THE INPUT: true; the input reads as it did. -/
def fnExactBothSameSpec : ChangeSpec := { name := "fnExactBothSame", fn := fun _ => fun
  | [d1, d2] => { results := [.lit (.bool true)], args := [d1, d2] }
  | _ => none }
def fnExactBothSameRow : OpenClaim := { program := "ytdifplakkepnkaa", sum := "b604fb8a03307cf2cb02e66e5f7a4ebe2973e00042d66282477587656c01cd5f", func := "loop.example/cellcollector/laws.FnExactBothSame", spec := "fnExactBothSame", apart := false }
def FnExactBothSameSaid : Prop := fnExactBothSameRow.holds Try.pinned (OpenSpec.ofChange fnExactBothSameSpec)

/-- ITS FALSE NEIGHBOUR: 'it returns false'. Refute it at one input. -/
def fnExactBothSameWrong : ChangeSpec := { name := "fnExactBothSame", fn := fun _ => fun
  | [d1, d2] => { results := [.lit (.bool false)], args := [d1, d2] }
  | _ => none }
def FnExactBothSameWrongFalsely : Prop := fnExactBothSameRow.holds Try.pinned (OpenSpec.ofChange fnExactBothSameWrong)

/-- 'laws.FnExactStepOp': WHATEVER THE INPUT: true; the input reads as it did. -/
def fnExactStepOpSpec : ChangeSpec := { name := "fnExactStepOp", fn := fun _ => fun
  | [d1, d2] => { results := [.lit (.bool true)], args := [d1, d2] }
  | _ => none }
def fnExactStepOpRow : OpenClaim := { program := "ytdifplakkepnkaa", sum := "b604fb8a03307cf2cb02e66e5f7a4ebe2973e00042d66282477587656c01cd5f", func := "loop.example/cellcollector/laws.FnExactStepOp", spec := "fnExactStepOp", unfollowed := true, recurses := true, apart := false }
def FnExactStepOpSaid : Prop := fnExactStepOpRow.holds Try.pinned (OpenSpec.ofChange fnExactStepOpSpec)

/-- ITS FALSE NEIGHBOUR: 'it returns false'. Refute it at one input. -/
def fnExactStepOpWrong : ChangeSpec := { name := "fnExactStepOp", fn := fun _ => fun
  | [d1, d2] => { results := [.lit (.bool false)], args := [d1, d2] }
  | _ => none }
def FnExactStepOpWrongFalsely : Prop := fnExactStepOpRow.holds Try.pinned (OpenSpec.ofChange fnExactStepOpWrong)

/- THE SECOND FORM. 'bulk': how many values and letters a reading holds, each counted each time it is reached (what is shared counts as often as it is met; a slice's spare places count too). A statement '..UptoSaid' is the law's where the arguments, and the package variables that the reading takes, are together of bulk at most 1048576: NARROWER than '..Said'. Prove '..Said' where nothing that the law and all that it calls make is longer than what came in: it says more and counts as full. Else prove '..UptoSaid'. A law counts once. -/
mutual
def uptoBulk {H : Type} : DataW H → Nat
  | .lit (.string bytes) => bytes.length + 1
  | .lit _ => 1
  | .nil => 1
  | .ptr d => uptoBulk d + 1
  | .slice elems spare => uptoBulkAll elems + uptoBulkAll spare + 1
  | .agg parts => uptoBulkAll parts + 1
  | .iface _ d => uptoBulk d + 1
  | .map entries => uptoBulkEntries entries + 1
  | .held _ => 1
def uptoBulkAll {H : Type} : List (DataW H) → Nat
  | [] => 0
  | d :: r => uptoBulk d + uptoBulkAll r
def uptoBulkEntries {H : Type} : List (Lit × DataW H) → Nat
  | [] => 0
  | x :: r => uptoBulkEntry x + uptoBulkEntries r
def uptoBulkEntry {H : Type} : Lit × DataW H → Nat
  | (.string bytes, d) => bytes.length + uptoBulk d + 1
  | (_, d) => uptoBulk d + 1
 end
def uptoSmall : (H : Type) → List (DataW H) → Bool := fun _ ds => decide (uptoBulkAll ds ≤ 1048576)
def OpenSpec.upto (s : _root_.Go.ChangeSpec) : _root_.Go.OpenSpec := { _root_.Go.OpenSpec.ofChange s with cond := some uptoSmall }

/-- 'laws.FnNewBoth', WHERE WHAT IT READS IS OF BULK AT MOST 1048576: true; the input reads as it did. -/
def fnNewBothUptoRow : OpenClaim := { program := "ytdifplakkepnkaa", sum := "b604fb8a03307cf2cb02e66e5f7a4ebe2973e00042d66282477587656c01cd5f", func := "loop.example/cellcollector/laws.FnNewBoth", spec := "fnNewBoth", apart := false, narrowed := true }
def FnNewBothUptoSaid : Prop := fnNewBothUptoRow.holds Try.pinned (OpenSpec.upto fnNewBothSpec)

/-- 'laws.FnExactNewBoth', WHERE WHAT IT READS IS OF BULK AT MOST 1048576: true; the input reads as it did. -/
def fnExactNewBothUptoRow : OpenClaim := { program := "ytdifplakkepnkaa", sum := "b604fb8a03307cf2cb02e66e5f7a4ebe2973e00042d66282477587656c01cd5f", func := "loop.example/cellcollector/laws.FnExactNewBoth", spec := "fnExactNewBoth", apart := false, narrowed := true }
def FnExactNewBothUptoSaid : Prop := fnExactNewBothUptoRow.holds Try.pinned (OpenSpec.upto fnExactNewBothSpec)

/-- 'laws.FnExactBothValid', WHERE WHAT IT READS IS OF BULK AT MOST 1048576: true; the input reads as it did. -/
def fnExactBothValidUptoRow : OpenClaim := { program := "ytdifplakkepnkaa", sum := "b604fb8a03307cf2cb02e66e5f7a4ebe2973e00042d66282477587656c01cd5f", func := "loop.example/cellcollector/laws.FnExactBothValid", spec := "fnExactBothValid", apart := false, narrowed := true }
def FnExactBothValidUptoSaid : Prop := fnExactBothValidUptoRow.holds Try.pinned (OpenSpec.upto fnExactBothValidSpec)

/-- 'laws.FnExactBothSame', WHERE WHAT IT READS IS OF BULK AT MOST 1048576: true; the input reads as it did. -/
def fnExactBothSameUptoRow : OpenClaim := { program := "ytdifplakkepnkaa", sum := "b604fb8a03307cf2cb02e66e5f7a4ebe2973e00042d66282477587656c01cd5f", func := "loop.example/cellcollector/laws.FnExactBothSame", spec := "fnExactBothSame", apart := false, narrowed := true }
def FnExactBothSameUptoSaid : Prop := fnExactBothSameUptoRow.holds Try.pinned (OpenSpec.upto fnExactBothSameSpec)

/-- 'laws.FnExactStepOp', WHERE WHAT IT READS IS OF BULK AT MOST 1048576: true; the input reads as it did. -/
def fnExactStepOpUptoRow : OpenClaim := { program := "ytdifplakkepnkaa", sum := "b604fb8a03307cf2cb02e66e5f7a4ebe2973e00042d66282477587656c01cd5f", func := "loop.example/cellcollector/laws.FnExactStepOp", spec := "fnExactStepOp", unfollowed := true, recurses := true, apart := false, narrowed := true }
def FnExactStepOpUptoSaid : Prop := fnExactStepOpUptoRow.holds Try.pinned (OpenSpec.upto fnExactStepOpSpec)

end Rows
end Go.Proofs.Ytdifplakkepnkaa
