/-
  No cell of these rows narrows 'for every input' (looked for: loops, veiled, ifaces, maps, wideKeys, modest, calm, conditions, laid).
  DERIVED. THE GIVEN ROWS OF THIS SEAT. 4 by the template 'for every input the law returns true; each argument reads behind the call as it read before'; 0 by the template 'total and deterministic' (their statements: YtepljdlikplfeaaTotals.lean).
  GIVEN WITH THE SEED: the statements are not yours to turn. If you find one false, say at which input.
  Laid BY PROGRAM, IN A SANDBOX (cutbox-rows.mjs): the forced cells as the released guide's own fill.sh prints them over the translation 4b808cc9a47c9049… (all of the seat's roots in one cut). By AI agents, Wed Nov 11 2026. No macro, syntax, notation, axiom, sorry.
-/
import Derived.Test.YtepljdlikplfeaaChecked
import GoSem.Claim
import GoSem.ClaimJoined
import GoSem.ClaimMapViews
import Derived.JoinedTies
import Derived.KernelRfl
namespace Go.Proofs.Ytepljdlikplfeaa
/- THE CELL 'sum', in the pinned program and in every row, IS THE sha256 OF THE DUMP (.gsa) THAT YtepljdlikplfeaaProg.lean LOADS. Nothing in Lean hashes anything: it is a label: what it is worth is what the hold of that sum in a sandbox is worth. -/
noncomputable def Try.pinned : Pinned := { name := "ytepljdlikplfeaa", sum := "4b808cc9a47c9049b8818d50026b0fcd42a431f14e4b65c6ac5abe61f4ba21d5", checked := Try.checked }
namespace Rows
def none {H : Type} : Left H := { results := [], args := [] }

/-- 'laws.FnMarkLive': WHATEVER THE INPUT: true; the input reads as it did. -/
def fnMarkLiveSpec : ChangeSpec := { name := "fnMarkLive", fn := fun _ => fun
  | [d] => { results := [.lit (.bool true)], args := [d] }
  | _ => none }
def fnMarkLiveRow : OpenClaim := { program := "ytepljdlikplfeaa", sum := "4b808cc9a47c9049b8818d50026b0fcd42a431f14e4b65c6ac5abe61f4ba21d5", func := "loop.example/cellcollector/laws.FnMarkLive", spec := "fnMarkLive", apart := false }
def FnMarkLiveSaid : Prop := fnMarkLiveRow.holds Try.pinned (OpenSpec.ofChange fnMarkLiveSpec)

/-- ITS FALSE NEIGHBOUR: 'it returns false'. Refute it at one input. -/
def fnMarkLiveWrong : ChangeSpec := { name := "fnMarkLive", fn := fun _ => fun
  | [d] => { results := [.lit (.bool false)], args := [d] }
  | _ => none }
def FnMarkLiveWrongFalsely : Prop := fnMarkLiveRow.holds Try.pinned (OpenSpec.ofChange fnMarkLiveWrong)

/-- 'laws.FnMarkCount': WHATEVER THE INPUT: true; the input reads as it did. -/
def fnMarkCountSpec : ChangeSpec := { name := "fnMarkCount", fn := fun _ => fun
  | [d] => { results := [.lit (.bool true)], args := [d] }
  | _ => none }
def fnMarkCountRow : OpenClaim := { program := "ytepljdlikplfeaa", sum := "4b808cc9a47c9049b8818d50026b0fcd42a431f14e4b65c6ac5abe61f4ba21d5", func := "loop.example/cellcollector/laws.FnMarkCount", spec := "fnMarkCount", apart := false }
def FnMarkCountSaid : Prop := fnMarkCountRow.holds Try.pinned (OpenSpec.ofChange fnMarkCountSpec)

/-- ITS FALSE NEIGHBOUR: 'it returns false'. Refute it at one input. -/
def fnMarkCountWrong : ChangeSpec := { name := "fnMarkCount", fn := fun _ => fun
  | [d] => { results := [.lit (.bool false)], args := [d] }
  | _ => none }
def FnMarkCountWrongFalsely : Prop := fnMarkCountRow.holds Try.pinned (OpenSpec.ofChange fnMarkCountWrong)

/-- 'laws.FnRootsGray': WHATEVER THE INPUT: true; the input reads as it did. -/
def fnRootsGraySpec : ChangeSpec := { name := "fnRootsGray", fn := fun _ => fun
  | [d] => { results := [.lit (.bool true)], args := [d] }
  | _ => none }
def fnRootsGrayRow : OpenClaim := { program := "ytepljdlikplfeaa", sum := "4b808cc9a47c9049b8818d50026b0fcd42a431f14e4b65c6ac5abe61f4ba21d5", func := "loop.example/cellcollector/laws.FnRootsGray", spec := "fnRootsGray", apart := false }
def FnRootsGraySaid : Prop := fnRootsGrayRow.holds Try.pinned (OpenSpec.ofChange fnRootsGraySpec)

/-- ITS FALSE NEIGHBOUR: 'it returns false'. Refute it at one input. -/
def fnRootsGrayWrong : ChangeSpec := { name := "fnRootsGray", fn := fun _ => fun
  | [d] => { results := [.lit (.bool false)], args := [d] }
  | _ => none }
def FnRootsGrayWrongFalsely : Prop := fnRootsGrayRow.holds Try.pinned (OpenSpec.ofChange fnRootsGrayWrong)

/-- 'laws.FnWhiteEnd': WHATEVER THE INPUT: true; the input reads as it did. -/
def fnWhiteEndSpec : ChangeSpec := { name := "fnWhiteEnd", fn := fun _ => fun
  | [d] => { results := [.lit (.bool true)], args := [d] }
  | _ => none }
def fnWhiteEndRow : OpenClaim := { program := "ytepljdlikplfeaa", sum := "4b808cc9a47c9049b8818d50026b0fcd42a431f14e4b65c6ac5abe61f4ba21d5", func := "loop.example/cellcollector/laws.FnWhiteEnd", spec := "fnWhiteEnd", apart := false }
def FnWhiteEndSaid : Prop := fnWhiteEndRow.holds Try.pinned (OpenSpec.ofChange fnWhiteEndSpec)

/-- ITS FALSE NEIGHBOUR: 'it returns false'. Refute it at one input. -/
def fnWhiteEndWrong : ChangeSpec := { name := "fnWhiteEnd", fn := fun _ => fun
  | [d] => { results := [.lit (.bool false)], args := [d] }
  | _ => none }
def FnWhiteEndWrongFalsely : Prop := fnWhiteEndRow.holds Try.pinned (OpenSpec.ofChange fnWhiteEndWrong)

/- THE SECOND FORM. 'bulk': how many values and letters a reading holds, each counted each time it is reached (what is shared counts as often as it is met; a slice's spare places count too). A statement '..UptoSaid' is the law's where the arguments, and the package variables that the reading takes, are together of bulk at most 1048576: NARROWER than '..Said'. Prove '..Said' where nothing that the law and all that it calls make is longer than what came in: it says more and counts as full. Else prove '..UptoSaid'. A law counts once. -/
mutual
def uptoBulk {H : Type} : DataW H → Nat
  | .lit (.string bytes) => bytes.length + 1
  | .lit _ => 1
  | .nil => 1
  | .ptr d => uptoBulk d + 1
  | .slice elems spare => uptoBulkAll elems + uptoBulkAll spare + 1
  | .agg parts => uptoBulkAll parts + 1
  | .iface _ d => uptoBulk d + 1
  | .map entries => uptoBulkEntries entries + 1
  | .held _ => 1
def uptoBulkAll {H : Type} : List (DataW H) → Nat
  | [] => 0
  | d :: r => uptoBulk d + uptoBulkAll r
def uptoBulkEntries {H : Type} : List (Lit × DataW H) → Nat
  | [] => 0
  | x :: r => uptoBulkEntry x + uptoBulkEntries r
def uptoBulkEntry {H : Type} : Lit × DataW H → Nat
  | (.string bytes, d) => bytes.length + uptoBulk d + 1
  | (_, d) => uptoBulk d + 1
 end
def uptoSmall : (H : Type) → List (DataW H) → Bool := fun _ ds => decide (uptoBulkAll ds ≤ 1048576)
def OpenSpec.upto (s : _root_.Go.ChangeSpec) : _root_.Go.OpenSpec := { _root_.Go.OpenSpec.ofChange s with cond := some uptoSmall }

/-- 'laws.FnMarkLive', WHERE WHAT IT READS IS OF BULK AT MOST 1048576: true; the input reads as it did. -/
def fnMarkLiveUptoRow : OpenClaim := { program := "ytepljdlikplfeaa", sum := "4b808cc9a47c9049b8818d50026b0fcd42a431f14e4b65c6ac5abe61f4ba21d5", func := "loop.example/cellcollector/laws.FnMarkLive", spec := "fnMarkLive", apart := false, narrowed := true }
def FnMarkLiveUptoSaid : Prop := fnMarkLiveUptoRow.holds Try.pinned (OpenSpec.upto fnMarkLiveSpec)

/-- 'laws.FnMarkCount', WHERE WHAT IT READS IS OF BULK AT MOST 1048576: true; the input reads as it did. -/
def fnMarkCountUptoRow : OpenClaim := { program := "ytepljdlikplfeaa", sum := "4b808cc9a47c9049b8818d50026b0fcd42a431f14e4b65c6ac5abe61f4ba21d5", func := "loop.example/cellcollector/laws.FnMarkCount", spec := "fnMarkCount", apart := false, narrowed := true }
def FnMarkCountUptoSaid : Prop := fnMarkCountUptoRow.holds Try.pinned (OpenSpec.upto fnMarkCountSpec)

/-- 'laws.FnRootsGray', WHERE WHAT IT READS IS OF BULK AT MOST 1048576: true; the input reads as it did. -/
def fnRootsGrayUptoRow : OpenClaim := { program := "ytepljdlikplfeaa", sum := "4b808cc9a47c9049b8818d50026b0fcd42a431f14e4b65c6ac5abe61f4ba21d5", func := "loop.example/cellcollector/laws.FnRootsGray", spec := "fnRootsGray", apart := false, narrowed := true }
def FnRootsGrayUptoSaid : Prop := fnRootsGrayUptoRow.holds Try.pinned (OpenSpec.upto fnRootsGraySpec)

/-- 'laws.FnWhiteEnd', WHERE WHAT IT READS IS OF BULK AT MOST 1048576: true; the input reads as it did. -/
def fnWhiteEndUptoRow : OpenClaim := { program := "ytepljdlikplfeaa", sum := "4b808cc9a47c9049b8818d50026b0fcd42a431f14e4b65c6ac5abe61f4ba21d5", func := "loop.example/cellcollector/laws.FnWhiteEnd", spec := "fnWhiteEnd", apart := false, narrowed := true }
def FnWhiteEndUptoSaid : Prop := fnWhiteEndUptoRow.holds Try.pinned (OpenSpec.upto fnWhiteEndSpec)

end Rows
end Go.Proofs.Ytepljdlikplfeaa
