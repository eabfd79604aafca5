/-
  No cell of these rows narrows 'for every input' (looked for: loops, veiled, ifaces, maps, wideKeys, modest, calm, conditions, laid).
  DERIVED. THE GIVEN ROWS OF THIS SEAT. 6 by the template 'for every input the law returns true; each argument reads behind the call as it read before'; 0 by the template 'total and deterministic' (their statements: YtpimndfafibgeaaTotals.lean).
  GIVEN WITH THE SEED: the statements are not yours to turn. If you find one false, say at which input.
  Laid BY PROGRAM, IN A SANDBOX (cutbox-rows.mjs): the forced cells as the released guide's own fill.sh prints them over the translation d95b3ca7df387011… (all of the seat's roots in one cut). By AI agents, Wed Nov 11 2026. No macro, syntax, notation, axiom, sorry.
-/
import Derived.Test.YtpimndfafibgeaaChecked
import GoSem.Claim
import GoSem.ClaimJoined
import GoSem.ClaimMapViews
import Derived.JoinedTies
import Derived.KernelRfl
namespace Go.Proofs.Ytpimndfafibgeaa
/- THE CELL 'sum', in the pinned program and in every row, IS THE sha256 OF THE DUMP (.gsa) THAT YtpimndfafibgeaaProg.lean LOADS. Nothing in Lean hashes anything: it is a label: what it is worth is what the hold of that sum in a sandbox is worth. -/
noncomputable def Try.pinned : Pinned := { name := "ytpimndfafibgeaa", sum := "d95b3ca7df387011e02a5800836fcdb05d9b7fac1c0477fccc0d03682f22a3ac", checked := Try.checked }
namespace Rows
def none {H : Type} : Left H := { results := [], args := [] }

/-- 'laws.FnHeapText': WHATEVER THE INPUT: true; the input reads as it did. -/
def fnHeapTextSpec : ChangeSpec := { name := "fnHeapText", fn := fun _ => fun
  | [d1, d2] => { results := [.lit (.bool true)], args := [d1, d2] }
  | _ => none }
def fnHeapTextRow : OpenClaim := { program := "ytpimndfafibgeaa", sum := "d95b3ca7df387011e02a5800836fcdb05d9b7fac1c0477fccc0d03682f22a3ac", func := "loop.example/cellcollector/laws.FnHeapText", spec := "fnHeapText", inPlace := ["internal/abi.NoEscape"], recurses := true, apart := false }
def FnHeapTextSaid : Prop := fnHeapTextRow.holds Try.pinned (OpenSpec.ofChange fnHeapTextSpec)

/-- ITS FALSE NEIGHBOUR: 'it returns false'. Refute it at one input. -/
def fnHeapTextWrong : ChangeSpec := { name := "fnHeapText", fn := fun _ => fun
  | [d1, d2] => { results := [.lit (.bool false)], args := [d1, d2] }
  | _ => none }
def FnHeapTextWrongFalsely : Prop := fnHeapTextRow.holds Try.pinned (OpenSpec.ofChange fnHeapTextWrong)

/-- 'laws.FnHeapSame': WHATEVER THE INPUT: true; the input reads as it did. -/
def fnHeapSameSpec : ChangeSpec := { name := "fnHeapSame", fn := fun _ => fun
  | [d] => { results := [.lit (.bool true)], args := [d] }
  | _ => none }
def fnHeapSameRow : OpenClaim := { program := "ytpimndfafibgeaa", sum := "d95b3ca7df387011e02a5800836fcdb05d9b7fac1c0477fccc0d03682f22a3ac", func := "loop.example/cellcollector/laws.FnHeapSame", spec := "fnHeapSame", inPlace := ["internal/abi.NoEscape"], apart := false }
def FnHeapSameSaid : Prop := fnHeapSameRow.holds Try.pinned (OpenSpec.ofChange fnHeapSameSpec)

/-- ITS FALSE NEIGHBOUR: 'it returns false'. Refute it at one input. -/
def fnHeapSameWrong : ChangeSpec := { name := "fnHeapSame", fn := fun _ => fun
  | [d] => { results := [.lit (.bool false)], args := [d] }
  | _ => none }
def FnHeapSameWrongFalsely : Prop := fnHeapSameRow.holds Try.pinned (OpenSpec.ofChange fnHeapSameWrong)

/-- 'laws.FnHeapSize': WHATEVER THE INPUT: true; the input reads as it did. -/
def fnHeapSizeSpec : ChangeSpec := { name := "fnHeapSize", fn := fun _ => fun
  | [d] => { results := [.lit (.bool true)], args := [d] }
  | _ => none }
def fnHeapSizeRow : OpenClaim := { program := "ytpimndfafibgeaa", sum := "d95b3ca7df387011e02a5800836fcdb05d9b7fac1c0477fccc0d03682f22a3ac", func := "loop.example/cellcollector/laws.FnHeapSize", spec := "fnHeapSize", inPlace := ["internal/abi.NoEscape"], recurses := true, apart := false }
def FnHeapSizeSaid : Prop := fnHeapSizeRow.holds Try.pinned (OpenSpec.ofChange fnHeapSizeSpec)

/-- ITS FALSE NEIGHBOUR: 'it returns false'. Refute it at one input. -/
def fnHeapSizeWrong : ChangeSpec := { name := "fnHeapSize", fn := fun _ => fun
  | [d] => { results := [.lit (.bool false)], args := [d] }
  | _ => none }
def FnHeapSizeWrongFalsely : Prop := fnHeapSizeRow.holds Try.pinned (OpenSpec.ofChange fnHeapSizeWrong)

/-- 'laws.FnParseValid': WHATEVER THE INPUT: true; the input reads as it did. -/
def fnParseValidSpec : ChangeSpec := { name := "fnParseValid", fn := fun _ => fun
  | [d] => { results := [.lit (.bool true)], args := [d] }
  | _ => none }
def fnParseValidRow : OpenClaim := { program := "ytpimndfafibgeaa", sum := "d95b3ca7df387011e02a5800836fcdb05d9b7fac1c0477fccc0d03682f22a3ac", func := "loop.example/cellcollector/laws.FnParseValid", spec := "fnParseValid", recurses := true, apart := false }
def FnParseValidSaid : Prop := fnParseValidRow.holds Try.pinned (OpenSpec.ofChange fnParseValidSpec)

/-- ITS FALSE NEIGHBOUR: 'it returns false'. Refute it at one input. -/
def fnParseValidWrong : ChangeSpec := { name := "fnParseValid", fn := fun _ => fun
  | [d] => { results := [.lit (.bool false)], args := [d] }
  | _ => none }
def FnParseValidWrongFalsely : Prop := fnParseValidRow.holds Try.pinned (OpenSpec.ofChange fnParseValidWrong)

/-- 'laws.FnExactFormatHeap': WHATEVER THE INPUT: true; the input reads as it did. -/
def fnExactFormatHeapSpec : ChangeSpec := { name := "fnExactFormatHeap", fn := fun _ => fun
  | [d] => { results := [.lit (.bool true)], args := [d] }
  | _ => none }
def fnExactFormatHeapRow : OpenClaim := { program := "ytpimndfafibgeaa", sum := "d95b3ca7df387011e02a5800836fcdb05d9b7fac1c0477fccc0d03682f22a3ac", func := "loop.example/cellcollector/laws.FnExactFormatHeap", spec := "fnExactFormatHeap", inPlace := ["internal/abi.NoEscape"], recurses := true, apart := false }
def FnExactFormatHeapSaid : Prop := fnExactFormatHeapRow.holds Try.pinned (OpenSpec.ofChange fnExactFormatHeapSpec)

/-- ITS FALSE NEIGHBOUR: 'it returns false'. Refute it at one input. -/
def fnExactFormatHeapWrong : ChangeSpec := { name := "fnExactFormatHeap", fn := fun _ => fun
  | [d] => { results := [.lit (.bool false)], args := [d] }
  | _ => none }
def FnExactFormatHeapWrongFalsely : Prop := fnExactFormatHeapRow.holds Try.pinned (OpenSpec.ofChange fnExactFormatHeapWrong)

/-- 'laws.FnExactParseHeap': WHATEVER THE INPUT: true; the input reads as it did. -/
def fnExactParseHeapSpec : ChangeSpec := { name := "fnExactParseHeap", fn := fun _ => fun
  | [d] => { results := [.lit (.bool true)], args := [d] }
  | _ => none }
def fnExactParseHeapRow : OpenClaim := { program := "ytpimndfafibgeaa", sum := "d95b3ca7df387011e02a5800836fcdb05d9b7fac1c0477fccc0d03682f22a3ac", func := "loop.example/cellcollector/laws.FnExactParseHeap", spec := "fnExactParseHeap", recurses := true, apart := false }
def FnExactParseHeapSaid : Prop := fnExactParseHeapRow.holds Try.pinned (OpenSpec.ofChange fnExactParseHeapSpec)

/-- ITS FALSE NEIGHBOUR: 'it returns false'. Refute it at one input. -/
def fnExactParseHeapWrong : ChangeSpec := { name := "fnExactParseHeap", fn := fun _ => fun
  | [d] => { results := [.lit (.bool false)], args := [d] }
  | _ => none }
def FnExactParseHeapWrongFalsely : Prop := fnExactParseHeapRow.holds Try.pinned (OpenSpec.ofChange fnExactParseHeapWrong)

/- THE SECOND FORM. 'bulk': how many values and letters a reading holds, each counted each time it is reached (what is shared counts as often as it is met; a slice's spare places count too). A statement '..UptoSaid' is the law's where the arguments, and the package variables that the reading takes, are together of bulk at most 1048576: NARROWER than '..Said'. Prove '..Said' where nothing that the law and all that it calls make is longer than what came in: it says more and counts as full. Else prove '..UptoSaid'. A law counts once. -/
mutual
def uptoBulk {H : Type} : DataW H → Nat
  | .lit (.string bytes) => bytes.length + 1
  | .lit _ => 1
  | .nil => 1
  | .ptr d => uptoBulk d + 1
  | .slice elems spare => uptoBulkAll elems + uptoBulkAll spare + 1
  | .agg parts => uptoBulkAll parts + 1
  | .iface _ d => uptoBulk d + 1
  | .map entries => uptoBulkEntries entries + 1
  | .held _ => 1
def uptoBulkAll {H : Type} : List (DataW H) → Nat
  | [] => 0
  | d :: r => uptoBulk d + uptoBulkAll r
def uptoBulkEntries {H : Type} : List (Lit × DataW H) → Nat
  | [] => 0
  | x :: r => uptoBulkEntry x + uptoBulkEntries r
def uptoBulkEntry {H : Type} : Lit × DataW H → Nat
  | (.string bytes, d) => bytes.length + uptoBulk d + 1
  | (_, d) => uptoBulk d + 1
 end
def uptoSmall : (H : Type) → List (DataW H) → Bool := fun _ ds => decide (uptoBulkAll ds ≤ 1048576)
def OpenSpec.upto (s : _root_.Go.ChangeSpec) : _root_.Go.OpenSpec := { _root_.Go.OpenSpec.ofChange s with cond := some uptoSmall }

/-- 'laws.FnHeapText', WHERE WHAT IT READS IS OF BULK AT MOST 1048576: true; the input reads as it did. -/
def fnHeapTextUptoRow : OpenClaim := { program := "ytpimndfafibgeaa", sum := "d95b3ca7df387011e02a5800836fcdb05d9b7fac1c0477fccc0d03682f22a3ac", func := "loop.example/cellcollector/laws.FnHeapText", spec := "fnHeapText", inPlace := ["internal/abi.NoEscape"], recurses := true, apart := false, narrowed := true }
def FnHeapTextUptoSaid : Prop := fnHeapTextUptoRow.holds Try.pinned (OpenSpec.upto fnHeapTextSpec)

/-- 'laws.FnHeapSame', WHERE WHAT IT READS IS OF BULK AT MOST 1048576: true; the input reads as it did. -/
def fnHeapSameUptoRow : OpenClaim := { program := "ytpimndfafibgeaa", sum := "d95b3ca7df387011e02a5800836fcdb05d9b7fac1c0477fccc0d03682f22a3ac", func := "loop.example/cellcollector/laws.FnHeapSame", spec := "fnHeapSame", inPlace := ["internal/abi.NoEscape"], apart := false, narrowed := true }
def FnHeapSameUptoSaid : Prop := fnHeapSameUptoRow.holds Try.pinned (OpenSpec.upto fnHeapSameSpec)

/-- 'laws.FnHeapSize', WHERE WHAT IT READS IS OF BULK AT MOST 1048576: true; the input reads as it did. -/
def fnHeapSizeUptoRow : OpenClaim := { program := "ytpimndfafibgeaa", sum := "d95b3ca7df387011e02a5800836fcdb05d9b7fac1c0477fccc0d03682f22a3ac", func := "loop.example/cellcollector/laws.FnHeapSize", spec := "fnHeapSize", inPlace := ["internal/abi.NoEscape"], recurses := true, apart := false, narrowed := true }
def FnHeapSizeUptoSaid : Prop := fnHeapSizeUptoRow.holds Try.pinned (OpenSpec.upto fnHeapSizeSpec)

/-- 'laws.FnParseValid', WHERE WHAT IT READS IS OF BULK AT MOST 1048576: true; the input reads as it did. -/
def fnParseValidUptoRow : OpenClaim := { program := "ytpimndfafibgeaa", sum := "d95b3ca7df387011e02a5800836fcdb05d9b7fac1c0477fccc0d03682f22a3ac", func := "loop.example/cellcollector/laws.FnParseValid", spec := "fnParseValid", recurses := true, apart := false, narrowed := true }
def FnParseValidUptoSaid : Prop := fnParseValidUptoRow.holds Try.pinned (OpenSpec.upto fnParseValidSpec)

/-- 'laws.FnExactFormatHeap', WHERE WHAT IT READS IS OF BULK AT MOST 1048576: true; the input reads as it did. -/
def fnExactFormatHeapUptoRow : OpenClaim := { program := "ytpimndfafibgeaa", sum := "d95b3ca7df387011e02a5800836fcdb05d9b7fac1c0477fccc0d03682f22a3ac", func := "loop.example/cellcollector/laws.FnExactFormatHeap", spec := "fnExactFormatHeap", inPlace := ["internal/abi.NoEscape"], recurses := true, apart := false, narrowed := true }
def FnExactFormatHeapUptoSaid : Prop := fnExactFormatHeapUptoRow.holds Try.pinned (OpenSpec.upto fnExactFormatHeapSpec)

/-- 'laws.FnExactParseHeap', WHERE WHAT IT READS IS OF BULK AT MOST 1048576: true; the input reads as it did. -/
def fnExactParseHeapUptoRow : OpenClaim := { program := "ytpimndfafibgeaa", sum := "d95b3ca7df387011e02a5800836fcdb05d9b7fac1c0477fccc0d03682f22a3ac", func := "loop.example/cellcollector/laws.FnExactParseHeap", spec := "fnExactParseHeap", recurses := true, apart := false, narrowed := true }
def FnExactParseHeapUptoSaid : Prop := fnExactParseHeapUptoRow.holds Try.pinned (OpenSpec.upto fnExactParseHeapSpec)

end Rows
end Go.Proofs.Ytpimndfafibgeaa
