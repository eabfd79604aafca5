/-
  No cell of these rows narrows 'for every input' (looked for: loops, veiled, ifaces, maps, wideKeys, modest, calm, conditions, laid).
  DERIVED. THE GIVEN ROWS OF THIS SEAT. 12 by the template 'for every input the law returns true; each argument reads behind the call as it read before'; 0 by the template 'total and deterministic' (their statements: YtpngbiokoiipaaaTotals.lean).
  GIVEN WITH THE SEED: the statements are not yours to turn. If you find one false, say at which input.
  Laid BY PROGRAM, IN A SANDBOX (cutbox-rows.mjs): the forced cells as the released guide's own fill.sh prints them over the translation 0ac0ed63b7b41f18… (all of the seat's roots in one cut). By AI agents, Wed Nov 11 2026. No macro, syntax, notation, axiom, sorry.
-/
import Derived.Test.YtpngbiokoiipaaaChecked
import GoSem.Claim
import GoSem.ClaimJoined
import GoSem.ClaimMapViews
import Derived.JoinedTies
import Derived.KernelRfl
namespace Go.Proofs.Ytpngbiokoiipaaa
/- THE CELL 'sum', in the pinned program and in every row, IS THE sha256 OF THE DUMP (.gsa) THAT YtpngbiokoiipaaaProg.lean LOADS. Nothing in Lean hashes anything: it is a label: what it is worth is what the hold of that sum in a sandbox is worth. -/
noncomputable def Try.pinned : Pinned := { name := "ytpngbiokoiipaaa", sum := "0ac0ed63b7b41f184c4db5cf5644eab8dacd4c577ab5f8096e4a277e8bf366bb", checked := Try.checked }
namespace Rows
def none {H : Type} : Left H := { results := [], args := [] }

/-- 'laws.FnHeapText': WHATEVER THE INPUT: true; the input reads as it did. -/
def fnHeapTextSpec : ChangeSpec := { name := "fnHeapText", fn := fun _ => fun
  | [d1, d2] => { results := [.lit (.bool true)], args := [d1, d2] }
  | _ => none }
def fnHeapTextRow : OpenClaim := { program := "ytpngbiokoiipaaa", sum := "0ac0ed63b7b41f184c4db5cf5644eab8dacd4c577ab5f8096e4a277e8bf366bb", func := "loop.example/cellcollector/laws.FnHeapText", spec := "fnHeapText", inPlace := ["internal/abi.NoEscape"], recurses := true, apart := false }
def FnHeapTextSaid : Prop := fnHeapTextRow.holds Try.pinned (OpenSpec.ofChange fnHeapTextSpec)

/-- ITS FALSE NEIGHBOUR: 'it returns false'. Refute it at one input. -/
def fnHeapTextWrong : ChangeSpec := { name := "fnHeapText", fn := fun _ => fun
  | [d1, d2] => { results := [.lit (.bool false)], args := [d1, d2] }
  | _ => none }
def FnHeapTextWrongFalsely : Prop := fnHeapTextRow.holds Try.pinned (OpenSpec.ofChange fnHeapTextWrong)

/-- 'laws.FnPutLeft': WHATEVER THE INPUT: true; the input reads as it did. -/
def fnPutLeftSpec : ChangeSpec := { name := "fnPutLeft", fn := fun _ => fun
  | [d] => { results := [.lit (.bool true)], args := [d] }
  | _ => none }
def fnPutLeftRow : OpenClaim := { program := "ytpngbiokoiipaaa", sum := "0ac0ed63b7b41f184c4db5cf5644eab8dacd4c577ab5f8096e4a277e8bf366bb", func := "loop.example/cellcollector/laws.FnPutLeft", spec := "fnPutLeft", apart := false }
def FnPutLeftSaid : Prop := fnPutLeftRow.holds Try.pinned (OpenSpec.ofChange fnPutLeftSpec)

/-- ITS FALSE NEIGHBOUR: 'it returns false'. Refute it at one input. -/
def fnPutLeftWrong : ChangeSpec := { name := "fnPutLeft", fn := fun _ => fun
  | [d] => { results := [.lit (.bool false)], args := [d] }
  | _ => none }
def FnPutLeftWrongFalsely : Prop := fnPutLeftRow.holds Try.pinned (OpenSpec.ofChange fnPutLeftWrong)

/-- 'laws.FnPutRight': WHATEVER THE INPUT: true; the input reads as it did. -/
def fnPutRightSpec : ChangeSpec := { name := "fnPutRight", fn := fun _ => fun
  | [d] => { results := [.lit (.bool true)], args := [d] }
  | _ => none }
def fnPutRightRow : OpenClaim := { program := "ytpngbiokoiipaaa", sum := "0ac0ed63b7b41f184c4db5cf5644eab8dacd4c577ab5f8096e4a277e8bf366bb", func := "loop.example/cellcollector/laws.FnPutRight", spec := "fnPutRight", apart := false }
def FnPutRightSaid : Prop := fnPutRightRow.holds Try.pinned (OpenSpec.ofChange fnPutRightSpec)

/-- ITS FALSE NEIGHBOUR: 'it returns false'. Refute it at one input. -/
def fnPutRightWrong : ChangeSpec := { name := "fnPutRight", fn := fun _ => fun
  | [d] => { results := [.lit (.bool false)], args := [d] }
  | _ => none }
def FnPutRightWrongFalsely : Prop := fnPutRightRow.holds Try.pinned (OpenSpec.ofChange fnPutRightWrong)

/-- 'laws.FnPutRoot': WHATEVER THE INPUT: true; the input reads as it did. -/
def fnPutRootSpec : ChangeSpec := { name := "fnPutRoot", fn := fun _ => fun
  | [d] => { results := [.lit (.bool true)], args := [d] }
  | _ => none }
def fnPutRootRow : OpenClaim := { program := "ytpngbiokoiipaaa", sum := "0ac0ed63b7b41f184c4db5cf5644eab8dacd4c577ab5f8096e4a277e8bf366bb", func := "loop.example/cellcollector/laws.FnPutRoot", spec := "fnPutRoot", apart := false }
def FnPutRootSaid : Prop := fnPutRootRow.holds Try.pinned (OpenSpec.ofChange fnPutRootSpec)

/-- ITS FALSE NEIGHBOUR: 'it returns false'. Refute it at one input. -/
def fnPutRootWrong : ChangeSpec := { name := "fnPutRoot", fn := fun _ => fun
  | [d] => { results := [.lit (.bool false)], args := [d] }
  | _ => none }
def FnPutRootWrongFalsely : Prop := fnPutRootRow.holds Try.pinned (OpenSpec.ofChange fnPutRootWrong)

/-- 'laws.FnCountPointers': WHATEVER THE INPUT: true; the input reads as it did. -/
def fnCountPointersSpec : ChangeSpec := { name := "fnCountPointers", fn := fun _ => fun
  | [d] => { results := [.lit (.bool true)], args := [d] }
  | _ => none }
def fnCountPointersRow : OpenClaim := { program := "ytpngbiokoiipaaa", sum := "0ac0ed63b7b41f184c4db5cf5644eab8dacd4c577ab5f8096e4a277e8bf366bb", func := "loop.example/cellcollector/laws.FnCountPointers", spec := "fnCountPointers", apart := false }
def FnCountPointersSaid : Prop := fnCountPointersRow.holds Try.pinned (OpenSpec.ofChange fnCountPointersSpec)

/-- ITS FALSE NEIGHBOUR: 'it returns false'. Refute it at one input. -/
def fnCountPointersWrong : ChangeSpec := { name := "fnCountPointers", fn := fun _ => fun
  | [d] => { results := [.lit (.bool false)], args := [d] }
  | _ => none }
def FnCountPointersWrongFalsely : Prop := fnCountPointersRow.holds Try.pinned (OpenSpec.ofChange fnCountPointersWrong)

/-- 'laws.FnNewHeap': WHATEVER THE INPUT: true; the input reads as it did. -/
def fnNewHeapSpec : ChangeSpec := { name := "fnNewHeap", fn := fun _ => fun
  | [d] => { results := [.lit (.bool true)], args := [d] }
  | _ => none }
def fnNewHeapRow : OpenClaim := { program := "ytpngbiokoiipaaa", sum := "0ac0ed63b7b41f184c4db5cf5644eab8dacd4c577ab5f8096e4a277e8bf366bb", func := "loop.example/cellcollector/laws.FnNewHeap", spec := "fnNewHeap", apart := false }
def FnNewHeapSaid : Prop := fnNewHeapRow.holds Try.pinned (OpenSpec.ofChange fnNewHeapSpec)

/-- ITS FALSE NEIGHBOUR: 'it returns false'. Refute it at one input. -/
def fnNewHeapWrong : ChangeSpec := { name := "fnNewHeap", fn := fun _ => fun
  | [d] => { results := [.lit (.bool false)], args := [d] }
  | _ => none }
def FnNewHeapWrongFalsely : Prop := fnNewHeapRow.holds Try.pinned (OpenSpec.ofChange fnNewHeapWrong)

/-- 'laws.FnHeapSame': WHATEVER THE INPUT: true; the input reads as it did. -/
def fnHeapSameSpec : ChangeSpec := { name := "fnHeapSame", fn := fun _ => fun
  | [d] => { results := [.lit (.bool true)], args := [d] }
  | _ => none }
def fnHeapSameRow : OpenClaim := { program := "ytpngbiokoiipaaa", sum := "0ac0ed63b7b41f184c4db5cf5644eab8dacd4c577ab5f8096e4a277e8bf366bb", func := "loop.example/cellcollector/laws.FnHeapSame", spec := "fnHeapSame", inPlace := ["internal/abi.NoEscape"], apart := false }
def FnHeapSameSaid : Prop := fnHeapSameRow.holds Try.pinned (OpenSpec.ofChange fnHeapSameSpec)

/-- ITS FALSE NEIGHBOUR: 'it returns false'. Refute it at one input. -/
def fnHeapSameWrong : ChangeSpec := { name := "fnHeapSame", fn := fun _ => fun
  | [d] => { results := [.lit (.bool false)], args := [d] }
  | _ => none }
def FnHeapSameWrongFalsely : Prop := fnHeapSameRow.holds Try.pinned (OpenSpec.ofChange fnHeapSameWrong)

/-- 'laws.FnPutBoth': WHATEVER THE INPUT: true; the input reads as it did. -/
def fnPutBothSpec : ChangeSpec := { name := "fnPutBoth", fn := fun _ => fun
  | [d] => { results := [.lit (.bool true)], args := [d] }
  | _ => none }
def fnPutBothRow : OpenClaim := { program := "ytpngbiokoiipaaa", sum := "0ac0ed63b7b41f184c4db5cf5644eab8dacd4c577ab5f8096e4a277e8bf366bb", func := "loop.example/cellcollector/laws.FnPutBoth", spec := "fnPutBoth", apart := false }
def FnPutBothSaid : Prop := fnPutBothRow.holds Try.pinned (OpenSpec.ofChange fnPutBothSpec)

/-- ITS FALSE NEIGHBOUR: 'it returns false'. Refute it at one input. -/
def fnPutBothWrong : ChangeSpec := { name := "fnPutBoth", fn := fun _ => fun
  | [d] => { results := [.lit (.bool false)], args := [d] }
  | _ => none }
def FnPutBothWrongFalsely : Prop := fnPutBothRow.holds Try.pinned (OpenSpec.ofChange fnPutBothWrong)

/-- 'laws.FnPutRightOthers': WHATEVER THE INPUT: true; the input reads as it did. -/
def fnPutRightOthersSpec : ChangeSpec := { name := "fnPutRightOthers", fn := fun _ => fun
  | [d] => { results := [.lit (.bool true)], args := [d] }
  | _ => none }
def fnPutRightOthersRow : OpenClaim := { program := "ytpngbiokoiipaaa", sum := "0ac0ed63b7b41f184c4db5cf5644eab8dacd4c577ab5f8096e4a277e8bf366bb", func := "loop.example/cellcollector/laws.FnPutRightOthers", spec := "fnPutRightOthers", apart := false }
def FnPutRightOthersSaid : Prop := fnPutRightOthersRow.holds Try.pinned (OpenSpec.ofChange fnPutRightOthersSpec)

/-- ITS FALSE NEIGHBOUR: 'it returns false'. Refute it at one input. -/
def fnPutRightOthersWrong : ChangeSpec := { name := "fnPutRightOthers", fn := fun _ => fun
  | [d] => { results := [.lit (.bool false)], args := [d] }
  | _ => none }
def FnPutRightOthersWrongFalsely : Prop := fnPutRightOthersRow.holds Try.pinned (OpenSpec.ofChange fnPutRightOthersWrong)

/-- 'laws.FnPutRootOthers': WHATEVER THE INPUT: true; the input reads as it did. -/
def fnPutRootOthersSpec : ChangeSpec := { name := "fnPutRootOthers", fn := fun _ => fun
  | [d] => { results := [.lit (.bool true)], args := [d] }
  | _ => none }
def fnPutRootOthersRow : OpenClaim := { program := "ytpngbiokoiipaaa", sum := "0ac0ed63b7b41f184c4db5cf5644eab8dacd4c577ab5f8096e4a277e8bf366bb", func := "loop.example/cellcollector/laws.FnPutRootOthers", spec := "fnPutRootOthers", apart := false }
def FnPutRootOthersSaid : Prop := fnPutRootOthersRow.holds Try.pinned (OpenSpec.ofChange fnPutRootOthersSpec)

/-- ITS FALSE NEIGHBOUR: 'it returns false'. Refute it at one input. -/
def fnPutRootOthersWrong : ChangeSpec := { name := "fnPutRootOthers", fn := fun _ => fun
  | [d] => { results := [.lit (.bool false)], args := [d] }
  | _ => none }
def FnPutRootOthersWrongFalsely : Prop := fnPutRootOthersRow.holds Try.pinned (OpenSpec.ofChange fnPutRootOthersWrong)

/-- 'laws.FnHeapSize': WHATEVER THE INPUT: true; the input reads as it did. -/
def fnHeapSizeSpec : ChangeSpec := { name := "fnHeapSize", fn := fun _ => fun
  | [d] => { results := [.lit (.bool true)], args := [d] }
  | _ => none }
def fnHeapSizeRow : OpenClaim := { program := "ytpngbiokoiipaaa", sum := "0ac0ed63b7b41f184c4db5cf5644eab8dacd4c577ab5f8096e4a277e8bf366bb", func := "loop.example/cellcollector/laws.FnHeapSize", spec := "fnHeapSize", inPlace := ["internal/abi.NoEscape"], recurses := true, apart := false }
def FnHeapSizeSaid : Prop := fnHeapSizeRow.holds Try.pinned (OpenSpec.ofChange fnHeapSizeSpec)

/-- ITS FALSE NEIGHBOUR: 'it returns false'. Refute it at one input. -/
def fnHeapSizeWrong : ChangeSpec := { name := "fnHeapSize", fn := fun _ => fun
  | [d] => { results := [.lit (.bool false)], args := [d] }
  | _ => none }
def FnHeapSizeWrongFalsely : Prop := fnHeapSizeRow.holds Try.pinned (OpenSpec.ofChange fnHeapSizeWrong)

/-- 'laws.FnParseValid': WHATEVER THE INPUT: true; the input reads as it did. -/
def fnParseValidSpec : ChangeSpec := { name := "fnParseValid", fn := fun _ => fun
  | [d] => { results := [.lit (.bool true)], args := [d] }
  | _ => none }
def fnParseValidRow : OpenClaim := { program := "ytpngbiokoiipaaa", sum := "0ac0ed63b7b41f184c4db5cf5644eab8dacd4c577ab5f8096e4a277e8bf366bb", func := "loop.example/cellcollector/laws.FnParseValid", spec := "fnParseValid", recurses := true, apart := false }
def FnParseValidSaid : Prop := fnParseValidRow.holds Try.pinned (OpenSpec.ofChange fnParseValidSpec)

/-- ITS FALSE NEIGHBOUR: 'it returns false'. Refute it at one input. -/
def fnParseValidWrong : ChangeSpec := { name := "fnParseValid", fn := fun _ => fun
  | [d] => { results := [.lit (.bool false)], args := [d] }
  | _ => none }
def FnParseValidWrongFalsely : Prop := fnParseValidRow.holds Try.pinned (OpenSpec.ofChange fnParseValidWrong)

/- THE SECOND FORM. 'bulk': how many values and letters a reading holds, each counted each time it is reached (what is shared counts as often as it is met; a slice's spare places count too). A statement '..UptoSaid' is the law's where the arguments, and the package variables that the reading takes, are together of bulk at most 1048576: NARROWER than '..Said'. Prove '..Said' where nothing that the law and all that it calls make is longer than what came in: it says more and counts as full. Else prove '..UptoSaid'. A law counts once. -/
mutual
def uptoBulk {H : Type} : DataW H → Nat
  | .lit (.string bytes) => bytes.length + 1
  | .lit _ => 1
  | .nil => 1
  | .ptr d => uptoBulk d + 1
  | .slice elems spare => uptoBulkAll elems + uptoBulkAll spare + 1
  | .agg parts => uptoBulkAll parts + 1
  | .iface _ d => uptoBulk d + 1
  | .map entries => uptoBulkEntries entries + 1
  | .held _ => 1
def uptoBulkAll {H : Type} : List (DataW H) → Nat
  | [] => 0
  | d :: r => uptoBulk d + uptoBulkAll r
def uptoBulkEntries {H : Type} : List (Lit × DataW H) → Nat
  | [] => 0
  | x :: r => uptoBulkEntry x + uptoBulkEntries r
def uptoBulkEntry {H : Type} : Lit × DataW H → Nat
  | (.string bytes, d) => bytes.length + uptoBulk d + 1
  | (_, d) => uptoBulk d + 1
 end
def uptoSmall : (H : Type) → List (DataW H) → Bool := fun _ ds => decide (uptoBulkAll ds ≤ 1048576)
def OpenSpec.upto (s : _root_.Go.ChangeSpec) : _root_.Go.OpenSpec := { _root_.Go.OpenSpec.ofChange s with cond := some uptoSmall }

/-- 'laws.FnHeapText', WHERE WHAT IT READS IS OF BULK AT MOST 1048576: true; the input reads as it did. -/
def fnHeapTextUptoRow : OpenClaim := { program := "ytpngbiokoiipaaa", sum := "0ac0ed63b7b41f184c4db5cf5644eab8dacd4c577ab5f8096e4a277e8bf366bb", func := "loop.example/cellcollector/laws.FnHeapText", spec := "fnHeapText", inPlace := ["internal/abi.NoEscape"], recurses := true, apart := false, narrowed := true }
def FnHeapTextUptoSaid : Prop := fnHeapTextUptoRow.holds Try.pinned (OpenSpec.upto fnHeapTextSpec)

/-- 'laws.FnPutLeft', WHERE WHAT IT READS IS OF BULK AT MOST 1048576: true; the input reads as it did. -/
def fnPutLeftUptoRow : OpenClaim := { program := "ytpngbiokoiipaaa", sum := "0ac0ed63b7b41f184c4db5cf5644eab8dacd4c577ab5f8096e4a277e8bf366bb", func := "loop.example/cellcollector/laws.FnPutLeft", spec := "fnPutLeft", apart := false, narrowed := true }
def FnPutLeftUptoSaid : Prop := fnPutLeftUptoRow.holds Try.pinned (OpenSpec.upto fnPutLeftSpec)

/-- 'laws.FnPutRight', WHERE WHAT IT READS IS OF BULK AT MOST 1048576: true; the input reads as it did. -/
def fnPutRightUptoRow : OpenClaim := { program := "ytpngbiokoiipaaa", sum := "0ac0ed63b7b41f184c4db5cf5644eab8dacd4c577ab5f8096e4a277e8bf366bb", func := "loop.example/cellcollector/laws.FnPutRight", spec := "fnPutRight", apart := false, narrowed := true }
def FnPutRightUptoSaid : Prop := fnPutRightUptoRow.holds Try.pinned (OpenSpec.upto fnPutRightSpec)

/-- 'laws.FnPutRoot', WHERE WHAT IT READS IS OF BULK AT MOST 1048576: true; the input reads as it did. -/
def fnPutRootUptoRow : OpenClaim := { program := "ytpngbiokoiipaaa", sum := "0ac0ed63b7b41f184c4db5cf5644eab8dacd4c577ab5f8096e4a277e8bf366bb", func := "loop.example/cellcollector/laws.FnPutRoot", spec := "fnPutRoot", apart := false, narrowed := true }
def FnPutRootUptoSaid : Prop := fnPutRootUptoRow.holds Try.pinned (OpenSpec.upto fnPutRootSpec)

/-- 'laws.FnCountPointers', WHERE WHAT IT READS IS OF BULK AT MOST 1048576: true; the input reads as it did. -/
def fnCountPointersUptoRow : OpenClaim := { program := "ytpngbiokoiipaaa", sum := "0ac0ed63b7b41f184c4db5cf5644eab8dacd4c577ab5f8096e4a277e8bf366bb", func := "loop.example/cellcollector/laws.FnCountPointers", spec := "fnCountPointers", apart := false, narrowed := true }
def FnCountPointersUptoSaid : Prop := fnCountPointersUptoRow.holds Try.pinned (OpenSpec.upto fnCountPointersSpec)

/-- 'laws.FnNewHeap', WHERE WHAT IT READS IS OF BULK AT MOST 1048576: true; the input reads as it did. -/
def fnNewHeapUptoRow : OpenClaim := { program := "ytpngbiokoiipaaa", sum := "0ac0ed63b7b41f184c4db5cf5644eab8dacd4c577ab5f8096e4a277e8bf366bb", func := "loop.example/cellcollector/laws.FnNewHeap", spec := "fnNewHeap", apart := false, narrowed := true }
def FnNewHeapUptoSaid : Prop := fnNewHeapUptoRow.holds Try.pinned (OpenSpec.upto fnNewHeapSpec)

/-- 'laws.FnHeapSame', WHERE WHAT IT READS IS OF BULK AT MOST 1048576: true; the input reads as it did. -/
def fnHeapSameUptoRow : OpenClaim := { program := "ytpngbiokoiipaaa", sum := "0ac0ed63b7b41f184c4db5cf5644eab8dacd4c577ab5f8096e4a277e8bf366bb", func := "loop.example/cellcollector/laws.FnHeapSame", spec := "fnHeapSame", inPlace := ["internal/abi.NoEscape"], apart := false, narrowed := true }
def FnHeapSameUptoSaid : Prop := fnHeapSameUptoRow.holds Try.pinned (OpenSpec.upto fnHeapSameSpec)

/-- 'laws.FnPutBoth', WHERE WHAT IT READS IS OF BULK AT MOST 1048576: true; the input reads as it did. -/
def fnPutBothUptoRow : OpenClaim := { program := "ytpngbiokoiipaaa", sum := "0ac0ed63b7b41f184c4db5cf5644eab8dacd4c577ab5f8096e4a277e8bf366bb", func := "loop.example/cellcollector/laws.FnPutBoth", spec := "fnPutBoth", apart := false, narrowed := true }
def FnPutBothUptoSaid : Prop := fnPutBothUptoRow.holds Try.pinned (OpenSpec.upto fnPutBothSpec)

/-- 'laws.FnPutRightOthers', WHERE WHAT IT READS IS OF BULK AT MOST 1048576: true; the input reads as it did. -/
def fnPutRightOthersUptoRow : OpenClaim := { program := "ytpngbiokoiipaaa", sum := "0ac0ed63b7b41f184c4db5cf5644eab8dacd4c577ab5f8096e4a277e8bf366bb", func := "loop.example/cellcollector/laws.FnPutRightOthers", spec := "fnPutRightOthers", apart := false, narrowed := true }
def FnPutRightOthersUptoSaid : Prop := fnPutRightOthersUptoRow.holds Try.pinned (OpenSpec.upto fnPutRightOthersSpec)

/-- 'laws.FnPutRootOthers', WHERE WHAT IT READS IS OF BULK AT MOST 1048576: true; the input reads as it did. -/
def fnPutRootOthersUptoRow : OpenClaim := { program := "ytpngbiokoiipaaa", sum := "0ac0ed63b7b41f184c4db5cf5644eab8dacd4c577ab5f8096e4a277e8bf366bb", func := "loop.example/cellcollector/laws.FnPutRootOthers", spec := "fnPutRootOthers", apart := false, narrowed := true }
def FnPutRootOthersUptoSaid : Prop := fnPutRootOthersUptoRow.holds Try.pinned (OpenSpec.upto fnPutRootOthersSpec)

/-- 'laws.FnHeapSize', WHERE WHAT IT READS IS OF BULK AT MOST 1048576: true; the input reads as it did. -/
def fnHeapSizeUptoRow : OpenClaim := { program := "ytpngbiokoiipaaa", sum := "0ac0ed63b7b41f184c4db5cf5644eab8dacd4c577ab5f8096e4a277e8bf366bb", func := "loop.example/cellcollector/laws.FnHeapSize", spec := "fnHeapSize", inPlace := ["internal/abi.NoEscape"], recurses := true, apart := false, narrowed := true }
def FnHeapSizeUptoSaid : Prop := fnHeapSizeUptoRow.holds Try.pinned (OpenSpec.upto fnHeapSizeSpec)

/-- 'laws.FnParseValid', WHERE WHAT IT READS IS OF BULK AT MOST 1048576: true; the input reads as it did. -/
def fnParseValidUptoRow : OpenClaim := { program := "ytpngbiokoiipaaa", sum := "0ac0ed63b7b41f184c4db5cf5644eab8dacd4c577ab5f8096e4a277e8bf366bb", func := "loop.example/cellcollector/laws.FnParseValid", spec := "fnParseValid", recurses := true, apart := false, narrowed := true }
def FnParseValidUptoSaid : Prop := fnParseValidUptoRow.holds Try.pinned (OpenSpec.upto fnParseValidSpec)

end Rows
end Go.Proofs.Ytpngbiokoiipaaa
