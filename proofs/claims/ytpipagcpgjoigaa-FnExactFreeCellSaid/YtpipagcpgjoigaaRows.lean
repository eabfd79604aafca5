/-
  No cell of these rows narrows 'for every input' (looked for: loops, veiled, ifaces, maps, wideKeys, modest, calm, conditions, laid).
  DERIVED. THE GIVEN ROWS OF THIS SEAT. 8 by the template 'for every input the law returns true; each argument reads behind the call as it read before'; 0 by the template 'total and deterministic' (their statements: YtpipagcpgjoigaaTotals.lean).
  GIVEN WITH THE SEED: the statements are not yours to turn. If you find one false, say at which input.
  Laid BY PROGRAM, IN A SANDBOX (cutbox-rows.mjs): the forced cells as the released guide's own fill.sh prints them over the translation 081d585c31ebfaa7… (all of the seat's roots in one cut). By AI agents, Wed Nov 11 2026. No macro, syntax, notation, axiom, sorry.
-/
import Derived.Test.YtpipagcpgjoigaaChecked
import GoSem.Claim
import GoSem.ClaimJoined
import GoSem.ClaimMapViews
import Derived.JoinedTies
import Derived.KernelRfl
namespace Go.Proofs.Ytpipagcpgjoigaa
/- THE CELL 'sum', in the pinned program and in every row, IS THE sha256 OF THE DUMP (.gsa) THAT YtpipagcpgjoigaaProg.lean LOADS. Nothing in Lean hashes anything: it is a label: what it is worth is what the hold of that sum in a sandbox is worth. -/
noncomputable def Try.pinned : Pinned := { name := "ytpipagcpgjoigaa", sum := "081d585c31ebfaa7fe3aa529e9a249dacda8143e4d379568f6f1e845235dd480", checked := Try.checked }
namespace Rows
def none {H : Type} : Left H := { results := [], args := [] }

/-- 'laws.FnExactNewStore': WHATEVER THE INPUT: true; the input reads as it did. -/
def fnExactNewStoreSpec : ChangeSpec := { name := "fnExactNewStore", fn := fun _ => fun
  | [d1, d2] => { results := [.lit (.bool true)], args := [d1, d2] }
  | _ => none }
def fnExactNewStoreRow : OpenClaim := { program := "ytpipagcpgjoigaa", sum := "081d585c31ebfaa7fe3aa529e9a249dacda8143e4d379568f6f1e845235dd480", func := "loop.example/cellcollector/laws.FnExactNewStore", spec := "fnExactNewStore", apart := false }
def FnExactNewStoreSaid : Prop := fnExactNewStoreRow.holds Try.pinned (OpenSpec.ofChange fnExactNewStoreSpec)

/-- ITS FALSE NEIGHBOUR: 'it returns false'. Refute it at one input. -/
def fnExactNewStoreWrong : ChangeSpec := { name := "fnExactNewStore", fn := fun _ => fun
  | [d1, d2] => { results := [.lit (.bool false)], args := [d1, d2] }
  | _ => none }
def FnExactNewStoreWrongFalsely : Prop := fnExactNewStoreRow.holds Try.pinned (OpenSpec.ofChange fnExactNewStoreWrong)

/-- 'laws.FnExactStoreValid': WHATEVER THE INPUT: true; the input reads as it did. -/
def fnExactStoreValidSpec : ChangeSpec := { name := "fnExactStoreValid", fn := fun _ => fun
  | [d] => { results := [.lit (.bool true)], args := [d] }
  | _ => none }
def fnExactStoreValidRow : OpenClaim := { program := "ytpipagcpgjoigaa", sum := "081d585c31ebfaa7fe3aa529e9a249dacda8143e4d379568f6f1e845235dd480", func := "loop.example/cellcollector/laws.FnExactStoreValid", spec := "fnExactStoreValid", apart := false }
def FnExactStoreValidSaid : Prop := fnExactStoreValidRow.holds Try.pinned (OpenSpec.ofChange fnExactStoreValidSpec)

/-- ITS FALSE NEIGHBOUR: 'it returns false'. Refute it at one input. -/
def fnExactStoreValidWrong : ChangeSpec := { name := "fnExactStoreValid", fn := fun _ => fun
  | [d] => { results := [.lit (.bool false)], args := [d] }
  | _ => none }
def FnExactStoreValidWrongFalsely : Prop := fnExactStoreValidRow.holds Try.pinned (OpenSpec.ofChange fnExactStoreValidWrong)

/-- 'laws.FnExactStoreSame': WHATEVER THE INPUT: true; the input reads as it did. -/
def fnExactStoreSameSpec : ChangeSpec := { name := "fnExactStoreSame", fn := fun _ => fun
  | [d1, d2] => { results := [.lit (.bool true)], args := [d1, d2] }
  | _ => none }
def fnExactStoreSameRow : OpenClaim := { program := "ytpipagcpgjoigaa", sum := "081d585c31ebfaa7fe3aa529e9a249dacda8143e4d379568f6f1e845235dd480", func := "loop.example/cellcollector/laws.FnExactStoreSame", spec := "fnExactStoreSame", apart := false }
def FnExactStoreSameSaid : Prop := fnExactStoreSameRow.holds Try.pinned (OpenSpec.ofChange fnExactStoreSameSpec)

/-- ITS FALSE NEIGHBOUR: 'it returns false'. Refute it at one input. -/
def fnExactStoreSameWrong : ChangeSpec := { name := "fnExactStoreSame", fn := fun _ => fun
  | [d1, d2] => { results := [.lit (.bool false)], args := [d1, d2] }
  | _ => none }
def FnExactStoreSameWrongFalsely : Prop := fnExactStoreSameRow.holds Try.pinned (OpenSpec.ofChange fnExactStoreSameWrong)

/-- 'laws.FnExactAllocCell': WHATEVER THE INPUT: true; the input reads as it did. -/
def fnExactAllocCellSpec : ChangeSpec := { name := "fnExactAllocCell", fn := fun _ => fun
  | [d1, d2] => { results := [.lit (.bool true)], args := [d1, d2] }
  | _ => none }
def fnExactAllocCellRow : OpenClaim := { program := "ytpipagcpgjoigaa", sum := "081d585c31ebfaa7fe3aa529e9a249dacda8143e4d379568f6f1e845235dd480", func := "loop.example/cellcollector/laws.FnExactAllocCell", spec := "fnExactAllocCell", apart := false }
def FnExactAllocCellSaid : Prop := fnExactAllocCellRow.holds Try.pinned (OpenSpec.ofChange fnExactAllocCellSpec)

/-- ITS FALSE NEIGHBOUR: 'it returns false'. Refute it at one input. -/
def fnExactAllocCellWrong : ChangeSpec := { name := "fnExactAllocCell", fn := fun _ => fun
  | [d1, d2] => { results := [.lit (.bool false)], args := [d1, d2] }
  | _ => none }
def FnExactAllocCellWrongFalsely : Prop := fnExactAllocCellRow.holds Try.pinned (OpenSpec.ofChange fnExactAllocCellWrong)

/-- 'laws.FnExactLeakedOf': WHATEVER THE INPUT: true; the input reads as it did. -/
def fnExactLeakedOfSpec : ChangeSpec := { name := "fnExactLeakedOf", fn := fun _ => fun
  | [d] => { results := [.lit (.bool true)], args := [d] }
  | _ => none }
def fnExactLeakedOfRow : OpenClaim := { program := "ytpipagcpgjoigaa", sum := "081d585c31ebfaa7fe3aa529e9a249dacda8143e4d379568f6f1e845235dd480", func := "loop.example/cellcollector/laws.FnExactLeakedOf", spec := "fnExactLeakedOf", apart := false }
def FnExactLeakedOfSaid : Prop := fnExactLeakedOfRow.holds Try.pinned (OpenSpec.ofChange fnExactLeakedOfSpec)

/-- ITS FALSE NEIGHBOUR: 'it returns false'. Refute it at one input. -/
def fnExactLeakedOfWrong : ChangeSpec := { name := "fnExactLeakedOf", fn := fun _ => fun
  | [d] => { results := [.lit (.bool false)], args := [d] }
  | _ => none }
def FnExactLeakedOfWrongFalsely : Prop := fnExactLeakedOfRow.holds Try.pinned (OpenSpec.ofChange fnExactLeakedOfWrong)

/-- 'laws.FnExactFreeCell': WHATEVER THE INPUT: true; the input reads as it did. -/
def fnExactFreeCellSpec : ChangeSpec := { name := "fnExactFreeCell", fn := fun _ => fun
  | [d1, d2] => { results := [.lit (.bool true)], args := [d1, d2] }
  | _ => none }
def fnExactFreeCellRow : OpenClaim := { program := "ytpipagcpgjoigaa", sum := "081d585c31ebfaa7fe3aa529e9a249dacda8143e4d379568f6f1e845235dd480", func := "loop.example/cellcollector/laws.FnExactFreeCell", spec := "fnExactFreeCell", apart := false }
def FnExactFreeCellSaid : Prop := fnExactFreeCellRow.holds Try.pinned (OpenSpec.ofChange fnExactFreeCellSpec)

/-- ITS FALSE NEIGHBOUR: 'it returns false'. Refute it at one input. -/
def fnExactFreeCellWrong : ChangeSpec := { name := "fnExactFreeCell", fn := fun _ => fun
  | [d1, d2] => { results := [.lit (.bool false)], args := [d1, d2] }
  | _ => none }
def FnExactFreeCellWrongFalsely : Prop := fnExactFreeCellRow.holds Try.pinned (OpenSpec.ofChange fnExactFreeCellWrong)

/-- 'laws.FnExactCollectStore': WHATEVER THE INPUT: true; the input reads as it did. -/
def fnExactCollectStoreSpec : ChangeSpec := { name := "fnExactCollectStore", fn := fun _ => fun
  | [d] => { results := [.lit (.bool true)], args := [d] }
  | _ => none }
def fnExactCollectStoreRow : OpenClaim := { program := "ytpipagcpgjoigaa", sum := "081d585c31ebfaa7fe3aa529e9a249dacda8143e4d379568f6f1e845235dd480", func := "loop.example/cellcollector/laws.FnExactCollectStore", spec := "fnExactCollectStore", apart := false }
def FnExactCollectStoreSaid : Prop := fnExactCollectStoreRow.holds Try.pinned (OpenSpec.ofChange fnExactCollectStoreSpec)

/-- ITS FALSE NEIGHBOUR: 'it returns false'. Refute it at one input. -/
def fnExactCollectStoreWrong : ChangeSpec := { name := "fnExactCollectStore", fn := fun _ => fun
  | [d] => { results := [.lit (.bool false)], args := [d] }
  | _ => none }
def FnExactCollectStoreWrongFalsely : Prop := fnExactCollectStoreRow.holds Try.pinned (OpenSpec.ofChange fnExactCollectStoreWrong)

/-- 'laws.FnExactIsFree': WHATEVER THE INPUT: true; the input reads as it did. -/
def fnExactIsFreeSpec : ChangeSpec := { name := "fnExactIsFree", fn := fun _ => fun
  | [d1, d2] => { results := [.lit (.bool true)], args := [d1, d2] }
  | _ => none }
def fnExactIsFreeRow : OpenClaim := { program := "ytpipagcpgjoigaa", sum := "081d585c31ebfaa7fe3aa529e9a249dacda8143e4d379568f6f1e845235dd480", func := "loop.example/cellcollector/laws.FnExactIsFree", spec := "fnExactIsFree", apart := false }
def FnExactIsFreeSaid : Prop := fnExactIsFreeRow.holds Try.pinned (OpenSpec.ofChange fnExactIsFreeSpec)

/-- ITS FALSE NEIGHBOUR: 'it returns false'. Refute it at one input. -/
def fnExactIsFreeWrong : ChangeSpec := { name := "fnExactIsFree", fn := fun _ => fun
  | [d1, d2] => { results := [.lit (.bool false)], args := [d1, d2] }
  | _ => none }
def FnExactIsFreeWrongFalsely : Prop := fnExactIsFreeRow.holds Try.pinned (OpenSpec.ofChange fnExactIsFreeWrong)

/- THE SECOND FORM. 'bulk': how many values and letters a reading holds, each counted each time it is reached (what is shared counts as often as it is met; a slice's spare places count too). A statement '..UptoSaid' is the law's where the arguments, and the package variables that the reading takes, are together of bulk at most 1048576: NARROWER than '..Said'. Prove '..Said' where nothing that the law and all that it calls make is longer than what came in: it says more and counts as full. Else prove '..UptoSaid'. A law counts once. -/
mutual
def uptoBulk {H : Type} : DataW H → Nat
  | .lit (.string bytes) => bytes.length + 1
  | .lit _ => 1
  | .nil => 1
  | .ptr d => uptoBulk d + 1
  | .slice elems spare => uptoBulkAll elems + uptoBulkAll spare + 1
  | .agg parts => uptoBulkAll parts + 1
  | .iface _ d => uptoBulk d + 1
  | .map entries => uptoBulkEntries entries + 1
  | .held _ => 1
def uptoBulkAll {H : Type} : List (DataW H) → Nat
  | [] => 0
  | d :: r => uptoBulk d + uptoBulkAll r
def uptoBulkEntries {H : Type} : List (Lit × DataW H) → Nat
  | [] => 0
  | x :: r => uptoBulkEntry x + uptoBulkEntries r
def uptoBulkEntry {H : Type} : Lit × DataW H → Nat
  | (.string bytes, d) => bytes.length + uptoBulk d + 1
  | (_, d) => uptoBulk d + 1
 end
def uptoSmall : (H : Type) → List (DataW H) → Bool := fun _ ds => decide (uptoBulkAll ds ≤ 1048576)
def OpenSpec.upto (s : _root_.Go.ChangeSpec) : _root_.Go.OpenSpec := { _root_.Go.OpenSpec.ofChange s with cond := some uptoSmall }

/-- 'laws.FnExactNewStore', WHERE WHAT IT READS IS OF BULK AT MOST 1048576: true; the input reads as it did. -/
def fnExactNewStoreUptoRow : OpenClaim := { program := "ytpipagcpgjoigaa", sum := "081d585c31ebfaa7fe3aa529e9a249dacda8143e4d379568f6f1e845235dd480", func := "loop.example/cellcollector/laws.FnExactNewStore", spec := "fnExactNewStore", apart := false, narrowed := true }
def FnExactNewStoreUptoSaid : Prop := fnExactNewStoreUptoRow.holds Try.pinned (OpenSpec.upto fnExactNewStoreSpec)

/-- 'laws.FnExactStoreValid', WHERE WHAT IT READS IS OF BULK AT MOST 1048576: true; the input reads as it did. -/
def fnExactStoreValidUptoRow : OpenClaim := { program := "ytpipagcpgjoigaa", sum := "081d585c31ebfaa7fe3aa529e9a249dacda8143e4d379568f6f1e845235dd480", func := "loop.example/cellcollector/laws.FnExactStoreValid", spec := "fnExactStoreValid", apart := false, narrowed := true }
def FnExactStoreValidUptoSaid : Prop := fnExactStoreValidUptoRow.holds Try.pinned (OpenSpec.upto fnExactStoreValidSpec)

/-- 'laws.FnExactStoreSame', WHERE WHAT IT READS IS OF BULK AT MOST 1048576: true; the input reads as it did. -/
def fnExactStoreSameUptoRow : OpenClaim := { program := "ytpipagcpgjoigaa", sum := "081d585c31ebfaa7fe3aa529e9a249dacda8143e4d379568f6f1e845235dd480", func := "loop.example/cellcollector/laws.FnExactStoreSame", spec := "fnExactStoreSame", apart := false, narrowed := true }
def FnExactStoreSameUptoSaid : Prop := fnExactStoreSameUptoRow.holds Try.pinned (OpenSpec.upto fnExactStoreSameSpec)

/-- 'laws.FnExactAllocCell', WHERE WHAT IT READS IS OF BULK AT MOST 1048576: true; the input reads as it did. -/
def fnExactAllocCellUptoRow : OpenClaim := { program := "ytpipagcpgjoigaa", sum := "081d585c31ebfaa7fe3aa529e9a249dacda8143e4d379568f6f1e845235dd480", func := "loop.example/cellcollector/laws.FnExactAllocCell", spec := "fnExactAllocCell", apart := false, narrowed := true }
def FnExactAllocCellUptoSaid : Prop := fnExactAllocCellUptoRow.holds Try.pinned (OpenSpec.upto fnExactAllocCellSpec)

/-- 'laws.FnExactLeakedOf', WHERE WHAT IT READS IS OF BULK AT MOST 1048576: true; the input reads as it did. -/
def fnExactLeakedOfUptoRow : OpenClaim := { program := "ytpipagcpgjoigaa", sum := "081d585c31ebfaa7fe3aa529e9a249dacda8143e4d379568f6f1e845235dd480", func := "loop.example/cellcollector/laws.FnExactLeakedOf", spec := "fnExactLeakedOf", apart := false, narrowed := true }
def FnExactLeakedOfUptoSaid : Prop := fnExactLeakedOfUptoRow.holds Try.pinned (OpenSpec.upto fnExactLeakedOfSpec)

/-- 'laws.FnExactFreeCell', WHERE WHAT IT READS IS OF BULK AT MOST 1048576: true; the input reads as it did. -/
def fnExactFreeCellUptoRow : OpenClaim := { program := "ytpipagcpgjoigaa", sum := "081d585c31ebfaa7fe3aa529e9a249dacda8143e4d379568f6f1e845235dd480", func := "loop.example/cellcollector/laws.FnExactFreeCell", spec := "fnExactFreeCell", apart := false, narrowed := true }
def FnExactFreeCellUptoSaid : Prop := fnExactFreeCellUptoRow.holds Try.pinned (OpenSpec.upto fnExactFreeCellSpec)

/-- 'laws.FnExactCollectStore', WHERE WHAT IT READS IS OF BULK AT MOST 1048576: true; the input reads as it did. -/
def fnExactCollectStoreUptoRow : OpenClaim := { program := "ytpipagcpgjoigaa", sum := "081d585c31ebfaa7fe3aa529e9a249dacda8143e4d379568f6f1e845235dd480", func := "loop.example/cellcollector/laws.FnExactCollectStore", spec := "fnExactCollectStore", apart := false, narrowed := true }
def FnExactCollectStoreUptoSaid : Prop := fnExactCollectStoreUptoRow.holds Try.pinned (OpenSpec.upto fnExactCollectStoreSpec)

/-- 'laws.FnExactIsFree', WHERE WHAT IT READS IS OF BULK AT MOST 1048576: true; the input reads as it did. -/
def fnExactIsFreeUptoRow : OpenClaim := { program := "ytpipagcpgjoigaa", sum := "081d585c31ebfaa7fe3aa529e9a249dacda8143e4d379568f6f1e845235dd480", func := "loop.example/cellcollector/laws.FnExactIsFree", spec := "fnExactIsFree", apart := false, narrowed := true }
def FnExactIsFreeUptoSaid : Prop := fnExactIsFreeUptoRow.holds Try.pinned (OpenSpec.upto fnExactIsFreeSpec)

end Rows
end Go.Proofs.Ytpipagcpgjoigaa
