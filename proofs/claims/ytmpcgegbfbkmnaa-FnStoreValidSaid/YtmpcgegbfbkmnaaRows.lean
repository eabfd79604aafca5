/-
  No cell of these rows narrows 'for every input' (looked for: loops, veiled, ifaces, maps, wideKeys, modest, calm, conditions, laid).
  DERIVED. THE GIVEN ROWS OF THIS SEAT. 12 by the template 'for every input the law returns true; each argument reads behind the call as it read before'; 0 by the template 'total and deterministic' (their statements: YtmpcgegbfbkmnaaTotals.lean).
  GIVEN WITH THE SEED: the statements are not yours to turn. If you find one false, say at which input.
  Laid BY PROGRAM, IN A SANDBOX (cutbox-rows.mjs): the forced cells as the released guide's own fill.sh prints them over the translation f23c003f83f12978… (all of the seat's roots in one cut). By AI agents, Wed Nov 11 2026. No macro, syntax, notation, axiom, sorry.
-/
import Derived.Test.YtmpcgegbfbkmnaaChecked
import GoSem.Claim
import GoSem.ClaimJoined
import GoSem.ClaimMapViews
import Derived.JoinedTies
import Derived.KernelRfl
namespace Go.Proofs.Ytmpcgegbfbkmnaa
/- THE CELL 'sum', in the pinned program and in every row, IS THE sha256 OF THE DUMP (.gsa) THAT YtmpcgegbfbkmnaaProg.lean LOADS. Nothing in Lean hashes anything: it is a label: what it is worth is what the hold of that sum in a sandbox is worth. -/
noncomputable def Try.pinned : Pinned := { name := "ytmpcgegbfbkmnaa", sum := "f23c003f83f12978c8488b776fc72925616576ee041c09ad1bdc29441f5bbaa6", checked := Try.checked }
namespace Rows
def none {H : Type} : Left H := { results := [], args := [] }

/-- 'laws.FnCollectStore': WHATEVER THE INPUT: true; the input reads as it did. -/
def fnCollectStoreSpec : ChangeSpec := { name := "fnCollectStore", fn := fun _ => fun
  | [d] => { results := [.lit (.bool true)], args := [d] }
  | _ => none }
def fnCollectStoreRow : OpenClaim := { program := "ytmpcgegbfbkmnaa", sum := "f23c003f83f12978c8488b776fc72925616576ee041c09ad1bdc29441f5bbaa6", func := "loop.example/cellcollector/laws.FnCollectStore", spec := "fnCollectStore", apart := false }
def FnCollectStoreSaid : Prop := fnCollectStoreRow.holds Try.pinned (OpenSpec.ofChange fnCollectStoreSpec)

/-- ITS FALSE NEIGHBOUR: 'it returns false'. Refute it at one input. -/
def fnCollectStoreWrong : ChangeSpec := { name := "fnCollectStore", fn := fun _ => fun
  | [d] => { results := [.lit (.bool false)], args := [d] }
  | _ => none }
def FnCollectStoreWrongFalsely : Prop := fnCollectStoreRow.holds Try.pinned (OpenSpec.ofChange fnCollectStoreWrong)

/-- 'laws.FnAllocCell': WHATEVER THE INPUT: true; the input reads as it did. -/
def fnAllocCellSpec : ChangeSpec := { name := "fnAllocCell", fn := fun _ => fun
  | [d] => { results := [.lit (.bool true)], args := [d] }
  | _ => none }
def fnAllocCellRow : OpenClaim := { program := "ytmpcgegbfbkmnaa", sum := "f23c003f83f12978c8488b776fc72925616576ee041c09ad1bdc29441f5bbaa6", func := "loop.example/cellcollector/laws.FnAllocCell", spec := "fnAllocCell", apart := false }
def FnAllocCellSaid : Prop := fnAllocCellRow.holds Try.pinned (OpenSpec.ofChange fnAllocCellSpec)

/-- ITS FALSE NEIGHBOUR: 'it returns false'. Refute it at one input. -/
def fnAllocCellWrong : ChangeSpec := { name := "fnAllocCell", fn := fun _ => fun
  | [d] => { results := [.lit (.bool false)], args := [d] }
  | _ => none }
def FnAllocCellWrongFalsely : Prop := fnAllocCellRow.holds Try.pinned (OpenSpec.ofChange fnAllocCellWrong)

/-- 'laws.FnFreeCell': WHATEVER THE INPUT: true; the input reads as it did. -/
def fnFreeCellSpec : ChangeSpec := { name := "fnFreeCell", fn := fun _ => fun
  | [d] => { results := [.lit (.bool true)], args := [d] }
  | _ => none }
def fnFreeCellRow : OpenClaim := { program := "ytmpcgegbfbkmnaa", sum := "f23c003f83f12978c8488b776fc72925616576ee041c09ad1bdc29441f5bbaa6", func := "loop.example/cellcollector/laws.FnFreeCell", spec := "fnFreeCell", apart := false }
def FnFreeCellSaid : Prop := fnFreeCellRow.holds Try.pinned (OpenSpec.ofChange fnFreeCellSpec)

/-- ITS FALSE NEIGHBOUR: 'it returns false'. Refute it at one input. -/
def fnFreeCellWrong : ChangeSpec := { name := "fnFreeCell", fn := fun _ => fun
  | [d] => { results := [.lit (.bool false)], args := [d] }
  | _ => none }
def FnFreeCellWrongFalsely : Prop := fnFreeCellRow.holds Try.pinned (OpenSpec.ofChange fnFreeCellWrong)

/-- 'laws.FnLeakedOf': WHATEVER THE INPUT: true; the input reads as it did. -/
def fnLeakedOfSpec : ChangeSpec := { name := "fnLeakedOf", fn := fun _ => fun
  | [d] => { results := [.lit (.bool true)], args := [d] }
  | _ => none }
def fnLeakedOfRow : OpenClaim := { program := "ytmpcgegbfbkmnaa", sum := "f23c003f83f12978c8488b776fc72925616576ee041c09ad1bdc29441f5bbaa6", func := "loop.example/cellcollector/laws.FnLeakedOf", spec := "fnLeakedOf", apart := false }
def FnLeakedOfSaid : Prop := fnLeakedOfRow.holds Try.pinned (OpenSpec.ofChange fnLeakedOfSpec)

/-- ITS FALSE NEIGHBOUR: 'it returns false'. Refute it at one input. -/
def fnLeakedOfWrong : ChangeSpec := { name := "fnLeakedOf", fn := fun _ => fun
  | [d] => { results := [.lit (.bool false)], args := [d] }
  | _ => none }
def FnLeakedOfWrongFalsely : Prop := fnLeakedOfRow.holds Try.pinned (OpenSpec.ofChange fnLeakedOfWrong)

/-- 'laws.FnNewStore': WHATEVER THE INPUT: true; the input reads as it did. -/
def fnNewStoreSpec : ChangeSpec := { name := "fnNewStore", fn := fun _ => fun
  | [d] => { results := [.lit (.bool true)], args := [d] }
  | _ => none }
def fnNewStoreRow : OpenClaim := { program := "ytmpcgegbfbkmnaa", sum := "f23c003f83f12978c8488b776fc72925616576ee041c09ad1bdc29441f5bbaa6", func := "loop.example/cellcollector/laws.FnNewStore", spec := "fnNewStore", apart := false }
def FnNewStoreSaid : Prop := fnNewStoreRow.holds Try.pinned (OpenSpec.ofChange fnNewStoreSpec)

/-- ITS FALSE NEIGHBOUR: 'it returns false'. Refute it at one input. -/
def fnNewStoreWrong : ChangeSpec := { name := "fnNewStore", fn := fun _ => fun
  | [d] => { results := [.lit (.bool false)], args := [d] }
  | _ => none }
def FnNewStoreWrongFalsely : Prop := fnNewStoreRow.holds Try.pinned (OpenSpec.ofChange fnNewStoreWrong)

/-- 'laws.FnAllocOrder': WHATEVER THE INPUT: true; the input reads as it did. -/
def fnAllocOrderSpec : ChangeSpec := { name := "fnAllocOrder", fn := fun _ => fun
  | [d] => { results := [.lit (.bool true)], args := [d] }
  | _ => none }
def fnAllocOrderRow : OpenClaim := { program := "ytmpcgegbfbkmnaa", sum := "f23c003f83f12978c8488b776fc72925616576ee041c09ad1bdc29441f5bbaa6", func := "loop.example/cellcollector/laws.FnAllocOrder", spec := "fnAllocOrder", apart := false }
def FnAllocOrderSaid : Prop := fnAllocOrderRow.holds Try.pinned (OpenSpec.ofChange fnAllocOrderSpec)

/-- ITS FALSE NEIGHBOUR: 'it returns false'. Refute it at one input. -/
def fnAllocOrderWrong : ChangeSpec := { name := "fnAllocOrder", fn := fun _ => fun
  | [d] => { results := [.lit (.bool false)], args := [d] }
  | _ => none }
def FnAllocOrderWrongFalsely : Prop := fnAllocOrderRow.holds Try.pinned (OpenSpec.ofChange fnAllocOrderWrong)

/-- 'laws.FnAllocLeak': WHATEVER THE INPUT: true; the input reads as it did. -/
def fnAllocLeakSpec : ChangeSpec := { name := "fnAllocLeak", fn := fun _ => fun
  | [d] => { results := [.lit (.bool true)], args := [d] }
  | _ => none }
def fnAllocLeakRow : OpenClaim := { program := "ytmpcgegbfbkmnaa", sum := "f23c003f83f12978c8488b776fc72925616576ee041c09ad1bdc29441f5bbaa6", func := "loop.example/cellcollector/laws.FnAllocLeak", spec := "fnAllocLeak", apart := false }
def FnAllocLeakSaid : Prop := fnAllocLeakRow.holds Try.pinned (OpenSpec.ofChange fnAllocLeakSpec)

/-- ITS FALSE NEIGHBOUR: 'it returns false'. Refute it at one input. -/
def fnAllocLeakWrong : ChangeSpec := { name := "fnAllocLeak", fn := fun _ => fun
  | [d] => { results := [.lit (.bool false)], args := [d] }
  | _ => none }
def FnAllocLeakWrongFalsely : Prop := fnAllocLeakRow.holds Try.pinned (OpenSpec.ofChange fnAllocLeakWrong)

/-- 'laws.FnCollectTwice': WHATEVER THE INPUT: true; the input reads as it did. -/
def fnCollectTwiceSpec : ChangeSpec := { name := "fnCollectTwice", fn := fun _ => fun
  | [d] => { results := [.lit (.bool true)], args := [d] }
  | _ => none }
def fnCollectTwiceRow : OpenClaim := { program := "ytmpcgegbfbkmnaa", sum := "f23c003f83f12978c8488b776fc72925616576ee041c09ad1bdc29441f5bbaa6", func := "loop.example/cellcollector/laws.FnCollectTwice", spec := "fnCollectTwice", apart := false }
def FnCollectTwiceSaid : Prop := fnCollectTwiceRow.holds Try.pinned (OpenSpec.ofChange fnCollectTwiceSpec)

/-- ITS FALSE NEIGHBOUR: 'it returns false'. Refute it at one input. -/
def fnCollectTwiceWrong : ChangeSpec := { name := "fnCollectTwice", fn := fun _ => fun
  | [d] => { results := [.lit (.bool false)], args := [d] }
  | _ => none }
def FnCollectTwiceWrongFalsely : Prop := fnCollectTwiceRow.holds Try.pinned (OpenSpec.ofChange fnCollectTwiceWrong)

/-- 'laws.FnCollectCount': WHATEVER THE INPUT: true; the input reads as it did. -/
def fnCollectCountSpec : ChangeSpec := { name := "fnCollectCount", fn := fun _ => fun
  | [d] => { results := [.lit (.bool true)], args := [d] }
  | _ => none }
def fnCollectCountRow : OpenClaim := { program := "ytmpcgegbfbkmnaa", sum := "f23c003f83f12978c8488b776fc72925616576ee041c09ad1bdc29441f5bbaa6", func := "loop.example/cellcollector/laws.FnCollectCount", spec := "fnCollectCount", apart := false }
def FnCollectCountSaid : Prop := fnCollectCountRow.holds Try.pinned (OpenSpec.ofChange fnCollectCountSpec)

/-- ITS FALSE NEIGHBOUR: 'it returns false'. Refute it at one input. -/
def fnCollectCountWrong : ChangeSpec := { name := "fnCollectCount", fn := fun _ => fun
  | [d] => { results := [.lit (.bool false)], args := [d] }
  | _ => none }
def FnCollectCountWrongFalsely : Prop := fnCollectCountRow.holds Try.pinned (OpenSpec.ofChange fnCollectCountWrong)

/-- 'laws.FnIsFree': WHATEVER THE INPUT: true; the input reads as it did. -/
def fnIsFreeSpec : ChangeSpec := { name := "fnIsFree", fn := fun _ => fun
  | [d] => { results := [.lit (.bool true)], args := [d] }
  | _ => none }
def fnIsFreeRow : OpenClaim := { program := "ytmpcgegbfbkmnaa", sum := "f23c003f83f12978c8488b776fc72925616576ee041c09ad1bdc29441f5bbaa6", func := "loop.example/cellcollector/laws.FnIsFree", spec := "fnIsFree", apart := false }
def FnIsFreeSaid : Prop := fnIsFreeRow.holds Try.pinned (OpenSpec.ofChange fnIsFreeSpec)

/-- ITS FALSE NEIGHBOUR: 'it returns false'. Refute it at one input. -/
def fnIsFreeWrong : ChangeSpec := { name := "fnIsFree", fn := fun _ => fun
  | [d] => { results := [.lit (.bool false)], args := [d] }
  | _ => none }
def FnIsFreeWrongFalsely : Prop := fnIsFreeRow.holds Try.pinned (OpenSpec.ofChange fnIsFreeWrong)

/-- 'laws.FnStoreValid': WHATEVER THE INPUT: true; the input reads as it did. -/
def fnStoreValidSpec : ChangeSpec := { name := "fnStoreValid", fn := fun _ => fun
  | [d] => { results := [.lit (.bool true)], args := [d] }
  | _ => none }
def fnStoreValidRow : OpenClaim := { program := "ytmpcgegbfbkmnaa", sum := "f23c003f83f12978c8488b776fc72925616576ee041c09ad1bdc29441f5bbaa6", func := "loop.example/cellcollector/laws.FnStoreValid", spec := "fnStoreValid", apart := false }
def FnStoreValidSaid : Prop := fnStoreValidRow.holds Try.pinned (OpenSpec.ofChange fnStoreValidSpec)

/-- ITS FALSE NEIGHBOUR: 'it returns false'. Refute it at one input. -/
def fnStoreValidWrong : ChangeSpec := { name := "fnStoreValid", fn := fun _ => fun
  | [d] => { results := [.lit (.bool false)], args := [d] }
  | _ => none }
def FnStoreValidWrongFalsely : Prop := fnStoreValidRow.holds Try.pinned (OpenSpec.ofChange fnStoreValidWrong)

/-- 'laws.FnFreeLeft': WHATEVER THE INPUT: true; the input reads as it did. -/
def fnFreeLeftSpec : ChangeSpec := { name := "fnFreeLeft", fn := fun _ => fun
  | [d] => { results := [.lit (.bool true)], args := [d] }
  | _ => none }
def fnFreeLeftRow : OpenClaim := { program := "ytmpcgegbfbkmnaa", sum := "f23c003f83f12978c8488b776fc72925616576ee041c09ad1bdc29441f5bbaa6", func := "loop.example/cellcollector/laws.FnFreeLeft", spec := "fnFreeLeft", apart := false }
def FnFreeLeftSaid : Prop := fnFreeLeftRow.holds Try.pinned (OpenSpec.ofChange fnFreeLeftSpec)

/-- ITS FALSE NEIGHBOUR: 'it returns false'. Refute it at one input. -/
def fnFreeLeftWrong : ChangeSpec := { name := "fnFreeLeft", fn := fun _ => fun
  | [d] => { results := [.lit (.bool false)], args := [d] }
  | _ => none }
def FnFreeLeftWrongFalsely : Prop := fnFreeLeftRow.holds Try.pinned (OpenSpec.ofChange fnFreeLeftWrong)

/- THE SECOND FORM. 'bulk': how many values and letters a reading holds, each counted each time it is reached (what is shared counts as often as it is met; a slice's spare places count too). A statement '..UptoSaid' is the law's where the arguments, and the package variables that the reading takes, are together of bulk at most 1048576: NARROWER than '..Said'. Prove '..Said' where nothing that the law and all that it calls make is longer than what came in: it says more and counts as full. Else prove '..UptoSaid'. A law counts once. -/
mutual
def uptoBulk {H : Type} : DataW H → Nat
  | .lit (.string bytes) => bytes.length + 1
  | .lit _ => 1
  | .nil => 1
  | .ptr d => uptoBulk d + 1
  | .slice elems spare => uptoBulkAll elems + uptoBulkAll spare + 1
  | .agg parts => uptoBulkAll parts + 1
  | .iface _ d => uptoBulk d + 1
  | .map entries => uptoBulkEntries entries + 1
  | .held _ => 1
def uptoBulkAll {H : Type} : List (DataW H) → Nat
  | [] => 0
  | d :: r => uptoBulk d + uptoBulkAll r
def uptoBulkEntries {H : Type} : List (Lit × DataW H) → Nat
  | [] => 0
  | x :: r => uptoBulkEntry x + uptoBulkEntries r
def uptoBulkEntry {H : Type} : Lit × DataW H → Nat
  | (.string bytes, d) => bytes.length + uptoBulk d + 1
  | (_, d) => uptoBulk d + 1
 end
def uptoSmall : (H : Type) → List (DataW H) → Bool := fun _ ds => decide (uptoBulkAll ds ≤ 1048576)
def OpenSpec.upto (s : _root_.Go.ChangeSpec) : _root_.Go.OpenSpec := { _root_.Go.OpenSpec.ofChange s with cond := some uptoSmall }

/-- 'laws.FnCollectStore', WHERE WHAT IT READS IS OF BULK AT MOST 1048576: true; the input reads as it did. -/
def fnCollectStoreUptoRow : OpenClaim := { program := "ytmpcgegbfbkmnaa", sum := "f23c003f83f12978c8488b776fc72925616576ee041c09ad1bdc29441f5bbaa6", func := "loop.example/cellcollector/laws.FnCollectStore", spec := "fnCollectStore", apart := false, narrowed := true }
def FnCollectStoreUptoSaid : Prop := fnCollectStoreUptoRow.holds Try.pinned (OpenSpec.upto fnCollectStoreSpec)

/-- 'laws.FnAllocCell', WHERE WHAT IT READS IS OF BULK AT MOST 1048576: true; the input reads as it did. -/
def fnAllocCellUptoRow : OpenClaim := { program := "ytmpcgegbfbkmnaa", sum := "f23c003f83f12978c8488b776fc72925616576ee041c09ad1bdc29441f5bbaa6", func := "loop.example/cellcollector/laws.FnAllocCell", spec := "fnAllocCell", apart := false, narrowed := true }
def FnAllocCellUptoSaid : Prop := fnAllocCellUptoRow.holds Try.pinned (OpenSpec.upto fnAllocCellSpec)

/-- 'laws.FnFreeCell', WHERE WHAT IT READS IS OF BULK AT MOST 1048576: true; the input reads as it did. -/
def fnFreeCellUptoRow : OpenClaim := { program := "ytmpcgegbfbkmnaa", sum := "f23c003f83f12978c8488b776fc72925616576ee041c09ad1bdc29441f5bbaa6", func := "loop.example/cellcollector/laws.FnFreeCell", spec := "fnFreeCell", apart := false, narrowed := true }
def FnFreeCellUptoSaid : Prop := fnFreeCellUptoRow.holds Try.pinned (OpenSpec.upto fnFreeCellSpec)

/-- 'laws.FnLeakedOf', WHERE WHAT IT READS IS OF BULK AT MOST 1048576: true; the input reads as it did. -/
def fnLeakedOfUptoRow : OpenClaim := { program := "ytmpcgegbfbkmnaa", sum := "f23c003f83f12978c8488b776fc72925616576ee041c09ad1bdc29441f5bbaa6", func := "loop.example/cellcollector/laws.FnLeakedOf", spec := "fnLeakedOf", apart := false, narrowed := true }
def FnLeakedOfUptoSaid : Prop := fnLeakedOfUptoRow.holds Try.pinned (OpenSpec.upto fnLeakedOfSpec)

/-- 'laws.FnNewStore', WHERE WHAT IT READS IS OF BULK AT MOST 1048576: true; the input reads as it did. -/
def fnNewStoreUptoRow : OpenClaim := { program := "ytmpcgegbfbkmnaa", sum := "f23c003f83f12978c8488b776fc72925616576ee041c09ad1bdc29441f5bbaa6", func := "loop.example/cellcollector/laws.FnNewStore", spec := "fnNewStore", apart := false, narrowed := true }
def FnNewStoreUptoSaid : Prop := fnNewStoreUptoRow.holds Try.pinned (OpenSpec.upto fnNewStoreSpec)

/-- 'laws.FnAllocOrder', WHERE WHAT IT READS IS OF BULK AT MOST 1048576: true; the input reads as it did. -/
def fnAllocOrderUptoRow : OpenClaim := { program := "ytmpcgegbfbkmnaa", sum := "f23c003f83f12978c8488b776fc72925616576ee041c09ad1bdc29441f5bbaa6", func := "loop.example/cellcollector/laws.FnAllocOrder", spec := "fnAllocOrder", apart := false, narrowed := true }
def FnAllocOrderUptoSaid : Prop := fnAllocOrderUptoRow.holds Try.pinned (OpenSpec.upto fnAllocOrderSpec)

/-- 'laws.FnAllocLeak', WHERE WHAT IT READS IS OF BULK AT MOST 1048576: true; the input reads as it did. -/
def fnAllocLeakUptoRow : OpenClaim := { program := "ytmpcgegbfbkmnaa", sum := "f23c003f83f12978c8488b776fc72925616576ee041c09ad1bdc29441f5bbaa6", func := "loop.example/cellcollector/laws.FnAllocLeak", spec := "fnAllocLeak", apart := false, narrowed := true }
def FnAllocLeakUptoSaid : Prop := fnAllocLeakUptoRow.holds Try.pinned (OpenSpec.upto fnAllocLeakSpec)

/-- 'laws.FnCollectTwice', WHERE WHAT IT READS IS OF BULK AT MOST 1048576: true; the input reads as it did. -/
def fnCollectTwiceUptoRow : OpenClaim := { program := "ytmpcgegbfbkmnaa", sum := "f23c003f83f12978c8488b776fc72925616576ee041c09ad1bdc29441f5bbaa6", func := "loop.example/cellcollector/laws.FnCollectTwice", spec := "fnCollectTwice", apart := false, narrowed := true }
def FnCollectTwiceUptoSaid : Prop := fnCollectTwiceUptoRow.holds Try.pinned (OpenSpec.upto fnCollectTwiceSpec)

/-- 'laws.FnCollectCount', WHERE WHAT IT READS IS OF BULK AT MOST 1048576: true; the input reads as it did. -/
def fnCollectCountUptoRow : OpenClaim := { program := "ytmpcgegbfbkmnaa", sum := "f23c003f83f12978c8488b776fc72925616576ee041c09ad1bdc29441f5bbaa6", func := "loop.example/cellcollector/laws.FnCollectCount", spec := "fnCollectCount", apart := false, narrowed := true }
def FnCollectCountUptoSaid : Prop := fnCollectCountUptoRow.holds Try.pinned (OpenSpec.upto fnCollectCountSpec)

/-- 'laws.FnIsFree', WHERE WHAT IT READS IS OF BULK AT MOST 1048576: true; the input reads as it did. -/
def fnIsFreeUptoRow : OpenClaim := { program := "ytmpcgegbfbkmnaa", sum := "f23c003f83f12978c8488b776fc72925616576ee041c09ad1bdc29441f5bbaa6", func := "loop.example/cellcollector/laws.FnIsFree", spec := "fnIsFree", apart := false, narrowed := true }
def FnIsFreeUptoSaid : Prop := fnIsFreeUptoRow.holds Try.pinned (OpenSpec.upto fnIsFreeSpec)

/-- 'laws.FnStoreValid', WHERE WHAT IT READS IS OF BULK AT MOST 1048576: true; the input reads as it did. -/
def fnStoreValidUptoRow : OpenClaim := { program := "ytmpcgegbfbkmnaa", sum := "f23c003f83f12978c8488b776fc72925616576ee041c09ad1bdc29441f5bbaa6", func := "loop.example/cellcollector/laws.FnStoreValid", spec := "fnStoreValid", apart := false, narrowed := true }
def FnStoreValidUptoSaid : Prop := fnStoreValidUptoRow.holds Try.pinned (OpenSpec.upto fnStoreValidSpec)

/-- 'laws.FnFreeLeft', WHERE WHAT IT READS IS OF BULK AT MOST 1048576: true; the input reads as it did. -/
def fnFreeLeftUptoRow : OpenClaim := { program := "ytmpcgegbfbkmnaa", sum := "f23c003f83f12978c8488b776fc72925616576ee041c09ad1bdc29441f5bbaa6", func := "loop.example/cellcollector/laws.FnFreeLeft", spec := "fnFreeLeft", apart := false, narrowed := true }
def FnFreeLeftUptoSaid : Prop := fnFreeLeftUptoRow.holds Try.pinned (OpenSpec.upto fnFreeLeftSpec)

end Rows
end Go.Proofs.Ytmpcgegbfbkmnaa
