/-
  No cell of these rows narrows 'for every input' (looked for: loops, veiled, ifaces, maps, wideKeys, modest, calm, conditions, laid).
  DERIVED. THE GIVEN ROWS OF THIS SEAT. 9 by the template 'for every input the law returns true; each argument reads behind the call as it read before'; 0 by the template 'total and deterministic' (their statements: YtgooohapdjgmpaaTotals.lean).
  GIVEN WITH THE SEED: the statements are not yours to turn. If you find one false, say at which input.
  Laid BY PROGRAM, IN A SANDBOX (cutbox-rows.mjs): the forced cells as the released guide's own fill.sh prints them over the translation fbf00bdc2debd0c0… (all of the seat's roots in one cut). By AI agents, Wed Nov 11 2026. No macro, syntax, notation, axiom, sorry.
-/
import Derived.Test.YtgooohapdjgmpaaChecked
import GoSem.Claim
import GoSem.ClaimJoined
import GoSem.ClaimMapViews
import Derived.JoinedTies
import Derived.KernelRfl
namespace Go.Proofs.Ytgooohapdjgmpaa
/- THE CELL 'sum', in the pinned program and in every row, IS THE sha256 OF THE DUMP (.gsa) THAT YtgooohapdjgmpaaProg.lean LOADS. Nothing in Lean hashes anything: it is a label: what it is worth is what the hold of that sum in a sandbox is worth. -/
noncomputable def Try.pinned : Pinned := { name := "ytgooohapdjgmpaa", sum := "fbf00bdc2debd0c0e4ccfd91623e6f8080b21d02569d65544425348dd84c1b28", checked := Try.checked }
namespace Rows
def none {H : Type} : Left H := { results := [], args := [] }

/-- 'laws.FnCopyHeap': WHATEVER THE INPUT: true; the input reads as it did. -/
def fnCopyHeapSpec : ChangeSpec := { name := "fnCopyHeap", fn := fun _ => fun
  | [d] => { results := [.lit (.bool true)], args := [d] }
  | _ => none }
def fnCopyHeapRow : OpenClaim := { program := "ytgooohapdjgmpaa", sum := "fbf00bdc2debd0c0e4ccfd91623e6f8080b21d02569d65544425348dd84c1b28", func := "loop.example/cellcollector/laws.FnCopyHeap", spec := "fnCopyHeap", unfollowed := true, recurses := true, apart := false }
def FnCopyHeapSaid : Prop := fnCopyHeapRow.holds Try.pinned (OpenSpec.ofChange fnCopyHeapSpec)

/-- ITS FALSE NEIGHBOUR: 'it returns false'. Refute it at one input. -/
def fnCopyHeapWrong : ChangeSpec := { name := "fnCopyHeap", fn := fun _ => fun
  | [d] => { results := [.lit (.bool false)], args := [d] }
  | _ => none }
def FnCopyHeapWrongFalsely : Prop := fnCopyHeapRow.holds Try.pinned (OpenSpec.ofChange fnCopyHeapWrong)

/-- 'laws.FnCopyWhere': WHATEVER THE INPUT: true; the input reads as it did. -/
def fnCopyWhereSpec : ChangeSpec := { name := "fnCopyWhere", fn := fun _ => fun
  | [d] => { results := [.lit (.bool true)], args := [d] }
  | _ => none }
def fnCopyWhereRow : OpenClaim := { program := "ytgooohapdjgmpaa", sum := "fbf00bdc2debd0c0e4ccfd91623e6f8080b21d02569d65544425348dd84c1b28", func := "loop.example/cellcollector/laws.FnCopyWhere", spec := "fnCopyWhere", unfollowed := true, recurses := true, apart := false }
def FnCopyWhereSaid : Prop := fnCopyWhereRow.holds Try.pinned (OpenSpec.ofChange fnCopyWhereSpec)

/-- ITS FALSE NEIGHBOUR: 'it returns false'. Refute it at one input. -/
def fnCopyWhereWrong : ChangeSpec := { name := "fnCopyWhere", fn := fun _ => fun
  | [d] => { results := [.lit (.bool false)], args := [d] }
  | _ => none }
def FnCopyWhereWrongFalsely : Prop := fnCopyWhereRow.holds Try.pinned (OpenSpec.ofChange fnCopyWhereWrong)

/-- 'laws.FnMoveCells': WHATEVER THE INPUT: true; the input reads as it did. -/
def fnMoveCellsSpec : ChangeSpec := { name := "fnMoveCells", fn := fun _ => fun
  | [d] => { results := [.lit (.bool true)], args := [d] }
  | _ => none }
def fnMoveCellsRow : OpenClaim := { program := "ytgooohapdjgmpaa", sum := "fbf00bdc2debd0c0e4ccfd91623e6f8080b21d02569d65544425348dd84c1b28", func := "loop.example/cellcollector/laws.FnMoveCells", spec := "fnMoveCells", unfollowed := true, recurses := true, apart := false }
def FnMoveCellsSaid : Prop := fnMoveCellsRow.holds Try.pinned (OpenSpec.ofChange fnMoveCellsSpec)

/-- ITS FALSE NEIGHBOUR: 'it returns false'. Refute it at one input. -/
def fnMoveCellsWrong : ChangeSpec := { name := "fnMoveCells", fn := fun _ => fun
  | [d] => { results := [.lit (.bool false)], args := [d] }
  | _ => none }
def FnMoveCellsWrongFalsely : Prop := fnMoveCellsRow.holds Try.pinned (OpenSpec.ofChange fnMoveCellsWrong)

/-- 'laws.FnHeapsAlike': WHATEVER THE INPUT: true; the input reads as it did. -/
def fnHeapsAlikeSpec : ChangeSpec := { name := "fnHeapsAlike", fn := fun _ => fun
  | [d] => { results := [.lit (.bool true)], args := [d] }
  | _ => none }
def fnHeapsAlikeRow : OpenClaim := { program := "ytgooohapdjgmpaa", sum := "fbf00bdc2debd0c0e4ccfd91623e6f8080b21d02569d65544425348dd84c1b28", func := "loop.example/cellcollector/laws.FnHeapsAlike", spec := "fnHeapsAlike", unfollowed := true, recurses := true, apart := false }
def FnHeapsAlikeSaid : Prop := fnHeapsAlikeRow.holds Try.pinned (OpenSpec.ofChange fnHeapsAlikeSpec)

/-- ITS FALSE NEIGHBOUR: 'it returns false'. Refute it at one input. -/
def fnHeapsAlikeWrong : ChangeSpec := { name := "fnHeapsAlike", fn := fun _ => fun
  | [d] => { results := [.lit (.bool false)], args := [d] }
  | _ => none }
def FnHeapsAlikeWrongFalsely : Prop := fnHeapsAlikeRow.holds Try.pinned (OpenSpec.ofChange fnHeapsAlikeWrong)

/-- 'laws.FnCopyCount': WHATEVER THE INPUT: true; the input reads as it did. -/
def fnCopyCountSpec : ChangeSpec := { name := "fnCopyCount", fn := fun _ => fun
  | [d] => { results := [.lit (.bool true)], args := [d] }
  | _ => none }
def fnCopyCountRow : OpenClaim := { program := "ytgooohapdjgmpaa", sum := "fbf00bdc2debd0c0e4ccfd91623e6f8080b21d02569d65544425348dd84c1b28", func := "loop.example/cellcollector/laws.FnCopyCount", spec := "fnCopyCount", unfollowed := true, recurses := true, apart := false }
def FnCopyCountSaid : Prop := fnCopyCountRow.holds Try.pinned (OpenSpec.ofChange fnCopyCountSpec)

/-- ITS FALSE NEIGHBOUR: 'it returns false'. Refute it at one input. -/
def fnCopyCountWrong : ChangeSpec := { name := "fnCopyCount", fn := fun _ => fun
  | [d] => { results := [.lit (.bool false)], args := [d] }
  | _ => none }
def FnCopyCountWrongFalsely : Prop := fnCopyCountRow.holds Try.pinned (OpenSpec.ofChange fnCopyCountWrong)

/-- 'laws.FnCopyOrder': WHATEVER THE INPUT: true; the input reads as it did. -/
def fnCopyOrderSpec : ChangeSpec := { name := "fnCopyOrder", fn := fun _ => fun
  | [d] => { results := [.lit (.bool true)], args := [d] }
  | _ => none }
def fnCopyOrderRow : OpenClaim := { program := "ytgooohapdjgmpaa", sum := "fbf00bdc2debd0c0e4ccfd91623e6f8080b21d02569d65544425348dd84c1b28", func := "loop.example/cellcollector/laws.FnCopyOrder", spec := "fnCopyOrder", unfollowed := true, recurses := true, apart := false }
def FnCopyOrderSaid : Prop := fnCopyOrderRow.holds Try.pinned (OpenSpec.ofChange fnCopyOrderSpec)

/-- ITS FALSE NEIGHBOUR: 'it returns false'. Refute it at one input. -/
def fnCopyOrderWrong : ChangeSpec := { name := "fnCopyOrder", fn := fun _ => fun
  | [d] => { results := [.lit (.bool false)], args := [d] }
  | _ => none }
def FnCopyOrderWrongFalsely : Prop := fnCopyOrderRow.holds Try.pinned (OpenSpec.ofChange fnCopyOrderWrong)

/-- 'laws.FnAlikeCopy': WHATEVER THE INPUT: true; the input reads as it did. -/
def fnAlikeCopySpec : ChangeSpec := { name := "fnAlikeCopy", fn := fun _ => fun
  | [d] => { results := [.lit (.bool true)], args := [d] }
  | _ => none }
def fnAlikeCopyRow : OpenClaim := { program := "ytgooohapdjgmpaa", sum := "fbf00bdc2debd0c0e4ccfd91623e6f8080b21d02569d65544425348dd84c1b28", func := "loop.example/cellcollector/laws.FnAlikeCopy", spec := "fnAlikeCopy", unfollowed := true, recurses := true, apart := false }
def FnAlikeCopySaid : Prop := fnAlikeCopyRow.holds Try.pinned (OpenSpec.ofChange fnAlikeCopySpec)

/-- ITS FALSE NEIGHBOUR: 'it returns false'. Refute it at one input. -/
def fnAlikeCopyWrong : ChangeSpec := { name := "fnAlikeCopy", fn := fun _ => fun
  | [d] => { results := [.lit (.bool false)], args := [d] }
  | _ => none }
def FnAlikeCopyWrongFalsely : Prop := fnAlikeCopyRow.holds Try.pinned (OpenSpec.ofChange fnAlikeCopyWrong)

/-- 'laws.FnMoveOrder': WHATEVER THE INPUT: true; the input reads as it did. -/
def fnMoveOrderSpec : ChangeSpec := { name := "fnMoveOrder", fn := fun _ => fun
  | [d] => { results := [.lit (.bool true)], args := [d] }
  | _ => none }
def fnMoveOrderRow : OpenClaim := { program := "ytgooohapdjgmpaa", sum := "fbf00bdc2debd0c0e4ccfd91623e6f8080b21d02569d65544425348dd84c1b28", func := "loop.example/cellcollector/laws.FnMoveOrder", spec := "fnMoveOrder", unfollowed := true, recurses := true, apart := false }
def FnMoveOrderSaid : Prop := fnMoveOrderRow.holds Try.pinned (OpenSpec.ofChange fnMoveOrderSpec)

/-- ITS FALSE NEIGHBOUR: 'it returns false'. Refute it at one input. -/
def fnMoveOrderWrong : ChangeSpec := { name := "fnMoveOrder", fn := fun _ => fun
  | [d] => { results := [.lit (.bool false)], args := [d] }
  | _ => none }
def FnMoveOrderWrongFalsely : Prop := fnMoveOrderRow.holds Try.pinned (OpenSpec.ofChange fnMoveOrderWrong)

/-- 'laws.FnMoveLive': WHATEVER THE INPUT: true; the input reads as it did. -/
def fnMoveLiveSpec : ChangeSpec := { name := "fnMoveLive", fn := fun _ => fun
  | [d] => { results := [.lit (.bool true)], args := [d] }
  | _ => none }
def fnMoveLiveRow : OpenClaim := { program := "ytgooohapdjgmpaa", sum := "fbf00bdc2debd0c0e4ccfd91623e6f8080b21d02569d65544425348dd84c1b28", func := "loop.example/cellcollector/laws.FnMoveLive", spec := "fnMoveLive", apart := false }
def FnMoveLiveSaid : Prop := fnMoveLiveRow.holds Try.pinned (OpenSpec.ofChange fnMoveLiveSpec)

/-- ITS FALSE NEIGHBOUR: 'it returns false'. Refute it at one input. -/
def fnMoveLiveWrong : ChangeSpec := { name := "fnMoveLive", fn := fun _ => fun
  | [d] => { results := [.lit (.bool false)], args := [d] }
  | _ => none }
def FnMoveLiveWrongFalsely : Prop := fnMoveLiveRow.holds Try.pinned (OpenSpec.ofChange fnMoveLiveWrong)

/- THE SECOND FORM. 'bulk': how many values and letters a reading holds, each counted each time it is reached (what is shared counts as often as it is met; a slice's spare places count too). A statement '..UptoSaid' is the law's where the arguments, and the package variables that the reading takes, are together of bulk at most 1048576: NARROWER than '..Said'. Prove '..Said' where nothing that the law and all that it calls make is longer than what came in: it says more and counts as full. Else prove '..UptoSaid'. A law counts once. -/
mutual
def uptoBulk {H : Type} : DataW H → Nat
  | .lit (.string bytes) => bytes.length + 1
  | .lit _ => 1
  | .nil => 1
  | .ptr d => uptoBulk d + 1
  | .slice elems spare => uptoBulkAll elems + uptoBulkAll spare + 1
  | .agg parts => uptoBulkAll parts + 1
  | .iface _ d => uptoBulk d + 1
  | .map entries => uptoBulkEntries entries + 1
  | .held _ => 1
def uptoBulkAll {H : Type} : List (DataW H) → Nat
  | [] => 0
  | d :: r => uptoBulk d + uptoBulkAll r
def uptoBulkEntries {H : Type} : List (Lit × DataW H) → Nat
  | [] => 0
  | x :: r => uptoBulkEntry x + uptoBulkEntries r
def uptoBulkEntry {H : Type} : Lit × DataW H → Nat
  | (.string bytes, d) => bytes.length + uptoBulk d + 1
  | (_, d) => uptoBulk d + 1
 end
def uptoSmall : (H : Type) → List (DataW H) → Bool := fun _ ds => decide (uptoBulkAll ds ≤ 1048576)
def OpenSpec.upto (s : _root_.Go.ChangeSpec) : _root_.Go.OpenSpec := { _root_.Go.OpenSpec.ofChange s with cond := some uptoSmall }

/-- 'laws.FnCopyHeap', WHERE WHAT IT READS IS OF BULK AT MOST 1048576: true; the input reads as it did. -/
def fnCopyHeapUptoRow : OpenClaim := { program := "ytgooohapdjgmpaa", sum := "fbf00bdc2debd0c0e4ccfd91623e6f8080b21d02569d65544425348dd84c1b28", func := "loop.example/cellcollector/laws.FnCopyHeap", spec := "fnCopyHeap", unfollowed := true, recurses := true, apart := false, narrowed := true }
def FnCopyHeapUptoSaid : Prop := fnCopyHeapUptoRow.holds Try.pinned (OpenSpec.upto fnCopyHeapSpec)

/-- 'laws.FnCopyWhere', WHERE WHAT IT READS IS OF BULK AT MOST 1048576: true; the input reads as it did. -/
def fnCopyWhereUptoRow : OpenClaim := { program := "ytgooohapdjgmpaa", sum := "fbf00bdc2debd0c0e4ccfd91623e6f8080b21d02569d65544425348dd84c1b28", func := "loop.example/cellcollector/laws.FnCopyWhere", spec := "fnCopyWhere", unfollowed := true, recurses := true, apart := false, narrowed := true }
def FnCopyWhereUptoSaid : Prop := fnCopyWhereUptoRow.holds Try.pinned (OpenSpec.upto fnCopyWhereSpec)

/-- 'laws.FnMoveCells', WHERE WHAT IT READS IS OF BULK AT MOST 1048576: true; the input reads as it did. -/
def fnMoveCellsUptoRow : OpenClaim := { program := "ytgooohapdjgmpaa", sum := "fbf00bdc2debd0c0e4ccfd91623e6f8080b21d02569d65544425348dd84c1b28", func := "loop.example/cellcollector/laws.FnMoveCells", spec := "fnMoveCells", unfollowed := true, recurses := true, apart := false, narrowed := true }
def FnMoveCellsUptoSaid : Prop := fnMoveCellsUptoRow.holds Try.pinned (OpenSpec.upto fnMoveCellsSpec)

/-- 'laws.FnHeapsAlike', WHERE WHAT IT READS IS OF BULK AT MOST 1048576: true; the input reads as it did. -/
def fnHeapsAlikeUptoRow : OpenClaim := { program := "ytgooohapdjgmpaa", sum := "fbf00bdc2debd0c0e4ccfd91623e6f8080b21d02569d65544425348dd84c1b28", func := "loop.example/cellcollector/laws.FnHeapsAlike", spec := "fnHeapsAlike", unfollowed := true, recurses := true, apart := false, narrowed := true }
def FnHeapsAlikeUptoSaid : Prop := fnHeapsAlikeUptoRow.holds Try.pinned (OpenSpec.upto fnHeapsAlikeSpec)

/-- 'laws.FnCopyCount', WHERE WHAT IT READS IS OF BULK AT MOST 1048576: true; the input reads as it did. -/
def fnCopyCountUptoRow : OpenClaim := { program := "ytgooohapdjgmpaa", sum := "fbf00bdc2debd0c0e4ccfd91623e6f8080b21d02569d65544425348dd84c1b28", func := "loop.example/cellcollector/laws.FnCopyCount", spec := "fnCopyCount", unfollowed := true, recurses := true, apart := false, narrowed := true }
def FnCopyCountUptoSaid : Prop := fnCopyCountUptoRow.holds Try.pinned (OpenSpec.upto fnCopyCountSpec)

/-- 'laws.FnCopyOrder', WHERE WHAT IT READS IS OF BULK AT MOST 1048576: true; the input reads as it did. -/
def fnCopyOrderUptoRow : OpenClaim := { program := "ytgooohapdjgmpaa", sum := "fbf00bdc2debd0c0e4ccfd91623e6f8080b21d02569d65544425348dd84c1b28", func := "loop.example/cellcollector/laws.FnCopyOrder", spec := "fnCopyOrder", unfollowed := true, recurses := true, apart := false, narrowed := true }
def FnCopyOrderUptoSaid : Prop := fnCopyOrderUptoRow.holds Try.pinned (OpenSpec.upto fnCopyOrderSpec)

/-- 'laws.FnAlikeCopy', WHERE WHAT IT READS IS OF BULK AT MOST 1048576: true; the input reads as it did. -/
def fnAlikeCopyUptoRow : OpenClaim := { program := "ytgooohapdjgmpaa", sum := "fbf00bdc2debd0c0e4ccfd91623e6f8080b21d02569d65544425348dd84c1b28", func := "loop.example/cellcollector/laws.FnAlikeCopy", spec := "fnAlikeCopy", unfollowed := true, recurses := true, apart := false, narrowed := true }
def FnAlikeCopyUptoSaid : Prop := fnAlikeCopyUptoRow.holds Try.pinned (OpenSpec.upto fnAlikeCopySpec)

/-- 'laws.FnMoveOrder', WHERE WHAT IT READS IS OF BULK AT MOST 1048576: true; the input reads as it did. -/
def fnMoveOrderUptoRow : OpenClaim := { program := "ytgooohapdjgmpaa", sum := "fbf00bdc2debd0c0e4ccfd91623e6f8080b21d02569d65544425348dd84c1b28", func := "loop.example/cellcollector/laws.FnMoveOrder", spec := "fnMoveOrder", unfollowed := true, recurses := true, apart := false, narrowed := true }
def FnMoveOrderUptoSaid : Prop := fnMoveOrderUptoRow.holds Try.pinned (OpenSpec.upto fnMoveOrderSpec)

/-- 'laws.FnMoveLive', WHERE WHAT IT READS IS OF BULK AT MOST 1048576: true; the input reads as it did. -/
def fnMoveLiveUptoRow : OpenClaim := { program := "ytgooohapdjgmpaa", sum := "fbf00bdc2debd0c0e4ccfd91623e6f8080b21d02569d65544425348dd84c1b28", func := "loop.example/cellcollector/laws.FnMoveLive", spec := "fnMoveLive", apart := false, narrowed := true }
def FnMoveLiveUptoSaid : Prop := fnMoveLiveUptoRow.holds Try.pinned (OpenSpec.upto fnMoveLiveSpec)

end Rows
end Go.Proofs.Ytgooohapdjgmpaa
