/-
  No cell of these rows narrows 'for every input' (looked for: loops, veiled, ifaces, maps, wideKeys, modest, calm, conditions, laid).
  DERIVED. THE GIVEN ROWS OF THIS SEAT. 12 by the template 'for every input the law returns true; each argument reads behind the call as it read before'; 0 by the template 'total and deterministic' (their statements: YteogflkahoanlaaTotals.lean).
  GIVEN WITH THE SEED: the statements are not yours to turn. If you find one false, say at which input.
  Laid BY PROGRAM, IN A SANDBOX (cutbox-rows.mjs): the forced cells as the released guide's own fill.sh prints them over the translation ece5f5af7f42abda… (all of the seat's roots in one cut). By AI agents, Wed Nov 11 2026. No macro, syntax, notation, axiom, sorry.
-/
import Derived.Test.YteogflkahoanlaaChecked
import GoSem.Claim
import GoSem.ClaimJoined
import GoSem.ClaimMapViews
import Derived.JoinedTies
import Derived.KernelRfl
namespace Go.Proofs.Yteogflkahoanlaa
/- THE CELL 'sum', in the pinned program and in every row, IS THE sha256 OF THE DUMP (.gsa) THAT YteogflkahoanlaaProg.lean LOADS. Nothing in Lean hashes anything: it is a label: what it is worth is what the hold of that sum in a sandbox is worth. -/
noncomputable def Try.pinned : Pinned := { name := "yteogflkahoanlaa", sum := "ece5f5af7f42abdadf32eee52ce9cd496d6915632088c44798d8f303450471f6", checked := Try.checked }
namespace Rows
def none {H : Type} : Left H := { results := [], args := [] }

/-- 'laws.FnDropRoot': WHATEVER THE INPUT: true; the input reads as it did. -/
def fnDropRootSpec : ChangeSpec := { name := "fnDropRoot", fn := fun _ => fun
  | [d] => { results := [.lit (.bool true)], args := [d] }
  | _ => none }
def fnDropRootRow : OpenClaim := { program := "yteogflkahoanlaa", sum := "ece5f5af7f42abdadf32eee52ce9cd496d6915632088c44798d8f303450471f6", func := "loop.example/cellcollector/laws.FnDropRoot", spec := "fnDropRoot", apart := false }
def FnDropRootSaid : Prop := fnDropRootRow.holds Try.pinned (OpenSpec.ofChange fnDropRootSpec)

/-- ITS FALSE NEIGHBOUR: 'it returns false'. Refute it at one input. -/
def fnDropRootWrong : ChangeSpec := { name := "fnDropRoot", fn := fun _ => fun
  | [d] => { results := [.lit (.bool false)], args := [d] }
  | _ => none }
def FnDropRootWrongFalsely : Prop := fnDropRootRow.holds Try.pinned (OpenSpec.ofChange fnDropRootWrong)

/-- 'laws.FnTakeCounted': WHATEVER THE INPUT: true; the input reads as it did. -/
def fnTakeCountedSpec : ChangeSpec := { name := "fnTakeCounted", fn := fun _ => fun
  | [d] => { results := [.lit (.bool true)], args := [d] }
  | _ => none }
def fnTakeCountedRow : OpenClaim := { program := "yteogflkahoanlaa", sum := "ece5f5af7f42abdadf32eee52ce9cd496d6915632088c44798d8f303450471f6", func := "loop.example/cellcollector/laws.FnTakeCounted", spec := "fnTakeCounted", apart := false }
def FnTakeCountedSaid : Prop := fnTakeCountedRow.holds Try.pinned (OpenSpec.ofChange fnTakeCountedSpec)

/-- ITS FALSE NEIGHBOUR: 'it returns false'. Refute it at one input. -/
def fnTakeCountedWrong : ChangeSpec := { name := "fnTakeCounted", fn := fun _ => fun
  | [d] => { results := [.lit (.bool false)], args := [d] }
  | _ => none }
def FnTakeCountedWrongFalsely : Prop := fnTakeCountedRow.holds Try.pinned (OpenSpec.ofChange fnTakeCountedWrong)

/-- 'laws.FnLinkCounted': WHATEVER THE INPUT: true; the input reads as it did. -/
def fnLinkCountedSpec : ChangeSpec := { name := "fnLinkCounted", fn := fun _ => fun
  | [d] => { results := [.lit (.bool true)], args := [d] }
  | _ => none }
def fnLinkCountedRow : OpenClaim := { program := "yteogflkahoanlaa", sum := "ece5f5af7f42abdadf32eee52ce9cd496d6915632088c44798d8f303450471f6", func := "loop.example/cellcollector/laws.FnLinkCounted", spec := "fnLinkCounted", apart := false }
def FnLinkCountedSaid : Prop := fnLinkCountedRow.holds Try.pinned (OpenSpec.ofChange fnLinkCountedSpec)

/-- ITS FALSE NEIGHBOUR: 'it returns false'. Refute it at one input. -/
def fnLinkCountedWrong : ChangeSpec := { name := "fnLinkCounted", fn := fun _ => fun
  | [d] => { results := [.lit (.bool false)], args := [d] }
  | _ => none }
def FnLinkCountedWrongFalsely : Prop := fnLinkCountedRow.holds Try.pinned (OpenSpec.ofChange fnLinkCountedWrong)

/-- 'laws.FnCyclesOf': WHATEVER THE INPUT: true; the input reads as it did. -/
def fnCyclesOfSpec : ChangeSpec := { name := "fnCyclesOf", fn := fun _ => fun
  | [d] => { results := [.lit (.bool true)], args := [d] }
  | _ => none }
def fnCyclesOfRow : OpenClaim := { program := "yteogflkahoanlaa", sum := "ece5f5af7f42abdadf32eee52ce9cd496d6915632088c44798d8f303450471f6", func := "loop.example/cellcollector/laws.FnCyclesOf", spec := "fnCyclesOf", apart := false }
def FnCyclesOfSaid : Prop := fnCyclesOfRow.holds Try.pinned (OpenSpec.ofChange fnCyclesOfSpec)

/-- ITS FALSE NEIGHBOUR: 'it returns false'. Refute it at one input. -/
def fnCyclesOfWrong : ChangeSpec := { name := "fnCyclesOf", fn := fun _ => fun
  | [d] => { results := [.lit (.bool false)], args := [d] }
  | _ => none }
def FnCyclesOfWrongFalsely : Prop := fnCyclesOfRow.holds Try.pinned (OpenSpec.ofChange fnCyclesOfWrong)

/-- 'laws.FnNewCounted': WHATEVER THE INPUT: true; the input reads as it did. -/
def fnNewCountedSpec : ChangeSpec := { name := "fnNewCounted", fn := fun _ => fun
  | [d] => { results := [.lit (.bool true)], args := [d] }
  | _ => none }
def fnNewCountedRow : OpenClaim := { program := "yteogflkahoanlaa", sum := "ece5f5af7f42abdadf32eee52ce9cd496d6915632088c44798d8f303450471f6", func := "loop.example/cellcollector/laws.FnNewCounted", spec := "fnNewCounted", apart := false }
def FnNewCountedSaid : Prop := fnNewCountedRow.holds Try.pinned (OpenSpec.ofChange fnNewCountedSpec)

/-- ITS FALSE NEIGHBOUR: 'it returns false'. Refute it at one input. -/
def fnNewCountedWrong : ChangeSpec := { name := "fnNewCounted", fn := fun _ => fun
  | [d] => { results := [.lit (.bool false)], args := [d] }
  | _ => none }
def FnNewCountedWrongFalsely : Prop := fnNewCountedRow.holds Try.pinned (OpenSpec.ofChange fnNewCountedWrong)

/-- 'laws.FnCountedValid': WHATEVER THE INPUT: true; the input reads as it did. -/
def fnCountedValidSpec : ChangeSpec := { name := "fnCountedValid", fn := fun _ => fun
  | [d] => { results := [.lit (.bool true)], args := [d] }
  | _ => none }
def fnCountedValidRow : OpenClaim := { program := "yteogflkahoanlaa", sum := "ece5f5af7f42abdadf32eee52ce9cd496d6915632088c44798d8f303450471f6", func := "loop.example/cellcollector/laws.FnCountedValid", spec := "fnCountedValid", apart := false }
def FnCountedValidSaid : Prop := fnCountedValidRow.holds Try.pinned (OpenSpec.ofChange fnCountedValidSpec)

/-- ITS FALSE NEIGHBOUR: 'it returns false'. Refute it at one input. -/
def fnCountedValidWrong : ChangeSpec := { name := "fnCountedValid", fn := fun _ => fun
  | [d] => { results := [.lit (.bool false)], args := [d] }
  | _ => none }
def FnCountedValidWrongFalsely : Prop := fnCountedValidRow.holds Try.pinned (OpenSpec.ofChange fnCountedValidWrong)

/-- 'laws.FnCountedSame': WHATEVER THE INPUT: true; the input reads as it did. -/
def fnCountedSameSpec : ChangeSpec := { name := "fnCountedSame", fn := fun _ => fun
  | [d] => { results := [.lit (.bool true)], args := [d] }
  | _ => none }
def fnCountedSameRow : OpenClaim := { program := "yteogflkahoanlaa", sum := "ece5f5af7f42abdadf32eee52ce9cd496d6915632088c44798d8f303450471f6", func := "loop.example/cellcollector/laws.FnCountedSame", spec := "fnCountedSame", apart := false }
def FnCountedSameSaid : Prop := fnCountedSameRow.holds Try.pinned (OpenSpec.ofChange fnCountedSameSpec)

/-- ITS FALSE NEIGHBOUR: 'it returns false'. Refute it at one input. -/
def fnCountedSameWrong : ChangeSpec := { name := "fnCountedSame", fn := fun _ => fun
  | [d] => { results := [.lit (.bool false)], args := [d] }
  | _ => none }
def FnCountedSameWrongFalsely : Prop := fnCountedSameRow.holds Try.pinned (OpenSpec.ofChange fnCountedSameWrong)

/-- 'laws.FnDropAll': WHATEVER THE INPUT: true; the input reads as it did. -/
def fnDropAllSpec : ChangeSpec := { name := "fnDropAll", fn := fun _ => fun
  | [d] => { results := [.lit (.bool true)], args := [d] }
  | _ => none }
def fnDropAllRow : OpenClaim := { program := "yteogflkahoanlaa", sum := "ece5f5af7f42abdadf32eee52ce9cd496d6915632088c44798d8f303450471f6", func := "loop.example/cellcollector/laws.FnDropAll", spec := "fnDropAll", apart := false }
def FnDropAllSaid : Prop := fnDropAllRow.holds Try.pinned (OpenSpec.ofChange fnDropAllSpec)

/-- ITS FALSE NEIGHBOUR: 'it returns false'. Refute it at one input. -/
def fnDropAllWrong : ChangeSpec := { name := "fnDropAll", fn := fun _ => fun
  | [d] => { results := [.lit (.bool false)], args := [d] }
  | _ => none }
def FnDropAllWrongFalsely : Prop := fnDropAllRow.holds Try.pinned (OpenSpec.ofChange fnDropAllWrong)

/-- 'laws.FnDropTwice': WHATEVER THE INPUT: true; the input reads as it did. -/
def fnDropTwiceSpec : ChangeSpec := { name := "fnDropTwice", fn := fun _ => fun
  | [d] => { results := [.lit (.bool true)], args := [d] }
  | _ => none }
def fnDropTwiceRow : OpenClaim := { program := "yteogflkahoanlaa", sum := "ece5f5af7f42abdadf32eee52ce9cd496d6915632088c44798d8f303450471f6", func := "loop.example/cellcollector/laws.FnDropTwice", spec := "fnDropTwice", apart := false }
def FnDropTwiceSaid : Prop := fnDropTwiceRow.holds Try.pinned (OpenSpec.ofChange fnDropTwiceSpec)

/-- ITS FALSE NEIGHBOUR: 'it returns false'. Refute it at one input. -/
def fnDropTwiceWrong : ChangeSpec := { name := "fnDropTwice", fn := fun _ => fun
  | [d] => { results := [.lit (.bool false)], args := [d] }
  | _ => none }
def FnDropTwiceWrongFalsely : Prop := fnDropTwiceRow.holds Try.pinned (OpenSpec.ofChange fnDropTwiceWrong)

/-- 'laws.FnTakeFree': WHATEVER THE INPUT: true; the input reads as it did. -/
def fnTakeFreeSpec : ChangeSpec := { name := "fnTakeFree", fn := fun _ => fun
  | [d] => { results := [.lit (.bool true)], args := [d] }
  | _ => none }
def fnTakeFreeRow : OpenClaim := { program := "yteogflkahoanlaa", sum := "ece5f5af7f42abdadf32eee52ce9cd496d6915632088c44798d8f303450471f6", func := "loop.example/cellcollector/laws.FnTakeFree", spec := "fnTakeFree", apart := false }
def FnTakeFreeSaid : Prop := fnTakeFreeRow.holds Try.pinned (OpenSpec.ofChange fnTakeFreeSpec)

/-- ITS FALSE NEIGHBOUR: 'it returns false'. Refute it at one input. -/
def fnTakeFreeWrong : ChangeSpec := { name := "fnTakeFree", fn := fun _ => fun
  | [d] => { results := [.lit (.bool false)], args := [d] }
  | _ => none }
def FnTakeFreeWrongFalsely : Prop := fnTakeFreeRow.holds Try.pinned (OpenSpec.ofChange fnTakeFreeWrong)

/-- 'laws.FnLinkSelf': WHATEVER THE INPUT: true; the input reads as it did. -/
def fnLinkSelfSpec : ChangeSpec := { name := "fnLinkSelf", fn := fun _ => fun
  | [d] => { results := [.lit (.bool true)], args := [d] }
  | _ => none }
def fnLinkSelfRow : OpenClaim := { program := "yteogflkahoanlaa", sum := "ece5f5af7f42abdadf32eee52ce9cd496d6915632088c44798d8f303450471f6", func := "loop.example/cellcollector/laws.FnLinkSelf", spec := "fnLinkSelf", apart := false }
def FnLinkSelfSaid : Prop := fnLinkSelfRow.holds Try.pinned (OpenSpec.ofChange fnLinkSelfSpec)

/-- ITS FALSE NEIGHBOUR: 'it returns false'. Refute it at one input. -/
def fnLinkSelfWrong : ChangeSpec := { name := "fnLinkSelf", fn := fun _ => fun
  | [d] => { results := [.lit (.bool false)], args := [d] }
  | _ => none }
def FnLinkSelfWrongFalsely : Prop := fnLinkSelfRow.holds Try.pinned (OpenSpec.ofChange fnLinkSelfWrong)

/-- 'laws.FnCountsSame': WHATEVER THE INPUT: true; the input reads as it did. -/
def fnCountsSameSpec : ChangeSpec := { name := "fnCountsSame", fn := fun _ => fun
  | [d] => { results := [.lit (.bool true)], args := [d] }
  | _ => none }
def fnCountsSameRow : OpenClaim := { program := "yteogflkahoanlaa", sum := "ece5f5af7f42abdadf32eee52ce9cd496d6915632088c44798d8f303450471f6", func := "loop.example/cellcollector/laws.FnCountsSame", spec := "fnCountsSame", apart := false }
def FnCountsSameSaid : Prop := fnCountsSameRow.holds Try.pinned (OpenSpec.ofChange fnCountsSameSpec)

/-- ITS FALSE NEIGHBOUR: 'it returns false'. Refute it at one input. -/
def fnCountsSameWrong : ChangeSpec := { name := "fnCountsSame", fn := fun _ => fun
  | [d] => { results := [.lit (.bool false)], args := [d] }
  | _ => none }
def FnCountsSameWrongFalsely : Prop := fnCountsSameRow.holds Try.pinned (OpenSpec.ofChange fnCountsSameWrong)

/- THE SECOND FORM. 'bulk': how many values and letters a reading holds, each counted each time it is reached (what is shared counts as often as it is met; a slice's spare places count too). A statement '..UptoSaid' is the law's where the arguments, and the package variables that the reading takes, are together of bulk at most 1048576: NARROWER than '..Said'. Prove '..Said' where nothing that the law and all that it calls make is longer than what came in: it says more and counts as full. Else prove '..UptoSaid'. A law counts once. -/
mutual
def uptoBulk {H : Type} : DataW H → Nat
  | .lit (.string bytes) => bytes.length + 1
  | .lit _ => 1
  | .nil => 1
  | .ptr d => uptoBulk d + 1
  | .slice elems spare => uptoBulkAll elems + uptoBulkAll spare + 1
  | .agg parts => uptoBulkAll parts + 1
  | .iface _ d => uptoBulk d + 1
  | .map entries => uptoBulkEntries entries + 1
  | .held _ => 1
def uptoBulkAll {H : Type} : List (DataW H) → Nat
  | [] => 0
  | d :: r => uptoBulk d + uptoBulkAll r
def uptoBulkEntries {H : Type} : List (Lit × DataW H) → Nat
  | [] => 0
  | x :: r => uptoBulkEntry x + uptoBulkEntries r
def uptoBulkEntry {H : Type} : Lit × DataW H → Nat
  | (.string bytes, d) => bytes.length + uptoBulk d + 1
  | (_, d) => uptoBulk d + 1
 end
def uptoSmall : (H : Type) → List (DataW H) → Bool := fun _ ds => decide (uptoBulkAll ds ≤ 1048576)
def OpenSpec.upto (s : _root_.Go.ChangeSpec) : _root_.Go.OpenSpec := { _root_.Go.OpenSpec.ofChange s with cond := some uptoSmall }

/-- 'laws.FnDropRoot', WHERE WHAT IT READS IS OF BULK AT MOST 1048576: true; the input reads as it did. -/
def fnDropRootUptoRow : OpenClaim := { program := "yteogflkahoanlaa", sum := "ece5f5af7f42abdadf32eee52ce9cd496d6915632088c44798d8f303450471f6", func := "loop.example/cellcollector/laws.FnDropRoot", spec := "fnDropRoot", apart := false, narrowed := true }
def FnDropRootUptoSaid : Prop := fnDropRootUptoRow.holds Try.pinned (OpenSpec.upto fnDropRootSpec)

/-- 'laws.FnTakeCounted', WHERE WHAT IT READS IS OF BULK AT MOST 1048576: true; the input reads as it did. -/
def fnTakeCountedUptoRow : OpenClaim := { program := "yteogflkahoanlaa", sum := "ece5f5af7f42abdadf32eee52ce9cd496d6915632088c44798d8f303450471f6", func := "loop.example/cellcollector/laws.FnTakeCounted", spec := "fnTakeCounted", apart := false, narrowed := true }
def FnTakeCountedUptoSaid : Prop := fnTakeCountedUptoRow.holds Try.pinned (OpenSpec.upto fnTakeCountedSpec)

/-- 'laws.FnLinkCounted', WHERE WHAT IT READS IS OF BULK AT MOST 1048576: true; the input reads as it did. -/
def fnLinkCountedUptoRow : OpenClaim := { program := "yteogflkahoanlaa", sum := "ece5f5af7f42abdadf32eee52ce9cd496d6915632088c44798d8f303450471f6", func := "loop.example/cellcollector/laws.FnLinkCounted", spec := "fnLinkCounted", apart := false, narrowed := true }
def FnLinkCountedUptoSaid : Prop := fnLinkCountedUptoRow.holds Try.pinned (OpenSpec.upto fnLinkCountedSpec)

/-- 'laws.FnCyclesOf', WHERE WHAT IT READS IS OF BULK AT MOST 1048576: true; the input reads as it did. -/
def fnCyclesOfUptoRow : OpenClaim := { program := "yteogflkahoanlaa", sum := "ece5f5af7f42abdadf32eee52ce9cd496d6915632088c44798d8f303450471f6", func := "loop.example/cellcollector/laws.FnCyclesOf", spec := "fnCyclesOf", apart := false, narrowed := true }
def FnCyclesOfUptoSaid : Prop := fnCyclesOfUptoRow.holds Try.pinned (OpenSpec.upto fnCyclesOfSpec)

/-- 'laws.FnNewCounted', WHERE WHAT IT READS IS OF BULK AT MOST 1048576: true; the input reads as it did. -/
def fnNewCountedUptoRow : OpenClaim := { program := "yteogflkahoanlaa", sum := "ece5f5af7f42abdadf32eee52ce9cd496d6915632088c44798d8f303450471f6", func := "loop.example/cellcollector/laws.FnNewCounted", spec := "fnNewCounted", apart := false, narrowed := true }
def FnNewCountedUptoSaid : Prop := fnNewCountedUptoRow.holds Try.pinned (OpenSpec.upto fnNewCountedSpec)

/-- 'laws.FnCountedValid', WHERE WHAT IT READS IS OF BULK AT MOST 1048576: true; the input reads as it did. -/
def fnCountedValidUptoRow : OpenClaim := { program := "yteogflkahoanlaa", sum := "ece5f5af7f42abdadf32eee52ce9cd496d6915632088c44798d8f303450471f6", func := "loop.example/cellcollector/laws.FnCountedValid", spec := "fnCountedValid", apart := false, narrowed := true }
def FnCountedValidUptoSaid : Prop := fnCountedValidUptoRow.holds Try.pinned (OpenSpec.upto fnCountedValidSpec)

/-- 'laws.FnCountedSame', WHERE WHAT IT READS IS OF BULK AT MOST 1048576: true; the input reads as it did. -/
def fnCountedSameUptoRow : OpenClaim := { program := "yteogflkahoanlaa", sum := "ece5f5af7f42abdadf32eee52ce9cd496d6915632088c44798d8f303450471f6", func := "loop.example/cellcollector/laws.FnCountedSame", spec := "fnCountedSame", apart := false, narrowed := true }
def FnCountedSameUptoSaid : Prop := fnCountedSameUptoRow.holds Try.pinned (OpenSpec.upto fnCountedSameSpec)

/-- 'laws.FnDropAll', WHERE WHAT IT READS IS OF BULK AT MOST 1048576: true; the input reads as it did. -/
def fnDropAllUptoRow : OpenClaim := { program := "yteogflkahoanlaa", sum := "ece5f5af7f42abdadf32eee52ce9cd496d6915632088c44798d8f303450471f6", func := "loop.example/cellcollector/laws.FnDropAll", spec := "fnDropAll", apart := false, narrowed := true }
def FnDropAllUptoSaid : Prop := fnDropAllUptoRow.holds Try.pinned (OpenSpec.upto fnDropAllSpec)

/-- 'laws.FnDropTwice', WHERE WHAT IT READS IS OF BULK AT MOST 1048576: true; the input reads as it did. -/
def fnDropTwiceUptoRow : OpenClaim := { program := "yteogflkahoanlaa", sum := "ece5f5af7f42abdadf32eee52ce9cd496d6915632088c44798d8f303450471f6", func := "loop.example/cellcollector/laws.FnDropTwice", spec := "fnDropTwice", apart := false, narrowed := true }
def FnDropTwiceUptoSaid : Prop := fnDropTwiceUptoRow.holds Try.pinned (OpenSpec.upto fnDropTwiceSpec)

/-- 'laws.FnTakeFree', WHERE WHAT IT READS IS OF BULK AT MOST 1048576: true; the input reads as it did. -/
def fnTakeFreeUptoRow : OpenClaim := { program := "yteogflkahoanlaa", sum := "ece5f5af7f42abdadf32eee52ce9cd496d6915632088c44798d8f303450471f6", func := "loop.example/cellcollector/laws.FnTakeFree", spec := "fnTakeFree", apart := false, narrowed := true }
def FnTakeFreeUptoSaid : Prop := fnTakeFreeUptoRow.holds Try.pinned (OpenSpec.upto fnTakeFreeSpec)

/-- 'laws.FnLinkSelf', WHERE WHAT IT READS IS OF BULK AT MOST 1048576: true; the input reads as it did. -/
def fnLinkSelfUptoRow : OpenClaim := { program := "yteogflkahoanlaa", sum := "ece5f5af7f42abdadf32eee52ce9cd496d6915632088c44798d8f303450471f6", func := "loop.example/cellcollector/laws.FnLinkSelf", spec := "fnLinkSelf", apart := false, narrowed := true }
def FnLinkSelfUptoSaid : Prop := fnLinkSelfUptoRow.holds Try.pinned (OpenSpec.upto fnLinkSelfSpec)

/-- 'laws.FnCountsSame', WHERE WHAT IT READS IS OF BULK AT MOST 1048576: true; the input reads as it did. -/
def fnCountsSameUptoRow : OpenClaim := { program := "yteogflkahoanlaa", sum := "ece5f5af7f42abdadf32eee52ce9cd496d6915632088c44798d8f303450471f6", func := "loop.example/cellcollector/laws.FnCountsSame", spec := "fnCountsSame", apart := false, narrowed := true }
def FnCountsSameUptoSaid : Prop := fnCountsSameUptoRow.holds Try.pinned (OpenSpec.upto fnCountsSameSpec)

end Rows
end Go.Proofs.Yteogflkahoanlaa
