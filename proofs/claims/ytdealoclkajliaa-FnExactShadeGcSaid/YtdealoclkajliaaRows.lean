/-
  No cell of these rows narrows 'for every input' (looked for: loops, veiled, ifaces, maps, wideKeys, modest, calm, conditions, laid).
  DERIVED. THE GIVEN ROWS OF THIS SEAT. 8 by the template 'for every input the law returns true; each argument reads behind the call as it read before'; 0 by the template 'total and deterministic' (their statements: YtdealoclkajliaaTotals.lean).
  GIVEN WITH THE SEED: the statements are not yours to turn. If you find one false, say at which input.
  Laid BY PROGRAM, IN A SANDBOX (cutbox-rows.mjs): the forced cells as the released guide's own fill.sh prints them over the translation e77bec2851043ccc… (all of the seat's roots in one cut). By AI agents, Wed Nov 11 2026. No macro, syntax, notation, axiom, sorry.
-/
import Derived.Test.YtdealoclkajliaaChecked
import GoSem.Claim
import GoSem.ClaimJoined
import GoSem.ClaimMapViews
import Derived.JoinedTies
import Derived.KernelRfl
namespace Go.Proofs.Ytdealoclkajliaa
/- THE CELL 'sum', in the pinned program and in every row, IS THE sha256 OF THE DUMP (.gsa) THAT YtdealoclkajliaaProg.lean LOADS. Nothing in Lean hashes anything: it is a label: what it is worth is what the hold of that sum in a sandbox is worth. -/
noncomputable def Try.pinned : Pinned := { name := "ytdealoclkajliaa", sum := "e77bec2851043ccc24e080bfcc1dc76fb70f3d1f903f8914cc0d7fe67c017750", checked := Try.checked }
namespace Rows
def none {H : Type} : Left H := { results := [], args := [] }

/-- 'laws.FnExactNewGc': WHATEVER THE INPUT: true; the input reads as it did. -/
def fnExactNewGcSpec : ChangeSpec := { name := "fnExactNewGc", fn := fun _ => fun
  | [d] => { results := [.lit (.bool true)], args := [d] }
  | _ => none }
def fnExactNewGcRow : OpenClaim := { program := "ytdealoclkajliaa", sum := "e77bec2851043ccc24e080bfcc1dc76fb70f3d1f903f8914cc0d7fe67c017750", func := "loop.example/cellcollector/laws.FnExactNewGc", spec := "fnExactNewGc", apart := false }
def FnExactNewGcSaid : Prop := fnExactNewGcRow.holds Try.pinned (OpenSpec.ofChange fnExactNewGcSpec)

/-- ITS FALSE NEIGHBOUR: 'it returns false'. Refute it at one input. -/
def fnExactNewGcWrong : ChangeSpec := { name := "fnExactNewGc", fn := fun _ => fun
  | [d] => { results := [.lit (.bool false)], args := [d] }
  | _ => none }
def FnExactNewGcWrongFalsely : Prop := fnExactNewGcRow.holds Try.pinned (OpenSpec.ofChange fnExactNewGcWrong)

/-- 'laws.FnExactGcValid': WHATEVER THE INPUT: true; the input reads as it did. -/
def fnExactGcValidSpec : ChangeSpec := { name := "fnExactGcValid", fn := fun _ => fun
  | [d1, d2] => { results := [.lit (.bool true)], args := [d1, d2] }
  | _ => none }
def fnExactGcValidRow : OpenClaim := { program := "ytdealoclkajliaa", sum := "e77bec2851043ccc24e080bfcc1dc76fb70f3d1f903f8914cc0d7fe67c017750", func := "loop.example/cellcollector/laws.FnExactGcValid", spec := "fnExactGcValid", apart := false }
def FnExactGcValidSaid : Prop := fnExactGcValidRow.holds Try.pinned (OpenSpec.ofChange fnExactGcValidSpec)

/-- ITS FALSE NEIGHBOUR: 'it returns false'. Refute it at one input. -/
def fnExactGcValidWrong : ChangeSpec := { name := "fnExactGcValid", fn := fun _ => fun
  | [d1, d2] => { results := [.lit (.bool false)], args := [d1, d2] }
  | _ => none }
def FnExactGcValidWrongFalsely : Prop := fnExactGcValidRow.holds Try.pinned (OpenSpec.ofChange fnExactGcValidWrong)

/-- 'laws.FnExactGcSame': WHATEVER THE INPUT: true; the input reads as it did. -/
def fnExactGcSameSpec : ChangeSpec := { name := "fnExactGcSame", fn := fun _ => fun
  | [d1, d2] => { results := [.lit (.bool true)], args := [d1, d2] }
  | _ => none }
def fnExactGcSameRow : OpenClaim := { program := "ytdealoclkajliaa", sum := "e77bec2851043ccc24e080bfcc1dc76fb70f3d1f903f8914cc0d7fe67c017750", func := "loop.example/cellcollector/laws.FnExactGcSame", spec := "fnExactGcSame", apart := false }
def FnExactGcSameSaid : Prop := fnExactGcSameRow.holds Try.pinned (OpenSpec.ofChange fnExactGcSameSpec)

/-- ITS FALSE NEIGHBOUR: 'it returns false'. Refute it at one input. -/
def fnExactGcSameWrong : ChangeSpec := { name := "fnExactGcSame", fn := fun _ => fun
  | [d1, d2] => { results := [.lit (.bool false)], args := [d1, d2] }
  | _ => none }
def FnExactGcSameWrongFalsely : Prop := fnExactGcSameRow.holds Try.pinned (OpenSpec.ofChange fnExactGcSameWrong)

/-- 'laws.FnExactSweptCell': WHATEVER THE INPUT: true; the input reads as it did. -/
def fnExactSweptCellSpec : ChangeSpec := { name := "fnExactSweptCell", fn := fun _ => fun
  | [d1, d2] => { results := [.lit (.bool true)], args := [d1, d2] }
  | _ => none }
def fnExactSweptCellRow : OpenClaim := { program := "ytdealoclkajliaa", sum := "e77bec2851043ccc24e080bfcc1dc76fb70f3d1f903f8914cc0d7fe67c017750", func := "loop.example/cellcollector/laws.FnExactSweptCell", spec := "fnExactSweptCell", apart := false }
def FnExactSweptCellSaid : Prop := fnExactSweptCellRow.holds Try.pinned (OpenSpec.ofChange fnExactSweptCellSpec)

/-- ITS FALSE NEIGHBOUR: 'it returns false'. Refute it at one input. -/
def fnExactSweptCellWrong : ChangeSpec := { name := "fnExactSweptCell", fn := fun _ => fun
  | [d1, d2] => { results := [.lit (.bool false)], args := [d1, d2] }
  | _ => none }
def FnExactSweptCellWrongFalsely : Prop := fnExactSweptCellRow.holds Try.pinned (OpenSpec.ofChange fnExactSweptCellWrong)

/-- 'laws.FnExactStepGc': WHATEVER THE INPUT: true; the input reads as it did. -/
def fnExactStepGcSpec : ChangeSpec := { name := "fnExactStepGc", fn := fun _ => fun
  | [d1, d2] => { results := [.lit (.bool true)], args := [d1, d2] }
  | _ => none }
def fnExactStepGcRow : OpenClaim := { program := "ytdealoclkajliaa", sum := "e77bec2851043ccc24e080bfcc1dc76fb70f3d1f903f8914cc0d7fe67c017750", func := "loop.example/cellcollector/laws.FnExactStepGc", spec := "fnExactStepGc", unfollowed := true, recurses := true, apart := false }
def FnExactStepGcSaid : Prop := fnExactStepGcRow.holds Try.pinned (OpenSpec.ofChange fnExactStepGcSpec)

/-- ITS FALSE NEIGHBOUR: 'it returns false'. Refute it at one input. -/
def fnExactStepGcWrong : ChangeSpec := { name := "fnExactStepGc", fn := fun _ => fun
  | [d1, d2] => { results := [.lit (.bool false)], args := [d1, d2] }
  | _ => none }
def FnExactStepGcWrongFalsely : Prop := fnExactStepGcRow.holds Try.pinned (OpenSpec.ofChange fnExactStepGcWrong)

/-- 'laws.FnExactRunGc': WHATEVER THE INPUT: true; the input reads as it did. -/
def fnExactRunGcSpec : ChangeSpec := { name := "fnExactRunGc", fn := fun _ => fun
  | [d1, d2] => { results := [.lit (.bool true)], args := [d1, d2] }
  | _ => none }
def fnExactRunGcRow : OpenClaim := { program := "ytdealoclkajliaa", sum := "e77bec2851043ccc24e080bfcc1dc76fb70f3d1f903f8914cc0d7fe67c017750", func := "loop.example/cellcollector/laws.FnExactRunGc", spec := "fnExactRunGc", unfollowed := true, recurses := true, apart := false }
def FnExactRunGcSaid : Prop := fnExactRunGcRow.holds Try.pinned (OpenSpec.ofChange fnExactRunGcSpec)

/-- ITS FALSE NEIGHBOUR: 'it returns false'. Refute it at one input. -/
def fnExactRunGcWrong : ChangeSpec := { name := "fnExactRunGc", fn := fun _ => fun
  | [d1, d2] => { results := [.lit (.bool false)], args := [d1, d2] }
  | _ => none }
def FnExactRunGcWrongFalsely : Prop := fnExactRunGcRow.holds Try.pinned (OpenSpec.ofChange fnExactRunGcWrong)

/-- 'laws.FnExactColorNew': WHATEVER THE INPUT: true; the input reads as it did. -/
def fnExactColorNewSpec : ChangeSpec := { name := "fnExactColorNew", fn := fun _ => fun
  | [d1, d2, d3] => { results := [.lit (.bool true)], args := [d1, d2, d3] }
  | _ => none }
def fnExactColorNewRow : OpenClaim := { program := "ytdealoclkajliaa", sum := "e77bec2851043ccc24e080bfcc1dc76fb70f3d1f903f8914cc0d7fe67c017750", func := "loop.example/cellcollector/laws.FnExactColorNew", spec := "fnExactColorNew", apart := false }
def FnExactColorNewSaid : Prop := fnExactColorNewRow.holds Try.pinned (OpenSpec.ofChange fnExactColorNewSpec)

/-- ITS FALSE NEIGHBOUR: 'it returns false'. Refute it at one input. -/
def fnExactColorNewWrong : ChangeSpec := { name := "fnExactColorNew", fn := fun _ => fun
  | [d1, d2, d3] => { results := [.lit (.bool false)], args := [d1, d2, d3] }
  | _ => none }
def FnExactColorNewWrongFalsely : Prop := fnExactColorNewRow.holds Try.pinned (OpenSpec.ofChange fnExactColorNewWrong)

/-- 'laws.FnExactShadeGc': WHATEVER THE INPUT: true; the input reads as it did. -/
def fnExactShadeGcSpec : ChangeSpec := { name := "fnExactShadeGc", fn := fun _ => fun
  | [d1, d2, d3] => { results := [.lit (.bool true)], args := [d1, d2, d3] }
  | _ => none }
def fnExactShadeGcRow : OpenClaim := { program := "ytdealoclkajliaa", sum := "e77bec2851043ccc24e080bfcc1dc76fb70f3d1f903f8914cc0d7fe67c017750", func := "loop.example/cellcollector/laws.FnExactShadeGc", spec := "fnExactShadeGc", apart := false }
def FnExactShadeGcSaid : Prop := fnExactShadeGcRow.holds Try.pinned (OpenSpec.ofChange fnExactShadeGcSpec)

/-- ITS FALSE NEIGHBOUR: 'it returns false'. Refute it at one input. -/
def fnExactShadeGcWrong : ChangeSpec := { name := "fnExactShadeGc", fn := fun _ => fun
  | [d1, d2, d3] => { results := [.lit (.bool false)], args := [d1, d2, d3] }
  | _ => none }
def FnExactShadeGcWrongFalsely : Prop := fnExactShadeGcRow.holds Try.pinned (OpenSpec.ofChange fnExactShadeGcWrong)

/- THE SECOND FORM. 'bulk': how many values and letters a reading holds, each counted each time it is reached (what is shared counts as often as it is met; a slice's spare places count too). A statement '..UptoSaid' is the law's where the arguments, and the package variables that the reading takes, are together of bulk at most 1048576: NARROWER than '..Said'. Prove '..Said' where nothing that the law and all that it calls make is longer than what came in: it says more and counts as full. Else prove '..UptoSaid'. A law counts once. -/
mutual
def uptoBulk {H : Type} : DataW H → Nat
  | .lit (.string bytes) => bytes.length + 1
  | .lit _ => 1
  | .nil => 1
  | .ptr d => uptoBulk d + 1
  | .slice elems spare => uptoBulkAll elems + uptoBulkAll spare + 1
  | .agg parts => uptoBulkAll parts + 1
  | .iface _ d => uptoBulk d + 1
  | .map entries => uptoBulkEntries entries + 1
  | .held _ => 1
def uptoBulkAll {H : Type} : List (DataW H) → Nat
  | [] => 0
  | d :: r => uptoBulk d + uptoBulkAll r
def uptoBulkEntries {H : Type} : List (Lit × DataW H) → Nat
  | [] => 0
  | x :: r => uptoBulkEntry x + uptoBulkEntries r
def uptoBulkEntry {H : Type} : Lit × DataW H → Nat
  | (.string bytes, d) => bytes.length + uptoBulk d + 1
  | (_, d) => uptoBulk d + 1
 end
def uptoSmall : (H : Type) → List (DataW H) → Bool := fun _ ds => decide (uptoBulkAll ds ≤ 1048576)
def OpenSpec.upto (s : _root_.Go.ChangeSpec) : _root_.Go.OpenSpec := { _root_.Go.OpenSpec.ofChange s with cond := some uptoSmall }

/-- 'laws.FnExactNewGc', WHERE WHAT IT READS IS OF BULK AT MOST 1048576: true; the input reads as it did. -/
def fnExactNewGcUptoRow : OpenClaim := { program := "ytdealoclkajliaa", sum := "e77bec2851043ccc24e080bfcc1dc76fb70f3d1f903f8914cc0d7fe67c017750", func := "loop.example/cellcollector/laws.FnExactNewGc", spec := "fnExactNewGc", apart := false, narrowed := true }
def FnExactNewGcUptoSaid : Prop := fnExactNewGcUptoRow.holds Try.pinned (OpenSpec.upto fnExactNewGcSpec)

/-- 'laws.FnExactGcValid', WHERE WHAT IT READS IS OF BULK AT MOST 1048576: true; the input reads as it did. -/
def fnExactGcValidUptoRow : OpenClaim := { program := "ytdealoclkajliaa", sum := "e77bec2851043ccc24e080bfcc1dc76fb70f3d1f903f8914cc0d7fe67c017750", func := "loop.example/cellcollector/laws.FnExactGcValid", spec := "fnExactGcValid", apart := false, narrowed := true }
def FnExactGcValidUptoSaid : Prop := fnExactGcValidUptoRow.holds Try.pinned (OpenSpec.upto fnExactGcValidSpec)

/-- 'laws.FnExactGcSame', WHERE WHAT IT READS IS OF BULK AT MOST 1048576: true; the input reads as it did. -/
def fnExactGcSameUptoRow : OpenClaim := { program := "ytdealoclkajliaa", sum := "e77bec2851043ccc24e080bfcc1dc76fb70f3d1f903f8914cc0d7fe67c017750", func := "loop.example/cellcollector/laws.FnExactGcSame", spec := "fnExactGcSame", apart := false, narrowed := true }
def FnExactGcSameUptoSaid : Prop := fnExactGcSameUptoRow.holds Try.pinned (OpenSpec.upto fnExactGcSameSpec)

/-- 'laws.FnExactSweptCell', WHERE WHAT IT READS IS OF BULK AT MOST 1048576: true; the input reads as it did. -/
def fnExactSweptCellUptoRow : OpenClaim := { program := "ytdealoclkajliaa", sum := "e77bec2851043ccc24e080bfcc1dc76fb70f3d1f903f8914cc0d7fe67c017750", func := "loop.example/cellcollector/laws.FnExactSweptCell", spec := "fnExactSweptCell", apart := false, narrowed := true }
def FnExactSweptCellUptoSaid : Prop := fnExactSweptCellUptoRow.holds Try.pinned (OpenSpec.upto fnExactSweptCellSpec)

/-- 'laws.FnExactStepGc', WHERE WHAT IT READS IS OF BULK AT MOST 1048576: true; the input reads as it did. -/
def fnExactStepGcUptoRow : OpenClaim := { program := "ytdealoclkajliaa", sum := "e77bec2851043ccc24e080bfcc1dc76fb70f3d1f903f8914cc0d7fe67c017750", func := "loop.example/cellcollector/laws.FnExactStepGc", spec := "fnExactStepGc", unfollowed := true, recurses := true, apart := false, narrowed := true }
def FnExactStepGcUptoSaid : Prop := fnExactStepGcUptoRow.holds Try.pinned (OpenSpec.upto fnExactStepGcSpec)

/-- 'laws.FnExactRunGc', WHERE WHAT IT READS IS OF BULK AT MOST 1048576: true; the input reads as it did. -/
def fnExactRunGcUptoRow : OpenClaim := { program := "ytdealoclkajliaa", sum := "e77bec2851043ccc24e080bfcc1dc76fb70f3d1f903f8914cc0d7fe67c017750", func := "loop.example/cellcollector/laws.FnExactRunGc", spec := "fnExactRunGc", unfollowed := true, recurses := true, apart := false, narrowed := true }
def FnExactRunGcUptoSaid : Prop := fnExactRunGcUptoRow.holds Try.pinned (OpenSpec.upto fnExactRunGcSpec)

/-- 'laws.FnExactColorNew', WHERE WHAT IT READS IS OF BULK AT MOST 1048576: true; the input reads as it did. -/
def fnExactColorNewUptoRow : OpenClaim := { program := "ytdealoclkajliaa", sum := "e77bec2851043ccc24e080bfcc1dc76fb70f3d1f903f8914cc0d7fe67c017750", func := "loop.example/cellcollector/laws.FnExactColorNew", spec := "fnExactColorNew", apart := false, narrowed := true }
def FnExactColorNewUptoSaid : Prop := fnExactColorNewUptoRow.holds Try.pinned (OpenSpec.upto fnExactColorNewSpec)

/-- 'laws.FnExactShadeGc', WHERE WHAT IT READS IS OF BULK AT MOST 1048576: true; the input reads as it did. -/
def fnExactShadeGcUptoRow : OpenClaim := { program := "ytdealoclkajliaa", sum := "e77bec2851043ccc24e080bfcc1dc76fb70f3d1f903f8914cc0d7fe67c017750", func := "loop.example/cellcollector/laws.FnExactShadeGc", spec := "fnExactShadeGc", apart := false, narrowed := true }
def FnExactShadeGcUptoSaid : Prop := fnExactShadeGcUptoRow.holds Try.pinned (OpenSpec.upto fnExactShadeGcSpec)

end Rows
end Go.Proofs.Ytdealoclkajliaa
