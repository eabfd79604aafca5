/-
  No cell of these rows narrows 'for every input' (looked for: loops, veiled, ifaces, maps, wideKeys, modest, calm, conditions, laid).
  DERIVED. THE GIVEN ROWS OF THIS SEAT. 5 by the template 'for every input the law returns true; each argument reads behind the call as it read before'; 0 by the template 'total and deterministic' (their statements: YtfoimicbmkiigaaGreatTotals.lean).
  GIVEN WITH THE SEED: the statements are not yours to turn. If you find one false, say at which input.
  Laid BY PROGRAM, IN A SANDBOX (cutbox-rows.mjs): the forced cells as the released guide's own fill.sh prints them over the translation d53ef36c667f4444… (all of the seat's roots in one cut). By AI agents, Wed Nov 11 2026. No macro, syntax, notation, axiom, sorry.
-/
import Derived.Test.YtfoimicbmkiigaaGreatChecked
import GoSem.Claim
import GoSem.ClaimJoined
import GoSem.ClaimMapViews
import Derived.JoinedTies
import Derived.KernelRfl
namespace Go.Proofs.YtfoimicbmkiigaaGreat
/- THE CELL 'sum', in the pinned program and in every row, IS THE sha256 OF THE DUMP (.gsa) THAT YtfoimicbmkiigaaGreatProg.lean LOADS. Nothing in Lean hashes anything: it is a label: what it is worth is what the hold of that sum in a sandbox is worth. -/
noncomputable def Tryz.pinned : Pinned := { name := "ytfoimicbmkiigaagreat", sum := "d53ef36c667f44449eca3d81ecfa32b3a7e2fb4da88cea4d39da9efd26db1f31", checked := Tryz.checked }
namespace Rows
def none {H : Type} : Left H := { results := [], args := [] }

/-- 'laws.FnStepOp': WHATEVER THE INPUT: true; the input reads as it did. -/
def fnStepOpSpec : ChangeSpec := { name := "fnStepOp", fn := fun _ => fun
  | [d] => { results := [.lit (.bool true)], args := [d] }
  | _ => none }
def fnStepOpRow : OpenClaim := { program := "ytfoimicbmkiigaagreat", sum := "d53ef36c667f44449eca3d81ecfa32b3a7e2fb4da88cea4d39da9efd26db1f31", func := "loop.example/cellcollector/laws.FnStepOp", spec := "fnStepOp", unfollowed := true, recurses := true, apart := false }
def FnStepOpSaid : Prop := fnStepOpRow.holds Tryz.pinned (OpenSpec.ofChange fnStepOpSpec)

/-- ITS FALSE NEIGHBOUR: 'it returns false'. Refute it at one input. -/
def fnStepOpWrong : ChangeSpec := { name := "fnStepOp", fn := fun _ => fun
  | [d] => { results := [.lit (.bool false)], args := [d] }
  | _ => none }
def FnStepOpWrongFalsely : Prop := fnStepOpRow.holds Tryz.pinned (OpenSpec.ofChange fnStepOpWrong)

/-- 'laws.FnStepBoth': WHATEVER THE INPUT: true; the input reads as it did. -/
def fnStepBothSpec : ChangeSpec := { name := "fnStepBoth", fn := fun _ => fun
  | [d] => { results := [.lit (.bool true)], args := [d] }
  | _ => none }
def fnStepBothRow : OpenClaim := { program := "ytfoimicbmkiigaagreat", sum := "d53ef36c667f44449eca3d81ecfa32b3a7e2fb4da88cea4d39da9efd26db1f31", func := "loop.example/cellcollector/laws.FnStepBoth", spec := "fnStepBoth", unfollowed := true, recurses := true, apart := false }
def FnStepBothSaid : Prop := fnStepBothRow.holds Tryz.pinned (OpenSpec.ofChange fnStepBothSpec)

/-- ITS FALSE NEIGHBOUR: 'it returns false'. Refute it at one input. -/
def fnStepBothWrong : ChangeSpec := { name := "fnStepBoth", fn := fun _ => fun
  | [d] => { results := [.lit (.bool false)], args := [d] }
  | _ => none }
def FnStepBothWrongFalsely : Prop := fnStepBothRow.holds Tryz.pinned (OpenSpec.ofChange fnStepBothWrong)

/-- 'laws.FnBarrierColor': WHATEVER THE INPUT: true; the input reads as it did. -/
def fnBarrierColorSpec : ChangeSpec := { name := "fnBarrierColor", fn := fun _ => fun
  | [d] => { results := [.lit (.bool true)], args := [d] }
  | _ => none }
def fnBarrierColorRow : OpenClaim := { program := "ytfoimicbmkiigaagreat", sum := "d53ef36c667f44449eca3d81ecfa32b3a7e2fb4da88cea4d39da9efd26db1f31", func := "loop.example/cellcollector/laws.FnBarrierColor", spec := "fnBarrierColor", unfollowed := true, recurses := true, apart := false }
def FnBarrierColorSaid : Prop := fnBarrierColorRow.holds Tryz.pinned (OpenSpec.ofChange fnBarrierColorSpec)

/-- ITS FALSE NEIGHBOUR: 'it returns false'. Refute it at one input. -/
def fnBarrierColorWrong : ChangeSpec := { name := "fnBarrierColor", fn := fun _ => fun
  | [d] => { results := [.lit (.bool false)], args := [d] }
  | _ => none }
def FnBarrierColorWrongFalsely : Prop := fnBarrierColorRow.holds Tryz.pinned (OpenSpec.ofChange fnBarrierColorWrong)

/-- 'laws.FnStepEnd': WHATEVER THE INPUT: true; the input reads as it did. -/
def fnStepEndSpec : ChangeSpec := { name := "fnStepEnd", fn := fun _ => fun
  | [d] => { results := [.lit (.bool true)], args := [d] }
  | _ => none }
def fnStepEndRow : OpenClaim := { program := "ytfoimicbmkiigaagreat", sum := "d53ef36c667f44449eca3d81ecfa32b3a7e2fb4da88cea4d39da9efd26db1f31", func := "loop.example/cellcollector/laws.FnStepEnd", spec := "fnStepEnd", unfollowed := true, recurses := true, apart := false }
def FnStepEndSaid : Prop := fnStepEndRow.holds Tryz.pinned (OpenSpec.ofChange fnStepEndSpec)

/-- ITS FALSE NEIGHBOUR: 'it returns false'. Refute it at one input. -/
def fnStepEndWrong : ChangeSpec := { name := "fnStepEnd", fn := fun _ => fun
  | [d] => { results := [.lit (.bool false)], args := [d] }
  | _ => none }
def FnStepEndWrongFalsely : Prop := fnStepEndRow.holds Tryz.pinned (OpenSpec.ofChange fnStepEndWrong)

/-- 'laws.FnExactStepBoth': WHATEVER THE INPUT: true; the input reads as it did. -/
def fnExactStepBothSpec : ChangeSpec := { name := "fnExactStepBoth", fn := fun _ => fun
  | [d] => { results := [.lit (.bool true)], args := [d] }
  | _ => none }
def fnExactStepBothRow : OpenClaim := { program := "ytfoimicbmkiigaagreat", sum := "d53ef36c667f44449eca3d81ecfa32b3a7e2fb4da88cea4d39da9efd26db1f31", func := "loop.example/cellcollector/laws.FnExactStepBoth", spec := "fnExactStepBoth", unfollowed := true, recurses := true, apart := false }
def FnExactStepBothSaid : Prop := fnExactStepBothRow.holds Tryz.pinned (OpenSpec.ofChange fnExactStepBothSpec)

/-- ITS FALSE NEIGHBOUR: 'it returns false'. Refute it at one input. -/
def fnExactStepBothWrong : ChangeSpec := { name := "fnExactStepBoth", fn := fun _ => fun
  | [d] => { results := [.lit (.bool false)], args := [d] }
  | _ => none }
def FnExactStepBothWrongFalsely : Prop := fnExactStepBothRow.holds Tryz.pinned (OpenSpec.ofChange fnExactStepBothWrong)

/- THE SECOND FORM. 'bulk': how many values and letters a reading holds, each counted each time it is reached (what is shared counts as often as it is met; a slice's spare places count too). A statement '..UptoSaid' is the law's where the arguments, and the package variables that the reading takes, are together of bulk at most 1048576: NARROWER than '..Said'. Prove '..Said' where nothing that the law and all that it calls make is longer than what came in: it says more and counts as full. Else prove '..UptoSaid'. A law counts once. -/
mutual
def uptoBulk {H : Type} : DataW H → Nat
  | .lit (.string bytes) => bytes.length + 1
  | .lit _ => 1
  | .nil => 1
  | .ptr d => uptoBulk d + 1
  | .slice elems spare => uptoBulkAll elems + uptoBulkAll spare + 1
  | .agg parts => uptoBulkAll parts + 1
  | .iface _ d => uptoBulk d + 1
  | .map entries => uptoBulkEntries entries + 1
  | .held _ => 1
def uptoBulkAll {H : Type} : List (DataW H) → Nat
  | [] => 0
  | d :: r => uptoBulk d + uptoBulkAll r
def uptoBulkEntries {H : Type} : List (Lit × DataW H) → Nat
  | [] => 0
  | x :: r => uptoBulkEntry x + uptoBulkEntries r
def uptoBulkEntry {H : Type} : Lit × DataW H → Nat
  | (.string bytes, d) => bytes.length + uptoBulk d + 1
  | (_, d) => uptoBulk d + 1
 end
def uptoSmall : (H : Type) → List (DataW H) → Bool := fun _ ds => decide (uptoBulkAll ds ≤ 1048576)
def OpenSpec.upto (s : _root_.Go.ChangeSpec) : _root_.Go.OpenSpec := { _root_.Go.OpenSpec.ofChange s with cond := some uptoSmall }

/-- 'laws.FnStepOp', WHERE WHAT IT READS IS OF BULK AT MOST 1048576: true; the input reads as it did. -/
def fnStepOpUptoRow : OpenClaim := { program := "ytfoimicbmkiigaagreat", sum := "d53ef36c667f44449eca3d81ecfa32b3a7e2fb4da88cea4d39da9efd26db1f31", func := "loop.example/cellcollector/laws.FnStepOp", spec := "fnStepOp", unfollowed := true, recurses := true, apart := false, narrowed := true }
def FnStepOpUptoSaid : Prop := fnStepOpUptoRow.holds Tryz.pinned (OpenSpec.upto fnStepOpSpec)

/-- 'laws.FnStepBoth', WHERE WHAT IT READS IS OF BULK AT MOST 1048576: true; the input reads as it did. -/
def fnStepBothUptoRow : OpenClaim := { program := "ytfoimicbmkiigaagreat", sum := "d53ef36c667f44449eca3d81ecfa32b3a7e2fb4da88cea4d39da9efd26db1f31", func := "loop.example/cellcollector/laws.FnStepBoth", spec := "fnStepBoth", unfollowed := true, recurses := true, apart := false, narrowed := true }
def FnStepBothUptoSaid : Prop := fnStepBothUptoRow.holds Tryz.pinned (OpenSpec.upto fnStepBothSpec)

/-- 'laws.FnBarrierColor', WHERE WHAT IT READS IS OF BULK AT MOST 1048576: true; the input reads as it did. -/
def fnBarrierColorUptoRow : OpenClaim := { program := "ytfoimicbmkiigaagreat", sum := "d53ef36c667f44449eca3d81ecfa32b3a7e2fb4da88cea4d39da9efd26db1f31", func := "loop.example/cellcollector/laws.FnBarrierColor", spec := "fnBarrierColor", unfollowed := true, recurses := true, apart := false, narrowed := true }
def FnBarrierColorUptoSaid : Prop := fnBarrierColorUptoRow.holds Tryz.pinned (OpenSpec.upto fnBarrierColorSpec)

/-- 'laws.FnStepEnd', WHERE WHAT IT READS IS OF BULK AT MOST 1048576: true; the input reads as it did. -/
def fnStepEndUptoRow : OpenClaim := { program := "ytfoimicbmkiigaagreat", sum := "d53ef36c667f44449eca3d81ecfa32b3a7e2fb4da88cea4d39da9efd26db1f31", func := "loop.example/cellcollector/laws.FnStepEnd", spec := "fnStepEnd", unfollowed := true, recurses := true, apart := false, narrowed := true }
def FnStepEndUptoSaid : Prop := fnStepEndUptoRow.holds Tryz.pinned (OpenSpec.upto fnStepEndSpec)

/-- 'laws.FnExactStepBoth', WHERE WHAT IT READS IS OF BULK AT MOST 1048576: true; the input reads as it did. -/
def fnExactStepBothUptoRow : OpenClaim := { program := "ytfoimicbmkiigaagreat", sum := "d53ef36c667f44449eca3d81ecfa32b3a7e2fb4da88cea4d39da9efd26db1f31", func := "loop.example/cellcollector/laws.FnExactStepBoth", spec := "fnExactStepBoth", unfollowed := true, recurses := true, apart := false, narrowed := true }
def FnExactStepBothUptoSaid : Prop := fnExactStepBothUptoRow.holds Tryz.pinned (OpenSpec.upto fnExactStepBothSpec)

end Rows
end Go.Proofs.YtfoimicbmkiigaaGreat
