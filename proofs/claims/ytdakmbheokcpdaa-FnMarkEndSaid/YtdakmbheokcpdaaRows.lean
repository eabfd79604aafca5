/-
  No cell of these rows narrows 'for every input' (looked for: loops, veiled, ifaces, maps, wideKeys, modest, calm, conditions, laid).
  DERIVED. THE GIVEN ROWS OF THIS SEAT. 6 by the template 'for every input the law returns true; each argument reads behind the call as it read before'; 0 by the template 'total and deterministic' (their statements: YtdakmbheokcpdaaTotals.lean).
  GIVEN WITH THE SEED: the statements are not yours to turn. If you find one false, say at which input.
  Laid BY PROGRAM, IN A SANDBOX (cutbox-rows.mjs): the forced cells as the released guide's own fill.sh prints them over the translation 18593a4b8e8eab64… (all of the seat's roots in one cut). By AI agents, Wed Nov 11 2026. No macro, syntax, notation, axiom, sorry.
-/
import Derived.Test.YtdakmbheokcpdaaChecked
import GoSem.Claim
import GoSem.ClaimJoined
import GoSem.ClaimMapViews
import Derived.JoinedTies
import Derived.KernelRfl
namespace Go.Proofs.Ytdakmbheokcpdaa
/- THE CELL 'sum', in the pinned program and in every row, IS THE sha256 OF THE DUMP (.gsa) THAT YtdakmbheokcpdaaProg.lean LOADS. Nothing in Lean hashes anything: it is a label: what it is worth is what the hold of that sum in a sandbox is worth. -/
noncomputable def Try.pinned : Pinned := { name := "ytdakmbheokcpdaa", sum := "18593a4b8e8eab64756dc284ecdd499f3f29706127eeebcdd6290a2096163d85", checked := Try.checked }
namespace Rows
def none {H : Type} : Left H := { results := [], args := [] }

/-- 'laws.FnMarkEnd': WHATEVER THE INPUT: true; the input reads as it did. -/
def fnMarkEndSpec : ChangeSpec := { name := "fnMarkEnd", fn := fun _ => fun
  | [d] => { results := [.lit (.bool true)], args := [d] }
  | _ => none }
def fnMarkEndRow : OpenClaim := { program := "ytdakmbheokcpdaa", sum := "18593a4b8e8eab64756dc284ecdd499f3f29706127eeebcdd6290a2096163d85", func := "loop.example/cellcollector/laws.FnMarkEnd", spec := "fnMarkEnd", unfollowed := true, recurses := true, apart := false }
def FnMarkEndSaid : Prop := fnMarkEndRow.holds Try.pinned (OpenSpec.ofChange fnMarkEndSpec)

/-- ITS FALSE NEIGHBOUR: 'it returns false'. Refute it at one input. -/
def fnMarkEndWrong : ChangeSpec := { name := "fnMarkEnd", fn := fun _ => fun
  | [d] => { results := [.lit (.bool false)], args := [d] }
  | _ => none }
def FnMarkEndWrongFalsely : Prop := fnMarkEndRow.holds Try.pinned (OpenSpec.ofChange fnMarkEndWrong)

/-- 'laws.FnShadeHolds': WHATEVER THE INPUT: true; the input reads as it did. -/
def fnShadeHoldsSpec : ChangeSpec := { name := "fnShadeHolds", fn := fun _ => fun
  | [d] => { results := [.lit (.bool true)], args := [d] }
  | _ => none }
def fnShadeHoldsRow : OpenClaim := { program := "ytdakmbheokcpdaa", sum := "18593a4b8e8eab64756dc284ecdd499f3f29706127eeebcdd6290a2096163d85", func := "loop.example/cellcollector/laws.FnShadeHolds", spec := "fnShadeHolds", apart := false }
def FnShadeHoldsSaid : Prop := fnShadeHoldsRow.holds Try.pinned (OpenSpec.ofChange fnShadeHoldsSpec)

/-- ITS FALSE NEIGHBOUR: 'it returns false'. Refute it at one input. -/
def fnShadeHoldsWrong : ChangeSpec := { name := "fnShadeHolds", fn := fun _ => fun
  | [d] => { results := [.lit (.bool false)], args := [d] }
  | _ => none }
def FnShadeHoldsWrongFalsely : Prop := fnShadeHoldsRow.holds Try.pinned (OpenSpec.ofChange fnShadeHoldsWrong)

/-- 'laws.FnColorTwice': WHATEVER THE INPUT: true; the input reads as it did. -/
def fnColorTwiceSpec : ChangeSpec := { name := "fnColorTwice", fn := fun _ => fun
  | [d] => { results := [.lit (.bool true)], args := [d] }
  | _ => none }
def fnColorTwiceRow : OpenClaim := { program := "ytdakmbheokcpdaa", sum := "18593a4b8e8eab64756dc284ecdd499f3f29706127eeebcdd6290a2096163d85", func := "loop.example/cellcollector/laws.FnColorTwice", spec := "fnColorTwice", apart := false }
def FnColorTwiceSaid : Prop := fnColorTwiceRow.holds Try.pinned (OpenSpec.ofChange fnColorTwiceSpec)

/-- ITS FALSE NEIGHBOUR: 'it returns false'. Refute it at one input. -/
def fnColorTwiceWrong : ChangeSpec := { name := "fnColorTwice", fn := fun _ => fun
  | [d] => { results := [.lit (.bool false)], args := [d] }
  | _ => none }
def FnColorTwiceWrongFalsely : Prop := fnColorTwiceRow.holds Try.pinned (OpenSpec.ofChange fnColorTwiceWrong)

/-- 'laws.FnNewGc': WHATEVER THE INPUT: true; the input reads as it did. -/
def fnNewGcSpec : ChangeSpec := { name := "fnNewGc", fn := fun _ => fun
  | [d] => { results := [.lit (.bool true)], args := [d] }
  | _ => none }
def fnNewGcRow : OpenClaim := { program := "ytdakmbheokcpdaa", sum := "18593a4b8e8eab64756dc284ecdd499f3f29706127eeebcdd6290a2096163d85", func := "loop.example/cellcollector/laws.FnNewGc", spec := "fnNewGc", unfollowed := true, recurses := true, apart := false }
def FnNewGcSaid : Prop := fnNewGcRow.holds Try.pinned (OpenSpec.ofChange fnNewGcSpec)

/-- ITS FALSE NEIGHBOUR: 'it returns false'. Refute it at one input. -/
def fnNewGcWrong : ChangeSpec := { name := "fnNewGc", fn := fun _ => fun
  | [d] => { results := [.lit (.bool false)], args := [d] }
  | _ => none }
def FnNewGcWrongFalsely : Prop := fnNewGcRow.holds Try.pinned (OpenSpec.ofChange fnNewGcWrong)

/-- 'laws.FnExactStepGc': WHATEVER THE INPUT: true; the input reads as it did. -/
def fnExactStepGcSpec : ChangeSpec := { name := "fnExactStepGc", fn := fun _ => fun
  | [d1, d2] => { results := [.lit (.bool true)], args := [d1, d2] }
  | _ => none }
def fnExactStepGcRow : OpenClaim := { program := "ytdakmbheokcpdaa", sum := "18593a4b8e8eab64756dc284ecdd499f3f29706127eeebcdd6290a2096163d85", func := "loop.example/cellcollector/laws.FnExactStepGc", spec := "fnExactStepGc", unfollowed := true, recurses := true, apart := false }
def FnExactStepGcSaid : Prop := fnExactStepGcRow.holds Try.pinned (OpenSpec.ofChange fnExactStepGcSpec)

/-- ITS FALSE NEIGHBOUR: 'it returns false'. Refute it at one input. -/
def fnExactStepGcWrong : ChangeSpec := { name := "fnExactStepGc", fn := fun _ => fun
  | [d1, d2] => { results := [.lit (.bool false)], args := [d1, d2] }
  | _ => none }
def FnExactStepGcWrongFalsely : Prop := fnExactStepGcRow.holds Try.pinned (OpenSpec.ofChange fnExactStepGcWrong)

/-- 'laws.FnExactRunGc': WHATEVER THE INPUT: true; the input reads as it did. -/
def fnExactRunGcSpec : ChangeSpec := { name := "fnExactRunGc", fn := fun _ => fun
  | [d1, d2] => { results := [.lit (.bool true)], args := [d1, d2] }
  | _ => none }
def fnExactRunGcRow : OpenClaim := { program := "ytdakmbheokcpdaa", sum := "18593a4b8e8eab64756dc284ecdd499f3f29706127eeebcdd6290a2096163d85", func := "loop.example/cellcollector/laws.FnExactRunGc", spec := "fnExactRunGc", unfollowed := true, recurses := true, apart := false }
def FnExactRunGcSaid : Prop := fnExactRunGcRow.holds Try.pinned (OpenSpec.ofChange fnExactRunGcSpec)

/-- ITS FALSE NEIGHBOUR: 'it returns false'. Refute it at one input. -/
def fnExactRunGcWrong : ChangeSpec := { name := "fnExactRunGc", fn := fun _ => fun
  | [d1, d2] => { results := [.lit (.bool false)], args := [d1, d2] }
  | _ => none }
def FnExactRunGcWrongFalsely : Prop := fnExactRunGcRow.holds Try.pinned (OpenSpec.ofChange fnExactRunGcWrong)

/- THE SECOND FORM. 'bulk': how many values and letters a reading holds, each counted each time it is reached (what is shared counts as often as it is met; a slice's spare places count too). A statement '..UptoSaid' is the law's where the arguments, and the package variables that the reading takes, are together of bulk at most 1048576: NARROWER than '..Said'. Prove '..Said' where nothing that the law and all that it calls make is longer than what came in: it says more and counts as full. Else prove '..UptoSaid'. A law counts once. -/
mutual
def uptoBulk {H : Type} : DataW H → Nat
  | .lit (.string bytes) => bytes.length + 1
  | .lit _ => 1
  | .nil => 1
  | .ptr d => uptoBulk d + 1
  | .slice elems spare => uptoBulkAll elems + uptoBulkAll spare + 1
  | .agg parts => uptoBulkAll parts + 1
  | .iface _ d => uptoBulk d + 1
  | .map entries => uptoBulkEntries entries + 1
  | .held _ => 1
def uptoBulkAll {H : Type} : List (DataW H) → Nat
  | [] => 0
  | d :: r => uptoBulk d + uptoBulkAll r
def uptoBulkEntries {H : Type} : List (Lit × DataW H) → Nat
  | [] => 0
  | x :: r => uptoBulkEntry x + uptoBulkEntries r
def uptoBulkEntry {H : Type} : Lit × DataW H → Nat
  | (.string bytes, d) => bytes.length + uptoBulk d + 1
  | (_, d) => uptoBulk d + 1
 end
def uptoSmall : (H : Type) → List (DataW H) → Bool := fun _ ds => decide (uptoBulkAll ds ≤ 1048576)
def OpenSpec.upto (s : _root_.Go.ChangeSpec) : _root_.Go.OpenSpec := { _root_.Go.OpenSpec.ofChange s with cond := some uptoSmall }

/-- 'laws.FnMarkEnd', WHERE WHAT IT READS IS OF BULK AT MOST 1048576: true; the input reads as it did. -/
def fnMarkEndUptoRow : OpenClaim := { program := "ytdakmbheokcpdaa", sum := "18593a4b8e8eab64756dc284ecdd499f3f29706127eeebcdd6290a2096163d85", func := "loop.example/cellcollector/laws.FnMarkEnd", spec := "fnMarkEnd", unfollowed := true, recurses := true, apart := false, narrowed := true }
def FnMarkEndUptoSaid : Prop := fnMarkEndUptoRow.holds Try.pinned (OpenSpec.upto fnMarkEndSpec)

/-- 'laws.FnShadeHolds', WHERE WHAT IT READS IS OF BULK AT MOST 1048576: true; the input reads as it did. -/
def fnShadeHoldsUptoRow : OpenClaim := { program := "ytdakmbheokcpdaa", sum := "18593a4b8e8eab64756dc284ecdd499f3f29706127eeebcdd6290a2096163d85", func := "loop.example/cellcollector/laws.FnShadeHolds", spec := "fnShadeHolds", apart := false, narrowed := true }
def FnShadeHoldsUptoSaid : Prop := fnShadeHoldsUptoRow.holds Try.pinned (OpenSpec.upto fnShadeHoldsSpec)

/-- 'laws.FnColorTwice', WHERE WHAT IT READS IS OF BULK AT MOST 1048576: true; the input reads as it did. -/
def fnColorTwiceUptoRow : OpenClaim := { program := "ytdakmbheokcpdaa", sum := "18593a4b8e8eab64756dc284ecdd499f3f29706127eeebcdd6290a2096163d85", func := "loop.example/cellcollector/laws.FnColorTwice", spec := "fnColorTwice", apart := false, narrowed := true }
def FnColorTwiceUptoSaid : Prop := fnColorTwiceUptoRow.holds Try.pinned (OpenSpec.upto fnColorTwiceSpec)

/-- 'laws.FnNewGc', WHERE WHAT IT READS IS OF BULK AT MOST 1048576: true; the input reads as it did. -/
def fnNewGcUptoRow : OpenClaim := { program := "ytdakmbheokcpdaa", sum := "18593a4b8e8eab64756dc284ecdd499f3f29706127eeebcdd6290a2096163d85", func := "loop.example/cellcollector/laws.FnNewGc", spec := "fnNewGc", unfollowed := true, recurses := true, apart := false, narrowed := true }
def FnNewGcUptoSaid : Prop := fnNewGcUptoRow.holds Try.pinned (OpenSpec.upto fnNewGcSpec)

/-- 'laws.FnExactStepGc', WHERE WHAT IT READS IS OF BULK AT MOST 1048576: true; the input reads as it did. -/
def fnExactStepGcUptoRow : OpenClaim := { program := "ytdakmbheokcpdaa", sum := "18593a4b8e8eab64756dc284ecdd499f3f29706127eeebcdd6290a2096163d85", func := "loop.example/cellcollector/laws.FnExactStepGc", spec := "fnExactStepGc", unfollowed := true, recurses := true, apart := false, narrowed := true }
def FnExactStepGcUptoSaid : Prop := fnExactStepGcUptoRow.holds Try.pinned (OpenSpec.upto fnExactStepGcSpec)

/-- 'laws.FnExactRunGc', WHERE WHAT IT READS IS OF BULK AT MOST 1048576: true; the input reads as it did. -/
def fnExactRunGcUptoRow : OpenClaim := { program := "ytdakmbheokcpdaa", sum := "18593a4b8e8eab64756dc284ecdd499f3f29706127eeebcdd6290a2096163d85", func := "loop.example/cellcollector/laws.FnExactRunGc", spec := "fnExactRunGc", unfollowed := true, recurses := true, apart := false, narrowed := true }
def FnExactRunGcUptoSaid : Prop := fnExactRunGcUptoRow.holds Try.pinned (OpenSpec.upto fnExactRunGcSpec)

end Rows
end Go.Proofs.Ytdakmbheokcpdaa
