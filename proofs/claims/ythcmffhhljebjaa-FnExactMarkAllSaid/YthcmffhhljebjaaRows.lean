/-
  No cell of these rows narrows 'for every input' (looked for: loops, veiled, ifaces, maps, wideKeys, modest, calm, conditions, laid).
  DERIVED. THE GIVEN ROWS OF THIS SEAT. 9 by the template 'for every input the law returns true; each argument reads behind the call as it read before'; 0 by the template 'total and deterministic' (their statements: YthcmffhhljebjaaTotals.lean).
  GIVEN WITH THE SEED: the statements are not yours to turn. If you find one false, say at which input.
  Laid BY PROGRAM, IN A SANDBOX (cutbox-rows.mjs): the forced cells as the released guide's own fill.sh prints them over the translation ac6e538aed7ecb21… (all of the seat's roots in one cut). By AI agents, Wed Nov 11 2026. No macro, syntax, notation, axiom, sorry.
-/
import Derived.Test.YthcmffhhljebjaaChecked
import GoSem.Claim
import GoSem.ClaimJoined
import GoSem.ClaimMapViews
import Derived.JoinedTies
import Derived.KernelRfl
namespace Go.Proofs.Ythcmffhhljebjaa
/- THE CELL 'sum', in the pinned program and in every row, IS THE sha256 OF THE DUMP (.gsa) THAT YthcmffhhljebjaaProg.lean LOADS. Nothing in Lean hashes anything: it is a label: what it is worth is what the hold of that sum in a sandbox is worth. -/
noncomputable def Try.pinned : Pinned := { name := "ythcmffhhljebjaa", sum := "ac6e538aed7ecb2145feba9f2e59587459d32c38b2ce59bb9ff63209d8708b5d", checked := Try.checked }
namespace Rows
def none {H : Type} : Left H := { results := [], args := [] }

/-- 'laws.FnExactColoredValid': WHATEVER THE INPUT: true; the input reads as it did. -/
def fnExactColoredValidSpec : ChangeSpec := { name := "fnExactColoredValid", fn := fun _ => fun
  | [d] => { results := [.lit (.bool true)], args := [d] }
  | _ => none }
def fnExactColoredValidRow : OpenClaim := { program := "ythcmffhhljebjaa", sum := "ac6e538aed7ecb2145feba9f2e59587459d32c38b2ce59bb9ff63209d8708b5d", func := "loop.example/cellcollector/laws.FnExactColoredValid", spec := "fnExactColoredValid", apart := false }
def FnExactColoredValidSaid : Prop := fnExactColoredValidRow.holds Try.pinned (OpenSpec.ofChange fnExactColoredValidSpec)

/-- ITS FALSE NEIGHBOUR: 'it returns false'. Refute it at one input. -/
def fnExactColoredValidWrong : ChangeSpec := { name := "fnExactColoredValid", fn := fun _ => fun
  | [d] => { results := [.lit (.bool false)], args := [d] }
  | _ => none }
def FnExactColoredValidWrongFalsely : Prop := fnExactColoredValidRow.holds Try.pinned (OpenSpec.ofChange fnExactColoredValidWrong)

/-- 'laws.FnExactColoredSame': WHATEVER THE INPUT: true; the input reads as it did. -/
def fnExactColoredSameSpec : ChangeSpec := { name := "fnExactColoredSame", fn := fun _ => fun
  | [d1, d2] => { results := [.lit (.bool true)], args := [d1, d2] }
  | _ => none }
def fnExactColoredSameRow : OpenClaim := { program := "ythcmffhhljebjaa", sum := "ac6e538aed7ecb2145feba9f2e59587459d32c38b2ce59bb9ff63209d8708b5d", func := "loop.example/cellcollector/laws.FnExactColoredSame", spec := "fnExactColoredSame", apart := false }
def FnExactColoredSameSaid : Prop := fnExactColoredSameRow.holds Try.pinned (OpenSpec.ofChange fnExactColoredSameSpec)

/-- ITS FALSE NEIGHBOUR: 'it returns false'. Refute it at one input. -/
def fnExactColoredSameWrong : ChangeSpec := { name := "fnExactColoredSame", fn := fun _ => fun
  | [d1, d2] => { results := [.lit (.bool false)], args := [d1, d2] }
  | _ => none }
def FnExactColoredSameWrongFalsely : Prop := fnExactColoredSameRow.holds Try.pinned (OpenSpec.ofChange fnExactColoredSameWrong)

/-- 'laws.FnExactNewColored': WHATEVER THE INPUT: true; the input reads as it did. -/
def fnExactNewColoredSpec : ChangeSpec := { name := "fnExactNewColored", fn := fun _ => fun
  | [d] => { results := [.lit (.bool true)], args := [d] }
  | _ => none }
def fnExactNewColoredRow : OpenClaim := { program := "ythcmffhhljebjaa", sum := "ac6e538aed7ecb2145feba9f2e59587459d32c38b2ce59bb9ff63209d8708b5d", func := "loop.example/cellcollector/laws.FnExactNewColored", spec := "fnExactNewColored", apart := false }
def FnExactNewColoredSaid : Prop := fnExactNewColoredRow.holds Try.pinned (OpenSpec.ofChange fnExactNewColoredSpec)

/-- ITS FALSE NEIGHBOUR: 'it returns false'. Refute it at one input. -/
def fnExactNewColoredWrong : ChangeSpec := { name := "fnExactNewColored", fn := fun _ => fun
  | [d] => { results := [.lit (.bool false)], args := [d] }
  | _ => none }
def FnExactNewColoredWrongFalsely : Prop := fnExactNewColoredRow.holds Try.pinned (OpenSpec.ofChange fnExactNewColoredWrong)

/-- 'laws.FnExactShadeCell': WHATEVER THE INPUT: true; the input reads as it did. -/
def fnExactShadeCellSpec : ChangeSpec := { name := "fnExactShadeCell", fn := fun _ => fun
  | [d1, d2] => { results := [.lit (.bool true)], args := [d1, d2] }
  | _ => none }
def fnExactShadeCellRow : OpenClaim := { program := "ythcmffhhljebjaa", sum := "ac6e538aed7ecb2145feba9f2e59587459d32c38b2ce59bb9ff63209d8708b5d", func := "loop.example/cellcollector/laws.FnExactShadeCell", spec := "fnExactShadeCell", apart := false }
def FnExactShadeCellSaid : Prop := fnExactShadeCellRow.holds Try.pinned (OpenSpec.ofChange fnExactShadeCellSpec)

/-- ITS FALSE NEIGHBOUR: 'it returns false'. Refute it at one input. -/
def fnExactShadeCellWrong : ChangeSpec := { name := "fnExactShadeCell", fn := fun _ => fun
  | [d1, d2] => { results := [.lit (.bool false)], args := [d1, d2] }
  | _ => none }
def FnExactShadeCellWrongFalsely : Prop := fnExactShadeCellRow.holds Try.pinned (OpenSpec.ofChange fnExactShadeCellWrong)

/-- 'laws.FnExactShadeRoots': WHATEVER THE INPUT: true; the input reads as it did. -/
def fnExactShadeRootsSpec : ChangeSpec := { name := "fnExactShadeRoots", fn := fun _ => fun
  | [d] => { results := [.lit (.bool true)], args := [d] }
  | _ => none }
def fnExactShadeRootsRow : OpenClaim := { program := "ythcmffhhljebjaa", sum := "ac6e538aed7ecb2145feba9f2e59587459d32c38b2ce59bb9ff63209d8708b5d", func := "loop.example/cellcollector/laws.FnExactShadeRoots", spec := "fnExactShadeRoots", apart := false }
def FnExactShadeRootsSaid : Prop := fnExactShadeRootsRow.holds Try.pinned (OpenSpec.ofChange fnExactShadeRootsSpec)

/-- ITS FALSE NEIGHBOUR: 'it returns false'. Refute it at one input. -/
def fnExactShadeRootsWrong : ChangeSpec := { name := "fnExactShadeRoots", fn := fun _ => fun
  | [d] => { results := [.lit (.bool false)], args := [d] }
  | _ => none }
def FnExactShadeRootsWrongFalsely : Prop := fnExactShadeRootsRow.holds Try.pinned (OpenSpec.ofChange fnExactShadeRootsWrong)

/-- 'laws.FnExactMarkStep': WHATEVER THE INPUT: true; the input reads as it did. -/
def fnExactMarkStepSpec : ChangeSpec := { name := "fnExactMarkStep", fn := fun _ => fun
  | [d] => { results := [.lit (.bool true)], args := [d] }
  | _ => none }
def fnExactMarkStepRow : OpenClaim := { program := "ythcmffhhljebjaa", sum := "ac6e538aed7ecb2145feba9f2e59587459d32c38b2ce59bb9ff63209d8708b5d", func := "loop.example/cellcollector/laws.FnExactMarkStep", spec := "fnExactMarkStep", apart := false }
def FnExactMarkStepSaid : Prop := fnExactMarkStepRow.holds Try.pinned (OpenSpec.ofChange fnExactMarkStepSpec)

/-- ITS FALSE NEIGHBOUR: 'it returns false'. Refute it at one input. -/
def fnExactMarkStepWrong : ChangeSpec := { name := "fnExactMarkStep", fn := fun _ => fun
  | [d] => { results := [.lit (.bool false)], args := [d] }
  | _ => none }
def FnExactMarkStepWrongFalsely : Prop := fnExactMarkStepRow.holds Try.pinned (OpenSpec.ofChange fnExactMarkStepWrong)

/-- 'laws.FnExactMarkAll': WHATEVER THE INPUT: true; the input reads as it did. -/
def fnExactMarkAllSpec : ChangeSpec := { name := "fnExactMarkAll", fn := fun _ => fun
  | [d] => { results := [.lit (.bool true)], args := [d] }
  | _ => none }
def fnExactMarkAllRow : OpenClaim := { program := "ythcmffhhljebjaa", sum := "ac6e538aed7ecb2145feba9f2e59587459d32c38b2ce59bb9ff63209d8708b5d", func := "loop.example/cellcollector/laws.FnExactMarkAll", spec := "fnExactMarkAll", apart := false }
def FnExactMarkAllSaid : Prop := fnExactMarkAllRow.holds Try.pinned (OpenSpec.ofChange fnExactMarkAllSpec)

/-- ITS FALSE NEIGHBOUR: 'it returns false'. Refute it at one input. -/
def fnExactMarkAllWrong : ChangeSpec := { name := "fnExactMarkAll", fn := fun _ => fun
  | [d] => { results := [.lit (.bool false)], args := [d] }
  | _ => none }
def FnExactMarkAllWrongFalsely : Prop := fnExactMarkAllRow.holds Try.pinned (OpenSpec.ofChange fnExactMarkAllWrong)

/-- 'laws.FnExactColorHolds': WHATEVER THE INPUT: true; the input reads as it did. -/
def fnExactColorHoldsSpec : ChangeSpec := { name := "fnExactColorHolds", fn := fun _ => fun
  | [d] => { results := [.lit (.bool true)], args := [d] }
  | _ => none }
def fnExactColorHoldsRow : OpenClaim := { program := "ythcmffhhljebjaa", sum := "ac6e538aed7ecb2145feba9f2e59587459d32c38b2ce59bb9ff63209d8708b5d", func := "loop.example/cellcollector/laws.FnExactColorHolds", spec := "fnExactColorHolds", apart := false }
def FnExactColorHoldsSaid : Prop := fnExactColorHoldsRow.holds Try.pinned (OpenSpec.ofChange fnExactColorHoldsSpec)

/-- ITS FALSE NEIGHBOUR: 'it returns false'. Refute it at one input. -/
def fnExactColorHoldsWrong : ChangeSpec := { name := "fnExactColorHolds", fn := fun _ => fun
  | [d] => { results := [.lit (.bool false)], args := [d] }
  | _ => none }
def FnExactColorHoldsWrongFalsely : Prop := fnExactColorHoldsRow.holds Try.pinned (OpenSpec.ofChange fnExactColorHoldsWrong)

/-- 'laws.FnExactCountColor': WHATEVER THE INPUT: true; the input reads as it did. -/
def fnExactCountColorSpec : ChangeSpec := { name := "fnExactCountColor", fn := fun _ => fun
  | [d1, d2] => { results := [.lit (.bool true)], args := [d1, d2] }
  | _ => none }
def fnExactCountColorRow : OpenClaim := { program := "ythcmffhhljebjaa", sum := "ac6e538aed7ecb2145feba9f2e59587459d32c38b2ce59bb9ff63209d8708b5d", func := "loop.example/cellcollector/laws.FnExactCountColor", spec := "fnExactCountColor", apart := false }
def FnExactCountColorSaid : Prop := fnExactCountColorRow.holds Try.pinned (OpenSpec.ofChange fnExactCountColorSpec)

/-- ITS FALSE NEIGHBOUR: 'it returns false'. Refute it at one input. -/
def fnExactCountColorWrong : ChangeSpec := { name := "fnExactCountColor", fn := fun _ => fun
  | [d1, d2] => { results := [.lit (.bool false)], args := [d1, d2] }
  | _ => none }
def FnExactCountColorWrongFalsely : Prop := fnExactCountColorRow.holds Try.pinned (OpenSpec.ofChange fnExactCountColorWrong)

/- THE SECOND FORM. 'bulk': how many values and letters a reading holds, each counted each time it is reached (what is shared counts as often as it is met; a slice's spare places count too). A statement '..UptoSaid' is the law's where the arguments, and the package variables that the reading takes, are together of bulk at most 1048576: NARROWER than '..Said'. Prove '..Said' where nothing that the law and all that it calls make is longer than what came in: it says more and counts as full. Else prove '..UptoSaid'. A law counts once. -/
mutual
def uptoBulk {H : Type} : DataW H → Nat
  | .lit (.string bytes) => bytes.length + 1
  | .lit _ => 1
  | .nil => 1
  | .ptr d => uptoBulk d + 1
  | .slice elems spare => uptoBulkAll elems + uptoBulkAll spare + 1
  | .agg parts => uptoBulkAll parts + 1
  | .iface _ d => uptoBulk d + 1
  | .map entries => uptoBulkEntries entries + 1
  | .held _ => 1
def uptoBulkAll {H : Type} : List (DataW H) → Nat
  | [] => 0
  | d :: r => uptoBulk d + uptoBulkAll r
def uptoBulkEntries {H : Type} : List (Lit × DataW H) → Nat
  | [] => 0
  | x :: r => uptoBulkEntry x + uptoBulkEntries r
def uptoBulkEntry {H : Type} : Lit × DataW H → Nat
  | (.string bytes, d) => bytes.length + uptoBulk d + 1
  | (_, d) => uptoBulk d + 1
 end
def uptoSmall : (H : Type) → List (DataW H) → Bool := fun _ ds => decide (uptoBulkAll ds ≤ 1048576)
def OpenSpec.upto (s : _root_.Go.ChangeSpec) : _root_.Go.OpenSpec := { _root_.Go.OpenSpec.ofChange s with cond := some uptoSmall }

/-- 'laws.FnExactColoredValid', WHERE WHAT IT READS IS OF BULK AT MOST 1048576: true; the input reads as it did. -/
def fnExactColoredValidUptoRow : OpenClaim := { program := "ythcmffhhljebjaa", sum := "ac6e538aed7ecb2145feba9f2e59587459d32c38b2ce59bb9ff63209d8708b5d", func := "loop.example/cellcollector/laws.FnExactColoredValid", spec := "fnExactColoredValid", apart := false, narrowed := true }
def FnExactColoredValidUptoSaid : Prop := fnExactColoredValidUptoRow.holds Try.pinned (OpenSpec.upto fnExactColoredValidSpec)

/-- 'laws.FnExactColoredSame', WHERE WHAT IT READS IS OF BULK AT MOST 1048576: true; the input reads as it did. -/
def fnExactColoredSameUptoRow : OpenClaim := { program := "ythcmffhhljebjaa", sum := "ac6e538aed7ecb2145feba9f2e59587459d32c38b2ce59bb9ff63209d8708b5d", func := "loop.example/cellcollector/laws.FnExactColoredSame", spec := "fnExactColoredSame", apart := false, narrowed := true }
def FnExactColoredSameUptoSaid : Prop := fnExactColoredSameUptoRow.holds Try.pinned (OpenSpec.upto fnExactColoredSameSpec)

/-- 'laws.FnExactNewColored', WHERE WHAT IT READS IS OF BULK AT MOST 1048576: true; the input reads as it did. -/
def fnExactNewColoredUptoRow : OpenClaim := { program := "ythcmffhhljebjaa", sum := "ac6e538aed7ecb2145feba9f2e59587459d32c38b2ce59bb9ff63209d8708b5d", func := "loop.example/cellcollector/laws.FnExactNewColored", spec := "fnExactNewColored", apart := false, narrowed := true }
def FnExactNewColoredUptoSaid : Prop := fnExactNewColoredUptoRow.holds Try.pinned (OpenSpec.upto fnExactNewColoredSpec)

/-- 'laws.FnExactShadeCell', WHERE WHAT IT READS IS OF BULK AT MOST 1048576: true; the input reads as it did. -/
def fnExactShadeCellUptoRow : OpenClaim := { program := "ythcmffhhljebjaa", sum := "ac6e538aed7ecb2145feba9f2e59587459d32c38b2ce59bb9ff63209d8708b5d", func := "loop.example/cellcollector/laws.FnExactShadeCell", spec := "fnExactShadeCell", apart := false, narrowed := true }
def FnExactShadeCellUptoSaid : Prop := fnExactShadeCellUptoRow.holds Try.pinned (OpenSpec.upto fnExactShadeCellSpec)

/-- 'laws.FnExactShadeRoots', WHERE WHAT IT READS IS OF BULK AT MOST 1048576: true; the input reads as it did. -/
def fnExactShadeRootsUptoRow : OpenClaim := { program := "ythcmffhhljebjaa", sum := "ac6e538aed7ecb2145feba9f2e59587459d32c38b2ce59bb9ff63209d8708b5d", func := "loop.example/cellcollector/laws.FnExactShadeRoots", spec := "fnExactShadeRoots", apart := false, narrowed := true }
def FnExactShadeRootsUptoSaid : Prop := fnExactShadeRootsUptoRow.holds Try.pinned (OpenSpec.upto fnExactShadeRootsSpec)

/-- 'laws.FnExactMarkStep', WHERE WHAT IT READS IS OF BULK AT MOST 1048576: true; the input reads as it did. -/
def fnExactMarkStepUptoRow : OpenClaim := { program := "ythcmffhhljebjaa", sum := "ac6e538aed7ecb2145feba9f2e59587459d32c38b2ce59bb9ff63209d8708b5d", func := "loop.example/cellcollector/laws.FnExactMarkStep", spec := "fnExactMarkStep", apart := false, narrowed := true }
def FnExactMarkStepUptoSaid : Prop := fnExactMarkStepUptoRow.holds Try.pinned (OpenSpec.upto fnExactMarkStepSpec)

/-- 'laws.FnExactMarkAll', WHERE WHAT IT READS IS OF BULK AT MOST 1048576: true; the input reads as it did. -/
def fnExactMarkAllUptoRow : OpenClaim := { program := "ythcmffhhljebjaa", sum := "ac6e538aed7ecb2145feba9f2e59587459d32c38b2ce59bb9ff63209d8708b5d", func := "loop.example/cellcollector/laws.FnExactMarkAll", spec := "fnExactMarkAll", apart := false, narrowed := true }
def FnExactMarkAllUptoSaid : Prop := fnExactMarkAllUptoRow.holds Try.pinned (OpenSpec.upto fnExactMarkAllSpec)

/-- 'laws.FnExactColorHolds', WHERE WHAT IT READS IS OF BULK AT MOST 1048576: true; the input reads as it did. -/
def fnExactColorHoldsUptoRow : OpenClaim := { program := "ythcmffhhljebjaa", sum := "ac6e538aed7ecb2145feba9f2e59587459d32c38b2ce59bb9ff63209d8708b5d", func := "loop.example/cellcollector/laws.FnExactColorHolds", spec := "fnExactColorHolds", apart := false, narrowed := true }
def FnExactColorHoldsUptoSaid : Prop := fnExactColorHoldsUptoRow.holds Try.pinned (OpenSpec.upto fnExactColorHoldsSpec)

/-- 'laws.FnExactCountColor', WHERE WHAT IT READS IS OF BULK AT MOST 1048576: true; the input reads as it did. -/
def fnExactCountColorUptoRow : OpenClaim := { program := "ythcmffhhljebjaa", sum := "ac6e538aed7ecb2145feba9f2e59587459d32c38b2ce59bb9ff63209d8708b5d", func := "loop.example/cellcollector/laws.FnExactCountColor", spec := "fnExactCountColor", apart := false, narrowed := true }
def FnExactCountColorUptoSaid : Prop := fnExactCountColorUptoRow.holds Try.pinned (OpenSpec.upto fnExactCountColorSpec)

end Rows
end Go.Proofs.Ythcmffhhljebjaa
