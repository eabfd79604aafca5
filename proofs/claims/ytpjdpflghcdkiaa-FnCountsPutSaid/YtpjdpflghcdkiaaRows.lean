/-
  No cell of these rows narrows 'for every input' (looked for: loops, veiled, ifaces, maps, wideKeys, modest, calm, conditions, laid).
  DERIVED. THE GIVEN ROWS OF THIS SEAT. 10 by the template 'for every input the law returns true; each argument reads behind the call as it read before'; 0 by the template 'total and deterministic' (their statements: YtpjdpflghcdkiaaTotals.lean).
  GIVEN WITH THE SEED: the statements are not yours to turn. If you find one false, say at which input.
  Laid BY PROGRAM, IN A SANDBOX (cutbox-rows.mjs): the forced cells as the released guide's own fill.sh prints them over the translation 6065494c2046c6ec… (all of the seat's roots in one cut). By AI agents, Wed Nov 11 2026. No macro, syntax, notation, axiom, sorry.
-/
import Derived.Test.YtpjdpflghcdkiaaChecked
import GoSem.Claim
import GoSem.ClaimJoined
import GoSem.ClaimMapViews
import Derived.JoinedTies
import Derived.KernelRfl
namespace Go.Proofs.Ytpjdpflghcdkiaa
/- THE CELL 'sum', in the pinned program and in every row, IS THE sha256 OF THE DUMP (.gsa) THAT YtpjdpflghcdkiaaProg.lean LOADS. Nothing in Lean hashes anything: it is a label: what it is worth is what the hold of that sum in a sandbox is worth. -/
noncomputable def Try.pinned : Pinned := { name := "ytpjdpflghcdkiaa", sum := "6065494c2046c6ec1107385c8b854079d3bbb375959b8d866a1d25e3abe4cbd7", checked := Try.checked }
namespace Rows
def none {H : Type} : Left H := { results := [], args := [] }

/-- 'laws.FnExactCountsOf': WHATEVER THE INPUT: true; the input reads as it did. -/
def fnExactCountsOfSpec : ChangeSpec := { name := "fnExactCountsOf", fn := fun _ => fun
  | [d] => { results := [.lit (.bool true)], args := [d] }
  | _ => none }
def fnExactCountsOfRow : OpenClaim := { program := "ytpjdpflghcdkiaa", sum := "6065494c2046c6ec1107385c8b854079d3bbb375959b8d866a1d25e3abe4cbd7", func := "loop.example/cellcollector/laws.FnExactCountsOf", spec := "fnExactCountsOf", apart := false }
def FnExactCountsOfSaid : Prop := fnExactCountsOfRow.holds Try.pinned (OpenSpec.ofChange fnExactCountsOfSpec)

/-- ITS FALSE NEIGHBOUR: 'it returns false'. Refute it at one input. -/
def fnExactCountsOfWrong : ChangeSpec := { name := "fnExactCountsOf", fn := fun _ => fun
  | [d] => { results := [.lit (.bool false)], args := [d] }
  | _ => none }
def FnExactCountsOfWrongFalsely : Prop := fnExactCountsOfRow.holds Try.pinned (OpenSpec.ofChange fnExactCountsOfWrong)

/-- 'laws.FnExactNewCounted': WHATEVER THE INPUT: true; the input reads as it did. -/
def fnExactNewCountedSpec : ChangeSpec := { name := "fnExactNewCounted", fn := fun _ => fun
  | [d] => { results := [.lit (.bool true)], args := [d] }
  | _ => none }
def fnExactNewCountedRow : OpenClaim := { program := "ytpjdpflghcdkiaa", sum := "6065494c2046c6ec1107385c8b854079d3bbb375959b8d866a1d25e3abe4cbd7", func := "loop.example/cellcollector/laws.FnExactNewCounted", spec := "fnExactNewCounted", apart := false }
def FnExactNewCountedSaid : Prop := fnExactNewCountedRow.holds Try.pinned (OpenSpec.ofChange fnExactNewCountedSpec)

/-- ITS FALSE NEIGHBOUR: 'it returns false'. Refute it at one input. -/
def fnExactNewCountedWrong : ChangeSpec := { name := "fnExactNewCounted", fn := fun _ => fun
  | [d] => { results := [.lit (.bool false)], args := [d] }
  | _ => none }
def FnExactNewCountedWrongFalsely : Prop := fnExactNewCountedRow.holds Try.pinned (OpenSpec.ofChange fnExactNewCountedWrong)

/-- 'laws.FnExactCountedValid': WHATEVER THE INPUT: true; the input reads as it did. -/
def fnExactCountedValidSpec : ChangeSpec := { name := "fnExactCountedValid", fn := fun _ => fun
  | [d] => { results := [.lit (.bool true)], args := [d] }
  | _ => none }
def fnExactCountedValidRow : OpenClaim := { program := "ytpjdpflghcdkiaa", sum := "6065494c2046c6ec1107385c8b854079d3bbb375959b8d866a1d25e3abe4cbd7", func := "loop.example/cellcollector/laws.FnExactCountedValid", spec := "fnExactCountedValid", apart := false }
def FnExactCountedValidSaid : Prop := fnExactCountedValidRow.holds Try.pinned (OpenSpec.ofChange fnExactCountedValidSpec)

/-- ITS FALSE NEIGHBOUR: 'it returns false'. Refute it at one input. -/
def fnExactCountedValidWrong : ChangeSpec := { name := "fnExactCountedValid", fn := fun _ => fun
  | [d] => { results := [.lit (.bool false)], args := [d] }
  | _ => none }
def FnExactCountedValidWrongFalsely : Prop := fnExactCountedValidRow.holds Try.pinned (OpenSpec.ofChange fnExactCountedValidWrong)

/-- 'laws.FnExactCountedSame': WHATEVER THE INPUT: true; the input reads as it did. -/
def fnExactCountedSameSpec : ChangeSpec := { name := "fnExactCountedSame", fn := fun _ => fun
  | [d1, d2] => { results := [.lit (.bool true)], args := [d1, d2] }
  | _ => none }
def fnExactCountedSameRow : OpenClaim := { program := "ytpjdpflghcdkiaa", sum := "6065494c2046c6ec1107385c8b854079d3bbb375959b8d866a1d25e3abe4cbd7", func := "loop.example/cellcollector/laws.FnExactCountedSame", spec := "fnExactCountedSame", apart := false }
def FnExactCountedSameSaid : Prop := fnExactCountedSameRow.holds Try.pinned (OpenSpec.ofChange fnExactCountedSameSpec)

/-- ITS FALSE NEIGHBOUR: 'it returns false'. Refute it at one input. -/
def fnExactCountedSameWrong : ChangeSpec := { name := "fnExactCountedSame", fn := fun _ => fun
  | [d1, d2] => { results := [.lit (.bool false)], args := [d1, d2] }
  | _ => none }
def FnExactCountedSameWrongFalsely : Prop := fnExactCountedSameRow.holds Try.pinned (OpenSpec.ofChange fnExactCountedSameWrong)

/-- 'laws.FnExactTakeCounted': WHATEVER THE INPUT: true; the input reads as it did. -/
def fnExactTakeCountedSpec : ChangeSpec := { name := "fnExactTakeCounted", fn := fun _ => fun
  | [d1, d2] => { results := [.lit (.bool true)], args := [d1, d2] }
  | _ => none }
def fnExactTakeCountedRow : OpenClaim := { program := "ytpjdpflghcdkiaa", sum := "6065494c2046c6ec1107385c8b854079d3bbb375959b8d866a1d25e3abe4cbd7", func := "loop.example/cellcollector/laws.FnExactTakeCounted", spec := "fnExactTakeCounted", apart := false }
def FnExactTakeCountedSaid : Prop := fnExactTakeCountedRow.holds Try.pinned (OpenSpec.ofChange fnExactTakeCountedSpec)

/-- ITS FALSE NEIGHBOUR: 'it returns false'. Refute it at one input. -/
def fnExactTakeCountedWrong : ChangeSpec := { name := "fnExactTakeCounted", fn := fun _ => fun
  | [d1, d2] => { results := [.lit (.bool false)], args := [d1, d2] }
  | _ => none }
def FnExactTakeCountedWrongFalsely : Prop := fnExactTakeCountedRow.holds Try.pinned (OpenSpec.ofChange fnExactTakeCountedWrong)

/-- 'laws.FnExactDropRoot': WHATEVER THE INPUT: true; the input reads as it did. -/
def fnExactDropRootSpec : ChangeSpec := { name := "fnExactDropRoot", fn := fun _ => fun
  | [d1, d2] => { results := [.lit (.bool true)], args := [d1, d2] }
  | _ => none }
def fnExactDropRootRow : OpenClaim := { program := "ytpjdpflghcdkiaa", sum := "6065494c2046c6ec1107385c8b854079d3bbb375959b8d866a1d25e3abe4cbd7", func := "loop.example/cellcollector/laws.FnExactDropRoot", spec := "fnExactDropRoot", apart := false }
def FnExactDropRootSaid : Prop := fnExactDropRootRow.holds Try.pinned (OpenSpec.ofChange fnExactDropRootSpec)

/-- ITS FALSE NEIGHBOUR: 'it returns false'. Refute it at one input. -/
def fnExactDropRootWrong : ChangeSpec := { name := "fnExactDropRoot", fn := fun _ => fun
  | [d1, d2] => { results := [.lit (.bool false)], args := [d1, d2] }
  | _ => none }
def FnExactDropRootWrongFalsely : Prop := fnExactDropRootRow.holds Try.pinned (OpenSpec.ofChange fnExactDropRootWrong)

/-- 'laws.FnExactLinkCounted': WHATEVER THE INPUT: true; the input reads as it did. -/
def fnExactLinkCountedSpec : ChangeSpec := { name := "fnExactLinkCounted", fn := fun _ => fun
  | [d1, d2, d3] => { results := [.lit (.bool true)], args := [d1, d2, d3] }
  | _ => none }
def fnExactLinkCountedRow : OpenClaim := { program := "ytpjdpflghcdkiaa", sum := "6065494c2046c6ec1107385c8b854079d3bbb375959b8d866a1d25e3abe4cbd7", func := "loop.example/cellcollector/laws.FnExactLinkCounted", spec := "fnExactLinkCounted", apart := false }
def FnExactLinkCountedSaid : Prop := fnExactLinkCountedRow.holds Try.pinned (OpenSpec.ofChange fnExactLinkCountedSpec)

/-- ITS FALSE NEIGHBOUR: 'it returns false'. Refute it at one input. -/
def fnExactLinkCountedWrong : ChangeSpec := { name := "fnExactLinkCounted", fn := fun _ => fun
  | [d1, d2, d3] => { results := [.lit (.bool false)], args := [d1, d2, d3] }
  | _ => none }
def FnExactLinkCountedWrongFalsely : Prop := fnExactLinkCountedRow.holds Try.pinned (OpenSpec.ofChange fnExactLinkCountedWrong)

/-- 'laws.FnExactCyclesOf': WHATEVER THE INPUT: true; the input reads as it did. -/
def fnExactCyclesOfSpec : ChangeSpec := { name := "fnExactCyclesOf", fn := fun _ => fun
  | [d] => { results := [.lit (.bool true)], args := [d] }
  | _ => none }
def fnExactCyclesOfRow : OpenClaim := { program := "ytpjdpflghcdkiaa", sum := "6065494c2046c6ec1107385c8b854079d3bbb375959b8d866a1d25e3abe4cbd7", func := "loop.example/cellcollector/laws.FnExactCyclesOf", spec := "fnExactCyclesOf", apart := false }
def FnExactCyclesOfSaid : Prop := fnExactCyclesOfRow.holds Try.pinned (OpenSpec.ofChange fnExactCyclesOfSpec)

/-- ITS FALSE NEIGHBOUR: 'it returns false'. Refute it at one input. -/
def fnExactCyclesOfWrong : ChangeSpec := { name := "fnExactCyclesOf", fn := fun _ => fun
  | [d] => { results := [.lit (.bool false)], args := [d] }
  | _ => none }
def FnExactCyclesOfWrongFalsely : Prop := fnExactCyclesOfRow.holds Try.pinned (OpenSpec.ofChange fnExactCyclesOfWrong)

/-- 'laws.FnCountsOf': WHATEVER THE INPUT: true; the input reads as it did. -/
def fnCountsOfSpec : ChangeSpec := { name := "fnCountsOf", fn := fun _ => fun
  | [d] => { results := [.lit (.bool true)], args := [d] }
  | _ => none }
def fnCountsOfRow : OpenClaim := { program := "ytpjdpflghcdkiaa", sum := "6065494c2046c6ec1107385c8b854079d3bbb375959b8d866a1d25e3abe4cbd7", func := "loop.example/cellcollector/laws.FnCountsOf", spec := "fnCountsOf", apart := false }
def FnCountsOfSaid : Prop := fnCountsOfRow.holds Try.pinned (OpenSpec.ofChange fnCountsOfSpec)

/-- ITS FALSE NEIGHBOUR: 'it returns false'. Refute it at one input. -/
def fnCountsOfWrong : ChangeSpec := { name := "fnCountsOf", fn := fun _ => fun
  | [d] => { results := [.lit (.bool false)], args := [d] }
  | _ => none }
def FnCountsOfWrongFalsely : Prop := fnCountsOfRow.holds Try.pinned (OpenSpec.ofChange fnCountsOfWrong)

/-- 'laws.FnCountsPut': WHATEVER THE INPUT: true; the input reads as it did. -/
def fnCountsPutSpec : ChangeSpec := { name := "fnCountsPut", fn := fun _ => fun
  | [d] => { results := [.lit (.bool true)], args := [d] }
  | _ => none }
def fnCountsPutRow : OpenClaim := { program := "ytpjdpflghcdkiaa", sum := "6065494c2046c6ec1107385c8b854079d3bbb375959b8d866a1d25e3abe4cbd7", func := "loop.example/cellcollector/laws.FnCountsPut", spec := "fnCountsPut", apart := false }
def FnCountsPutSaid : Prop := fnCountsPutRow.holds Try.pinned (OpenSpec.ofChange fnCountsPutSpec)

/-- ITS FALSE NEIGHBOUR: 'it returns false'. Refute it at one input. -/
def fnCountsPutWrong : ChangeSpec := { name := "fnCountsPut", fn := fun _ => fun
  | [d] => { results := [.lit (.bool false)], args := [d] }
  | _ => none }
def FnCountsPutWrongFalsely : Prop := fnCountsPutRow.holds Try.pinned (OpenSpec.ofChange fnCountsPutWrong)

/- THE SECOND FORM. 'bulk': how many values and letters a reading holds, each counted each time it is reached (what is shared counts as often as it is met; a slice's spare places count too). A statement '..UptoSaid' is the law's where the arguments, and the package variables that the reading takes, are together of bulk at most 1048576: NARROWER than '..Said'. Prove '..Said' where nothing that the law and all that it calls make is longer than what came in: it says more and counts as full. Else prove '..UptoSaid'. A law counts once. -/
mutual
def uptoBulk {H : Type} : DataW H → Nat
  | .lit (.string bytes) => bytes.length + 1
  | .lit _ => 1
  | .nil => 1
  | .ptr d => uptoBulk d + 1
  | .slice elems spare => uptoBulkAll elems + uptoBulkAll spare + 1
  | .agg parts => uptoBulkAll parts + 1
  | .iface _ d => uptoBulk d + 1
  | .map entries => uptoBulkEntries entries + 1
  | .held _ => 1
def uptoBulkAll {H : Type} : List (DataW H) → Nat
  | [] => 0
  | d :: r => uptoBulk d + uptoBulkAll r
def uptoBulkEntries {H : Type} : List (Lit × DataW H) → Nat
  | [] => 0
  | x :: r => uptoBulkEntry x + uptoBulkEntries r
def uptoBulkEntry {H : Type} : Lit × DataW H → Nat
  | (.string bytes, d) => bytes.length + uptoBulk d + 1
  | (_, d) => uptoBulk d + 1
 end
def uptoSmall : (H : Type) → List (DataW H) → Bool := fun _ ds => decide (uptoBulkAll ds ≤ 1048576)
def OpenSpec.upto (s : _root_.Go.ChangeSpec) : _root_.Go.OpenSpec := { _root_.Go.OpenSpec.ofChange s with cond := some uptoSmall }

/-- 'laws.FnExactCountsOf', WHERE WHAT IT READS IS OF BULK AT MOST 1048576: true; the input reads as it did. -/
def fnExactCountsOfUptoRow : OpenClaim := { program := "ytpjdpflghcdkiaa", sum := "6065494c2046c6ec1107385c8b854079d3bbb375959b8d866a1d25e3abe4cbd7", func := "loop.example/cellcollector/laws.FnExactCountsOf", spec := "fnExactCountsOf", apart := false, narrowed := true }
def FnExactCountsOfUptoSaid : Prop := fnExactCountsOfUptoRow.holds Try.pinned (OpenSpec.upto fnExactCountsOfSpec)

/-- 'laws.FnExactNewCounted', WHERE WHAT IT READS IS OF BULK AT MOST 1048576: true; the input reads as it did. -/
def fnExactNewCountedUptoRow : OpenClaim := { program := "ytpjdpflghcdkiaa", sum := "6065494c2046c6ec1107385c8b854079d3bbb375959b8d866a1d25e3abe4cbd7", func := "loop.example/cellcollector/laws.FnExactNewCounted", spec := "fnExactNewCounted", apart := false, narrowed := true }
def FnExactNewCountedUptoSaid : Prop := fnExactNewCountedUptoRow.holds Try.pinned (OpenSpec.upto fnExactNewCountedSpec)

/-- 'laws.FnExactCountedValid', WHERE WHAT IT READS IS OF BULK AT MOST 1048576: true; the input reads as it did. -/
def fnExactCountedValidUptoRow : OpenClaim := { program := "ytpjdpflghcdkiaa", sum := "6065494c2046c6ec1107385c8b854079d3bbb375959b8d866a1d25e3abe4cbd7", func := "loop.example/cellcollector/laws.FnExactCountedValid", spec := "fnExactCountedValid", apart := false, narrowed := true }
def FnExactCountedValidUptoSaid : Prop := fnExactCountedValidUptoRow.holds Try.pinned (OpenSpec.upto fnExactCountedValidSpec)

/-- 'laws.FnExactCountedSame', WHERE WHAT IT READS IS OF BULK AT MOST 1048576: true; the input reads as it did. -/
def fnExactCountedSameUptoRow : OpenClaim := { program := "ytpjdpflghcdkiaa", sum := "6065494c2046c6ec1107385c8b854079d3bbb375959b8d866a1d25e3abe4cbd7", func := "loop.example/cellcollector/laws.FnExactCountedSame", spec := "fnExactCountedSame", apart := false, narrowed := true }
def FnExactCountedSameUptoSaid : Prop := fnExactCountedSameUptoRow.holds Try.pinned (OpenSpec.upto fnExactCountedSameSpec)

/-- 'laws.FnExactTakeCounted', WHERE WHAT IT READS IS OF BULK AT MOST 1048576: true; the input reads as it did. -/
def fnExactTakeCountedUptoRow : OpenClaim := { program := "ytpjdpflghcdkiaa", sum := "6065494c2046c6ec1107385c8b854079d3bbb375959b8d866a1d25e3abe4cbd7", func := "loop.example/cellcollector/laws.FnExactTakeCounted", spec := "fnExactTakeCounted", apart := false, narrowed := true }
def FnExactTakeCountedUptoSaid : Prop := fnExactTakeCountedUptoRow.holds Try.pinned (OpenSpec.upto fnExactTakeCountedSpec)

/-- 'laws.FnExactDropRoot', WHERE WHAT IT READS IS OF BULK AT MOST 1048576: true; the input reads as it did. -/
def fnExactDropRootUptoRow : OpenClaim := { program := "ytpjdpflghcdkiaa", sum := "6065494c2046c6ec1107385c8b854079d3bbb375959b8d866a1d25e3abe4cbd7", func := "loop.example/cellcollector/laws.FnExactDropRoot", spec := "fnExactDropRoot", apart := false, narrowed := true }
def FnExactDropRootUptoSaid : Prop := fnExactDropRootUptoRow.holds Try.pinned (OpenSpec.upto fnExactDropRootSpec)

/-- 'laws.FnExactLinkCounted', WHERE WHAT IT READS IS OF BULK AT MOST 1048576: true; the input reads as it did. -/
def fnExactLinkCountedUptoRow : OpenClaim := { program := "ytpjdpflghcdkiaa", sum := "6065494c2046c6ec1107385c8b854079d3bbb375959b8d866a1d25e3abe4cbd7", func := "loop.example/cellcollector/laws.FnExactLinkCounted", spec := "fnExactLinkCounted", apart := false, narrowed := true }
def FnExactLinkCountedUptoSaid : Prop := fnExactLinkCountedUptoRow.holds Try.pinned (OpenSpec.upto fnExactLinkCountedSpec)

/-- 'laws.FnExactCyclesOf', WHERE WHAT IT READS IS OF BULK AT MOST 1048576: true; the input reads as it did. -/
def fnExactCyclesOfUptoRow : OpenClaim := { program := "ytpjdpflghcdkiaa", sum := "6065494c2046c6ec1107385c8b854079d3bbb375959b8d866a1d25e3abe4cbd7", func := "loop.example/cellcollector/laws.FnExactCyclesOf", spec := "fnExactCyclesOf", apart := false, narrowed := true }
def FnExactCyclesOfUptoSaid : Prop := fnExactCyclesOfUptoRow.holds Try.pinned (OpenSpec.upto fnExactCyclesOfSpec)

/-- 'laws.FnCountsOf', WHERE WHAT IT READS IS OF BULK AT MOST 1048576: true; the input reads as it did. -/
def fnCountsOfUptoRow : OpenClaim := { program := "ytpjdpflghcdkiaa", sum := "6065494c2046c6ec1107385c8b854079d3bbb375959b8d866a1d25e3abe4cbd7", func := "loop.example/cellcollector/laws.FnCountsOf", spec := "fnCountsOf", apart := false, narrowed := true }
def FnCountsOfUptoSaid : Prop := fnCountsOfUptoRow.holds Try.pinned (OpenSpec.upto fnCountsOfSpec)

/-- 'laws.FnCountsPut', WHERE WHAT IT READS IS OF BULK AT MOST 1048576: true; the input reads as it did. -/
def fnCountsPutUptoRow : OpenClaim := { program := "ytpjdpflghcdkiaa", sum := "6065494c2046c6ec1107385c8b854079d3bbb375959b8d866a1d25e3abe4cbd7", func := "loop.example/cellcollector/laws.FnCountsPut", spec := "fnCountsPut", apart := false, narrowed := true }
def FnCountsPutUptoSaid : Prop := fnCountsPutUptoRow.holds Try.pinned (OpenSpec.upto fnCountsPutSpec)

end Rows
end Go.Proofs.Ytpjdpflghcdkiaa
