/-
  No cell of these rows narrows 'for every input' (looked for: loops, veiled, ifaces, maps, wideKeys, modest, calm, conditions, laid).
  DERIVED. THE GIVEN ROWS OF THIS SEAT. 10 by the template 'for every input the law returns true; each argument reads behind the call as it read before'; 0 by the template 'total and deterministic' (their statements: YtlkkngkocnkicaaTotals.lean).
  GIVEN WITH THE SEED: the statements are not yours to turn. If you find one false, say at which input.
  Laid BY PROGRAM, IN A SANDBOX (cutbox-rows.mjs): the forced cells as the released guide's own fill.sh prints them over the translation 18938a883c673d14… (all of the seat's roots in one cut). By AI agents, Wed Nov 11 2026. No macro, syntax, notation, axiom, sorry.
-/
import Derived.Test.YtlkkngkocnkicaaChecked
import GoSem.Claim
import GoSem.ClaimJoined
import GoSem.ClaimMapViews
import Derived.JoinedTies
import Derived.KernelRfl
namespace Go.Proofs.Ytlkkngkocnkicaa
/- THE CELL 'sum', in the pinned program and in every row, IS THE sha256 OF THE DUMP (.gsa) THAT YtlkkngkocnkicaaProg.lean LOADS. Nothing in Lean hashes anything: it is a label: what it is worth is what the hold of that sum in a sandbox is worth. -/
noncomputable def Try.pinned : Pinned := { name := "ytlkkngkocnkicaa", sum := "18938a883c673d143dfd64e76dcb23b5dec10e7f178988fba6c1a279e19763ba", checked := Try.checked }
namespace Rows
def none {H : Type} : Left H := { results := [], args := [] }

/-- 'laws.FnGarbageOf': WHATEVER THE INPUT: true; the input reads as it did. -/
def fnGarbageOfSpec : ChangeSpec := { name := "fnGarbageOf", fn := fun _ => fun
  | [d] => { results := [.lit (.bool true)], args := [d] }
  | _ => none }
def fnGarbageOfRow : OpenClaim := { program := "ytlkkngkocnkicaa", sum := "18938a883c673d143dfd64e76dcb23b5dec10e7f178988fba6c1a279e19763ba", func := "loop.example/cellcollector/laws.FnGarbageOf", spec := "fnGarbageOf", apart := false }
def FnGarbageOfSaid : Prop := fnGarbageOfRow.holds Try.pinned (OpenSpec.ofChange fnGarbageOfSpec)

/-- ITS FALSE NEIGHBOUR: 'it returns false'. Refute it at one input. -/
def fnGarbageOfWrong : ChangeSpec := { name := "fnGarbageOf", fn := fun _ => fun
  | [d] => { results := [.lit (.bool false)], args := [d] }
  | _ => none }
def FnGarbageOfWrongFalsely : Prop := fnGarbageOfRow.holds Try.pinned (OpenSpec.ofChange fnGarbageOfWrong)

/-- 'laws.FnCountLive': WHATEVER THE INPUT: true; the input reads as it did. -/
def fnCountLiveSpec : ChangeSpec := { name := "fnCountLive", fn := fun _ => fun
  | [d] => { results := [.lit (.bool true)], args := [d] }
  | _ => none }
def fnCountLiveRow : OpenClaim := { program := "ytlkkngkocnkicaa", sum := "18938a883c673d143dfd64e76dcb23b5dec10e7f178988fba6c1a279e19763ba", func := "loop.example/cellcollector/laws.FnCountLive", spec := "fnCountLive", apart := false }
def FnCountLiveSaid : Prop := fnCountLiveRow.holds Try.pinned (OpenSpec.ofChange fnCountLiveSpec)

/-- ITS FALSE NEIGHBOUR: 'it returns false'. Refute it at one input. -/
def fnCountLiveWrong : ChangeSpec := { name := "fnCountLive", fn := fun _ => fun
  | [d] => { results := [.lit (.bool false)], args := [d] }
  | _ => none }
def FnCountLiveWrongFalsely : Prop := fnCountLiveRow.holds Try.pinned (OpenSpec.ofChange fnCountLiveWrong)

/-- 'laws.FnSourcesCount': WHATEVER THE INPUT: true; the input reads as it did. -/
def fnSourcesCountSpec : ChangeSpec := { name := "fnSourcesCount", fn := fun _ => fun
  | [d] => { results := [.lit (.bool true)], args := [d] }
  | _ => none }
def fnSourcesCountRow : OpenClaim := { program := "ytlkkngkocnkicaa", sum := "18938a883c673d143dfd64e76dcb23b5dec10e7f178988fba6c1a279e19763ba", func := "loop.example/cellcollector/laws.FnSourcesCount", spec := "fnSourcesCount", apart := false }
def FnSourcesCountSaid : Prop := fnSourcesCountRow.holds Try.pinned (OpenSpec.ofChange fnSourcesCountSpec)

/-- ITS FALSE NEIGHBOUR: 'it returns false'. Refute it at one input. -/
def fnSourcesCountWrong : ChangeSpec := { name := "fnSourcesCount", fn := fun _ => fun
  | [d] => { results := [.lit (.bool false)], args := [d] }
  | _ => none }
def FnSourcesCountWrongFalsely : Prop := fnSourcesCountRow.holds Try.pinned (OpenSpec.ofChange fnSourcesCountWrong)

/-- 'laws.FnLiveCount': WHATEVER THE INPUT: true; the input reads as it did. -/
def fnLiveCountSpec : ChangeSpec := { name := "fnLiveCount", fn := fun _ => fun
  | [d] => { results := [.lit (.bool true)], args := [d] }
  | _ => none }
def fnLiveCountRow : OpenClaim := { program := "ytlkkngkocnkicaa", sum := "18938a883c673d143dfd64e76dcb23b5dec10e7f178988fba6c1a279e19763ba", func := "loop.example/cellcollector/laws.FnLiveCount", spec := "fnLiveCount", apart := false }
def FnLiveCountSaid : Prop := fnLiveCountRow.holds Try.pinned (OpenSpec.ofChange fnLiveCountSpec)

/-- ITS FALSE NEIGHBOUR: 'it returns false'. Refute it at one input. -/
def fnLiveCountWrong : ChangeSpec := { name := "fnLiveCount", fn := fun _ => fun
  | [d] => { results := [.lit (.bool false)], args := [d] }
  | _ => none }
def FnLiveCountWrongFalsely : Prop := fnLiveCountRow.holds Try.pinned (OpenSpec.ofChange fnLiveCountWrong)

/-- 'laws.FnExactReachable': WHATEVER THE INPUT: true; the input reads as it did. -/
def fnExactReachableSpec : ChangeSpec := { name := "fnExactReachable", fn := fun _ => fun
  | [d] => { results := [.lit (.bool true)], args := [d] }
  | _ => none }
def fnExactReachableRow : OpenClaim := { program := "ytlkkngkocnkicaa", sum := "18938a883c673d143dfd64e76dcb23b5dec10e7f178988fba6c1a279e19763ba", func := "loop.example/cellcollector/laws.FnExactReachable", spec := "fnExactReachable", apart := false }
def FnExactReachableSaid : Prop := fnExactReachableRow.holds Try.pinned (OpenSpec.ofChange fnExactReachableSpec)

/-- ITS FALSE NEIGHBOUR: 'it returns false'. Refute it at one input. -/
def fnExactReachableWrong : ChangeSpec := { name := "fnExactReachable", fn := fun _ => fun
  | [d] => { results := [.lit (.bool false)], args := [d] }
  | _ => none }
def FnExactReachableWrongFalsely : Prop := fnExactReachableRow.holds Try.pinned (OpenSpec.ofChange fnExactReachableWrong)

/-- 'laws.FnExactCountLive': WHATEVER THE INPUT: true; the input reads as it did. -/
def fnExactCountLiveSpec : ChangeSpec := { name := "fnExactCountLive", fn := fun _ => fun
  | [d] => { results := [.lit (.bool true)], args := [d] }
  | _ => none }
def fnExactCountLiveRow : OpenClaim := { program := "ytlkkngkocnkicaa", sum := "18938a883c673d143dfd64e76dcb23b5dec10e7f178988fba6c1a279e19763ba", func := "loop.example/cellcollector/laws.FnExactCountLive", spec := "fnExactCountLive", apart := false }
def FnExactCountLiveSaid : Prop := fnExactCountLiveRow.holds Try.pinned (OpenSpec.ofChange fnExactCountLiveSpec)

/-- ITS FALSE NEIGHBOUR: 'it returns false'. Refute it at one input. -/
def fnExactCountLiveWrong : ChangeSpec := { name := "fnExactCountLive", fn := fun _ => fun
  | [d] => { results := [.lit (.bool false)], args := [d] }
  | _ => none }
def FnExactCountLiveWrongFalsely : Prop := fnExactCountLiveRow.holds Try.pinned (OpenSpec.ofChange fnExactCountLiveWrong)

/-- 'laws.FnExactGarbageOf': WHATEVER THE INPUT: true; the input reads as it did. -/
def fnExactGarbageOfSpec : ChangeSpec := { name := "fnExactGarbageOf", fn := fun _ => fun
  | [d] => { results := [.lit (.bool true)], args := [d] }
  | _ => none }
def fnExactGarbageOfRow : OpenClaim := { program := "ytlkkngkocnkicaa", sum := "18938a883c673d143dfd64e76dcb23b5dec10e7f178988fba6c1a279e19763ba", func := "loop.example/cellcollector/laws.FnExactGarbageOf", spec := "fnExactGarbageOf", apart := false }
def FnExactGarbageOfSaid : Prop := fnExactGarbageOfRow.holds Try.pinned (OpenSpec.ofChange fnExactGarbageOfSpec)

/-- ITS FALSE NEIGHBOUR: 'it returns false'. Refute it at one input. -/
def fnExactGarbageOfWrong : ChangeSpec := { name := "fnExactGarbageOf", fn := fun _ => fun
  | [d] => { results := [.lit (.bool false)], args := [d] }
  | _ => none }
def FnExactGarbageOfWrongFalsely : Prop := fnExactGarbageOfRow.holds Try.pinned (OpenSpec.ofChange fnExactGarbageOfWrong)

/-- 'laws.FnExactDistanceOf': WHATEVER THE INPUT: true; the input reads as it did. -/
def fnExactDistanceOfSpec : ChangeSpec := { name := "fnExactDistanceOf", fn := fun _ => fun
  | [d1, d2] => { results := [.lit (.bool true)], args := [d1, d2] }
  | _ => none }
def fnExactDistanceOfRow : OpenClaim := { program := "ytlkkngkocnkicaa", sum := "18938a883c673d143dfd64e76dcb23b5dec10e7f178988fba6c1a279e19763ba", func := "loop.example/cellcollector/laws.FnExactDistanceOf", spec := "fnExactDistanceOf", apart := false }
def FnExactDistanceOfSaid : Prop := fnExactDistanceOfRow.holds Try.pinned (OpenSpec.ofChange fnExactDistanceOfSpec)

/-- ITS FALSE NEIGHBOUR: 'it returns false'. Refute it at one input. -/
def fnExactDistanceOfWrong : ChangeSpec := { name := "fnExactDistanceOf", fn := fun _ => fun
  | [d1, d2] => { results := [.lit (.bool false)], args := [d1, d2] }
  | _ => none }
def FnExactDistanceOfWrongFalsely : Prop := fnExactDistanceOfRow.holds Try.pinned (OpenSpec.ofChange fnExactDistanceOfWrong)

/-- 'laws.FnExactHasCycle': WHATEVER THE INPUT: true; the input reads as it did. -/
def fnExactHasCycleSpec : ChangeSpec := { name := "fnExactHasCycle", fn := fun _ => fun
  | [d1, d2] => { results := [.lit (.bool true)], args := [d1, d2] }
  | _ => none }
def fnExactHasCycleRow : OpenClaim := { program := "ytlkkngkocnkicaa", sum := "18938a883c673d143dfd64e76dcb23b5dec10e7f178988fba6c1a279e19763ba", func := "loop.example/cellcollector/laws.FnExactHasCycle", spec := "fnExactHasCycle", apart := false }
def FnExactHasCycleSaid : Prop := fnExactHasCycleRow.holds Try.pinned (OpenSpec.ofChange fnExactHasCycleSpec)

/-- ITS FALSE NEIGHBOUR: 'it returns false'. Refute it at one input. -/
def fnExactHasCycleWrong : ChangeSpec := { name := "fnExactHasCycle", fn := fun _ => fun
  | [d1, d2] => { results := [.lit (.bool false)], args := [d1, d2] }
  | _ => none }
def FnExactHasCycleWrongFalsely : Prop := fnExactHasCycleRow.holds Try.pinned (OpenSpec.ofChange fnExactHasCycleWrong)

/-- 'laws.FnReachMore': WHATEVER THE INPUT: true; the input reads as it did. -/
def fnReachMoreSpec : ChangeSpec := { name := "fnReachMore", fn := fun _ => fun
  | [d] => { results := [.lit (.bool true)], args := [d] }
  | _ => none }
def fnReachMoreRow : OpenClaim := { program := "ytlkkngkocnkicaa", sum := "18938a883c673d143dfd64e76dcb23b5dec10e7f178988fba6c1a279e19763ba", func := "loop.example/cellcollector/laws.FnReachMore", spec := "fnReachMore", apart := false }
def FnReachMoreSaid : Prop := fnReachMoreRow.holds Try.pinned (OpenSpec.ofChange fnReachMoreSpec)

/-- ITS FALSE NEIGHBOUR: 'it returns false'. Refute it at one input. -/
def fnReachMoreWrong : ChangeSpec := { name := "fnReachMore", fn := fun _ => fun
  | [d] => { results := [.lit (.bool false)], args := [d] }
  | _ => none }
def FnReachMoreWrongFalsely : Prop := fnReachMoreRow.holds Try.pinned (OpenSpec.ofChange fnReachMoreWrong)

/- THE SECOND FORM. 'bulk': how many values and letters a reading holds, each counted each time it is reached (what is shared counts as often as it is met; a slice's spare places count too). A statement '..UptoSaid' is the law's where the arguments, and the package variables that the reading takes, are together of bulk at most 1048576: NARROWER than '..Said'. Prove '..Said' where nothing that the law and all that it calls make is longer than what came in: it says more and counts as full. Else prove '..UptoSaid'. A law counts once. -/
mutual
def uptoBulk {H : Type} : DataW H → Nat
  | .lit (.string bytes) => bytes.length + 1
  | .lit _ => 1
  | .nil => 1
  | .ptr d => uptoBulk d + 1
  | .slice elems spare => uptoBulkAll elems + uptoBulkAll spare + 1
  | .agg parts => uptoBulkAll parts + 1
  | .iface _ d => uptoBulk d + 1
  | .map entries => uptoBulkEntries entries + 1
  | .held _ => 1
def uptoBulkAll {H : Type} : List (DataW H) → Nat
  | [] => 0
  | d :: r => uptoBulk d + uptoBulkAll r
def uptoBulkEntries {H : Type} : List (Lit × DataW H) → Nat
  | [] => 0
  | x :: r => uptoBulkEntry x + uptoBulkEntries r
def uptoBulkEntry {H : Type} : Lit × DataW H → Nat
  | (.string bytes, d) => bytes.length + uptoBulk d + 1
  | (_, d) => uptoBulk d + 1
 end
def uptoSmall : (H : Type) → List (DataW H) → Bool := fun _ ds => decide (uptoBulkAll ds ≤ 1048576)
def OpenSpec.upto (s : _root_.Go.ChangeSpec) : _root_.Go.OpenSpec := { _root_.Go.OpenSpec.ofChange s with cond := some uptoSmall }

/-- 'laws.FnGarbageOf', WHERE WHAT IT READS IS OF BULK AT MOST 1048576: true; the input reads as it did. -/
def fnGarbageOfUptoRow : OpenClaim := { program := "ytlkkngkocnkicaa", sum := "18938a883c673d143dfd64e76dcb23b5dec10e7f178988fba6c1a279e19763ba", func := "loop.example/cellcollector/laws.FnGarbageOf", spec := "fnGarbageOf", apart := false, narrowed := true }
def FnGarbageOfUptoSaid : Prop := fnGarbageOfUptoRow.holds Try.pinned (OpenSpec.upto fnGarbageOfSpec)

/-- 'laws.FnCountLive', WHERE WHAT IT READS IS OF BULK AT MOST 1048576: true; the input reads as it did. -/
def fnCountLiveUptoRow : OpenClaim := { program := "ytlkkngkocnkicaa", sum := "18938a883c673d143dfd64e76dcb23b5dec10e7f178988fba6c1a279e19763ba", func := "loop.example/cellcollector/laws.FnCountLive", spec := "fnCountLive", apart := false, narrowed := true }
def FnCountLiveUptoSaid : Prop := fnCountLiveUptoRow.holds Try.pinned (OpenSpec.upto fnCountLiveSpec)

/-- 'laws.FnSourcesCount', WHERE WHAT IT READS IS OF BULK AT MOST 1048576: true; the input reads as it did. -/
def fnSourcesCountUptoRow : OpenClaim := { program := "ytlkkngkocnkicaa", sum := "18938a883c673d143dfd64e76dcb23b5dec10e7f178988fba6c1a279e19763ba", func := "loop.example/cellcollector/laws.FnSourcesCount", spec := "fnSourcesCount", apart := false, narrowed := true }
def FnSourcesCountUptoSaid : Prop := fnSourcesCountUptoRow.holds Try.pinned (OpenSpec.upto fnSourcesCountSpec)

/-- 'laws.FnLiveCount', WHERE WHAT IT READS IS OF BULK AT MOST 1048576: true; the input reads as it did. -/
def fnLiveCountUptoRow : OpenClaim := { program := "ytlkkngkocnkicaa", sum := "18938a883c673d143dfd64e76dcb23b5dec10e7f178988fba6c1a279e19763ba", func := "loop.example/cellcollector/laws.FnLiveCount", spec := "fnLiveCount", apart := false, narrowed := true }
def FnLiveCountUptoSaid : Prop := fnLiveCountUptoRow.holds Try.pinned (OpenSpec.upto fnLiveCountSpec)

/-- 'laws.FnExactReachable', WHERE WHAT IT READS IS OF BULK AT MOST 1048576: true; the input reads as it did. -/
def fnExactReachableUptoRow : OpenClaim := { program := "ytlkkngkocnkicaa", sum := "18938a883c673d143dfd64e76dcb23b5dec10e7f178988fba6c1a279e19763ba", func := "loop.example/cellcollector/laws.FnExactReachable", spec := "fnExactReachable", apart := false, narrowed := true }
def FnExactReachableUptoSaid : Prop := fnExactReachableUptoRow.holds Try.pinned (OpenSpec.upto fnExactReachableSpec)

/-- 'laws.FnExactCountLive', WHERE WHAT IT READS IS OF BULK AT MOST 1048576: true; the input reads as it did. -/
def fnExactCountLiveUptoRow : OpenClaim := { program := "ytlkkngkocnkicaa", sum := "18938a883c673d143dfd64e76dcb23b5dec10e7f178988fba6c1a279e19763ba", func := "loop.example/cellcollector/laws.FnExactCountLive", spec := "fnExactCountLive", apart := false, narrowed := true }
def FnExactCountLiveUptoSaid : Prop := fnExactCountLiveUptoRow.holds Try.pinned (OpenSpec.upto fnExactCountLiveSpec)

/-- 'laws.FnExactGarbageOf', WHERE WHAT IT READS IS OF BULK AT MOST 1048576: true; the input reads as it did. -/
def fnExactGarbageOfUptoRow : OpenClaim := { program := "ytlkkngkocnkicaa", sum := "18938a883c673d143dfd64e76dcb23b5dec10e7f178988fba6c1a279e19763ba", func := "loop.example/cellcollector/laws.FnExactGarbageOf", spec := "fnExactGarbageOf", apart := false, narrowed := true }
def FnExactGarbageOfUptoSaid : Prop := fnExactGarbageOfUptoRow.holds Try.pinned (OpenSpec.upto fnExactGarbageOfSpec)

/-- 'laws.FnExactDistanceOf', WHERE WHAT IT READS IS OF BULK AT MOST 1048576: true; the input reads as it did. -/
def fnExactDistanceOfUptoRow : OpenClaim := { program := "ytlkkngkocnkicaa", sum := "18938a883c673d143dfd64e76dcb23b5dec10e7f178988fba6c1a279e19763ba", func := "loop.example/cellcollector/laws.FnExactDistanceOf", spec := "fnExactDistanceOf", apart := false, narrowed := true }
def FnExactDistanceOfUptoSaid : Prop := fnExactDistanceOfUptoRow.holds Try.pinned (OpenSpec.upto fnExactDistanceOfSpec)

/-- 'laws.FnExactHasCycle', WHERE WHAT IT READS IS OF BULK AT MOST 1048576: true; the input reads as it did. -/
def fnExactHasCycleUptoRow : OpenClaim := { program := "ytlkkngkocnkicaa", sum := "18938a883c673d143dfd64e76dcb23b5dec10e7f178988fba6c1a279e19763ba", func := "loop.example/cellcollector/laws.FnExactHasCycle", spec := "fnExactHasCycle", apart := false, narrowed := true }
def FnExactHasCycleUptoSaid : Prop := fnExactHasCycleUptoRow.holds Try.pinned (OpenSpec.upto fnExactHasCycleSpec)

/-- 'laws.FnReachMore', WHERE WHAT IT READS IS OF BULK AT MOST 1048576: true; the input reads as it did. -/
def fnReachMoreUptoRow : OpenClaim := { program := "ytlkkngkocnkicaa", sum := "18938a883c673d143dfd64e76dcb23b5dec10e7f178988fba6c1a279e19763ba", func := "loop.example/cellcollector/laws.FnReachMore", spec := "fnReachMore", apart := false, narrowed := true }
def FnReachMoreUptoSaid : Prop := fnReachMoreUptoRow.holds Try.pinned (OpenSpec.upto fnReachMoreSpec)

end Rows
end Go.Proofs.Ytlkkngkocnkicaa
