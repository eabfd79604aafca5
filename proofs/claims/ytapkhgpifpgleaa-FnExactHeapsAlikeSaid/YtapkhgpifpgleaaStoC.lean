/- StoreSame and l4Copy of spec. -/
import Derived.Test.YtapkhgpifpgleaaStoV
import Derived.Test.YtapkhgpifpgleaaSCopy
import Derived.Deep.Upon
namespace Go.Proofs.Ytapkhgpifpgleaa
open Go.RowKit

/-- append of nothing, as one step of a region that draws. -/
theorem step_append_zero {P : Program} {ops : Array Oper} {o : Oper} {a : Act} {w : World} {K : Act → World → Prop} {Q : Exit → Act → World → Prop} {E : Prop}
    (hg : o.guard = none) (s x : Operand) (t : TypeId) (hop : o.op = Op.call { callee := Callee.builtin Builtin.append, args := #[s, x], argTypes := #[t, t] })
    (e : TypeId) (i : TypeInfo) (h1 : P.underlying t = some (.slice e)) (h2 : P.info? e = some i)
    (base : Option Addr) (n cap : Nat) (hs : a.eval s = .slice base n cap) (hle : n ≤ cap) (ax : Option Addr) (cx : Nat) (hx : a.eval x = .slice ax 0 cx)
    (hK : K (a.put o.dst (.slice base n cap)) w) :
    if Region.wanted o (yielded ops a.tmps) = true then Oper.wp P o a w K Q else E := by
  have hw : Region.wanted o (yielded ops a.tmps) = true := by simp [Region.wanted, hg]
  rw [if_pos hw]
  have hrun : (Builtin.append_ #[t, t] o.type #[.slice base n cap, .slice ax 0 cx]).run P w = .ok (.slice base n cap) w := by
    refine run_append_nothing w t t o.type e i h1 h2 base n cap hle _ ?_
    cases ax with
    | none => exact Src.ofNil w h1 cx
    | some ad => exact Src.ofSlice w h1 ad 0 cx [] (by simp) (fun j u hj => by simp at hj) (fun u hu => by simp at hu)
  unfold Oper.wp
  simp [execOp, hop, resolve, invoke, builtin, hs, hx, hrun, Result.andThen]
  exact hK
theorem Row.empty (w : World) (lo : Nat) (hlo : lo ≤ w.heap.size) : Row (w.alloc (.cells #[] 3)) lo (.slice (some ⟨w.heap.size, 0, none⟩) 0 0) [] := by
  unfold Row
  exact ⟨rfl, .inr ⟨w.heap.size, 0, #[], rfl, hlo, heap_alloc_new w _, Nat.le_refl _, by unfold maxLen; omega, rfl, rfl⟩⟩

end Go.Proofs.Ytapkhgpifpgleaa
