/- AllocCell of spec. -/
import Derived.Test.YtpjdpflghcdkiaaStos
import Derived.Test.YtpjdpflghcdkiaaShades
import Derived.ArgAppend
import Derived.WalkSpells
namespace Go.Proofs.Ytpjdpflghcdkiaa
open Go.RowKit

def OptCI (w : World) (C : Cp) (x : Int) (b : Bool) (e : Ending) (w' : World) : Prop := ∃ v, e = .returned (.tuple #[v, .int .i64 x, .bool b]) ∧ Cv w' w.heap.size v C ∧ Below w.heap.size w w'
def allocB (C : Cp) (k : Int) : Bool := stoB C && plB k C.h.t.length && decide (C.c ≠ [])
def allocX (C : Cp) (k : Int) : Int := if allocB C k = true then C.c.getD 0 0 else 0
def allocC (C : Cp) (k : Int) : Cp := if allocB C k = true then ⟨⟨C.h.l, C.h.r, C.h.t.set k.toNat (C.c.getD 0 0)⟩, C.c.tail⟩ else Cp.zero
theorem allocC_not {C : Cp} {k : Int} (h : allocB C k = false) : allocC C k = Cp.zero := by unfold allocC; rw [h]; simp
theorem allocX_not {C : Cp} {k : Int} (h : allocB C k = false) : allocX C k = 0 := by unfold allocX; rw [h]; simp
theorem allocB_iff {C : Cp} {k : Int} : allocB C k = true ↔ stoB C = true ∧ (0 ≤ k ∧ k < C.h.t.length) ∧ C.c ≠ [] := by
  simp only [allocB, plB, Bool.and_eq_true, decide_eq_true_eq, and_assoc]
theorem allocB_not {C : Cp} {k : Int} (h : ¬ (stoB C = true ∧ (0 ≤ k ∧ k < C.h.t.length) ∧ C.c ≠ [])) : allocB C k = false := by
  rw [Bool.eq_false_iff]; intro h9; exact h (allocB_iff.1 h9)

/-- append of nothing, at the list of a plain region's operations. -/
theorem wpList_append_zero {P : Program} {ops : Array Oper} {rest : List Oper} {o : Oper} {a : Act} {w : World} {Q : Exit → Act → World → Prop}
    (hg : o.guard = none) (s x : Operand) (t : TypeId) (hop : o.op = Op.call { callee := Callee.builtin Builtin.append, args := #[s, x], argTypes := #[t, t] })
    (e : TypeId) (i : TypeInfo) (h1 : P.underlying t = some (.slice e)) (h2 : P.info? e = some i)
    (base : Option Addr) (n cap : Nat) (hs : a.eval s = .slice base n cap) (hle : n ≤ cap) (ax : Option Addr) (m cx : Nat) (hm : m = 0) (hx : a.eval x = .slice ax m cx)
    (hK : ∀ w', Hid (w' = w) → wpList P ops Q rest (a.put o.dst (.slice base n cap)) w') : wpList P ops Q (o :: rest) a w := by
  subst hm
  refine wpList_plain hg fun K hK' => ?_
  have h9 := hK' _ _ (hK w rfl)
  have hrun : (Builtin.append_ #[t, t] o.type #[.slice base n cap, .slice ax 0 cx]).run P w = .ok (.slice base n cap) w := by
    refine run_append_nothing w t t o.type e i h1 h2 base n cap hle _ ?_
    cases ax with
    | none => exact Src.ofNil w h1 cx
    | some ad => exact Src.ofSlice w h1 ad 0 cx [] (by simp) (fun j u hj => by simp at hj) (fun u hu => by simp at hu)
  unfold Oper.wp
  simp [execOp, hop, resolve, invoke, builtin, hs, hx, hrun, Result.andThen]
  exact h9
theorem Row.cellsTail4 {w : World} {lo g n c : Nat} {xs : List Int} (h : Row w lo (.slice (some ⟨g, 0, none⟩) n c) xs) : ∀ (j : Nat) (u : Value), (xs.tail.map iv)[j]? = some u → w.cell? ((⟨g, 1, none⟩ : Addr).add j) = some u := by
  intro j u hj
  have hh := h.cellsV (j + 1) u (by rw [← hj]; cases xs <;> simp)
  have hadd : ∀ o i, (⟨g, o, none⟩ : Addr).add i = ⟨g, o + i, none⟩ := fun o i => by unfold Addr.add; split <;> simp_all
  rw [hadd] at hh ⊢
  rw [show 1 + j = 0 + (j + 1) by omega]
  exact hh

end Go.Proofs.Ytpjdpflghcdkiaa
