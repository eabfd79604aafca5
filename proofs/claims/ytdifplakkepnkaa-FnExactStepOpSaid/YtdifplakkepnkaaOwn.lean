/- Heaps and stores that are copied by l13OwnHeap and l13OwnStore of spec. -/
import Derived.Test.YtdifplakkepnkaaStoA
import Derived.Test.YtdifplakkepnkaaCopys
import Derived.Test.YtdifplakkepnkaaRdA
namespace Go.Proofs.Ytdifplakkepnkaa
open Go.RowKit

/-- A row is appended to a literal empty one. -/
theorem wpList_append_row {ops : Array Oper} {rest : List Oper} {o : Oper} {a : Act} {w : World} {Q : Exit → Act → World → Prop}
    (hg : o.guard = none) (s x : Operand) (hop : o.op = Op.call { callee := Callee.builtin Builtin.append, args := #[s, x], argTypes := #[23, 23] })
    (base : Option Addr) (lb : Nat) (hs : a.eval s = .slice base 0 0) (hbase : Row w lb (.slice base 0 0) []) (hlb : lb ≤ w.heap.size)
    (lo : Nat) (A : Option Addr) (n c : Nat) (xs : List Int) (hx : a.eval x = .slice A n c) (hr : Row w lo (.slice A n c) xs) (hn : Hid (xs.length = n)) (hb : n ≤ 1048576)
    (hK : ∀ A' c' w', Row w' lb (.slice A' n c') xs → Below w.heap.size w w' → wpList Try.prog ops Q rest (a.put o.dst (.slice A' n c')) w') : wpList Try.prog ops Q (o :: rest) a w := by
  have hn' := hn.out
  obtain ⟨i0, hi, hz0, hz1, hz2⟩ := info_parts Try.infoInt
  rcases Nat.eq_zero_or_pos n with h0 | h0
  · subst h0
    obtain rfl : xs = [] := List.eq_nil_of_length_eq_zero hn'
    refine wpList_append_zero hg s x 23 hop 3 i0 Try.underlying23 hi base 0 0 hs (Nat.le_refl _) A 0 c rfl hx ?_
    intro w' hw'
    have e := hw'.out
    subst e
    exact hK base 0 _ hbase (Below.refl _ _)
  · obtain ⟨g, rfl, _, _⟩ := hr.at_ (k := 0) (by omega)
    refine wpList_append_grows w hg s x 23 hop 3 i0 (.int .i64 0) 1 8 Try.underlying23 hi hz0 hz1 hz2 rfl (by decide) base 0 0 [] hs (fun _ => ⟨rfl, rfl⟩) rfl (fun _ _ j u hj => nil_get hj) ⟨g, 0, none⟩ n c (xs.map iv) hx (by simp; omega) (Row.cellsV hr) (ints_oneCell _ _) (by omega) (by unfold maxLen; omega) (by omega) ?_
    intro v' w' hown hgr
    obtain ⟨A', c', rfl, hr', hb'⟩ := after_append (xs := xs) (n := n) (by simpa using hown) hgr (by omega)
    have h9 := hK A' c' w' (by rw [← hn']; exact hr'.mono hlb) hb'
    rw [hn']; exact h9
theorem apart_of {w w' : World} {lo lo' : Nat} {v v' : Value} {xs ys : List Int} (h : Row w lo v xs) (h' : Row w' lo' v' ys) (hl : w.heap.size ≤ lo') : Apart v v' := fun j e e' => by
  have h1 := (h.lt j e).2
  have h2 := (h'.lt j e').1
  omega
theorem Row.setE {w : World} {lo b : Nat} {v : Value} {xs : List Int} (h : Row w lo v xs) (hb : v.ownBlock ≠ some b) (o : Nat) (u : Value) : Row (w.setCell ⟨b, o, none⟩ u) lo v xs := h.other (a := ⟨b, o, none⟩) hb u
theorem own_neR {w : World} {lo b : Nat} {v : Value} {xs : List Int} (h : Row w lo v xs) (hb : b < lo ∨ w.heap.size ≤ b) : v.ownBlock ≠ some b := fun e => by have := h.lt _ e; omega
theorem setSize (w : World) (p : Addr) (u : Value) : (w.setCell p u).heap.size = w.heap.size := by simp [World.setCell]
def NewHvO (w : World) (h : Hp) (e : Ending) (w' : World) : Prop := ∃ v, e = .returned v ∧ Hv w' w.heap.size v h ∧ Below w.heap.size w w'

theorem Blk4.set0 {w : World} {b : Nat} {x y z u : Value} {t : TypeId} (h : Blk4 w b x y z u t) (a : Value) : Blk4 (w.setCell ⟨b, 0, none⟩ a) b a y z u t := by
  unfold Blk4 at h ⊢; simp [World.setCell, Array.getElem?_modify, h]
theorem Blk4.set1 {w : World} {b : Nat} {x y z u : Value} {t : TypeId} (h : Blk4 w b x y z u t) (a : Value) : Blk4 (w.setCell ⟨b, 1, none⟩ a) b x a z u t := by
  unfold Blk4 at h ⊢; simp [World.setCell, Array.getElem?_modify, h]
theorem Blk4.set2 {w : World} {b : Nat} {x y z u : Value} {t : TypeId} (h : Blk4 w b x y z u t) (a : Value) : Blk4 (w.setCell ⟨b, 2, none⟩ a) b x y a u t := by
  unfold Blk4 at h ⊢; simp [World.setCell, Array.getElem?_modify, h]

end Go.Proofs.Ytdifplakkepnkaa
