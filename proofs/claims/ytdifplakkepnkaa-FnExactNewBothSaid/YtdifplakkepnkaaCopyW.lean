/- Words of copies of Boths; slices.Clone of operations. -/
import Derived.Test.YtdifplakkepnkaaBthM
import Derived.Test.YtdifplakkepnkaaStos
import Derived.Test.YtdifplakkepnkaaOwn
import Derived.ArgAppend
import Derived.Lib.SliceRun
import Derived.Deep.RegionLawGrows
namespace Go.Proofs.Ytdifplakkepnkaa
open Go.RowKit

theorem ORow.emptyB (w : World) (lo : Nat) (hlo : lo ≤ w.heap.size) : ORow (w.alloc (.cells #[] 70)) lo (.slice (some ⟨w.heap.size, 0, none⟩) 0 0) [] := by
  unfold ORow
  exact ⟨rfl, .inr ⟨w.heap.size, 0, #[], rfl, hlo, heap_alloc_new w _, Nat.le_refl _, by unfold maxLen; omega, rfl, rfl⟩⟩
theorem ORow.cellsV {w : World} {lo g n c : Nat} {os : List Opv} (h : ORow w lo (.slice (some ⟨g, 0, none⟩) n c) os) : ∀ j u, (ovs os)[j]? = some u → w.cell? ((⟨g, 0, none⟩ : Addr).add j) = some u := by
  intro j u hj
  have hc := h
  unfold ORow at hc
  obtain ⟨hlt, e⟩ := List.getElem?_eq_some_iff.1 hj
  obtain ⟨A9, c9, e9, _, _⟩ := h.form
  cases e9
  have := hc.cellAt j (by rw [ovs_len] at hlt; exact hlt)
  rw [show (⟨g, 0, none⟩ : Addr).add j = ⟨g, j, none⟩ by unfold Addr.add; split <;> simp_all, this]; exact hj
theorem ovs_one (os : List Opv) : ∀ u ∈ ovs os, u.oneCell' = true := by
  intro u hu
  unfold ovs at hu
  rw [List.mem_flatMap] at hu
  obtain ⟨o, _, h⟩ := hu
  simp at h
  rcases h with rfl | rfl | rfl <;> rfl
theorem infoOpC : (Try.prog.info? 70).map (fun i => (i.zero, i.size, i.bytes)) = some (some (.agg #[.int .i64 0, .int .i64 0, .int .i64 0]), 3, 24) := by kernel_rfl
theorem after_appendO {W w' : World} {v' : Value} {n : Nat} {os : List Opv} (hown : w'.ownsRow W.heap.size 70 3 v' (0 + n) ([] ++ ovs os)) (hgr : W.grownBy w' none) (hn : 0 + n = os.length) :
    ∃ A c, v' = .slice A os.length c ∧ ORow w' W.heap.size (.slice A os.length c) os ∧ Below W.heap.size W w' := by
  have hr : ORow w' W.heap.size v' os := by unfold ORow; rw [← hn]; simpa using hown
  obtain ⟨A, c, rfl, _⟩ := hr.form
  exact ⟨A, c, rfl, hr, below_of_grown hgr⟩
/-- Operations are appended to a literal empty row. -/
theorem step_append_orow {ops : Array Oper} {o : Oper} {a : Act} {w : World} {K : Act → World → Prop} {Q : Exit → Act → World → Prop} {E : Prop}
    (hg : o.guard = none) (s x : Operand) (hop : o.op = Op.call { callee := Callee.builtin Builtin.append, args := #[s, x], argTypes := #[28, 28] })
    (base : Option Addr) (lb : Nat) (hs : a.eval s = .slice base 0 0) (hbase : ORow w lb (.slice base 0 0) []) (hlb : lb ≤ w.heap.size)
    (lo : Nat) (A : Option Addr) (n c : Nat) (os : List Opv) (hx : a.eval x = .slice A n c) (hr : ORow w lo (.slice A n c) os) (hn : Hid (os.length = n)) (hb : n ≤ 1048576)
    (hK : ∀ A' c' w', ORow w' lb (.slice A' n c') os → Below w.heap.size w w' → K (a.put o.dst (.slice A' n c')) w') : if Region.wanted o (yielded ops a.tmps) = true then Oper.wp Try.prog o a w K Q else E := by
  have hn' := hn.out
  obtain ⟨i0, hi, hz0, hz1, hz2⟩ := info_parts infoOpC
  rcases Nat.eq_zero_or_pos n with h0 | h0
  · subst h0
    obtain rfl : os = [] := List.eq_nil_of_length_eq_zero hn'
    exact step_append_zero hg s x 28 hop 70 i0 Try.underlying28 hi base 0 0 hs (Nat.le_refl _) A c hx (hK base 0 _ hbase (Below.refl _ _))
  · obtain ⟨g, _, rfl, _⟩ := hr.get (k := 0) (by omega)
    refine step_append_grows hg s x 28 hop 70 i0 (.agg #[.int .i64 0, .int .i64 0, .int .i64 0]) 3 24 Try.underlying28 hi hz0 hz1 hz2 rfl (by decide) base 0 0 [] hs (fun _ => ⟨rfl, rfl⟩) rfl (fun _ _ j u hj => nil_get hj) ⟨g, 0, none⟩ n c (ovs os) hx (by rw [ovs_len]; omega) (ORow.cellsV hr) (ovs_one _) (by omega) (by unfold maxLen; omega) (by omega) ?_
    intro v' w' hown hgr
    obtain ⟨A', c', rfl, hr', hb'⟩ := after_appendO (os := os) (n := n) hown hgr (by omega)
    have h9 := hK A' c' w' (by rw [← hn']; exact hr'.mono hlb) hb'
    rw [hn']; exact h9
theorem wpList_append_orow {ops : Array Oper} {rest : List Oper} {o : Oper} {a : Act} {w : World} {Q : Exit → Act → World → Prop}
    (hg : o.guard = none) (s x : Operand) (hop : o.op = Op.call { callee := Callee.builtin Builtin.append, args := #[s, x], argTypes := #[28, 28] })
    (base : Option Addr) (lb : Nat) (hs : a.eval s = .slice base 0 0) (hbase : ORow w lb (.slice base 0 0) []) (hlb : lb ≤ w.heap.size)
    (lo : Nat) (A : Option Addr) (n c : Nat) (os : List Opv) (hx : a.eval x = .slice A n c) (hr : ORow w lo (.slice A n c) os) (hn : Hid (os.length = n)) (hb : n ≤ 1048576)
    (hK : ∀ A' c' w', ORow w' lb (.slice A' n c') os → Below w.heap.size w w' → wpList Try.prog ops Q rest (a.put o.dst (.slice A' n c')) w') : wpList Try.prog ops Q (o :: rest) a w := by
  have hn' := hn.out
  obtain ⟨i0, hi, hz0, hz1, hz2⟩ := info_parts infoOpC
  rcases Nat.eq_zero_or_pos n with h0 | h0
  · subst h0
    obtain rfl : os = [] := List.eq_nil_of_length_eq_zero hn'
    refine wpList_append_zero hg s x 28 hop 70 i0 Try.underlying28 hi base 0 0 hs (Nat.le_refl _) A 0 c rfl hx ?_
    intro w' hw'
    have e := hw'.out
    subst e
    exact hK base 0 _ hbase (Below.refl _ _)
  · obtain ⟨g, _, rfl, _⟩ := hr.get (k := 0) (by omega)
    refine wpList_append_grows w hg s x 28 hop 70 i0 (.agg #[.int .i64 0, .int .i64 0, .int .i64 0]) 3 24 Try.underlying28 hi hz0 hz1 hz2 rfl (by decide) base 0 0 [] hs (fun _ => ⟨rfl, rfl⟩) rfl (fun _ _ j u hj => nil_get hj) ⟨g, 0, none⟩ n c (ovs os) hx (by rw [ovs_len]; omega) (ORow.cellsV hr) (ovs_one _) (by omega) (by unfold maxLen; omega) (by omega) ?_
    intro v' w' hown hgr
    obtain ⟨A', c', rfl, hr', hb'⟩ := after_appendO (os := os) (n := n) hown hgr (by omega)
    have h9 := hK A' c' w' (by rw [← hn']; exact hr'.mono hlb) hb'
    rw [hn']; exact h9
def NewORowC (w : World) (n : Nat) (os : List Opv) (e : Ending) (w' : World) : Prop := ∃ A c, e = .returned (.slice A n c) ∧ ORow w' w.heap.size (.slice A n c) os ∧ Below w.heap.size w w'
set_option maxRecDepth 100000 in
set_option maxHeartbeats 2000000 in
theorem cloneOps_any (w : World) (lo : Nat) (A : Option Addr) (n c : Nat) (os : List Opv) (h : ORow w lo (.slice A n c) os) (hn : Hid (os.length = n)) (hb : n ≤ 1048576) :
    Calls Try.prog 78 #[.slice A n c] w (NewORowC w n os) := by
  by_cases hA : A = none
  · subst hA
    have h0 : n = 0 ∧ c = 0 := by
      rcases h.2 with ⟨e, _⟩ | ⟨g, cap, cur, e, _⟩
      · cases e; exact ⟨rfl, rfl⟩
      · cases e
    obtain ⟨rfl, rfl⟩ := h0
    have NE := fun W : World => Lib.run_eql_slice_nil (P := Try.prog) W 28 70 none 0 0 0 0 Try.underlying28
    go_enter Try.func78, Try.ntmps78
    go_wp2_with fail
    go_ret
    exact ⟨none, 0, rfl, ⟨ovs_len os, .inl ⟨rfl, hn.out⟩⟩, Below.refl _ _⟩
  · obtain ⟨g, rfl⟩ : ∃ g, A = some g := by cases A with | none => exact absurd rfl hA | some g => exact ⟨g, rfl⟩
    have E0 := ORow.emptyB w w.heap.size (Nat.le_refl _)
    have R := h.alloc (.cells #[] 70)
    have NE := fun W : World => Lib.run_eql_slice_nil (P := Try.prog) W 28 70 (some g) n c 0 0 Try.underlying28
    go_enter Try.func78, Try.ntmps78
    go_wp2_with (at_builtin; refine wpList_append_orow rfl _ _ rfl (some ⟨w.heap.size, 0, none⟩) w.heap.size rfl E0 (by simp) lo (some g) n c os rfl R hn hb ?_)
    intro A' c' w1 hr hb1
    have B1 : Below w.heap.size w w1 := ((Below.refl w.heap.size w).alloc (Nat.le_refl _) _).trans (hb1.mono (by simp))
    go_wp2_with fail
    go_ret
    exact ⟨A', c', rfl, hr, B1⟩

end Go.Proofs.Ytdifplakkepnkaa
