/- spec.l1Copy of a heap that may have no roots: the new rows lie in blocks, the empty one too. -/
import Derived.Test.YthbflohanjnaeaaCopys
import Derived.Test.YthbflohanjnaeaaPureN
import Derived.ArgAppend
import Derived.WalkSpells
import Derived.Deep.Upon
namespace Go.Proofs.Ythbflohanjnaeaa
open Go.RowKit

/-- A new heap comes back, whose three rows lie in blocks. -/
def NewHvB (w : World) (h : Hp) (e : Ending) (w' : World) : Prop := ∃ g0 c0 g1 c1 g2 c2, e = .returned (.agg #[.slice (some ⟨g0, 0, none⟩) h.l.length c0, .slice (some ⟨g1, 0, none⟩) h.r.length c1, .slice (some ⟨g2, 0, none⟩) h.t.length c2]) ∧
  Hv w' w.heap.size (.agg #[.slice (some ⟨g0, 0, none⟩) h.l.length c0, .slice (some ⟨g1, 0, none⟩) h.r.length c1, .slice (some ⟨g2, 0, none⟩) h.t.length c2]) h ∧ Below w.heap.size w w'
theorem rowE_at {w : World} {lo g : Nat} (hg : g = w.heap.size) (hlo : lo ≤ w.heap.size) : Row (w.alloc (.cells #[] 3)) lo (.slice (some ⟨g, 0, none⟩) 0 0) [] := by
  subst hg
  unfold Row
  exact ⟨rfl, .inr ⟨w.heap.size, 0, #[], rfl, hlo, heap_alloc_new w _, Nat.le_refl _, by unfold maxLen; omega, rfl, rfl⟩⟩
/-- A row that is not empty and one that is, without room, lie apart. -/
theorem apart_empty {w : World} {lo lo' : Nat} {v : Value} {xs : List Int} {g : Nat} (h : Row w lo v xs) (hp : 0 < xs.length) (h' : Row w lo' (.slice (some ⟨g, 0, none⟩) 0 0) []) : Apart v (.slice (some ⟨g, 0, none⟩) 0 0) := by
  intro b hb hb'
  obtain rfl : g = b := by simpa [Value.ownBlock] using hb'
  rcases h.2 with ⟨e, h0⟩ | ⟨g1, cap, cur, e, _, hg, h1, _, h3, _⟩
  · omega
  · subst e
    obtain rfl : g1 = g := by simpa [Value.ownBlock] using hb
    rcases h'.2 with ⟨e, _⟩ | ⟨g2, cap2, cur2, e, _, hg2, _, _, h4, _⟩
    · cases e
    · cases e
      rw [hg] at hg2
      have h5 : cur = cur2 := by simpa using hg2
      subst h5
      omega
theorem step_append_zeroR {P : Program} {ops : Array Oper} {o : Oper} {a : Act} {w : World} {K : Act → World → Prop} {Q : Exit → Act → World → Prop} {E : Prop}
    (hg : o.guard = none) (s x : Operand) (t : TypeId) (hop : o.op = Op.call { callee := Callee.builtin Builtin.append, args := #[s, x], argTypes := #[t, t] })
    (e : TypeId) (i : TypeInfo) (h1 : P.underlying t = some (.slice e)) (h2 : P.info? e = some i)
    (lo g : Nat) (hs : a.eval s = .slice (some ⟨g, 0, none⟩) 0 0) (hR : Row w lo (.slice (some ⟨g, 0, none⟩) 0 0) []) (ax : Option Addr) (cx : Nat) (hx : a.eval x = .slice ax 0 cx)
    (hK : ∀ v' w', Row w' lo v' [] → (∃ g, v' = .slice (some ⟨g, 0, none⟩) 0 0) → Below w.heap.size w w' → K (a.put o.dst v') w') :
    if Region.wanted o (yielded ops a.tmps) = true then Oper.wp P o a w K Q else E := by
  have hw : Region.wanted o (yielded ops a.tmps) = true := by simp [Region.wanted, hg]
  rw [if_pos hw]
  have h9 := hK _ _ hR ⟨g, rfl⟩ (Below.refl _ _)
  have hrun : (Builtin.append_ #[t, t] o.type #[.slice (some ⟨g, 0, none⟩) 0 0, .slice ax 0 cx]).run P w = .ok (.slice (some ⟨g, 0, none⟩) 0 0) w := by
    refine run_append_nothing w t t o.type e i h1 h2 _ 0 0 (Nat.le_refl _) _ ?_
    cases ax with
    | none => exact Src.ofNil w h1 cx
    | some ad => exact Src.ofSlice w h1 ad 0 cx [] (by simp) (fun j u hj => by simp at hj) (fun u hu => by simp at hu)
  unfold Oper.wp
  simp [execOp, hop, resolve, invoke, builtin, hs, hx, hrun, Result.andThen]
  exact h9

set_option maxRecDepth 100000 in
set_option maxHeartbeats 3200000 in
theorem l1CopyE_any (w : World) (lo : Nat) (v : Value) (h : Hp) (hv : Hv w lo v h) (z0 : 0 < h.l.length) (z1 : 0 < h.r.length) (z2 : h.t = []) (b0 : h.l.length ≤ 1048576) (b1 : h.r.length ≤ 1048576) :
    Calls Try.prog 66 #[v] w (NewHvB w h) := by
  obtain ⟨A0, n0, c0, A1, n1, c1, A2, n2, c2, rfl, ⟨h0, h1, h2⟩, ⟨l0, l1, l2⟩, _⟩ := hv.open_
  obtain ⟨g0, rfl, _, _⟩ := h0.at_ z0
  obtain ⟨g1, rfl, _, _⟩ := h1.at_ z1
  have y0 : n0 = h.l.length := l0.out.symm
  have y1 : n1 = h.r.length := l1.out.symm
  obtain rfl : n2 = 0 := by rw [← l2.out, z2]; rfl
  obtain ⟨i0, hi, hz0, hz1, hz2⟩ := info_parts Try.infoInt
  have E0 : (h.l.map iv).length = n0 * 1 := by simp; omega
  have E1 : (h.r.map iv).length = n1 * 1 := by simp; omega
  have M0 : 0 + n0 ≤ maxLen := by unfold maxLen; omega
  have M1 : 0 + n1 ≤ maxLen := by unfold maxLen; omega
  have u0 : 0 < n0 ∧ n0 ≤ 1048576 := by omega
  have u1 : 0 < n1 ∧ n1 ≤ 1048576 := by omega
  obtain ⟨u0a, u0b⟩ := u0
  obtain ⟨u1a, u1b⟩ := u1
  have L0 : Hid (0 + n0 = h.l.length) := by unfold Hid; omega
  have L1 : Hid (0 + n1 = h.r.length) := by unfold Hid; omega
  clear hv y0 y1
  have X0 := (Blk3.new w (.slice (some ⟨g0, 0, none⟩) n0 c0) (.slice (some ⟨g1, 0, none⟩) n1 c1) (.slice A2 0 c2) 25).alloc (.cells #[.slice none 0 0, .slice none 0 0, .slice none 0 0] 25)
  obtain ⟨p00, p01, p02, _⟩ := X0.cells
  have Y0 := Blk3.new_at (w := w.alloc (.cells #[.slice (some ⟨g0, 0, none⟩) n0 c0, .slice (some ⟨g1, 0, none⟩) n1 c1, .slice A2 0 c2] 25)) (b := w.heap.size + 1) (by simp) (.slice none 0 0) (.slice none 0 0) (.slice none 0 0) 25
  go_enter Try.func66, Try.ntmps66
  go_wp2_with fail
  go_region_held3 (fun w' => w'.cell? ⟨w.heap.size, 0, none⟩ = some (.slice (some ⟨g0, 0, none⟩) n0 c0) ∧ w'.cell? ⟨w.heap.size, 1, none⟩ = some (.slice (some ⟨g1, 0, none⟩) n1 c1) ∧ w'.cell? ⟨w.heap.size, 2, none⟩ = some (.slice A2 0 c2))
    (((try dsimp only); (repeat' apply And.intro) <;> (first | ((repeat (with_reducible (first | exact p30 | exact p31 | exact p32 | exact p20 | exact p21 | exact p22 | exact p10 | exact p11 | exact p12 | exact p00 | exact p01 | exact p02 | refine cellD ?_ | refine cellA ?_ _))); done) | (rw [World.cell?_setCell_far _ _ _ _ (by simp), World.cell?_setCell_far _ _ _ _ (by simp), World.cell?_setCell_far _ _ _ _ (by simp)]; first | exact p30 | exact p31 | exact p32) | (go_keep; done))))
    (first
      | (refine step_append_grows rfl (.tmp 3) (.tmp 5) 23 rfl 3 i0 (.int .i64 0) 1 8 Try.underlying23 hi hz0 hz1 hz2 rfl (by decide) _ 0 0 [] (by rfl) (fun _ => ⟨rfl, rfl⟩) rfl (fun _ _ j u hj => nil_get hj) ⟨g0, 0, none⟩ n0 c0 (h.l.map iv) (by rfl) E0 ?_ (ints_oneCell _ _) (by omega) (by omega) (by omega) ?_; (exact Row.cellsV (lo := lo) (n := n0) (c := c0) (xs := h.l) (by repeat (with_reducible (first | refine Row.drew ?_ | refine Row.alloc ?_ _ | exact h0)))); intro v0 w1 hown0 hgr0; obtain ⟨A0', c0', rfl, hr0, hb1⟩ := after_append (xs := h.l) hown0 hgr0 L0.out; have X1 : Blk3 w1 w.heap.size (.slice (some ⟨g0, 0, none⟩) n0 c0) (.slice (some ⟨g1, 0, none⟩) n1 c1) (.slice A2 0 c2) 25 := (by repeat (with_reducible (first | exact X0 | refine Blk3.drew ?_ | refine Blk3.alloc ?_ _ | refine Blk3.below ?_ hb1))); have Y1 : Blk3 w1 (w.heap.size + 1) (.slice none 0 0) (.slice none 0 0) (.slice none 0 0) 25 := (by repeat (with_reducible (first | exact Y0 | refine Blk3.drew ?_ | refine Blk3.alloc ?_ _ | refine Blk3.below ?_ hb1))); obtain ⟨p10, p11, p12, _⟩ := X1.cells; obtain ⟨q10, q11, q12, f10, f11, f12⟩ := Y1.cells; (have sz1 : w.heap.size + 2 ≤ w1.heap.size := (by have := hb1.size; (try simp at this); omega)); clear hown0 hgr0)
      | (refine step_append_grows rfl (.tmp 7) (.tmp 9) 23 rfl 3 i0 (.int .i64 0) 1 8 Try.underlying23 hi hz0 hz1 hz2 rfl (by decide) _ 0 0 [] (by rfl) (fun _ => ⟨rfl, rfl⟩) rfl (fun _ _ j u hj => nil_get hj) ⟨g1, 0, none⟩ n1 c1 (h.r.map iv) (by rfl) E1 ?_ (ints_oneCell _ _) (by omega) (by omega) (by omega) ?_; (exact Row.cellsV (lo := lo) (n := n1) (c := c1) (xs := h.r) (by repeat (with_reducible (first | refine Row.drew ?_ | refine Row.alloc ?_ _ | exact h1 | refine Row.below ?_ hb1)))); intro v1 w2 hown1 hgr1; obtain ⟨A1', c1', rfl, hr1, hb2⟩ := after_append (xs := h.r) hown1 hgr1 L1.out; have X2 : Blk3 w2 w.heap.size (.slice (some ⟨g0, 0, none⟩) n0 c0) (.slice (some ⟨g1, 0, none⟩) n1 c1) (.slice A2 0 c2) 25 := (by repeat (with_reducible (first | exact X0 | refine Blk3.drew ?_ | refine Blk3.alloc ?_ _ | refine Blk3.below ?_ hb2 | refine Blk3.below ?_ hb1))); have Y2 : Blk3 w2 (w.heap.size + 1) (.slice none 0 0) (.slice none 0 0) (.slice none 0 0) 25 := (by repeat (with_reducible (first | exact Y0 | refine Blk3.drew ?_ | refine Blk3.alloc ?_ _ | refine Blk3.below ?_ hb2 | refine Blk3.below ?_ hb1))); obtain ⟨p20, p21, p22, _⟩ := X2.cells; obtain ⟨q20, q21, q22, f20, f21, f22⟩ := Y2.cells; (have sz2 : w.heap.size + 2 ≤ w2.heap.size := (by have := hb2.size; (try simp at this); omega)); clear hown1 hgr1)
      | (refine step_append_zeroR rfl (.tmp 11) (.tmp 13) 23 rfl 3 i0 Try.underlying23 hi (w.heap.size + 2) _ (by rfl) (by repeat (with_reducible (first | (refine rowE_at ?_ ?_ <;> first | omega | (simp <;> omega)) | refine Row.drew ?_ | refine Row.alloc ?_ _ | refine Row.below ?_ hb2 | refine Row.below ?_ hb1))) A2 c2 (by rfl) ?_; intro v2 w3 hr2 hv2 hb3; obtain ⟨g2, hv2⟩ := hv2; subst hv2; have X3 : Blk3 w3 w.heap.size (.slice (some ⟨g0, 0, none⟩) n0 c0) (.slice (some ⟨g1, 0, none⟩) n1 c1) (.slice A2 0 c2) 25 := (by repeat (with_reducible (first | exact X0 | refine Blk3.drew ?_ | refine Blk3.alloc ?_ _ | refine Blk3.below ?_ hb3 | refine Blk3.below ?_ hb2 | refine Blk3.below ?_ hb1))); have Y3 : Blk3 w3 (w.heap.size + 1) (.slice none 0 0) (.slice none 0 0) (.slice none 0 0) 25 := (by repeat (with_reducible (first | exact Y0 | refine Blk3.drew ?_ | refine Blk3.alloc ?_ _ | refine Blk3.below ?_ hb3 | refine Blk3.below ?_ hb2 | refine Blk3.below ?_ hb1))); obtain ⟨p30, p31, p32, _⟩ := X3.cells; obtain ⟨q30, q31, q32, f30, f31, f32⟩ := Y3.cells))
  all_goals
    have B1 : Below w.heap.size w w1 := Below.trans (by repeat (with_reducible (first | exact Below.refl _ _ | refine Below.drew ?_ | refine Below.alloc ?_ (by first | omega | (simp <;> omega)) _))) (hb1.mono (by first | omega | (simp <;> omega)))
    have s1 : w.heap.size + 2 ≤ w1.heap.size := by have := hb1.size; simp at this; omega
    have B2 : Below w.heap.size w w2 := Below.trans (by repeat (with_reducible (first | exact B1 | refine Below.drew ?_ | refine Below.alloc ?_ (by first | omega | (simp <;> omega)) _))) (hb2.mono (by first | omega | (simp <;> omega)))
    have s2 : w.heap.size + 2 ≤ w2.heap.size := by have := hb2.size; (try simp at this); omega
    have B3 : Below w.heap.size w w3 := Below.trans (by repeat (with_reducible (first | exact B2 | refine Below.drew ?_ | refine Below.alloc ?_ (by first | omega | (simp <;> omega)) _))) (hb3.mono (by first | omega | (simp <;> omega)))
    have r0 := hr0.mono (lo' := w.heap.size + 2) (by first | omega | (simp <;> omega))
    have r1 := hr1.mono (lo' := w.heap.size + 2) (by first | omega | (simp <;> omega))
    have a01 := apart_new (lo := w.heap.size + 2) (v := .slice A0' h.l.length c0') (xs := h.l) (by repeat (with_reducible (first | exact r0 | refine Row.drew ?_ | refine Row.alloc ?_ _))) hr1
    have R0 : Row w3 _ _ _ := (by repeat (with_reducible (first | exact r0 | refine Row.drew ?_ | refine Row.alloc ?_ _ | refine Row.below ?_ hb3 | refine Row.below ?_ hb2)) : Row w3 (w.heap.size + 2) (.slice A0' h.l.length c0') h.l)
    have R1 : Row w3 _ _ _ := (by repeat (with_reducible (first | exact r1 | refine Row.drew ?_ | refine Row.alloc ?_ _ | refine Row.below ?_ hb3)) : Row w3 (w.heap.size + 2) (.slice A1' h.r.length c1') h.r)
    have a02 := apart_empty R0 z0 hr2
    have a12 := apart_empty R1 z1 hr2
    have ht2 : Row w3 (w.heap.size + 2) (.slice (some ⟨g2, 0, none⟩) 0 0) h.t := by rw [z2]; exact hr2
    obtain ⟨hH, hB⟩ := copy_done R0 R1 ht2 a01 a02 a12 B3
    obtain ⟨h0', rfl, _⟩ := R0.at_ z0
    obtain ⟨h1', rfl, _⟩ := R1.at_ z1
    clear p00 p01 p02 p10 p11 p12 p20 p21 p22 p30 p31 p32 q10 q11 q12 q20 q21 q22
    go_wp2_with fail
    refine bodyPost_ret (v := .agg #[.slice (some ⟨h0', 0, none⟩) h.l.length c0', .slice (some ⟨h1', 0, none⟩) h.r.length c1', .slice (some ⟨g2, 0, none⟩) 0 0]) ?_ rfl ⟨h0', c0', h1', c1', g2, 0, by rw [z2]; rfl, by rw [z2]; exact hH, hB⟩
    simp [results, Try.results66, go_sem, q30, q31, q32]
theorem l1CopyG_any (w : World) (lo : Nat) (v : Value) (h : Hp) (hv : Hv w lo v h) (z0 : 0 < h.l.length) (z1 : 0 < h.r.length) (b0 : h.l.length ≤ 1048576) (b1 : h.r.length ≤ 1048576) (b2 : h.t.length ≤ 1048576) :
    Calls Try.prog 66 #[v] w (NewHvB w h) := by
  rcases Nat.eq_zero_or_pos h.t.length with z2 | z2
  · exact l1CopyE_any w lo v h hv z0 z1 (List.eq_nil_of_length_eq_zero z2) b0 b1
  · refine (l1Copy_any w lo v h hv z0 z1 z2 b0 b1 b2).mono ?_
    rintro e w' ⟨v', rfl, hH, hB⟩
    obtain ⟨A0, c0, A1, c1, A2, c2, rfl, r0, r1, r2, _⟩ := hH.form
    obtain ⟨g0, rfl, _⟩ := r0.at_ z0
    obtain ⟨g1, rfl, _⟩ := r1.at_ z1
    obtain ⟨g2, rfl, _⟩ := r2.at_ z2
    exact ⟨g0, c0, g1, c1, g2, c2, rfl, hH, hB⟩
end Go.Proofs.Ythbflohanjnaeaa
