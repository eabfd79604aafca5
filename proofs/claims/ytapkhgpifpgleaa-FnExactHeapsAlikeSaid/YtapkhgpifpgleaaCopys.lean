import Derived.Test.YtapkhgpifpgleaaHpA
import Derived.Deep.AppendLies
import Derived.Deep.RegionLaw
import Derived.Deep.RegionLawGrows
/- Heaps that are copied: impl.copyOfHeap, spec.l1Copy. -/
namespace Go.Proofs.Ytapkhgpifpgleaa
open Go.RowKit

/-- A new heap comes back, and nothing that was there has turned. -/
def NewHv (w : World) (h : Hp) (e : Ending) (w' : World) : Prop := ∃ v, e = .returned v ∧ Hv w' w.heap.size v h ∧ Below w.heap.size w w'

theorem apart_new {w w' : World} {lo : Nat} {v v' : Value} {xs xs' : List Int} (h : Row w lo v xs) (h' : Row w' w.heap.size v' xs') : Apart v v' := fun b hb hb' => by
  have := (h.lt b hb).2; have := (h'.lt b hb').1; omega
theorem bcell {W w1 : World} (hb : Below W.heap.size W w1) : (∀ b o, b < W.heap.size → w1.cell? ⟨b, o, none⟩ = W.cell? ⟨b, o, none⟩) ∧ (∀ b o, b < W.heap.size → w1.frozen? ⟨b, o, none⟩ = W.frozen? ⟨b, o, none⟩) :=
  ⟨fun b o h => hb.cell (p := ⟨b, o, none⟩) h, fun b o h => hb.frozen (p := ⟨b, o, none⟩) h⟩
theorem Apart.symm {u v : Value} (h : Apart u v) : Apart v u := fun b hb hb' => h b hb' hb

end Go.Proofs.Ytapkhgpifpgleaa

/- Heaps that are copied: spec.l1Copy: three appends to new slices, in whatever order the slices are made. -/
namespace Go.Proofs.Ytapkhgpifpgleaa
open Go.RowKit

theorem Row.cellsV {w : World} {lo g n c : Nat} {xs : List Int} (h : Row w lo (.slice (some ⟨g, 0, none⟩) n c) xs) : ∀ (j : Nat) (u : Value), (xs.map iv)[j]? = some u → w.cell? ((⟨g, 0, none⟩ : Addr).add j) = some u := by
  intro j u hj
  obtain ⟨A, c', e, _⟩ := h.form
  cases e
  exact World.ownsRow.cells h (g := g) rfl j u hj
theorem Blk3.drew {w : World} {b : Nat} {x y z : Value} {t : TypeId} (h : Blk3 w b x y z t) : Blk3 w.drew b x y z t := h
theorem below_of_grown {w w' : World} (h : w.grownBy w' none) : Below w.heap.size w w' := ⟨h.os, h.tape, h.output, h.size, fun k hk => h.block k hk (by simp)⟩
theorem nil_get {j : Nat} {u : Value} {P : Prop} (h : ([] : List Value)[j]? = some u) : P := by simp at h
theorem cellA {w : World} {a : Addr} {u : Value} (h : w.cell? a = some u) (o : Obj) : (w.alloc o).cell? a = some u := by
  rw [World.cell?_alloc_lt _ _ _ (World.block_lt_of_cell? w a h)]; exact h
theorem cellD {w : World} {a : Addr} {u : Value} (h : w.cell? a = some u) : w.drew.cell? a = some u := h

theorem after_append {W w' : World} {v' : Value} {n : Nat} {xs : List Int} (hown : w'.ownsRow W.heap.size 3 1 v' (0 + n) ([] ++ xs.map iv)) (hgr : W.grownBy w' none) (hn : 0 + n = xs.length) :
    ∃ A c, v' = .slice A xs.length c ∧ Row w' W.heap.size (.slice A xs.length c) xs ∧ Below W.heap.size W w' := by
  have hr : Row w' W.heap.size v' xs := Row.of_own hown (by simp) hn
  obtain ⟨A, c, rfl, _⟩ := hr.form
  exact ⟨A, c, rfl, hr, below_of_grown hgr⟩

theorem copy_done {w w3 : World} {v0 v1 v2 : Value} {h : Hp} (r0 : Row w3 (w.heap.size + 2) v0 h.l) (r1 : Row w3 (w.heap.size + 2) v1 h.r) (r2 : Row w3 (w.heap.size + 2) v2 h.t)
    (a01 : Apart v0 v1) (a02 : Apart v0 v2) (a12 : Apart v1 v2) (hB : Below w.heap.size w w3) :
    Hv (((w3.setCell ⟨w.heap.size + 1, 0, none⟩ v0).setCell ⟨w.heap.size + 1, 1, none⟩ v1).setCell ⟨w.heap.size + 1, 2, none⟩ v2) w.heap.size (.agg #[v0, v1, v2]) h ∧
    Below w.heap.size w (((w3.setCell ⟨w.heap.size + 1, 0, none⟩ v0).setCell ⟨w.heap.size + 1, 1, none⟩ v1).setCell ⟨w.heap.size + 1, 2, none⟩ v2) := by
  have k : ∀ (v : Value) (xs : List Int), Row w3 (w.heap.size + 2) v xs → v.ownBlock ≠ some (w.heap.size + 1) := fun v xs r e => by have := (r.lt _ e).1; omega
  have t : ∀ (v : Value) (xs : List Int), Row w3 (w.heap.size + 2) v xs → Row (((w3.setCell ⟨w.heap.size + 1, 0, none⟩ v0).setCell ⟨w.heap.size + 1, 1, none⟩ v1).setCell ⟨w.heap.size + 1, 2, none⟩ v2) w.heap.size v xs :=
    fun v xs r => (((r.other (k v xs r) _).other (k v xs r) _).other (k v xs r) _).mono (by omega)
  exact ⟨⟨v0, v1, v2, rfl, t _ _ r0, t _ _ r1, t _ _ r2, a01, a02, a12⟩, ((hB.setCell (by simp) _).setCell (by simp) _).setCell (by simp) _⟩

set_option maxRecDepth 100000 in
set_option maxHeartbeats 3200000 in
theorem l1Copy_any (w : World) (lo : Nat) (v : Value) (h : Hp) (hv : Hv w lo v h) (z0 : 0 < h.l.length) (z1 : 0 < h.r.length) (z2 : 0 < h.t.length) (b0 : h.l.length ≤ 1048576) (b1 : h.r.length ≤ 1048576) (b2 : h.t.length ≤ 1048576) :
    Calls Try.prog 56 #[v] w (NewHv w h) := by
  obtain ⟨A0, n0, c0, A1, n1, c1, A2, n2, c2, rfl, ⟨h0, h1, h2⟩, ⟨l0, l1, l2⟩, _⟩ := hv.open_
  obtain ⟨g0, rfl, _, _⟩ := h0.at_ z0
  obtain ⟨g1, rfl, _, _⟩ := h1.at_ z1
  obtain ⟨g2, rfl, _, _⟩ := h2.at_ z2
  have y0 : n0 = h.l.length := l0.out.symm
  have y1 : n1 = h.r.length := l1.out.symm
  have y2 : n2 = h.t.length := l2.out.symm
  obtain ⟨i0, hi, hz0, hz1, hz2⟩ := info_parts Try.infoInt
  have E0 : (h.l.map iv).length = n0 * 1 := by simp; omega
  have E1 : (h.r.map iv).length = n1 * 1 := by simp; omega
  have E2 : (h.t.map iv).length = n2 * 1 := by simp; omega
  have M0 : 0 + n0 ≤ maxLen := by unfold maxLen; omega
  have M1 : 0 + n1 ≤ maxLen := by unfold maxLen; omega
  have M2 : 0 + n2 ≤ maxLen := by unfold maxLen; omega
  have u0 : 0 < n0 ∧ n0 ≤ 1048576 := by omega
  have u1 : 0 < n1 ∧ n1 ≤ 1048576 := by omega
  have u2 : 0 < n2 ∧ n2 ≤ 1048576 := by omega
  obtain ⟨u0a, u0b⟩ := u0
  obtain ⟨u1a, u1b⟩ := u1
  obtain ⟨u2a, u2b⟩ := u2
  have L0 : Hid (0 + n0 = h.l.length) := by unfold Hid; omega
  have L1 : Hid (0 + n1 = h.r.length) := by unfold Hid; omega
  have L2 : Hid (0 + n2 = h.t.length) := by unfold Hid; omega
  clear hv y0 y1 y2
  have X0 := (Blk3.new w (.slice (some ⟨g0, 0, none⟩) n0 c0) (.slice (some ⟨g1, 0, none⟩) n1 c1) (.slice (some ⟨g2, 0, none⟩) n2 c2) 27).alloc (.cells #[.slice none 0 0, .slice none 0 0, .slice none 0 0] 27)
  obtain ⟨p00, p01, p02, _⟩ := X0.cells
  have Y0 := Blk3.new_at (w := w.alloc (.cells #[.slice (some ⟨g0, 0, none⟩) n0 c0, .slice (some ⟨g1, 0, none⟩) n1 c1, .slice (some ⟨g2, 0, none⟩) n2 c2] 27)) (b := w.heap.size + 1) (by simp) (.slice none 0 0) (.slice none 0 0) (.slice none 0 0) 27
  go_enter Try.func56, Try.ntmps56
  go_wp2_with fail
  go_region_held3 (fun w' => w'.cell? ⟨w.heap.size, 0, none⟩ = some (.slice (some ⟨g0, 0, none⟩) n0 c0) ∧ w'.cell? ⟨w.heap.size, 1, none⟩ = some (.slice (some ⟨g1, 0, none⟩) n1 c1) ∧ w'.cell? ⟨w.heap.size, 2, none⟩ = some (.slice (some ⟨g2, 0, none⟩) n2 c2))
    (((try dsimp only); (repeat' apply And.intro) <;> (first | ((repeat (with_reducible (first | exact p30 | exact p31 | exact p32 | exact p20 | exact p21 | exact p22 | exact p10 | exact p11 | exact p12 | exact p00 | exact p01 | exact p02 | refine cellD ?_ | refine cellA ?_ _))); done) | (rw [World.cell?_setCell_far _ _ _ _ (by simp), World.cell?_setCell_far _ _ _ _ (by simp), World.cell?_setCell_far _ _ _ _ (by simp)]; first | exact p30 | exact p31 | exact p32) | (go_keep; done))))
    (first
      | (refine step_append_grows rfl (.tmp 3) (.tmp 5) 22 rfl 3 i0 (.int .i64 0) 1 8 Try.underlying22 hi hz0 hz1 hz2 rfl (by decide) _ 0 0 [] (by rfl) (fun _ => ⟨rfl, rfl⟩) rfl (fun _ _ j u hj => nil_get hj) ⟨g0, 0, none⟩ n0 c0 (h.l.map iv) (by rfl) E0 ?_ (ints_oneCell _ _) (by omega) (by omega) (by omega) ?_; (exact Row.cellsV (lo := lo) (n := n0) (c := c0) (xs := h.l) (by repeat (with_reducible (first | refine Row.drew ?_ | refine Row.alloc ?_ _ | exact h0)))); intro v0 w1 hown0 hgr0; obtain ⟨A0', c0', rfl, hr0, hb1⟩ := after_append (xs := h.l) hown0 hgr0 L0.out; have X1 : Blk3 w1 w.heap.size (.slice (some ⟨g0, 0, none⟩) n0 c0) (.slice (some ⟨g1, 0, none⟩) n1 c1) (.slice (some ⟨g2, 0, none⟩) n2 c2) 27 := (by repeat (with_reducible (first | exact X0 | refine Blk3.drew ?_ | refine Blk3.alloc ?_ _ | refine Blk3.below ?_ hb1))); have Y1 : Blk3 w1 (w.heap.size + 1) (.slice none 0 0) (.slice none 0 0) (.slice none 0 0) 27 := (by repeat (with_reducible (first | exact Y0 | refine Blk3.drew ?_ | refine Blk3.alloc ?_ _ | refine Blk3.below ?_ hb1))); obtain ⟨p10, p11, p12, _⟩ := X1.cells; obtain ⟨q10, q11, q12, f10, f11, f12⟩ := Y1.cells; clear hown0 hgr0)
      | (refine step_append_grows rfl (.tmp 7) (.tmp 9) 22 rfl 3 i0 (.int .i64 0) 1 8 Try.underlying22 hi hz0 hz1 hz2 rfl (by decide) _ 0 0 [] (by rfl) (fun _ => ⟨rfl, rfl⟩) rfl (fun _ _ j u hj => nil_get hj) ⟨g1, 0, none⟩ n1 c1 (h.r.map iv) (by rfl) E1 ?_ (ints_oneCell _ _) (by omega) (by omega) (by omega) ?_; (exact Row.cellsV (lo := lo) (n := n1) (c := c1) (xs := h.r) (by repeat (with_reducible (first | refine Row.drew ?_ | refine Row.alloc ?_ _ | exact h1 | refine Row.below ?_ hb1)))); intro v1 w2 hown1 hgr1; obtain ⟨A1', c1', rfl, hr1, hb2⟩ := after_append (xs := h.r) hown1 hgr1 L1.out; have X2 : Blk3 w2 w.heap.size (.slice (some ⟨g0, 0, none⟩) n0 c0) (.slice (some ⟨g1, 0, none⟩) n1 c1) (.slice (some ⟨g2, 0, none⟩) n2 c2) 27 := (by repeat (with_reducible (first | exact X0 | refine Blk3.drew ?_ | refine Blk3.alloc ?_ _ | refine Blk3.below ?_ hb2 | refine Blk3.below ?_ hb1))); have Y2 : Blk3 w2 (w.heap.size + 1) (.slice none 0 0) (.slice none 0 0) (.slice none 0 0) 27 := (by repeat (with_reducible (first | exact Y0 | refine Blk3.drew ?_ | refine Blk3.alloc ?_ _ | refine Blk3.below ?_ hb2 | refine Blk3.below ?_ hb1))); obtain ⟨p20, p21, p22, _⟩ := X2.cells; obtain ⟨q20, q21, q22, f20, f21, f22⟩ := Y2.cells; clear hown1 hgr1)
      | (refine step_append_grows rfl (.tmp 11) (.tmp 13) 22 rfl 3 i0 (.int .i64 0) 1 8 Try.underlying22 hi hz0 hz1 hz2 rfl (by decide) _ 0 0 [] (by rfl) (fun _ => ⟨rfl, rfl⟩) rfl (fun _ _ j u hj => nil_get hj) ⟨g2, 0, none⟩ n2 c2 (h.t.map iv) (by rfl) E2 ?_ (ints_oneCell _ _) (by omega) (by omega) (by omega) ?_; (exact Row.cellsV (lo := lo) (n := n2) (c := c2) (xs := h.t) (by repeat (with_reducible (first | refine Row.drew ?_ | refine Row.alloc ?_ _ | exact h2 | refine Row.below ?_ hb2 | refine Row.below ?_ hb1)))); intro v2 w3 hown2 hgr2; obtain ⟨A2', c2', rfl, hr2, hb3⟩ := after_append (xs := h.t) hown2 hgr2 L2.out; have X3 : Blk3 w3 w.heap.size (.slice (some ⟨g0, 0, none⟩) n0 c0) (.slice (some ⟨g1, 0, none⟩) n1 c1) (.slice (some ⟨g2, 0, none⟩) n2 c2) 27 := (by repeat (with_reducible (first | exact X0 | refine Blk3.drew ?_ | refine Blk3.alloc ?_ _ | refine Blk3.below ?_ hb3 | refine Blk3.below ?_ hb2 | refine Blk3.below ?_ hb1))); have Y3 : Blk3 w3 (w.heap.size + 1) (.slice none 0 0) (.slice none 0 0) (.slice none 0 0) 27 := (by repeat (with_reducible (first | exact Y0 | refine Blk3.drew ?_ | refine Blk3.alloc ?_ _ | refine Blk3.below ?_ hb3 | refine Blk3.below ?_ hb2 | refine Blk3.below ?_ hb1))); obtain ⟨p30, p31, p32, _⟩ := X3.cells; obtain ⟨q30, q31, q32, f30, f31, f32⟩ := Y3.cells; clear hown2 hgr2))
  all_goals
    have B1 : Below w.heap.size w w1 := Below.trans (by repeat (with_reducible (first | exact Below.refl _ _ | refine Below.drew ?_ | refine Below.alloc ?_ (by first | omega | (simp <;> omega)) _))) (hb1.mono (by first | omega | (simp <;> omega)))
    have s1 : w.heap.size + 2 ≤ w1.heap.size := by have := hb1.size; simp at this; omega
    have B2 : Below w.heap.size w w2 := Below.trans (by repeat (with_reducible (first | exact B1 | refine Below.drew ?_ | refine Below.alloc ?_ (by first | omega | (simp <;> omega)) _))) (hb2.mono (by first | omega | (simp <;> omega)))
    have s2 : w.heap.size + 2 ≤ w2.heap.size := by have := hb2.size; (try simp at this); omega
    have B3 : Below w.heap.size w w3 := Below.trans (by repeat (with_reducible (first | exact B2 | refine Below.drew ?_ | refine Below.alloc ?_ (by first | omega | (simp <;> omega)) _))) (hb3.mono (by first | omega | (simp <;> omega)))
    have r0 := hr0.mono (lo' := w.heap.size + 2) (by first | omega | (simp <;> omega))
    have r1 := hr1.mono (lo' := w.heap.size + 2) (by first | omega | (simp <;> omega))
    have r2 := hr2.mono (lo' := w.heap.size + 2) (by first | omega | (simp <;> omega))
    have a01 := apart_new (lo := w.heap.size + 2) (v := .slice A0' h.l.length c0') (xs := h.l) (by repeat (with_reducible (first | exact r0 | refine Row.drew ?_ | refine Row.alloc ?_ _))) hr1
    have a12 := apart_new (lo := w.heap.size + 2) (v := .slice A1' h.r.length c1') (xs := h.r) (by repeat (with_reducible (first | exact r1 | refine Row.drew ?_ | refine Row.alloc ?_ _))) hr2
    have a02 := apart_new (lo := w.heap.size + 2) (v := .slice A0' h.l.length c0') (xs := h.l) (by repeat (with_reducible (first | exact r0 | refine Row.drew ?_ | refine Row.alloc ?_ _ | refine Row.below ?_ hb2))) hr2
    have R0 : Row w3 _ _ _ := (by repeat (with_reducible (first | exact r0 | refine Row.drew ?_ | refine Row.alloc ?_ _ | refine Row.below ?_ hb3 | refine Row.below ?_ hb2)) : Row w3 (w.heap.size + 2) (.slice A0' h.l.length c0') h.l)
    have R1 : Row w3 _ _ _ := (by repeat (with_reducible (first | exact r1 | refine Row.drew ?_ | refine Row.alloc ?_ _ | refine Row.below ?_ hb3)) : Row w3 (w.heap.size + 2) (.slice A1' h.r.length c1') h.r)
    obtain ⟨hH, hB⟩ := copy_done R0 R1 r2 a01 a02 a12 B3
    clear p00 p01 p02 p10 p11 p12 p20 p21 p22 p30 p31 p32 q10 q11 q12 q20 q21 q22
    go_wp2_with fail
    refine bodyPost_ret (v := .agg #[.slice A0' h.l.length c0', .slice A1' h.r.length c1', .slice A2' h.t.length c2']) ?_ rfl ⟨_, rfl, hH, hB⟩
    simp [results, Try.results56, go_sem, q30, q31, q32]
end Go.Proofs.Ytapkhgpifpgleaa

