/- countDown and release of impl. -/
import Derived.Test.YteogflkahoanlaaGivM
import Derived.RegionTactic
import Derived.BigRegion
namespace Go.Proofs.Yteogflkahoanlaa
open Go.RowKit

set_option maxRecDepth 100000 in
set_option maxHeartbeats 2000000 in
theorem countDown_any (K : Bool) (w : World) (lo b : Nat) (x0 x1 x2 x3 : Value) (A : Option Addr) (n c : Nat) (D : Dp) (h : MAt K w lo b 61 x0 x1 x2 x3 (.slice A n c) D) (k : Nat) (hk : k < D.n.length) (z : Int) (hz : Hid (D.n[k]? = some z)) (hz1 : 1 ≤ z) (hz2 : z ≤ 1048576) :
    Calls Try.prog 90 #[.pointer (some ⟨b, 0, none⟩), .int .i64 k] w fun e w' => e = .returned (.bool (decide (z = 1))) ∧ MAt K w' lo b 61 x0 x1 x2 x3 (.slice A n c) ⟨D.C, D.n.set k (z - 1)⟩ ∧ Fr (fun j => (Value.slice A n c).ownBlock = some j) w w' := by
  obtain ⟨g, y, hA, _, _, hy, hcy, hfy⟩ := h.r4.get hk
  obtain rfl : y = z := by have := hy.out; rw [hz.out] at this; cases this; rfl
  have hn : D.n.length = n := by obtain ⟨_, _, e, _⟩ := h.r4.form; cases e; rfl
  have hkn : (k : Int) < (n : Int) := by omega
  have h' := h.setN hA k (y - 1)
  have hF := only1 w g k (.int .i64 (y - 1))
  have hgb : g ≠ b := fun e => h.o4 (by rw [hA, e]; rfl)
  have hbg : b ≠ g := fun e => hgb e.symm
  obtain ⟨b0, b1, b2, b3, b4, -⟩ := h.blk.cells
  subst hA
  have hF' : Fr (fun j => (Value.slice (some ⟨g, 0, none⟩) n c).ownBlock = some j) w (w.setCell ⟨g, k, none⟩ (.int .i64 (y - 1))) := hF.mono (fun j _ e => by subst e; rfl)
  clear hF hy hz h hn hk
  by_cases h1 : y = 1
  · subst h1
    go_enter Try.func90, Try.ntmps90
    go_wp2_with fail
    go_ret
    exact ⟨rfl, h', hF'⟩
  · have h2 : (y - 1 == 0) = false := by rw [beq_eq_false_iff_ne]; omega
    have h3 : Hid (decide (y = 1) = false) := by unfold Hid; simp [h1]
    go_enter Try.func90, Try.ntmps90
    go_wp2_with fail
    go_ret
    exact ⟨ret_bool h3.out.symm, h', hF'⟩

set_option maxRecDepth 100000 in
set_option maxHeartbeats 4000000 in
theorem release_any (K : Bool) (w : World) (lo b : Nat) (_hlo : lo ≤ w.heap.size) (A0 A1 A3 : Option Addr) (n0 c0 n1 c1 n3 c3 : Nat) (x2 x4 : Value) (D : Dp) (h : MAt K w lo b 61 (.slice A0 n0 c0) (.slice A1 n1 c1) x2 (.slice A3 n3 c3) x4 D) (k : Nat) (hk0 : k < D.C.h.l.length) (hk1 : k < D.C.h.r.length) (hb : n3 ≤ 1000000) :
    Calls Try.prog 91 #[.pointer (some ⟨b, 0, none⟩), .int .i64 k] w fun e w' => e = .returned (.tuple #[]) ∧
      ∃ A' c', MAt K w' lo b 61 (.slice A0 n0 c0) (.slice A1 n1 c1) x2 (.slice A' (n3 + 1) c') x4 ⟨⟨⟨D.C.h.l.set k (-1), D.C.h.r.set k (-1), D.C.h.t⟩, D.C.c ++ [(k : Int)]⟩, D.n⟩ ∧
        ((Value.slice A' (n3 + 1) c').ownBlock = (Value.slice A3 n3 c3).ownBlock ∨ ∃ j, w.heap.size ≤ j ∧ j < w'.heap.size ∧ (Value.slice A' (n3 + 1) c').ownBlock = some j) ∧
        Fr (OwnM b (.slice A0 n0 c0) (.slice A1 n1 c1) x2 (.slice A3 n3 c3) x4) w w' := by
  obtain ⟨g0, y0, hA0, _, _, _, hc0, hf0⟩ := h.r0.get hk0
  obtain ⟨g1, y1, hA1, _, _, _, hc1, hf1⟩ := h.r1.get hk1
  have hn0 : D.C.h.l.length = n0 := by obtain ⟨_, _, e, _⟩ := h.r0.form; cases e; rfl
  have hn1 : D.C.h.r.length = n1 := by obtain ⟨_, _, e, _⟩ := h.r1.form; cases e; rfl
  have hkn0 : (k : Int) < (n0 : Int) := by omega
  have hkn1 : (k : Int) < (n1 : Int) := by omega
  have h1 := (h.setL hA0 k (-1)).setR hA1 k (-1)
  subst hA0 hA1
  have F1 : Fr (OwnM b (.slice (some ⟨g0, 0, none⟩) n0 c0) (.slice (some ⟨g1, 0, none⟩) n1 c1) x2 (.slice A3 n3 c3) x4) w ((w.setCell ⟨g0, k, none⟩ (.int .i64 (-1))).setCell ⟨g1, k, none⟩ (.int .i64 (-1))) :=
    ((Fr.refl _ w).setCell (p := ⟨g0, k, none⟩) (.inl (.inr (.inl rfl))) _).setCell (p := ⟨g1, k, none⟩) (.inl (.inr (.inr (.inl rfl)))) _
  have e0 : g0 ≠ b := fun e => h.o0 (by rw [e]; rfl)
  have e0' : b ≠ g0 := fun e => e0 e.symm
  have e1 : g1 ≠ b := fun e => h.o1 (by rw [e]; rfl)
  have e1' : b ≠ g1 := fun e => e1 e.symm
  have e2 : g0 ≠ g1 := fun e => h.a01 g0 rfl (by rw [e]; rfl)
  have e2' : g1 ≠ g0 := fun e => e2 e.symm
  obtain ⟨b0, b1, b2, b3, b4, f0, f1, f2, f3, f4⟩ := h.blk.cells
  have sz1 : ((w.setCell ⟨g0, k, none⟩ (.int .i64 (-1))).setCell ⟨g1, k, none⟩ (.int .i64 (-1))).heap.size = w.heap.size := by simp [World.setCell]
  have hbl := h.blk.lt
  clear h hn0 hn1
  go_enter Try.func91, Try.ntmps91
  go_wp2_with fail
  go_region
  generalize (w.setCell ⟨g0, k, none⟩ (.int .i64 (-1))).setCell ⟨g1, k, none⟩ (.int .i64 (-1)) = W1 at h1 F1 sz1 ⊢
  clear b0 b1 b2 b3 b4 f0 f1 f2 f3 f4 hc0 hf0 hc1 hf1
  have h2 := (h1.alloc (.cells #[.int .i64 (k : Int)] 3)).drew
  have F2 := (F1.alloc (.cells #[.int .i64 (k : Int)] 3)).drew
  obtain ⟨b0, b1, b2, b3, b4, f0, f1, f2, f3, f4⟩ := h1.blk.cells
  have lW : lo ≤ (W1.alloc (.cells #[.int .i64 (k : Int)] 3)).drew.heap.size := by have := F2.size; omega
  have sW : w.heap.size ≤ (W1.alloc (.cells #[.int .i64 (k : Int)] 3)).drew.heap.size := F2.size
  clear sz1
  go_wp2_with (at_builtin; refine wpList_append_rowK rfl _ _ rfl lo A3 n3 c3 D.C.c rfl h2.r3 W1.heap.size 1 1 [(k : Int)] rfl (fun j u h => one_new j u h) rfl (by decide) (by omega) lW ?_)
  intro A' c' w2 hr2 hg2 ho2
  have eW : (W1.alloc (.cells #[.int .i64 (k : Int)] 3)).drew.heap.size = W1.heap.size + 1 := by show (W1.alloc _).heap.size = _; simp
  rw [← eW] at ho2
  have h3 := h2.free hg2 hr2 ho2
  have F3 := (F2.grown hg2 (fun j e => .inl (.inr (.inr (.inr (.inr (.inl e)))))))
  have F4 := F3.setCell (p := ⟨b, 3, none⟩) (.inl (.inl rfl)) (.slice A' (n3 + 1) c')
  have hB2 : Blk5 w2 b (.slice (some ⟨g0, 0, none⟩) n0 c0) (.slice (some ⟨g1, 0, none⟩) n1 c1) x2 (.slice A3 n3 c3) x4 61 := (hg2.block b h2.blk.lt (fun e => h2.o3 e.symm)).trans h2.blk
  have own : (Value.slice A' (n3 + 1) c').ownBlock = (Value.slice A3 n3 c3).ownBlock ∨ ∃ j, w.heap.size ≤ j ∧ j < (w2.setCell ⟨b, 3, none⟩ (.slice A' (n3 + 1) c')).heap.size ∧ (Value.slice A' (n3 + 1) c').ownBlock = some j := by
    rcases ho2 with e | e
    · exact .inl e
    · exact .inr ⟨_, sW, (h3.r3.lt _ e).2, e⟩
  clear b0 b1 b2 b3 b4 f0 f1 f2 f3 f4 h1 h2 F1 F2 hr2 hg2 ho2 F3
  obtain ⟨b0, b1, b2, b3, b4, f0, f1, f2, f3, f4⟩ := hB2.cells
  go_wp2_with fail
  go_end0
  exact ⟨rfl, A', c', h3, own, F4⟩
end Go.Proofs.Yteogflkahoanlaa
