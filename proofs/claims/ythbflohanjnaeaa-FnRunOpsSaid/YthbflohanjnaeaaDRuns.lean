import Derived.Test.YthbflohanjnaeaaOp
import Derived.Test.YthbflohanjnaeaaSOp
import Derived.Test.YthbflohanjnaeaaBlk3
import Derived.Test.YthbflohanjnaeaaRd
import Derived.Test.YthbflohanjnaeaaDraw
import Derived.Test.YthbflohanjnaeaaBlks1
import Derived.Test.YthbflohanjnaeaaCaseS
import Derived.Test.YthbflohanjnaeaaSDoH
/- Draws of operations. -/
namespace Go.Proofs.Ythbflohanjnaeaa
open Go.RowKit

/-- A valid operation comes back; of what was there, only the reader has turned. -/
def DrawnO (w : World) (B rb : Nat) (A : Option Addr) (nb c p : Nat) (e : Ending) (w' : World) : Prop :=
  ∃ o p', e = .returned (opV o) ∧ opB o 3 = true ∧ Rd w' B rb A nb c p' ∧ p' ≤ p + 3 ∧ w.grownBy w' (some rb)
theorem grown_selfO (w : World) (row : Option Nat) : w.grownBy w row := ⟨rfl, rfl, rfl, Nat.le_refl _, fun _ _ _ => rfl⟩
theorem Rd.set3O {w : World} {B rb b : Nat} {A : Option Addr} {n c p : Nat} (h : Rd w B rb A n c p) (hb : rb ≠ b) (hB : B ≤ b) (u0 u1 u2 : Value) : Rd (((w.setCell ⟨b, 0, none⟩ u0).setCell ⟨b, 1, none⟩ u1).setCell ⟨b, 2, none⟩ u2) B rb A n c p :=
  ((h.other (a := ⟨b, 0, none⟩) hb hB u0).other (a := ⟨b, 1, none⟩) hb hB u1).other (a := ⟨b, 2, none⟩) hb hB u2
theorem grown_set3O {row : Option Nat} {a b : World} (h : a.grownBy b row) {c : Nat} (hc : a.heap.size ≤ c) (u0 u1 u2 : Value) : a.grownBy (((b.setCell ⟨c, 0, none⟩ u0).setCell ⟨c, 1, none⟩ u1).setCell ⟨c, 2, none⟩ u2) row :=
  grown_set (p := ⟨c, 2, none⟩) (grown_set (p := ⟨c, 1, none⟩) (grown_set (p := ⟨c, 0, none⟩) h (.inr hc) u0) (.inr hc) u1) (.inr hc) u2
theorem drawn_opB {k a b : Int} (hk : k ∈ [(1 : Int), 5, 2, 3, 4, 6, 7, 1]) (ha : a ∈ [(0 : Int), 1, 0, 2]) (hb : b ∈ [(0 : Int), 1, 1, 2]) : (oneB k = true → opB ⟨k, a, 0⟩ 3 = true) ∧ (oneB k = false → opB ⟨k, a, b⟩ 3 = true) := by
  simp only [List.mem_cons, List.not_mem_nil, or_false] at hk ha hb
  unfold oneB
  rw [decide_eq_true_eq, decide_eq_false_iff_not, opB_iff, opB_iff]
  dsimp only
  exact ⟨fun h => ⟨⟨by omega, by omega⟩, ⟨by omega, by omega, by omega⟩, ⟨by omega, by omega⟩, fun _ => rfl, fun h9 => absurd h h9⟩, fun h => ⟨⟨by omega, by omega⟩, ⟨by omega, by omega, by omega⟩, ⟨by omega, by omega⟩, fun h9 => absurd h9 h, fun _ => by omega⟩⟩

set_option maxRecDepth 100000 in
set_option maxHeartbeats 4000000 in
theorem l5Op_any (w : World) (B rb : Nat) (A : Option Addr) (nb c p : Nat) (h : Rd w B rb A nb c p) (hp : p ≤ 100000) :
    Calls Try.prog 33 #[.pointer (some ⟨rb, 0, none⟩)] w (DrawnO w B rb A nb c p) := by
  have hrl := h.lt
  have hBr := h.2.2.1
  have Y0 := Blk3.new w (.int .i64 0) (.int .i64 0) (.int .i64 0) 29
  have h0 := h.alloc (.cells #[.int .i64 0, .int .i64 0, .int .i64 0] 29)
  have G0 : w.grownBy (w.alloc (.cells #[.int .i64 0, .int .i64 0, .int .i64 0] 29)) (some rb) := grown_alloc (grown_selfO w _) _
  have z0 : Hid ((w.alloc (.cells #[.int .i64 0, .int .i64 0, .int .i64 0] 29)).heap.size = w.heap.size + 1) := by unfold Hid; simp
  go_enter Try.func33, Try.ntmps33
  go_wp2_with fail
  generalize w.alloc (.cells #[.int .i64 0, .int .i64 0, .int .i64 0] 29) = W at h0 Y0 G0 z0 ⊢
  have z00 := z0.out
  refine (num_any _ _ _ _ _ _ _ (h0.alloc _) (by omega) _ _ _ [1, 5, 2, 3, 4, 6, 7, 1] 0 (Row.lit_at (by first | rfl | omega) [1, 5, 2, 3, 4, 6, 7, 1] (by decide)) rfl (by decide) (by decide) (by omega)).mono ?_
  rintro e w1 ⟨k, hk, rfl, hR1, hO1⟩
  have Y1 := (Y0.alloc (.cells #[.int .i64 1, .int .i64 5, .int .i64 2, .int .i64 3, .int .i64 4, .int .i64 6, .int .i64 7, .int .i64 1] 3)).kept hO1.1 (by omega)
  have G1 := grown_trans (grown_alloc G0 (.cells #[.int .i64 1, .int .i64 5, .int .i64 2, .int .i64 3, .int .i64 4, .int .i64 6, .int .i64 7, .int .i64 1] 3)) hO1.1
  have z1 : w.heap.size + 1 ≤ w1.heap.size := by have := hO1.1.size; simp at this; omega
  have hl1 := hR1.lt
  clear h0 Y0 G0 hO1 z00
  go_wp2_with fail
  refine (num_any _ _ _ _ _ _ _ (hR1.alloc _) (by omega) _ _ _ [0, 1, 0, 2] 0 (Row.lit_at (by first | rfl | omega) [0, 1, 0, 2] (by decide)) rfl (by decide) (by decide) (by omega)).mono ?_
  rintro e w2 ⟨a, ha, rfl, hR2, hO2⟩
  have Y2 := (Y1.alloc (.cells #[.int .i64 0, .int .i64 1, .int .i64 0, .int .i64 2] 3)).kept hO2.1 (by omega)
  have G2 := grown_trans (grown_alloc G1 (.cells #[.int .i64 0, .int .i64 1, .int .i64 0, .int .i64 2] 3)) hO2.1
  have z2 : w.heap.size + 1 ≤ w2.heap.size := by have := hO2.1.size; simp at this; omega
  have hl2 := hR2.lt
  clear hR1 Y1 G1 hO2
  go_wp2_with fail
  refine (num_any _ _ _ _ _ _ _ (hR2.alloc _) (by omega) _ _ _ [0, 1, 1, 2] 0 (Row.lit_at (by first | rfl | omega) [0, 1, 1, 2] (by decide)) rfl (by decide) (by decide) (by omega)).mono ?_
  rintro e w3 ⟨b, hb, rfl, hR3, hO3⟩
  have Y3 := (Y2.alloc (.cells #[.int .i64 0, .int .i64 1, .int .i64 1, .int .i64 2] 3)).kept hO3.1 (by omega)
  have G3 := grown_trans (grown_alloc G2 (.cells #[.int .i64 0, .int .i64 1, .int .i64 1, .int .i64 2] 3)) hO3.1
  have z3 : w.heap.size + 1 ≤ w3.heap.size := by have := hO3.1.size; simp at this; omega
  have hl3 := hR3.lt
  clear hR2 Y2 G2 hO3
  obtain ⟨hd1, hd2⟩ := drawn_opB hk ha hb
  clear hk ha hb
  have T4 := Blk3.new w3 (.int .i64 k) (.int .i64 a) (.int .i64 b) 29
  have Y4 := Y3.alloc (.cells #[.int .i64 k, .int .i64 a, .int .i64 b] 29)
  have G4 := grown_alloc G3 (.cells #[.int .i64 k, .int .i64 a, .int .i64 b] 29)
  have R4 := hR3.alloc (.cells #[.int .i64 k, .int .i64 a, .int .i64 b] 29)
  have LO := fun W => l5One_any W k
  have hws : w.heap.size ≠ w3.heap.size := by omega
  clear Y3 G3 hR3
  rcases ho : oneB k
  · rw [ho] at LO
    have hv := hd2 ho
    clear ho hd1 hd2
    obtain ⟨t0, t1, t2, _, _, tf2⟩ := T4.cells
    obtain ⟨y0, y1, y2, f0, f1, f2⟩ := Y4.cells
    go_wp2_with fail
    refine (LO _).mono ?_; rintro e w4 ⟨rfl, rfl⟩
    generalize w3.alloc (.cells #[.int .i64 k, .int .i64 a, .int .i64 b] 29) = W4 at T4 Y4 G4 R4 t0 t1 t2 tf2 y0 y1 y2 f0 f1 f2 ⊢
    have Y5 := Y4
    have G5 := G4
    have R5 := R4
    obtain ⟨e0, e1, e2⟩ := cells3 (.int .i64 k) (.int .i64 a) (.int .i64 b) y0 y1 y2
    have RF := R5.set3O (b := w.heap.size) (by omega) (by omega) (.int .i64 k) (.int .i64 a) (.int .i64 b)
    have GF := grown_set3O G5 (Nat.le_refl _) (.int .i64 k) (.int .i64 a) (.int .i64 b)
    clear Y4 Y5 G4 G5 R4 R5 T4
    go_wp2_with fail
    refine bodyPost_ret (v := .agg #[.int .i64 k, .int .i64 a, .int .i64 b]) ?_ rfl ⟨⟨k, a, b⟩, _, rfl, hv, RF, by omega, GF⟩
    simp [results, Try.results33, go_sem, e0, e1, e2]
  · rw [ho] at LO
    have hv := hd1 ho
    clear ho hd1 hd2
    obtain ⟨t0, t1, t2, _, _, tf2⟩ := T4.cells
    obtain ⟨y0, y1, y2, f0, f1, f2⟩ := Y4.cells
    go_wp2_with fail
    refine (LO _).mono ?_; rintro e w4 ⟨rfl, rfl⟩
    generalize w3.alloc (.cells #[.int .i64 k, .int .i64 a, .int .i64 b] 29) = W4 at T4 Y4 G4 R4 t0 t1 t2 tf2 y0 y1 y2 f0 f1 f2 ⊢
    have Y5 := Y4.other (p := ⟨w3.heap.size, 2, none⟩) hws (.int .i64 0)
    have G5 := grown_set (p := ⟨w3.heap.size, 2, none⟩) G4 (.inr (by show w.heap.size ≤ w3.heap.size; omega)) (.int .i64 0)
    have R5 := R4.other (a := ⟨w3.heap.size, 2, none⟩) (by show rb ≠ w3.heap.size; omega) (by show B ≤ w3.heap.size; omega) (.int .i64 0)
    obtain ⟨y0, y1, y2, f0, f1, f2⟩ := Y5.cells
    obtain ⟨e0, e1, e2⟩ := cells3 (.int .i64 k) (.int .i64 a) (.int .i64 0) y0 y1 y2
    have RF := R5.set3O (b := w.heap.size) (by omega) (by omega) (.int .i64 k) (.int .i64 a) (.int .i64 0)
    have GF := grown_set3O G5 (Nat.le_refl _) (.int .i64 k) (.int .i64 a) (.int .i64 0)
    clear Y4 Y5 G4 G5 R4 R5 T4
    go_wp2_with fail
    refine bodyPost_ret (v := .agg #[.int .i64 k, .int .i64 a, .int .i64 0]) ?_ rfl ⟨⟨k, a, 0⟩, _, rfl, hv, RF, by omega, GF⟩
    simp [results, Try.results33, go_sem, e0, e1, e2]
end Go.Proofs.Ythbflohanjnaeaa

/- The draws of RunOp and TargetOf. -/
namespace Go.Proofs.Ythbflohanjnaeaa
open Go.RowKit

/-- A store and an operation come back, and nothing that was there has turned. -/
def DrawnSO (w : World) (e : Ending) (w' : World) : Prop := ∃ v C o, e = .returned (.tuple #[v, opV o]) ∧ Cv w' w.heap.size v C ∧ Below w.heap.size w w'

set_option maxRecDepth 100000 in
set_option maxHeartbeats 4000000 in
theorem drawRunOp_any (w : World) (A : Option Addr) (n c : Nat) (h : Inp w A n c) :
    Calls Try.prog 13 #[.slice A n c] w (DrawnSO w) := by
  have h0 := inp_alloc (inp_alloc h (.cells #[.slice none 0 0, .slice none 0 0, .slice none 0 0, .slice none 0 0] 27)) (.cells #[.int .i64 0, .int .i64 0, .int .i64 0] 29)
  have Y0 := (Blk4.new w (.slice none 0 0) (.slice none 0 0) (.slice none 0 0) (.slice none 0 0) 27).alloc (.cells #[.int .i64 0, .int .i64 0, .int .i64 0] 29)
  have U0 := Blk3.new_at (w := w.alloc (.cells #[.slice none 0 0, .slice none 0 0, .slice none 0 0, .slice none 0 0] 27)) (b := w.heap.size + 1) (by simp) (.int .i64 0) (.int .i64 0) (.int .i64 0) 29
  have B0 : Below w.heap.size w ((w.alloc (.cells #[.slice none 0 0, .slice none 0 0, .slice none 0 0, .slice none 0 0] 27)).alloc (.cells #[.int .i64 0, .int .i64 0, .int .i64 0] 29)) := ((Below.refl _ _).alloc (Nat.le_refl _) _).alloc (by simp) _
  have s0 : w.heap.size + 2 ≤ ((w.alloc (.cells #[.slice none 0 0, .slice none 0 0, .slice none 0 0, .slice none 0 0] 27)).alloc (.cells #[.int .i64 0, .int .i64 0, .int .i64 0] 29)).heap.size := by simp
  go_enter Try.func13, Try.ntmps13
  go_wp2_with fail
  generalize (w.alloc (.cells #[.slice none 0 0, .slice none 0 0, .slice none 0 0, .slice none 0 0] 27)).alloc (.cells #[.int .i64 0, .int .i64 0, .int .i64 0] 29) = W at h0 Y0 U0 B0 s0 ⊢
  refine (l13Open_any _ _ _ _ h0).mono ?_; rintro e w1 ⟨rb, A1, n1, c1, rfl, hR1, hb1⟩
  have hB := hR1.2.2.1
  have z1 := hb1.size
  have hl1 := hR1.lt
  go_wp2_with fail
  refine (l4Draw_any _ _ _ _ _ _ _ hR1 (by omega)).mono ?_; rintro e w2 ⟨v2, C2, p2, rfl, hv2, hC2, hR2, hp2, hg2⟩
  have z2 := hg2.size
  go_wp2_with fail
  refine (l4Wrong_any 8 (by omega) _ _ _ _ _ _ _ hR2 (by omega) _ _ _ hv2 (szS_valid hC2)).mono ?_; rintro e w3 ⟨v3, C3, p3, rfl, hv3, hz3, hR3, hp3, hg3⟩
  have z3 := hg3.size
  go_wp2_with fail
  refine (l5Op_any _ _ _ _ _ _ _ hR3 (by omega)).mono ?_; rintro e w4 ⟨o, p4, rfl, ho, hR4, hp4, hg4⟩
  have z4 := hg4.size
  obtain ⟨k, a, q⟩ := o
  have Y4 := (((Y0.below hb1).kept hg2 (by omega)).kept hg3 (by omega)).kept hg4 (by omega)
  have U4 := (((U0.below hb1).kept hg2 (by omega)).kept hg3 (by omega)).kept hg4 (by omega)
  have B4 := (((B0.trans (hb1.mono (by omega))).trans (below_row hg2 (by omega) (by omega))).trans (below_row hg3 (by omega) (by omega))).trans (below_row hg4 (by omega) (by omega))
  have H4 : Cv w4 (w.heap.size + 2) v3 C3 := (hv3.kept_low hg4 (by omega)).mono (by omega)
  have hvo := H4
  obtain ⟨A0, n0, k0, A1', n1', k1, A2, n2, k2, A3, n3, k3, rfl, _⟩ := hvo.open_
  clear hv2 hv3 hvo hR1 hR2 hR3 h0 Y0 U0 B0 hb1 hg2 hg3 hg4 h ho hR4
  obtain ⟨y0, y1, y2, y3, f0, f1, f2, f3⟩ := Y4.cells
  have U5 : Blk3 ((((w4.setCell ⟨w.heap.size, 0, none⟩ (.slice A0 n0 k0)).setCell ⟨w.heap.size, 1, none⟩ (.slice A1' n1' k1)).setCell ⟨w.heap.size, 2, none⟩ (.slice A2 n2 k2)).setCell ⟨w.heap.size, 3, none⟩ (.slice A3 n3 k3)) (w.heap.size + 1) _ _ _ _ := (((U4.other (p := ⟨w.heap.size, 0, none⟩) (by simp) _).other (p := ⟨w.heap.size, 1, none⟩) (by simp) _).other (p := ⟨w.heap.size, 2, none⟩) (by simp) _).other (p := ⟨w.heap.size, 3, none⟩) (by simp) _
  have Y5 := Y4.set4R (.slice A0 n0 k0) (.slice A1' n1' k1) (.slice A2 n2 k2) (.slice A3 n3 k3)
  have Y6 := ((Y5.other (p := ⟨w.heap.size + 1, 0, none⟩) (by simp) (.int .i64 k)).other (p := ⟨w.heap.size + 1, 1, none⟩) (by simp) (.int .i64 a)).other (p := ⟨w.heap.size + 1, 2, none⟩) (by simp) (.int .i64 q)
  obtain ⟨u0, u1, u2, g0, g1, g2⟩ := U5.cells
  obtain ⟨e0, e1, e2⟩ := cells3 (.int .i64 k) (.int .i64 a) (.int .i64 q) u0 u1 u2
  obtain ⟨d0, d1, d2, d3, _⟩ := Y6.cells
  have H5 := H4.set4O (H4.ownLt w.heap.size (.inl (by omega))) (.slice A0 n0 k0) (.slice A1' n1' k1) (.slice A2 n2 k2) (.slice A3 n3 k3)
  have f6 := H5.ownLt (w.heap.size + 1) (.inl (by omega))
  have H6 := (((H5.setFarO (p := ⟨w.heap.size + 1, 0, none⟩) f6 (.int .i64 k)).setFarO (p := ⟨w.heap.size + 1, 1, none⟩) f6 (.int .i64 a)).setFarO (p := ⟨w.heap.size + 1, 2, none⟩) f6 (.int .i64 q)).mono (lo' := w.heap.size) (by omega)
  have B5 := below_set4 B4 (Nat.le_refl _) (.slice A0 n0 k0) (.slice A1' n1' k1) (.slice A2 n2 k2) (.slice A3 n3 k3)
  have B6 := ((B5.setCell (p := ⟨w.heap.size + 1, 0, none⟩) (by simp) (.int .i64 k)).setCell (p := ⟨w.heap.size + 1, 1, none⟩) (by simp) (.int .i64 a)).setCell (p := ⟨w.heap.size + 1, 2, none⟩) (by simp) (.int .i64 q)
  clear Y4 U4 B4 H4 U5 Y5 Y6 H5 B5
  go_wp2_with fail
  refine bodyPost_ret (v := .tuple #[.agg #[.slice A0 n0 k0, .slice A1' n1' k1, .slice A2 n2 k2, .slice A3 n3 k3], .agg #[.int .i64 k, .int .i64 a, .int .i64 q]]) ?_ rfl ⟨_, C3, ⟨k, a, q⟩, rfl, H6, B6⟩
  simp [results, Try.results13, go_sem, d0, d1, d2, d3, e0, e1, e2]
end Go.Proofs.Ythbflohanjnaeaa

