import Derived.Test.YtdifplakkepnkaaOp
import Derived.Test.YtdifplakkepnkaaSOp
import Derived.Test.YtdifplakkepnkaaRdA
import Derived.Test.YtdifplakkepnkaaDraw
import Derived.Test.YtdifplakkepnkaaBlks1
import Derived.Test.YtdifplakkepnkaaCaseS
import Derived.Test.YtdifplakkepnkaaSDoH
/- Draws of operations. -/
namespace Go.Proofs.Ytdifplakkepnkaa
open Go.RowKit

/-- A valid operation comes back; of what was there, only the reader has turned. -/
def DrawnO (w : World) (B rb : Nat) (A : Option Addr) (nb c p : Nat) (e : Ending) (w' : World) : Prop :=
  ∃ o p', e = .returned (opV o) ∧ opB o 3 = true ∧ Rd w' B rb A nb c p' ∧ p' ≤ p + 3 ∧ w.grownBy w' (some rb)
theorem grown_selfO (w : World) (row : Option Nat) : w.grownBy w row := ⟨rfl, rfl, rfl, Nat.le_refl _, fun _ _ _ => rfl⟩
theorem Rd.set3O {w : World} {B rb b : Nat} {A : Option Addr} {n c p : Nat} (h : Rd w B rb A n c p) (hb : rb ≠ b) (hB : B ≤ b) (u0 u1 u2 : Value) : Rd (((w.setCell ⟨b, 0, none⟩ u0).setCell ⟨b, 1, none⟩ u1).setCell ⟨b, 2, none⟩ u2) B rb A n c p :=
  ((h.other (a := ⟨b, 0, none⟩) hb hB u0).other (a := ⟨b, 1, none⟩) hb hB u1).other (a := ⟨b, 2, none⟩) hb hB u2
theorem grown_set3O {row : Option Nat} {a b : World} (h : a.grownBy b row) {c : Nat} (hc : a.heap.size ≤ c) (u0 u1 u2 : Value) : a.grownBy (((b.setCell ⟨c, 0, none⟩ u0).setCell ⟨c, 1, none⟩ u1).setCell ⟨c, 2, none⟩ u2) row :=
  grown_set (p := ⟨c, 2, none⟩) (grown_set (p := ⟨c, 1, none⟩) (grown_set (p := ⟨c, 0, none⟩) h (.inr hc) u0) (.inr hc) u1) (.inr hc) u2
theorem drawn_opB {k a b : Int} (hk : k ∈ [(1 : Int), 5, 2, 3, 4, 6, 7, 1]) (ha : a ∈ [(0 : Int), 1, 0, 2]) (hb : b ∈ [(0 : Int), 1, 1, 2]) : (oneB k = true → opB ⟨k, a, 0⟩ 3 = true) ∧ (oneB k = false → opB ⟨k, a, b⟩ 3 = true) := by
  simp only [List.mem_cons, List.not_mem_nil, or_false] at hk ha hb
  unfold oneB
  rw [decide_eq_true_eq, decide_eq_false_iff_not, opB_iff, opB_iff]
  dsimp only
  exact ⟨fun h => ⟨⟨by omega, by omega⟩, ⟨by omega, by omega, by omega⟩, ⟨by omega, by omega⟩, fun _ => rfl, fun h9 => absurd h h9⟩, fun h => ⟨⟨by omega, by omega⟩, ⟨by omega, by omega, by omega⟩, ⟨by omega, by omega⟩, fun h9 => absurd h9 h, fun _ => by omega⟩⟩

set_option maxRecDepth 100000 in
set_option maxHeartbeats 4000000 in
theorem l5Op_any (w : World) (B rb : Nat) (A : Option Addr) (nb c p : Nat) (h : Rd w B rb A nb c p) (hp : p ≤ 100000) :
    Calls Try.prog 104 #[.pointer (some ⟨rb, 0, none⟩)] w (DrawnO w B rb A nb c p) := by
  have hrl := h.lt
  have hBr := h.2.2.1
  have Y0 := Blk3.new w (.int .i64 0) (.int .i64 0) (.int .i64 0) 70
  have h0 := h.alloc (.cells #[.int .i64 0, .int .i64 0, .int .i64 0] 70)
  have G0 : w.grownBy (w.alloc (.cells #[.int .i64 0, .int .i64 0, .int .i64 0] 70)) (some rb) := grown_alloc (grown_selfO w _) _
  have z0 : Hid ((w.alloc (.cells #[.int .i64 0, .int .i64 0, .int .i64 0] 70)).heap.size = w.heap.size + 1) := by unfold Hid; simp
  go_enter Try.func104, Try.ntmps104
  go_wp2_with fail
  generalize w.alloc (.cells #[.int .i64 0, .int .i64 0, .int .i64 0] 70) = W at h0 Y0 G0 z0 ⊢
  have z00 := z0.out
  refine (num_any _ _ _ _ _ _ _ (h0.alloc _) (by omega) _ _ _ [1, 5, 2, 3, 4, 6, 7, 1] 0 (Row.lit_at (by first | rfl | omega) [1, 5, 2, 3, 4, 6, 7, 1] (by decide)) rfl (by decide) (by decide) (by omega)).mono ?_
  rintro e w1 ⟨k, hk, rfl, hR1, hO1⟩
  have Y1 := (Y0.alloc (.cells #[.int .i64 1, .int .i64 5, .int .i64 2, .int .i64 3, .int .i64 4, .int .i64 6, .int .i64 7, .int .i64 1] 3)).kept hO1.1 (by omega)
  have G1 := grown_trans (grown_alloc G0 (.cells #[.int .i64 1, .int .i64 5, .int .i64 2, .int .i64 3, .int .i64 4, .int .i64 6, .int .i64 7, .int .i64 1] 3)) hO1.1
  have z1 : w.heap.size + 1 ≤ w1.heap.size := by have := hO1.1.size; simp at this; omega
  have hl1 := hR1.lt
  clear h0 Y0 G0 hO1 z00
  go_wp2_with fail
  refine (num_any _ _ _ _ _ _ _ (hR1.alloc _) (by omega) _ _ _ [0, 1, 0, 2] 0 (Row.lit_at (by first | rfl | omega) [0, 1, 0, 2] (by decide)) rfl (by decide) (by decide) (by omega)).mono ?_
  rintro e w2 ⟨a, ha, rfl, hR2, hO2⟩
  have Y2 := (Y1.alloc (.cells #[.int .i64 0, .int .i64 1, .int .i64 0, .int .i64 2] 3)).kept hO2.1 (by omega)
  have G2 := grown_trans (grown_alloc G1 (.cells #[.int .i64 0, .int .i64 1, .int .i64 0, .int .i64 2] 3)) hO2.1
  have z2 : w.heap.size + 1 ≤ w2.heap.size := by have := hO2.1.size; simp at this; omega
  have hl2 := hR2.lt
  clear hR1 Y1 G1 hO2
  go_wp2_with fail
  refine (num_any _ _ _ _ _ _ _ (hR2.alloc _) (by omega) _ _ _ [0, 1, 1, 2] 0 (Row.lit_at (by first | rfl | omega) [0, 1, 1, 2] (by decide)) rfl (by decide) (by decide) (by omega)).mono ?_
  rintro e w3 ⟨b, hb, rfl, hR3, hO3⟩
  have Y3 := (Y2.alloc (.cells #[.int .i64 0, .int .i64 1, .int .i64 1, .int .i64 2] 3)).kept hO3.1 (by omega)
  have G3 := grown_trans (grown_alloc G2 (.cells #[.int .i64 0, .int .i64 1, .int .i64 1, .int .i64 2] 3)) hO3.1
  have z3 : w.heap.size + 1 ≤ w3.heap.size := by have := hO3.1.size; simp at this; omega
  have hl3 := hR3.lt
  clear hR2 Y2 G2 hO3
  obtain ⟨hd1, hd2⟩ := drawn_opB hk ha hb
  clear hk ha hb
  have T4 := Blk3.new w3 (.int .i64 k) (.int .i64 a) (.int .i64 b) 70
  have Y4 := Y3.alloc (.cells #[.int .i64 k, .int .i64 a, .int .i64 b] 70)
  have G4 := grown_alloc G3 (.cells #[.int .i64 k, .int .i64 a, .int .i64 b] 70)
  have R4 := hR3.alloc (.cells #[.int .i64 k, .int .i64 a, .int .i64 b] 70)
  have LO := fun W => l5One_any W k
  have hws : w.heap.size ≠ w3.heap.size := by omega
  clear Y3 G3 hR3
  rcases ho : oneB k
  · rw [ho] at LO
    have hv := hd2 ho
    clear ho hd1 hd2
    obtain ⟨t0, t1, t2, _, _, tf2⟩ := T4.cells
    obtain ⟨y0, y1, y2, f0, f1, f2⟩ := Y4.cells
    go_wp2_with fail
    refine (LO _).mono ?_; rintro e w4 ⟨rfl, rfl⟩
    generalize w3.alloc (.cells #[.int .i64 k, .int .i64 a, .int .i64 b] 70) = W4 at T4 Y4 G4 R4 t0 t1 t2 tf2 y0 y1 y2 f0 f1 f2 ⊢
    have Y5 := Y4
    have G5 := G4
    have R5 := R4
    obtain ⟨e0, e1, e2⟩ := cells3 (.int .i64 k) (.int .i64 a) (.int .i64 b) y0 y1 y2
    have RF := R5.set3O (b := w.heap.size) (by omega) (by omega) (.int .i64 k) (.int .i64 a) (.int .i64 b)
    have GF := grown_set3O G5 (Nat.le_refl _) (.int .i64 k) (.int .i64 a) (.int .i64 b)
    clear Y4 Y5 G4 G5 R4 R5 T4
    go_wp2_with fail
    refine bodyPost_ret (v := .agg #[.int .i64 k, .int .i64 a, .int .i64 b]) ?_ rfl ⟨⟨k, a, b⟩, _, rfl, hv, RF, by omega, GF⟩
    simp [results, Try.results104, go_sem, e0, e1, e2]
  · rw [ho] at LO
    have hv := hd1 ho
    clear ho hd1 hd2
    obtain ⟨t0, t1, t2, _, _, tf2⟩ := T4.cells
    obtain ⟨y0, y1, y2, f0, f1, f2⟩ := Y4.cells
    go_wp2_with fail
    refine (LO _).mono ?_; rintro e w4 ⟨rfl, rfl⟩
    generalize w3.alloc (.cells #[.int .i64 k, .int .i64 a, .int .i64 b] 70) = W4 at T4 Y4 G4 R4 t0 t1 t2 tf2 y0 y1 y2 f0 f1 f2 ⊢
    have Y5 := Y4.other (p := ⟨w3.heap.size, 2, none⟩) hws (.int .i64 0)
    have G5 := grown_set (p := ⟨w3.heap.size, 2, none⟩) G4 (.inr (by show w.heap.size ≤ w3.heap.size; omega)) (.int .i64 0)
    have R5 := R4.other (a := ⟨w3.heap.size, 2, none⟩) (by show rb ≠ w3.heap.size; omega) (by show B ≤ w3.heap.size; omega) (.int .i64 0)
    obtain ⟨y0, y1, y2, f0, f1, f2⟩ := Y5.cells
    obtain ⟨e0, e1, e2⟩ := cells3 (.int .i64 k) (.int .i64 a) (.int .i64 0) y0 y1 y2
    have RF := R5.set3O (b := w.heap.size) (by omega) (by omega) (.int .i64 k) (.int .i64 a) (.int .i64 0)
    have GF := grown_set3O G5 (Nat.le_refl _) (.int .i64 k) (.int .i64 a) (.int .i64 0)
    clear Y4 Y5 G4 G5 R4 R5 T4
    go_wp2_with fail
    refine bodyPost_ret (v := .agg #[.int .i64 k, .int .i64 a, .int .i64 0]) ?_ rfl ⟨⟨k, a, 0⟩, _, rfl, hv, RF, by omega, GF⟩
    simp [results, Try.results104, go_sem, e0, e1, e2]
end Go.Proofs.Ytdifplakkepnkaa

/- The draws of RunOp and TargetOf. -/
namespace Go.Proofs.Ytdifplakkepnkaa
open Go.RowKit

/-- A store and an operation come back, and nothing that was there has turned. -/
def DrawnSO (w : World) (e : Ending) (w' : World) : Prop := ∃ v C o, e = .returned (.tuple #[v, opV o]) ∧ Cv w' w.heap.size v C ∧ Below w.heap.size w w'

end Go.Proofs.Ytdifplakkepnkaa

