/- Draws of programs. -/
import Derived.Test.YtdifplakkepnkaaDRuns
import Derived.Test.YtdifplakkepnkaaOps
import Derived.Test.YtdifplakkepnkaaDraws
import Derived.Test.YtdifplakkepnkaaHpA
namespace Go.Proofs.Ytdifplakkepnkaa
open Go.RowKit

theorem infoOp : (Try.prog.info? 70).map (fun i => (i.zero, i.size, i.bytes)) = some (some (.agg #[.int .i64 0, .int .i64 0, .int .i64 0]), 3, 24) := by kernel_rfl
theorem one_newO {w : World} {x y z : Value} {t : TypeId} : ∀ j u, [x, y, z][j]? = some u → (w.alloc (.cells #[x, y, z] t)).cell? ((⟨w.heap.size, 0, none⟩ : Addr).add j) = some u := by
  intro j u hj
  obtain ⟨c0, c1, c2, _⟩ := (Blk3.new w x y z t).cells
  match j, hj with
  | 0, hj => simp at hj; subst hj; simp [Addr.add]
  | 1, hj => simp at hj; subst hj; simp [Addr.add]
  | 2, hj => simp at hj; subst hj; simp [Addr.add]
theorem ORow.empty (w : World) (lo : Nat) (hlo : lo ≤ w.heap.size) : ORow (w.alloc (.cells #[] 70)) lo (.slice (some ⟨w.heap.size, 0, none⟩) 0 0) [] := by
  unfold ORow
  exact ⟨rfl, .inr ⟨w.heap.size, 0, #[], rfl, hlo, heap_alloc_new w _, Nat.le_refl _, by unfold maxLen; omega, rfl, rfl⟩⟩
theorem ORow.of_own {w : World} {lo : Nat} {v : Value} {n : Nat} {os : List Opv} {l : List Value} (h : w.ownsRow lo 70 3 v n l) (hl : l = ovs os) (hn : n = os.length) : ORow w lo v os := by
  subst hl hn; exact h
theorem Rd.farO {w w' : World} {B rb L : Nat} {A : Option Addr} {n c p : Nat} (h : Rd w B rb A n c p) (hb : Below L w w') (hr : rb < L) : Rd w' B rb A n c p :=
  ⟨(hb.block rb hr).trans h.1, h.2.1.below (hb.mono (Nat.le_of_lt (Nat.lt_of_le_of_lt h.2.2.1 hr))), h.2.2⟩
theorem grown_belowO {row : Option Nat} {a b c : World} (h : a.grownBy b row) (k : Below a.heap.size b c) : a.grownBy c row :=
  ⟨k.os.trans h.os, k.tape.trans h.tape, k.output.trans h.output, Nat.le_trans h.size k.size, fun i hi hne => (k.block i hi).trans (h.block i hi hne)⟩
theorem below_ownO {w w' : World} {lo : Nat} {row : Option Nat} (hg : w.grownBy w' row) (hl : lo ≤ w.heap.size) (h : ∀ k, row = some k → lo ≤ k) : Below lo w w' :=
  ⟨hg.os, hg.tape, hg.output, hg.size, fun k hk => hg.block k (by omega) (fun e => by have := h k e.symm; omega)⟩
/-- A program comes back; of what was there, only the reader has turned. -/
def DrawnOs (w : World) (B rb : Nat) (A : Option Addr) (nb c p : Nat) (e : Ending) (w' : World) : Prop :=
  ∃ (os : List Opv) (A' : Option Addr) (c' : Nat), e = .returned (.slice A' os.length c') ∧ ORow w' w.heap.size (.slice A' os.length c') os ∧ (os.length ≤ 9 ∧ ∀ o ∈ os, opB o 3 = true) ∧ (∃ p', Rd w' B rb A nb c p' ∧ p' ≤ p + 40) ∧ w.grownBy w' (some rb)

set_option maxRecDepth 100000 in
set_option maxHeartbeats 4000000 in
theorem l5Ops_any (w : World) (B rb : Nat) (A : Option Addr) (nb c p : Nat) (h : Rd w B rb A nb c p) (hp : p ≤ 50000) :
    Calls Try.prog 73 #[.pointer (some ⟨rb, 0, none⟩)] w (DrawnOs w B rb A nb c p) := by
  have hrl := h.lt
  have hBr := h.2.2.1
  obtain ⟨i0, hi, hz0, hz1, hz2⟩ := info_parts infoOp
  have E0 := ORow.empty w w.heap.size (Nat.le_refl _)
  have h0 := h.alloc (.cells #[] 70)
  have G0 : w.grownBy (w.alloc (.cells #[] 70)) (some rb) := grown_alloc (grown_selfO w _) _
  have z0 : Hid ((w.alloc (.cells #[] 70)).heap.size = w.heap.size + 1) := by unfold Hid; simp
  go_enter Try.func73, Try.ntmps73
  go_wp2_with fail
  generalize w.alloc (.cells #[] 70) = W at h0 E0 G0 z0 ⊢
  have z00 := z0.out
  refine (num_any _ _ _ _ _ _ _ (h0.alloc _) (by omega) _ _ _ [4, 3, 6, 2, 1, 0, 9] 0 (Row.lit_at (by first | rfl | omega) [4, 3, 6, 2, 1, 0, 9] (by decide)) rfl (by decide) (by decide) (by omega)).mono ?_
  rintro e w1 ⟨x, hx, rfl, hR1, hO1⟩
  have E1 : ORow w1 w.heap.size (.slice (some ⟨w.heap.size, 0, none⟩) 0 0) [] := (E0.alloc (.cells #[.int .i64 4, .int .i64 3, .int .i64 6, .int .i64 2, .int .i64 1, .int .i64 0, .int .i64 9] 3)).kept hO1.1 (.inr (by simp [Value.ownBlock]; omega))
  have G1 := grown_trans (grown_alloc G0 (.cells #[.int .i64 4, .int .i64 3, .int .i64 6, .int .i64 2, .int .i64 1, .int .i64 0, .int .i64 9] 3)) hO1.1
  obtain ⟨jx, rfl, hjx⟩ : ∃ j : Nat, x = (j : Int) ∧ j ≤ 9 := by
    simp only [List.mem_cons, List.not_mem_nil, or_false] at hx
    exact ⟨x.toNat, by omega, by omega⟩
  clear hx E0 h0 G0 hO1 z00 h
  go_wp2_with fail
  go_loopw [3, 4] (fun v i wr => ∃ (j : Nat) (os : List Opv) (A' : Option Addr) (c' p' : Nat), i = .int .i64 (j : Int) ∧ v = .slice A' os.length c' ∧ Hid (os.length + j ≤ 9 ∧ ∀ o ∈ os, opB o 3 = true) ∧ ORow wr w.heap.size (.slice A' os.length c') os ∧ Rd wr B rb A nb c p' ∧ Hid (p' + 3 * j ≤ p + 40) ∧ w.grownBy wr (some rb)) (fun _ i _ => (intOf i).toNat)
  case atStart => exact ⟨jx, [], _, _, _, rfl, rfl, ⟨by simpa using hjx, fun o ho => absurd ho (by simp)⟩, E1, hR1, by unfold Hid; omega, G1⟩
  case round =>
    obtain ⟨j, os, A', c', p', rfl, rfl, hh, U, R, hp', G⟩ := hrel
    clear E1 hR1 G1
    by_cases hj : 0 < j
    · have hji : (0 : Int) < (j : Int) := by omega
      have hw : IntKind.i64.wrap ((j : Int) - 1) = (j : Int) - 1 := IntWalk.i64_in _ (by have := hh.out.1; omega)
      have hlR := R.lt
      have hp9 : p' ≤ 100000 := by have := hp'.out; omega
      obtain ⟨n, hn⟩ : ∃ n, Hid (os.length = n) := ⟨_, rfl⟩
      have hn9 : n ≤ 9 := by have := hh.out.1; have := hn.out; omega
      rw [hn.out] at U ⊢
      go_wp2_with fail
      refine (l5Op_any _ _ _ _ _ _ _ R hp9).mono ?_; rintro e w4 ⟨⟨ok, oa, oq⟩, p4, rfl, ho, R4, hp4, g4⟩
      have U4 : ORow w4 w.heap.size (.slice A' n c') os := U.kept g4 (.inr (fun e => by have := (U.lt _ e).1; omega))
      have G4 := grown_trans G g4
      have z4 := G4.size
      have hown : w4.ownsRow w.heap.size 70 3 (.slice A' n c') n (ovs os) := hn.out ▸ U4
      clear U R G g4
      go_wp2_with (at_builtin; refine wpList_append_own_at _ rfl _ _ 28 rfl w.heap.size 70 i0 (.agg #[.int .i64 0, .int .i64 0, .int .i64 0]) 3 24 Try.underlying28 hi hz0 hz1 hz2 rfl (by decide) _ _ _ rfl (hown.alloc _) ⟨w4.heap.size, 0, none⟩ 1 1 [.int .i64 ok, .int .i64 oa, .int .i64 oq] rfl rfl ?ap1 ?ap2 ?ap3 ?ap4 ?ap5 ?_)
      try case ap1 => exact one_newO
      try case ap2 => first | rfl | (intro u hu; simp at hu; rcases hu with rfl | rfl | rfl <;> rfl)
      try case ap3 => unfold maxLen; omega
      try case ap4 => omega
      try case ap5 => first | omega | (simp; omega)
      intro v' w5 hown' hgrow hnil hloc
      have U5 : ORow w5 w.heap.size v' (os ++ [⟨ok, oa, oq⟩]) := ORow.of_own hown' (by rw [ovs_app]; rfl) (by rw [List.length_append, hn.out]; rfl)
      have hb5 : Below w.heap.size (w4.alloc (.cells #[.int .i64 ok, .int .i64 oa, .int .i64 oq] 70)) w5 := below_ownO hgrow (by simp; omega) (fun k e => (U4.lt k e).1)
      have R5 := (R4.alloc (.cells #[.int .i64 ok, .int .i64 oa, .int .i64 oq] 70)).farO hb5 hrl
      have G5 := grown_belowO (grown_alloc G4 (.cells #[.int .i64 ok, .int .i64 oa, .int .i64 oq] 70)) hb5
      obtain ⟨A5, c5, rfl, _⟩ := U5.form
      have hh5 : Hid ((os ++ [(⟨ok, oa, oq⟩ : Opv)]).length + (j - 1) ≤ 9 ∧ ∀ o ∈ os ++ [(⟨ok, oa, oq⟩ : Opv)], opB o 3 = true) := by
        obtain ⟨h1, h2⟩ := hh.out
        refine ⟨by rw [List.length_append]; simp; omega, fun o hm => ?_⟩
        rcases List.mem_append.1 hm with h9 | h9
        · exact h2 o h9
        · simp only [List.mem_singleton] at h9; rw [h9]; exact ho
      have hp5 : Hid (p4 + 3 * (j - 1) ≤ p + 40) := by unfold Hid; have := hp'.out; omega
      clear hown hown' hgrow hnil hloc R4 G4 U4 hb5 ho hh
      go_wp2_with fail
      go_roundw
      case rel => exact ⟨j - 1, _, _, _, _, by rw [show ((j - 1 : Nat) : Int) = (j : Int) - 1 by omega], rfl, hh5, U5, R5, hp5, G5⟩
      case measure => simp [intOf]; omega
    · obtain rfl : j = 0 := by omega
      go_wp2_with fail
      go_ret
      exact ⟨os, A', c', rfl, U, ⟨by have := hh.out.1; omega, hh.out.2⟩, ⟨p', R, by have := hp'.out; omega⟩, G⟩
end Go.Proofs.Ytdifplakkepnkaa
