/- spec.l10Mix and spec.DrawMoveCells: a heap, and a list of as many numbers, whatever they are. -/
import Derived.Test.YtgooohapdjgmpaaOrdW
import Derived.Test.YtgooohapdjgmpaaWrong
import Derived.Test.YtgooohapdjgmpaaDraws
namespace Go.Proofs.Ytgooohapdjgmpaa
open Go.RowKit

/-- A list of n numbers comes back; of what was there, only the reader has turned. -/
def MixedT (w : World) (B rb : Nat) (A : Option Addr) (nb c p n : Nat) (e : Ending) (w' : World) : Prop :=
  ∃ A' c' xs p', e = .returned (.slice A' n c') ∧ Hid (List.length (α := Int) xs = n) ∧ Row w' w.heap.size (.slice A' n c') xs ∧ Rd w' B rb A nb c p' ∧ p' ≤ p + n ∧ w.grownBy w' (some rb)
theorem Row.keptRd {w w' : World} {lo rb : Nat} {v : Value} {xs : List Int} (h : Row w lo v xs) (hg : w.grownBy w' (some rb)) (hl : rb < lo) : Row w' lo v xs :=
  h.kept hg (.inr fun e => by have := (h.lt _ e).1; omega)

set_option maxRecDepth 100000 in
set_option maxHeartbeats 2000000 in
theorem l10Mix_any (w : World) (B rb : Nat) (A : Option Addr) (nb c p : Nat) (h : Rd w B rb A nb c p) (hp : p ≤ 10000) (n : Nat) (hn8 : n ≤ 8) :
    Calls Try.prog 46 #[.pointer (some ⟨rb, 0, none⟩), .int .i64 n] w (MixedT w B rb A nb c p n) := by
  obtain ⟨i0, hi, hz0, hz1, hz2⟩ := info_parts Try.infoInt
  have hrl := h.lt
  have h1 := h.alloc (.cells #[] 3)
  have E0 : Row (w.alloc (.cells #[] 3)) w.heap.size (.slice (some ⟨w.heap.size, 0, none⟩) 0 0) [] := Row.lit_lo rfl w.heap.size (Nat.le_refl _) [] (by simp)
  have G0 : w.grownBy (w.alloc (.cells #[] 3)) (some rb) := grown_alloc (World.grownBy.refl w _) _
  clear h
  go_enter Try.func46, Try.ntmps46
  go_wp2_with fail
  go_loopw [5, 6] (fun v i wr => ∃ (k : Nat) (A' : Option Addr) (c' : Nat) (xs : List Int) (q : Nat), k ≤ n ∧ i = .int .i64 k ∧ v = .slice A' k c' ∧ Hid (xs.length = k) ∧ Row wr w.heap.size (.slice A' k c') xs ∧ Rd wr B rb A nb c q ∧ q ≤ p + k ∧ w.grownBy wr (some rb)) (fun _ i _ => n - (intOf i).toNat)
  case atStart => exact ⟨0, _, _, [], p, Nat.zero_le _, rfl, rfl, rfl, E0, h1, Nat.le_refl _, G0⟩
  case round =>
    clear E0 h1 G0
    obtain ⟨k, A', c', xs, q, hk, rfl, rfl, hl, hrow, hR, hq, hG⟩ := hrel
    by_cases hlt : k < n
    · have u1 : 1 ≤ (k : Int) + 1 := by omega
      have u2 : (k : Int) + 1 ≤ 1048576 := by omega
      have v1 : q ≤ 1048576 := by omega
      have sA : IntKind.i64.wrap ((k : Int) + 1) = (k : Int) + 1 := IntWalk.i64_in _ (by omega)
      go_wp2_with fail
      refine (pick_any _ B rb A nb c q hR ((k : Int) + 1) u1 u2 v1).mono ?_; rintro e w1 ⟨xv, rfl, hxv, hR1, hO⟩
      have hxk : xv < k + 1 := by omega
      have R1 := Row.keptRd hrow hO.1 hrl
      have G1 := grown_trans hG hO.1
      have hl2 := hl.out
      have hown : w1.ownsRow w.heap.size 3 1 (.slice A' k c') k (xs.map iv) := by have := R1; unfold Row at this; rw [hl2] at this; exact this
      clear hrow hR hO hG R1 hxv
      have zz := G1.size
      go_wp2_with (at_builtin; refine wpList_append_own_at _ rfl _ _ 23 rfl w.heap.size 3 i0 (.int .i64 0) 1 8 Try.underlying23 hi hz0 hz1 hz2 rfl (by decide) _ _ _ rfl (hown.alloc _) ⟨w1.heap.size, 0, none⟩ 1 1 [.int .i64 k] rfl rfl ?ap1 ?ap2 ?ap3 ?ap4 ?ap5 ?_)
      try case ap1 => exact one_new
      try case ap2 => first | rfl | (intro u hu; simp at hu; subst hu; rfl)
      try case ap3 => unfold maxLen; omega
      try case ap4 => omega
      try case ap5 => first | omega | (simp; omega)
      intro v' w4 hown' hgrow hnil hloc
      have hl3 : (xs ++ [(k : Int)]).length = k + 1 := by simp; omega
      have R4 : Row w4 w.heap.size v' (xs ++ [(k : Int)]) := Row.of_own hown' (by simp) (by simp; omega)
      have B1 : Below w.heap.size w1 w4 := ((Below.refl _ _).alloc zz _).grown hgrow (by simp; omega) (fun j hj => by have := (hown.lt j hj).1; omega)
      have G4 : w.grownBy w4 (some rb) := ⟨B1.os.trans G1.os, B1.tape.trans G1.tape, B1.output.trans G1.output, Nat.le_trans G1.size B1.size, fun i hi hne => (B1.block i hi).trans (G1.block i hi hne)⟩
      have hrb4 : rb ≠ w1.heap.size := by omega
      have hR4 : Rd w4 B rb A nb c (q + 1) := ⟨by
        have hgb := hgrow.block rb (by simp; omega) (fun e => by have := (hown.lt rb (by simpa using e.symm)).1; omega)
        exact hgb.trans (hR1.alloc _).1, hR1.2.1.below (B1.mono (by have := hR1.2.2.1; omega)), hR1.2.2⟩
      obtain ⟨A4, c4, hv', _⟩ := R4.form
      rw [hl3] at hv'
      subst hv'
      obtain ⟨g, x, rfl, hg1, hg2, hx, hcx, hfx⟩ := R4.get (k := xv) (by rw [hl3]; exact hxk)
      obtain ⟨g', y, e', _, _, hy, hcy, hfy⟩ := R4.get (k := k) (by rw [hl3]; omega)
      cases e'
      have R5 := R4.set_ xv y
      have R6 := R5.set_ k x
      obtain ⟨_, _, e', _, _, _, _, hfy5⟩ := R5.get (k := k) (by rw [List.length_set, hl3]; omega)
      cases e'
      have hR5 := (hR4.other (a := ⟨g, xv, none⟩) (by simp; omega) (by have := hR4.2.2.1; simp; omega) (.int .i64 y)).other (a := ⟨g, k, none⟩) (by simp; omega) (by have := hR4.2.2.1; simp; omega) (.int .i64 x)
      have G5 := grown_set (p := ⟨g, k, none⟩) (grown_set (p := ⟨g, xv, none⟩) G4 (.inr hg1) (.int .i64 y)) (.inr hg1) (.int .i64 x)
      have hl5 : Hid ((((xs ++ [(k : Int)]).set xv y).set k x).length = k + 1) := by unfold Hid; rw [List.length_set, List.length_set]; exact hl3
      clear hown hown' hgrow hloc hnil B1 hx hy hl hl2 hl3 R4 R5 hR4 G4 hR1 G1 hi hz0 hz1 hz2
      have kk : k < k + 1 := by omega
      go_wp2_with fail
      go_roundw
      case rel => exact ⟨k + 1, _, _, _, _, by omega, by go_num, rfl, hl5, R6, hR5, by omega, G5⟩
      case measure => simp [intOf]; omega
    · obtain rfl : n = k := by omega
      go_wp2_with fail
      go_ret
      exact ⟨A', c', xs, q, rfl, hl, hrow, hR, hq, hG⟩
end Go.Proofs.Ytgooohapdjgmpaa
