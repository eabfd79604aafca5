/- spec.DrawParseHeap: a text, whatever it is. -/
import Derived.Test.YtpimndfafibgeaaDrawV
import Derived.Test.YtpimndfafibgeaaSFmt
import Derived.Test.YtpimndfafibgeaaDFormatHeap
namespace Go.Proofs.Ytpimndfafibgeaa
open Go.RowKit

set_option maxHeartbeats 400000 in
theorem of_any (w : World) (B rb : Nat) (A : Option Addr) (nb c p : Nat) (h : Rd w B rb A nb c p) (hp : p ≤ 1048576) (g : Nat) (hg : g ≠ rb) (hc : ∀ j, j < 6 → ∃ s : ByteArray, w.cell? ⟨g, j, none⟩ = some (.string s) ∧ s.size ≤ 1) :
    Calls Try.prog 42 #[.pointer (some ⟨rb, 0, none⟩), .slice (some ⟨g, 0, none⟩) 6 6] w fun e w' => ∃ s : ByteArray, s.size ≤ 1 ∧ e = .returned (.string s) ∧ Rd w' B rb A nb c (p + 1) ∧ Only rb w w' := by
  have C := pick_any w B rb A nb c p h 6 (by omega) (by omega) hp
  go_enter Try.func42, Try.ntmps42
  go_wp2_with fail
  refine C.mono ?_; rintro e w1 ⟨k, rfl, hk, hR, hO⟩
  obtain ⟨s, hs, h1⟩ := hc k (by omega)
  have hs1 := hO.1.cell hs (fun e => hg (Option.some.inj e))
  clear hc hs C
  go_wp2_with fail
  go_ret
  exact ⟨s, h1, rfl, hR, hO⟩

/-- A short text comes back, and nothing that was there has turned. -/
def DrawnS (w : World) (e : Ending) (w' : World) : Prop := ∃ s : ByteArray, e = .returned (.string s) ∧ s.size ≤ 1000 ∧ Below w.heap.size w w'
theorem fmtL_size {h : Hp} (hv : hvB h = true) : 1 ≤ (ByteArray.mk (fmtL h).toArray).size ∧ (ByteArray.mk (fmtL h).toArray).size ≤ 31 := by
  have h8 := hvB_len hv
  have hl := fmtV_len h
  unfold fmtL
  rw [if_pos hv]
  show 1 ≤ (fmtV h).toArray.size ∧ (fmtV h).toArray.size ≤ 31
  simp only [List.size_toArray]
  omega

theorem lit6 (w : World) : ∀ j, j < 6 → ∃ s : ByteArray, (w.alloc (.cells #[.string ⟨#[]⟩, .string ⟨#[32]⟩, .string ⟨#[45]⟩, .string ⟨#[47]⟩, .string ⟨#[48]⟩, .string ⟨#[55]⟩] 9)).cell? ⟨w.heap.size, j, none⟩ = some (.string s) ∧ s.size ≤ 1 := fun j hj => by
  have hh : (w.alloc (.cells #[.string ⟨#[]⟩, .string ⟨#[32]⟩, .string ⟨#[45]⟩, .string ⟨#[47]⟩, .string ⟨#[48]⟩, .string ⟨#[55]⟩] 9)).heap[w.heap.size]? = some (.cells #[.string ⟨#[]⟩, .string ⟨#[32]⟩, .string ⟨#[45]⟩, .string ⟨#[47]⟩, .string ⟨#[48]⟩, .string ⟨#[55]⟩] 9 (0, 0)) := heap_alloc_new w _
  generalize w.alloc (.cells #[.string ⟨#[]⟩, .string ⟨#[32]⟩, .string ⟨#[45]⟩, .string ⟨#[47]⟩, .string ⟨#[48]⟩, .string ⟨#[55]⟩] 9) = W at hh ⊢
  match j, hj with
  | 0, _ => exact ⟨⟨#[]⟩, by unfold World.cell?; simp [hh], by decide⟩
  | 1, _ => exact ⟨⟨#[32]⟩, by unfold World.cell?; simp [hh], by decide⟩
  | 2, _ => exact ⟨⟨#[45]⟩, by unfold World.cell?; simp [hh], by decide⟩
  | 3, _ => exact ⟨⟨#[47]⟩, by unfold World.cell?; simp [hh], by decide⟩
  | 4, _ => exact ⟨⟨#[48]⟩, by unfold World.cell?; simp [hh], by decide⟩
  | 5, _ => exact ⟨⟨#[55]⟩, by unfold World.cell?; simp [hh], by decide⟩

set_option maxHeartbeats 1000000 in
theorem drawParseHeap_any (w : World) (A : Option Addr) (n c : Nat) (h : Inp w A n c) :
    Calls Try.prog 16 #[.slice A n c] w (DrawnS w) := by
  go_enter Try.func16, Try.ntmps16
  go_wp2_with fail
  refine (l13Open_any _ _ _ _ h).mono ?_; rintro e w1 ⟨rb, A1, n1, c1, rfl, hR1, hb1⟩
  have hB := hR1.2.2.1
  go_wp2_with fail
  refine (l1DrawV_any _ _ _ _ _ _ _ hR1 (by omega)).mono ?_; rintro e w2 ⟨v2, h2, p2, rfl, hv2, hval, hR2, hp2, hg2⟩
  have B2 : Below w.heap.size w w2 := hb1.trans (below_row hg2 (by omega) hb1.size)
  go_wp2_with fail
  refine (specFmt_any _ _ _ _ hv2).mono ?_; rintro e w3 ⟨rfl, hb3⟩
  have hR3 := hR2.below hb3
  have B3 := B2.trans (hb3.mono B2.size)
  obtain ⟨s1, s2⟩ := fmtL_size hval
  generalize ByteArray.mk (fmtL h2).toArray = S at s1 s2 ⊢
  clear hv2 hval hR1 hR2 hg2
  go_wp2_with fail
  refine (pick_any _ _ _ _ _ _ _ hR3 2 (by omega) (by omega) (by omega)).mono ?_; rintro e w4 ⟨k, rfl, hk, hR4, hO4⟩
  have B4 := B3.trans (hO4.below (by omega) B3.size)
  by_cases hk0 : k = 0
  · subst hk0
    go_wp2_with fail
    go_ret
    exact ⟨S, rfl, by omega, B4⟩
  · have hk1 : ((k : Int) == 0) = false := by simpa using hk0
    have P := pick_any _ _ _ _ _ _ _ hR4 S.size (by omega) (by omega) (by omega)
    go_wp2_with fail
    refine P.mono ?_; rintro e w5 ⟨i, rfl, hi, hR5, hO5⟩
    have B5 := B4.trans (hO5.below (by omega) B4.size)
    clear P hR3 hR4 hO4 hO5
    have O5 := (hR5.alloc (.cells #[.string ⟨#[]⟩, .string ⟨#[32]⟩, .string ⟨#[45]⟩, .string ⟨#[47]⟩, .string ⟨#[48]⟩, .string ⟨#[55]⟩] 9)).drew
    have hne : w5.heap.size ≠ rb := by have := hR5.lt; omega
    have hcs := lit6 w5
    have hcs2 : ∀ j, j < 6 → ∃ s : ByteArray, (w5.alloc (.cells #[.string ⟨#[]⟩, .string ⟨#[32]⟩, .string ⟨#[45]⟩, .string ⟨#[47]⟩, .string ⟨#[48]⟩, .string ⟨#[55]⟩] 9)).drew.cell? ⟨w5.heap.size, j, none⟩ = some (.string s) ∧ s.size ≤ 1 := hcs
    have hw5d : w5.drew.heap.size = w5.heap.size := rfl
    have q1 : p2 + 1 + 1 ≤ 1048576 := by omega
    have q2 : p2 + 1 + 1 + 1 ≤ 1048576 := by omega
    have iS : (i : Int) ≤ (S.size : Int) := by omega
    have hx1 : (S.extract 0 i).size ≤ 31 := by rw [ByteArray.size_extract]; omega
    have B6 : Below w.heap.size w (w5.alloc (.cells #[.string ⟨#[]⟩, .string ⟨#[32]⟩, .string ⟨#[45]⟩, .string ⟨#[47]⟩, .string ⟨#[48]⟩, .string ⟨#[55]⟩] 9)).drew := (B5.alloc B5.size _).drew
    clear hb1 B2 hb3 B3 B4 B5 h
    go_wp2_with fail
    go_region_held3 (fun _ => True)
      (trivial)
      (first
        | (go_at_call 42; (with_reducible refine (of_any _ _ _ _ _ _ _ O5 q1 w5.heap.size hne hcs2).mono ?_); rintro e w6 ⟨s, hs, rfl, hR6, hO6⟩; have B7 := B6.trans (hO6.below hB B6.size); have hx2 : (S.extract 0 i ++ s).size ≤ 32 := (by rw [ByteArray.size_append]; omega); have hA1 : ∀ W, (Op.stringOp .add (S.extract 0 i) s).run Try.prog W = .ok (.string (S.extract 0 i ++ s)) W := (fun W => run_string_add_sum W _ _ (by omega)))
        | (go_at_call 41; (with_reducible refine (pick_any w6 _ _ _ _ _ _ hR6 2 (by omega) (by omega) q2).mono ?_); rintro e w7 ⟨j, rfl, hj, hR7, hO7⟩; have B8 := B7.trans (hO7.below hB B7.size); have iJ0 : 0 ≤ (i : Int) + (j : Int) := (by omega); have iJ : (i : Int) + (j : Int) ≤ (S.size : Int) := (by omega); have sA : IntKind.i64.wrap ((i : Int) + (j : Int)) = (i : Int) + (j : Int) := (IntWalk.i64_in _ (by omega)); have iJn : ((i : Int) + (j : Int)).toNat = i + j := (by omega); have hx3 : (S.extract (i + j) S.size).size ≤ 31 := (by rw [ByteArray.size_extract]; omega); have hA2 : ∀ W, (Op.stringOp .add (S.extract 0 i ++ s) (S.extract (i + j) S.size)).run Try.prog W = .ok (.string (S.extract 0 i ++ s ++ S.extract (i + j) S.size)) W := (fun W => run_string_add_sum W _ _ (by omega))))
    have hx4 : (S.extract 0 i ++ s ++ S.extract (i + j) S.size).size ≤ 1000 := by rw [ByteArray.size_append]; omega
    go_wp2_with fail
    go_ret
    exact ⟨_, rfl, hx4, B8⟩
end Go.Proofs.Ytpimndfafibgeaa
