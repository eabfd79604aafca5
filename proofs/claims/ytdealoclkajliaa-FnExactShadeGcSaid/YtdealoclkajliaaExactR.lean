/- The helpers of the exact laws over rows: eqIntS, markIntS, heldIntS. -/
import Derived.Test.YtdealoclkajliaaMake
namespace Go.Proofs.Ytdealoclkajliaa
open Go.RowKit

set_option maxHeartbeats 400000 in
theorem eqIntS_any (w : World) (lo lo' : Nat) (A A' : Option Addr) (n c n' c' : Nat) (xs ys : List Int) (h : Row w lo (.slice A n c) xs) (hn : xs.length = n) (hm : n ≤ 9223372036854775807)
    (h' : Row w lo' (.slice A' n' c') ys) (hn' : ys.length = n') (hm' : n' ≤ 9223372036854775807) :
    Calls Try.prog 44 #[.slice A n c, .slice A' n' c'] w fun e w' => e = .returned (.bool (decide (xs = ys))) ∧ ∃ nq, w' = w.drewN nq := by
  by_cases hne : n = n'
  · subst hne
    go_enter Try.func44, Try.ntmps44
    go_wp2
    go_loopw [5] (fun i wr => (∃ k : Nat, k ≤ n ∧ i = .int .i64 k ∧ Hid (xs.take k = ys.take k)) ∧ ∃ nq, wr = w.drewN nq) (fun i _ => n - (intOf i).toNat)
    case atStart => exact ⟨⟨0, Nat.zero_le _, rfl, rfl⟩, 0, rfl⟩
    case round =>
      obtain ⟨⟨k, hk, rfl, ht⟩, nq, rfl⟩ := hrel
      by_cases hlt : k < n
      · obtain ⟨g, x, rfl, _, _, hx, hcell, _⟩ := h.get (k := k) (by omega)
        obtain ⟨g', y, rfl, _, _, hy, hcell', _⟩ := h'.get (k := k) (by omega)
        have hb1 : (k : Int) < (n : Int) := by omega
        by_cases hxy : x = y
        · subst hxy
          have Ht : Hid (xs.take (k + 1) = ys.take (k + 1)) := eq_take hx.out hy.out ht.out
          clear ht hx hy
          go_wp2
          go_quiet (fail)
          go_wp2
          go_roundw
          case rel => exact ⟨⟨k + 1, by omega, by go_num, Ht⟩, _, by first | rfl | (rw [World.drewN_drewN])⟩
          case measure => simp [intOf]; omega
        · have hxy2 : (x != y) = true := by simpa using hxy
          have Hf : Hid (decide (xs = ys) = false) := by
            unfold Hid; simp only [decide_eq_false_iff_not]; rintro rfl
            have e := hx.out.symm.trans hy.out
            exact hxy (by simpa using e)
          clear ht hx hy
          go_wp2
          go_quiet (fail)
          go_wp2
          go_ret
          exact ⟨ret_bool Hf.out.symm, _, by first | rfl | (rw [World.drewN_drewN])⟩
      · obtain rfl : k = n := by omega
        have Hf : Hid (decide (xs = ys) = true) := by
          have := ht.out; rw [List.take_of_length_le (by omega), List.take_of_length_le (by omega)] at this; unfold Hid; simpa using this
        go_wp2
        go_ret
        exact ⟨ret_bool Hf.out.symm, _, rfl⟩
  · have hne2 : ((n : Int) != (n' : Int)) = true := by simp; omega
    have Hf : Hid (decide (xs = ys) = false) := by
      unfold Hid; simp only [decide_eq_false_iff_not]; rintro rfl; omega
    go_enter Try.func44, Try.ntmps44
    go_wp2
    go_ret
    exact ⟨ret_bool Hf.out.symm, 0, rfl⟩

/-- k, k+1, .. : n numbers. -/
def seqI (k n : Nat) : List Int := (List.range n).map fun i => ((k + i : Nat) : Int)
theorem seqI_len (k n : Nat) : (seqI k n).length = n := by simp [seqI]
theorem seqI_succ (k n : Nat) : seqI k (n + 1) = seqI k n ++ [((k + n : Nat) : Int)] := by simp [seqI, List.range_succ]
theorem seqI_set {xs : List Int} {k j : Nat} (h : j < xs.length) : (seqI k j ++ xs.drop j).set j ((k + j : Nat) : Int) = seqI k (j + 1) ++ xs.drop (j + 1) := by
  rw [List.set_append, if_neg (by rw [seqI_len]; omega), seqI_len, Nat.sub_self, List.drop_eq_getElem_cons h, List.set_cons_zero, seqI_succ]
  simp

/-- The row holds k, k+1, ..; its own block alone has turned. -/
def Marked (w : World) (lo k n : Nat) (v : Value) (e : Ending) (w' : World) : Prop :=
  e = .returned (.int .i64 ((k + n : Nat) : Int)) ∧ Row w' lo v (seqI k n) ∧ w.grownBy w' v.ownBlock ∧ w'.heap.size = w.heap.size

set_option maxHeartbeats 400000 in
theorem markIntS_any (w : World) (lo : Nat) (A : Option Addr) (n c : Nat) (xs : List Int) (h : Row w lo (.slice A n c) xs) (hn : xs.length = n) (hm : n ≤ 1048576) (k : Nat) (hk : k ≤ 1073741824) :
    Calls Try.prog 47 #[.slice A n c, .int .i64 k] w (Marked w lo k n (.slice A n c)) := by
  go_enter Try.func47, Try.ntmps47
  go_wp2_with fail
  go_loopw [1, 5] (fun q i wr => ∃ j : Nat, j ≤ n ∧ i = .int .i64 j ∧ q = .int .i64 ((k + j : Nat) : Int) ∧ Row wr lo (.slice A n c) (seqI k j ++ xs.drop j) ∧ Hid (w.grownBy wr (Value.slice A n c).ownBlock ∧ wr.heap.size = w.heap.size)) (fun _ i _ => n - (intOf i).toNat)
  case atStart => exact ⟨0, Nat.zero_le _, rfl, rfl, h, World.grownBy.refl _ _, rfl⟩
  case round =>
    obtain ⟨j, hj, rfl, rfl, hr, hg⟩ := hrel
    by_cases hlt : j < n
    · obtain ⟨g, x, rfl, _, _, _, hcell, hfr⟩ := hr.get (k := j) (by simp [seqI_len]; omega)
      have hr' := hr.set_ j ((k + j : Nat) : Int)
      rw [seqI_set (by omega)] at hr'
      have hg' : Hid (w.grownBy (wr.setCell ⟨g, j, none⟩ (.int .i64 ((k + j : Nat) : Int))) (Value.slice (some ⟨g, 0, none⟩) n c).ownBlock ∧ (wr.setCell ⟨g, j, none⟩ (.int .i64 ((k + j : Nat) : Int))).heap.size = w.heap.size) :=
        ⟨⟨hg.out.1.os, hg.out.1.tape, hg.out.1.output, by simpa [World.setCell] using hg.out.1.size, fun i hi hne => (Below.heap_setCell _ _ _ _ (fun e => hne (by rw [e]; rfl))).trans (hg.out.1.block i hi hne)⟩, by simpa [World.setCell] using hg.out.2⟩
      have eS : (((k + j : Nat) : Int) + 1) = ((k + (j + 1) : Nat) : Int) := by omega
      have HS := Lib.hid eS
      clear hr hg h eS
      generalize hkj : ((k + j : Nat) : Int) = kj at *
      have hb : 0 ≤ kj ∧ kj ≤ 1074790400 := by omega
      obtain ⟨hb1, hb2⟩ := hb
      have HK := Lib.hid hkj
      clear hkj
      go_wp2_with fail
      go_roundw
      case rel => exact ⟨j + 1, by omega, by go_num, by rw [HS.out], hr', hg'⟩
      case measure => simp [intOf]; omega
    · obtain rfl : j = n := by omega
      have hr' : Row wr lo (.slice A j c) (seqI k j) := by
        have := hr; rw [List.drop_of_length_le (by omega), List.append_nil] at this; exact this
      clear hr
      go_wp2_with fail
      go_ret
      exact ⟨rfl, hr', hg.out.1, hg.out.2⟩

def heldR (k : Nat) (xs : List Int) : Int := if xs = seqI k xs.length then ((k + xs.length : Nat) : Int) else -1

set_option maxHeartbeats 400000 in
theorem heldIntS_any (w : World) (lo : Nat) (A : Option Addr) (n c : Nat) (xs : List Int) (h : Row w lo (.slice A n c) xs) (hn : xs.length = n) (hm : n ≤ 1048576) (k : Nat) (hk : k ≤ 1073741824) :
    Calls Try.prog 48 #[.slice A n c, .int .i64 k] w fun e w' => e = .returned (.int .i64 (heldR k xs)) ∧ w = w' := by
  go_enter Try.func48, Try.ntmps48
  go_wp2_with fail
  go_loop [1, 5] (fun q i => ∃ j : Nat, j ≤ n ∧ i = .int .i64 j ∧ q = .int .i64 ((k + j : Nat) : Int) ∧ Hid (xs.take j = seqI k j)) (fun _ i => n - (intOf i).toNat)
  case atStart => exact ⟨0, Nat.zero_le _, rfl, rfl, rfl⟩
  case round =>
    obtain ⟨j, hj, rfl, rfl, ht⟩ := hrel
    by_cases hlt : j < n
    · obtain ⟨g, x, rfl, _, _, hx, hcell, _⟩ := h.get (k := j) (by omega)
      have eS : (((k + j : Nat) : Int) + 1) = ((k + (j + 1) : Nat) : Int) := by omega
      have HS := Lib.hid eS
      clear eS
      by_cases hxy : x = ((k + j : Nat) : Int)
      · have ht' : Hid (xs.take (j + 1) = seqI k (j + 1)) := by
          unfold Hid; rw [take_snoc hx.out, seqI_succ, ht.out, hxy]
        clear ht hx
        subst hxy
        generalize hkj : ((k + j : Nat) : Int) = kj at *
        have hb1 : 0 ≤ kj := by omega
        have hb2 : kj ≤ 1074790400 := by omega
        have HK := Lib.hid hkj
        clear hkj
        go_wp2_with fail
        go_round
        case rel => exact ⟨j + 1, by omega, by go_num, by rw [HS.out], ht'⟩
        case measure => simp [intOf]; omega
      · have hf : Hid (heldR k xs = -1) := by
          unfold Hid heldR; rw [if_neg]
          intro e
          have h1 := hx.out
          rw [e, hn] at h1
          simp [seqI, List.getElem?_range hlt] at h1
          exact hxy (by omega)
        have hne : (x != ((k + j : Nat) : Int)) = true := by simpa using hxy
        clear ht hx
        generalize ((k + j : Nat) : Int) = kj at *
        go_wp2_with fail
        go_ret
        exact ⟨ret_int hf.out.symm, rfl⟩
    · obtain rfl : j = n := by omega
      have hf : Hid (heldR k xs = ((k + j : Nat) : Int)) := by
        have := ht.out; rw [List.take_of_length_le (by omega)] at this
        unfold Hid heldR; rw [hn, if_pos this]
      go_wp2_with fail
      go_ret
      exact ⟨ret_int hf.out.symm, rfl⟩
end Go.Proofs.Ytdealoclkajliaa
