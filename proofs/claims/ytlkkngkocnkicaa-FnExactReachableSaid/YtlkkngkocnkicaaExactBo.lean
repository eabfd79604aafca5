/- The helpers of the exact laws over rows of bools: eqBoolS, markBoolS, heldBoolS. -/
import Derived.Test.YtlkkngkocnkicaaMemB
import Derived.Test.YtlkkngkocnkicaaExactC
namespace Go.Proofs.Ytlkkngkocnkicaa
open Go.RowKit

theorem take_snocB {l : List Bool} {k : Nat} {x : Bool} (h : l[k]? = some x) : l.take (k + 1) = l.take k ++ [x] := by
  rw [List.take_add_one, h]; rfl
theorem eq_takeB {xs ys : List Bool} {k : Nat} {x : Bool} (hx : xs[k]? = some x) (hy : ys[k]? = some x) (h : xs.take k = ys.take k) : xs.take (k + 1) = ys.take (k + 1) := by
  rw [take_snocB hx, take_snocB hy, h]
set_option maxHeartbeats 400000 in
theorem eqBoolS_any (w : World) (lo lo' : Nat) (A A' : Option Addr) (n c n' c' : Nat) (xs ys : List Bool) (h : RowB w lo (.slice A n c) xs) (hn : xs.length = n) (hm : n ≤ 9223372036854775807)
    (h' : RowB w lo' (.slice A' n' c') ys) (hn' : ys.length = n') (hm' : n' ≤ 9223372036854775807) :
    Calls Try.prog 29 #[.slice A n c, .slice A' n' c'] w fun e w' => e = .returned (.bool (decide (xs = ys))) ∧ ∃ nq, w' = w.drewN nq := by
  by_cases hne : n = n'
  · subst hne
    go_enter Try.func29, Try.ntmps29
    go_wp2
    go_loopw [5] (fun i wr => (∃ k : Nat, k ≤ n ∧ i = .int .i64 k ∧ Hid (xs.take k = ys.take k)) ∧ ∃ nq, wr = w.drewN nq) (fun i _ => n - (intOf i).toNat)
    case atStart => exact ⟨⟨0, Nat.zero_le _, rfl, rfl⟩, 0, rfl⟩
    case round =>
      obtain ⟨⟨k, hk, rfl, ht⟩, nq, rfl⟩ := hrel
      by_cases hlt : k < n
      · obtain ⟨g, x, rfl, _, _, hx, hcell, _⟩ := h.get (k := k) (by omega)
        obtain ⟨g', y, rfl, _, _, hy, hcell', _⟩ := h'.get (k := k) (by omega)
        have hb1 : (k : Int) < (n : Int) := by omega
        by_cases hxy : x = y
        · subst hxy
          have Ht : Hid (xs.take (k + 1) = ys.take (k + 1)) := eq_takeB hx.out hy.out ht.out
          clear ht hx hy
          cases x
          all_goals
            go_wp2
            go_quiet (fail)
            go_wp2
            go_roundw
            case rel => exact ⟨⟨k + 1, by omega, by go_num, Ht⟩, _, by first | rfl | (rw [World.drewN_drewN])⟩
            case measure => simp [intOf]; omega
        · have Hf : Hid (decide (xs = ys) = false) := by
            unfold Hid; simp only [decide_eq_false_iff_not]; rintro rfl
            have e := hx.out.symm.trans hy.out
            exact hxy (by simpa using e)
          clear ht hx hy
          have hxy2 : (x = true ∧ y = false) ∨ (x = false ∧ y = true) := by cases x <;> cases y <;> simp at hxy ⊢
          clear hxy
          rcases hxy2 with ⟨rfl, rfl⟩ | ⟨rfl, rfl⟩
          all_goals
            go_wp2
            go_quiet (fail)
            go_wp2
            go_ret
            exact ⟨ret_bool Hf.out.symm, _, by first | rfl | (rw [World.drewN_drewN])⟩
      · obtain rfl : k = n := by omega
        have Hf : Hid (decide (xs = ys) = true) := by
          have := ht.out; rw [List.take_of_length_le (by omega), List.take_of_length_le (by omega)] at this; unfold Hid; simpa using this
        go_wp2
        go_ret
        exact ⟨ret_bool Hf.out.symm, _, rfl⟩
  · have hne2 : ((n : Int) != (n' : Int)) = true := by simp; omega
    have Hf : Hid (decide (xs = ys) = false) := by
      unfold Hid; simp only [decide_eq_false_iff_not]; rintro rfl; omega
    go_enter Try.func29, Try.ntmps29
    go_wp2
    go_ret
    exact ⟨ret_bool Hf.out.symm, 0, rfl⟩


/-- Which of k, k+1, .. can be divided by three. -/
def seqB (k n : Nat) : List Bool := (List.range n).map fun i => (((k + i : Nat) : Int) % 3 == 0)
theorem seqB_len (k n : Nat) : (seqB k n).length = n := by simp [seqB]
theorem seqB_succ (k n : Nat) : seqB k (n + 1) = seqB k n ++ [(((k + n : Nat) : Int) % 3 == 0)] := by simp [seqB, List.range_succ]
theorem seqB_set {xs : List Bool} {k j : Nat} (h : j < xs.length) : (seqB k j ++ xs.drop j).set j (((k + j : Nat) : Int) % 3 == 0) = seqB k (j + 1) ++ xs.drop (j + 1) := by
  rw [List.set_append, if_neg (by rw [seqB_len]; omega), seqB_len, Nat.sub_self, List.drop_eq_getElem_cons h, List.set_cons_zero, seqB_succ]
  simp

/-- The row holds k, k+1, ..; its own block alone has turned. -/
def MarkedB (w : World) (lo k n : Nat) (v : Value) (e : Ending) (w' : World) : Prop :=
  e = .returned (.int .i64 ((k + n : Nat) : Int)) ∧ RowB w' lo v (seqB k n) ∧ w.grownBy w' v.ownBlock ∧ w'.heap.size = w.heap.size

set_option maxHeartbeats 400000 in
theorem markBoolS_any (w : World) (lo : Nat) (A : Option Addr) (n c : Nat) (xs : List Bool) (h : RowB w lo (.slice A n c) xs) (hn : xs.length = n) (hm : n ≤ 1048576) (k : Nat) (hk : k ≤ 1073741824) :
    Calls Try.prog 32 #[.slice A n c, .int .i64 k] w (MarkedB w lo k n (.slice A n c)) := by
  go_enter Try.func32, Try.ntmps32
  go_wp2_with fail
  go_loopw [1, 5] (fun q i wr => ∃ j : Nat, j ≤ n ∧ i = .int .i64 j ∧ q = .int .i64 ((k + j : Nat) : Int) ∧ RowB wr lo (.slice A n c) (seqB k j ++ xs.drop j) ∧ Hid (w.grownBy wr (Value.slice A n c).ownBlock ∧ wr.heap.size = w.heap.size)) (fun _ i _ => n - (intOf i).toNat)
  case atStart => exact ⟨0, Nat.zero_le _, rfl, rfl, h, World.grownBy.refl _ _, rfl⟩
  case round =>
    obtain ⟨j, hj, rfl, rfl, hr, hg⟩ := hrel
    by_cases hlt : j < n
    · obtain ⟨g, x, rfl, _, _, _, hcell, hfr⟩ := hr.get (k := j) (by simp [seqB_len]; omega)
      have hr' := hr.set_ j (((k + j : Nat) : Int) % 3 == 0)
      rw [seqB_set (by omega)] at hr'
      have hg' : Hid (w.grownBy (wr.setCell ⟨g, j, none⟩ (bv (((k + j : Nat) : Int) % 3 == 0))) (Value.slice (some ⟨g, 0, none⟩) n c).ownBlock ∧ (wr.setCell ⟨g, j, none⟩ (bv (((k + j : Nat) : Int) % 3 == 0))).heap.size = w.heap.size) :=
        ⟨⟨hg.out.1.os, hg.out.1.tape, hg.out.1.output, by simpa [World.setCell] using hg.out.1.size, fun i hi hne => (Below.heap_setCell _ _ _ _ (fun e => hne (by rw [e]; rfl))).trans (hg.out.1.block i hi hne)⟩, by simpa [World.setCell] using hg.out.2⟩
      have eS : (((k + j : Nat) : Int) + 1) = ((k + (j + 1) : Nat) : Int) := by omega
      have HS := Lib.hid eS
      clear hr hg h eS
      generalize hkj : ((k + j : Nat) : Int) = kj at *
      have hb : 0 ≤ kj ∧ kj ≤ 1074790400 := by omega
      obtain ⟨hb1, hb2⟩ := hb
      have HK := Lib.hid hkj
      clear hkj
      go_wp2_with fail
      go_roundw
      case rel => exact ⟨j + 1, by omega, by go_num, by rw [HS.out], hr', hg'⟩
      case measure => simp [intOf]; omega
    · obtain rfl : j = n := by omega
      have hr' : RowB wr lo (.slice A j c) (seqB k j) := by
        have := hr; rw [List.drop_of_length_le (by omega), List.append_nil] at this; exact this
      clear hr
      go_wp2_with fail
      go_ret
      exact ⟨rfl, hr', hg.out.1, hg.out.2⟩

def heldRB (k : Nat) (xs : List Bool) : Int := if xs = seqB k xs.length then ((k + xs.length : Nat) : Int) else -1

set_option maxHeartbeats 400000 in
theorem heldBoolS_any (w : World) (lo : Nat) (A : Option Addr) (n c : Nat) (xs : List Bool) (h : RowB w lo (.slice A n c) xs) (hn : xs.length = n) (hm : n ≤ 1048576) (k : Nat) (hk : k ≤ 1073741824) :
    Calls Try.prog 33 #[.slice A n c, .int .i64 k] w fun e w' => e = .returned (.int .i64 (heldRB k xs)) ∧ w = w' := by
  go_enter Try.func33, Try.ntmps33
  go_wp2_with fail
  go_loop [1, 5] (fun q i => ∃ j : Nat, j ≤ n ∧ i = .int .i64 j ∧ q = .int .i64 ((k + j : Nat) : Int) ∧ Hid (xs.take j = seqB k j)) (fun _ i => n - (intOf i).toNat)
  case atStart => exact ⟨0, Nat.zero_le _, rfl, rfl, rfl⟩
  case round =>
    obtain ⟨j, hj, rfl, rfl, ht⟩ := hrel
    by_cases hlt : j < n
    · obtain ⟨g, x, rfl, _, _, hx, hcell, _⟩ := h.get (k := j) (by omega)
      have eS : (((k + j : Nat) : Int) + 1) = ((k + (j + 1) : Nat) : Int) := by omega
      have HS := Lib.hid eS
      clear eS
      have hx2 := hx.out
      have ht2 := ht.out
      have htk : xs.take (j + 1) = seqB k j ++ [x] := by rw [take_snocB hx.out, ht.out]
      have hsj := seqB_succ k j
      have hne : x ≠ (((k + j : Nat) : Int) % 3 == 0) → heldRB k xs = -1 := fun hxy => by
        unfold heldRB; rw [if_neg]
        intro e
        rw [e, hn] at hx2
        simp [seqB, List.getElem?_range hlt] at hx2
        exact hxy (by rw [← hx2]; simp)
      clear ht hx hx2 ht2
      generalize hkj : ((k + j : Nat) : Int) = kj at *
      have hb1 : 0 ≤ kj := by omega
      have hb2 : kj ≤ 1074790400 := by omega
      have HK := Lib.hid hkj
      clear hkj
      generalize hm3 : (kj % 3 == 0) = m3 at hsj hne
      have HT := Lib.hid htk
      have HJ := Lib.hid hsj
      have HN := Lib.hid hne
      clear htk hsj hne
      cases x <;> cases m3
      · go_wp2_with fail
        go_round
        case rel => exact ⟨j + 1, by omega, by go_num, by rw [HS.out], by unfold Hid; rw [HT.out, HJ.out]⟩
        case measure => simp [intOf]; omega
      · have hf := HN.out (by simp)
        have HFF := Lib.hid hf
        clear hf
        go_wp2_with fail
        go_ret
        exact ⟨ret_int HFF.out.symm, rfl⟩
      · have hf := HN.out (by simp)
        have HFF := Lib.hid hf
        clear hf
        go_wp2_with fail
        go_ret
        exact ⟨ret_int HFF.out.symm, rfl⟩
      · go_wp2_with fail
        go_round
        case rel => exact ⟨j + 1, by omega, by go_num, by rw [HS.out], by unfold Hid; rw [HT.out, HJ.out]⟩
        case measure => simp [intOf]; omega
    · obtain rfl : j = n := by omega
      have hf : Hid (heldRB k xs = ((k + j : Nat) : Int)) := by
        have := ht.out; rw [List.take_of_length_le (by omega)] at this
        unfold Hid heldRB; rw [hn, if_pos this]
      go_wp2_with fail
      go_ret
      exact ⟨ret_int hf.out.symm, rfl⟩

theorem RowB.keptNot {w w' : World} {lo : Nat} {v u : Value} {xs : List Bool} (hv : RowB w lo v xs) (fr : ∀ b, b < w.heap.size → NotIn u b → w'.heap[b]? = w.heap[b]?) (hn : ∀ b, v.ownBlock = some b → NotIn u b) : RowB w' lo v xs := by
  refine ⟨hv.1, ?_⟩
  rcases hv.2 with h2 | ⟨g, cap, cur, rfl, hg, hh, r⟩
  · exact .inl h2
  · exact .inr ⟨g, cap, cur, rfl, hg, by rw [fr g (hv.lt g rfl).2 (hn g rfl)]; exact hh, r⟩
theorem RowB.belowLo {w w' : World} {lo : Nat} {v : Value} {xs : List Bool} (h : RowB w lo v xs) (hl : lo ≤ w.heap.size) (hg : w.grownBy w' v.ownBlock) : Below lo w w' :=
  ⟨hg.os, hg.tape, hg.output, hg.size, fun k hk => hg.block k (by omega) (fun e => by have := (h.lt k e.symm).1; omega)⟩
theorem rowB_apart {w w' : World} {lo lo' : Nat} {v u : Value} {xs ys : List Bool} (hv : RowB w lo v xs) (hu : RowB w' lo' u ys) (h : w.heap.size ≤ lo') : v.ownBlock = none ∨ v.ownBlock ≠ u.ownBlock := by
  cases hob : v.ownBlock with
  | none => exact .inl rfl
  | some b =>
    refine .inr fun e => ?_
    have h1 := (hv.lt b hob).2
    have h2 := (hu.lt b e.symm).1
    omega
theorem RowB.max {w : World} {lo n c : Nat} {A : Option Addr} {xs : List Bool} (h : RowB w lo (.slice A n c) xs) : xs.length ≤ 9223372036854775807 := by
  obtain ⟨A', c', _, h1, h2⟩ := h.form
  unfold maxLen at h2; omega
theorem eqBoolS_same (w : World) (lo lo' : Nat) (A A' : Option Addr) (c c' : Nat) (xs : List Bool) (h : RowB w lo (.slice A xs.length c) xs) (h' : RowB w lo' (.slice A' xs.length c') xs) :
    Calls Try.prog 29 #[.slice A xs.length c, .slice A' xs.length c'] w (RetB w true) :=
  (eqBoolS_any w lo lo' A A' xs.length c xs.length c' xs xs h rfl h.max h' rfl h.max).mono fun _ _ ⟨he, nq, hw⟩ => ⟨by rw [he]; simp, by rw [hw]; exact below_drewN (Below.refl _ _) _⟩
theorem markB1 (xs : List Bool) (hm : xs.length ≤ 1048576) :
    ∃ N : Int, ¬ (N < 0) ∧ (N != N) = false ∧
      (∀ (w : World) (lo : Nat) (A : Option Addr) (c : Nat), RowB w lo (.slice A xs.length c) xs → Calls Try.prog 32 #[.slice A xs.length c, .int .i64 1] w
        (fun e w' => e = .returned (.int .i64 N) ∧ RowB w' lo (.slice A xs.length c) (seqB 1 xs.length) ∧ w.grownBy w' (Value.slice A xs.length c).ownBlock)) ∧
      (∀ (w : World) (lo : Nat) (A : Option Addr) (c : Nat), RowB w lo (.slice A xs.length c) (seqB 1 xs.length) → Calls Try.prog 33 #[.slice A xs.length c, .int .i64 1] w (RetI w N)) := by
  refine ⟨((1 + xs.length : Nat) : Int), by omega, by simp, fun w lo A c h => ?_, fun w lo A c h => ?_⟩
  · exact (markBoolS_any w lo A xs.length c xs h rfl hm 1 (by omega)).mono fun _ _ ⟨a, b, c, _⟩ => ⟨a, b, c⟩
  · refine (heldBoolS_any w lo A xs.length c (seqB 1 xs.length) h (seqB_len _ _) hm 1 (by omega)).mono fun e w' ⟨a, b⟩ => ⟨?_, ?_⟩
    · rw [a]
      unfold heldRB
      rw [seqB_len, if_pos rfl]
    · subst b; exact Below.refl _ _
end Go.Proofs.Ytlkkngkocnkicaa
