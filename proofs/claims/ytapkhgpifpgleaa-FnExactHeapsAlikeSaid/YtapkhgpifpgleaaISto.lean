/- impl's chapter 4: StoreSame, slices.Contains, markDifferent, markTargets. -/
import Derived.Test.YtapkhgpifpgleaaStoC
import Derived.Test.YtapkhgpifpgleaaSBlack
import Derived.Test.YtapkhgpifpgleaaPureN
import Derived.Test.YtapkhgpifpgleaaLives
import Derived.Test.YtapkhgpifpgleaaRdA
import Derived.Test.YtapkhgpifpgleaaSlIx
namespace Go.Proofs.Ytapkhgpifpgleaa
open Go.RowKit

set_option maxHeartbeats 1000000 in
theorem slicesContains_any (w : World) (lo : Nat) (A : Option Addr) (n c : Nat) (xs : List Int) (h : Row w lo (.slice A n c) xs) (hn : xs.length = n) (hm : n ≤ 9223372036854775807) (x : Int) :
    Calls Try.prog 72 #[.slice A n c, .int .i64 x] w fun e w' => e = .returned (.bool (decide (x ∈ xs))) ∧ w = w' := by
  have I := slicesIndex_any w lo A n c xs h hn hm x
  by_cases hx : x ∈ xs
  · obtain ⟨k, e, _⟩ := first_pos hx
    rw [e] at I
    have hk : (0 : Int) ≤ (k : Int) := by omega
    have hd : Hid (decide (x ∈ xs) = true) := by unfold Hid; simp [hx]
    clear e hx
    go_enter Try.func72, Try.ntmps72
    go_wp2_with fail
    refine I.mono ?_; rintro e w' ⟨rfl, rfl⟩
    go_wp2_with fail
    go_ret
    exact ⟨ret_bool hd.out.symm, rfl⟩
  · rw [first_neg hx] at I
    have hd : Hid (decide (x ∈ xs) = false) := by unfold Hid; simp [hx]
    clear hx
    go_enter Try.func72, Try.ntmps72
    go_wp2_with fail
    refine I.mono ?_; rintro e w' ⟨rfl, rfl⟩
    go_wp2_with fail
    go_ret
    exact ⟨ret_bool hd.out.symm, rfl⟩

/-- The marks of n cells: those of ys. -/
def markL (n : Nat) (ys : List Int) : List Bool := (List.range n).map fun i : Nat => decide ((i : Int) ∈ ys)
theorem markL_len (n : Nat) (ys : List Int) : (markL n ys).length = n := by unfold markL; simp
theorem markL_at {n : Nat} {ys : List Int} {k : Nat} (hk : k < n) : (markL n ys)[k]? = some (decide ((k : Int) ∈ ys)) := by
  unfold markL; simp [hk]
theorem markL_nil (n : Nat) : markL n [] = List.replicate n false := by
  apply List.ext_getElem?; intro i
  by_cases hi : i < n
  · rw [markL_at hi]; simp [hi]
  · rw [List.getElem?_eq_none (by rw [markL_len]; omega), List.getElem?_eq_none (by simp; omega)]
theorem markL_set {n : Nat} (ys : List Int) (k : Nat) : (markL n ys).set k true = markL n (ys ++ [(k : Int)]) := by
  apply List.ext_getElem?; intro i
  rw [List.getElem?_set, markL_len]
  by_cases hi : i < n
  · rw [markL_at hi, markL_at hi]
    by_cases e : k = i
    · subst e; rw [if_pos rfl, if_pos hi]; simp
    · rw [if_neg e]
      have h9 : ((i : Int) ∈ ys ++ [(k : Int)]) ↔ (i : Int) ∈ ys := by
        rw [List.mem_append, List.mem_singleton]
        exact ⟨fun h => h.resolve_right (by omega), .inl⟩
      simp [h9]
  · rw [List.getElem?_eq_none (by rw [markL_len]; omega : (markL n (ys ++ [(k : Int)])).length ≤ i), List.getElem?_eq_none (by rw [markL_len]; omega : (markL n ys).length ≤ i)]
    split
    · rw [if_neg (by omega)]
    · rfl
theorem markL_none (n : Nat) (ys : List Int) : markL n (ys ++ [-1]) = markL n ys := by
  unfold markL
  apply List.map_congr_left
  intro i _
  have h9 : ((i : Int) ∈ ys ++ [-1]) ↔ (i : Int) ∈ ys := by
    rw [List.mem_append, List.mem_singleton]
    exact ⟨fun h => h.resolve_right (by omega), .inl⟩
  simp [h9]
/-- Cells of n, all different. -/
def difB (n : Nat) (xs : List Int) : Bool := decide ((∀ x ∈ xs, 0 ≤ x ∧ x < n) ∧ xs.Nodup)
theorem dif_out {n : Nat} {xs : List Int} {k : Nat} {x : Int} (hx : xs[k]? = some x) (h : ¬ (0 ≤ x ∧ x < n)) : difB n xs = false := by
  unfold difB; rw [decide_eq_false_iff_not]; intro h9; exact h (h9.1 x (List.mem_of_getElem? hx))
theorem dif_dup {n : Nat} {xs : List Int} {k : Nat} {x : Int} (hx : xs[k]? = some x) (h : x ∈ xs.take k) : difB n xs = false := by
  unfold difB; rw [decide_eq_false_iff_not]; rintro ⟨_, hn⟩
  obtain ⟨j, hj, he⟩ := List.getElem_of_mem h
  obtain ⟨hk, ek⟩ := List.getElem?_eq_some_iff.1 hx
  have hj' : j < k := by rw [List.length_take] at hj; omega
  rw [List.getElem_take] at he
  exact (List.pairwise_iff_getElem.1 hn) j k (by omega) hk hj' (he.trans ek.symm)
theorem dif_next {n : Nat} {xs : List Int} {k : Nat} {x : Int} (hx : xs[k]? = some x) (h0 : 0 ≤ x ∧ x < n) (h1 : x ∉ xs.take k) (h : difB n (xs.take k) = true) : difB n (xs.take (k + 1)) = true := by
  unfold difB at h ⊢
  rw [decide_eq_true_eq] at h ⊢
  refine ⟨?_, nodup_take hx h1 h.2⟩
  rw [List.take_add_one, hx, Option.toList_some]
  intro y hy
  rcases List.mem_append.1 hy with h9 | h9
  · exact h.1 y h9
  · rw [List.mem_singleton.1 h9]; exact h0
theorem take_next {xs : List Int} {k : Nat} {x : Int} (hx : xs[k]? = some x) : xs.take (k + 1) = xs.take k ++ [x] := by rw [List.take_add_one, hx]; rfl

set_option maxRecDepth 100000 in
set_option maxHeartbeats 2000000 in
theorem markDifferent_any (w : World) (lo lm g : Nat) (A : Option Addr) (n c m d : Nat) (xs : List Int) (hr : RowB w lm (.slice (some ⟨g, 0, none⟩) m d) (markL m [])) (h : Row w lo (.slice A n c) xs) (l : Hid (xs.length = n)) (hm : n ≤ 9223372036854775807)
    (hne : (Value.slice A n c).ownBlock ≠ some g) :
    Calls Try.prog 71 #[.slice (some ⟨g, 0, none⟩) m d, .slice A n c] w fun e w' => e = .returned (.bool (difB m xs)) ∧ (∃ ys, RowB w' lm (.slice (some ⟨g, 0, none⟩) m d) ys ∧ ys.length = m) ∧ w.grownBy w' (some g) ∧ w'.heap.size = w.heap.size := by
  have LL := Lib.hid (markL_len m)
  go_enter Try.func71, Try.ntmps71
  go_wp2_with fail
  go_loopw [6, 9] (fun _ i wr => ∃ k : Nat, k ≤ n ∧ i = .int .i64 k ∧ RowB wr lm (.slice (some ⟨g, 0, none⟩) m d) (markL m (xs.take k)) ∧ Row wr lo (.slice A n c) xs ∧ Hid (difB m (xs.take k) = true) ∧ w.grownBy wr (some g) ∧ Hid (wr.heap.size = w.heap.size)) (fun _ i _ => n - (intOf i).toNat)
  case atStart => exact ⟨0, Nat.zero_le _, rfl, hr, h, by unfold Hid difB; simp, World.grownBy.refl w _, rfl⟩
  case round =>
    clear hr h
    obtain ⟨k, hk, rfl, R, H, hd, G, hs⟩ := hrel
    by_cases hlt : k < n
    · obtain ⟨gx, y, rfl, _, _, hy, hcy, _⟩ := H.get (k := k) (by rw [l.out]; exact hlt)
      have hb : (k : Int) < (n : Int) := by omega
      have ngx : gx ≠ g := fun e => hne (by rw [e]; rfl)
      by_cases hy0 : y < 0
      · have hf : Hid (difB m xs = false) := dif_out hy.out (by omega)
        clear hy hd
        go_wp2_with fail
        go_ret
        exact ⟨ret_bool hf.out.symm, ⟨_, R, LL.out _⟩, G, hs.out⟩
      · obtain ⟨j, rfl⟩ := Int.eq_ofNat_of_zero_le (by omega : 0 ≤ y)
        by_cases hym : m ≤ j
        · have hf : Hid (difB m xs = false) := dif_out hy.out (by omega)
          have hjm : (m : Int) ≤ (j : Int) := by omega
          clear hy hd
          go_wp2_with fail
          go_ret
          exact ⟨ret_bool hf.out.symm, ⟨_, R, LL.out _⟩, G, hs.out⟩
        · have hjm : (j : Int) < (m : Int) := by omega
          have hjm2 : ¬ ((m : Int) ≤ (j : Int)) := by omega
          obtain ⟨_, b, eb, _, _, hb1, hcb, hfb⟩ := R.get (k := j) (by rw [markL_len]; omega)
          cases eb
          have hbm : Hid (b = decide ((j : Int) ∈ xs.take k)) := by
            have h9 := hb1.out; rw [markL_at (by omega)] at h9; exact (Option.some.inj h9).symm
          clear hb1
          by_cases hmem : (j : Int) ∈ xs.take k
          · obtain rfl : b = true := by rw [hbm.out]; simp [hmem]
            have hf : Hid (difB m xs = false) := dif_dup hy.out hmem
            clear hy hd hbm hmem
            go_wp2_with fail
            go_ret
            exact ⟨ret_bool hf.out.symm, ⟨_, R, LL.out _⟩, G, hs.out⟩
          · obtain rfl : b = false := by rw [hbm.out]; simp [hmem]
            have hd' : Hid (difB m (xs.take (k + 1)) = true) := dif_next hy.out (by omega) hmem hd.out
            have R' := R.set_ j true
            rw [markL_set, ← take_next hy.out] at R'
            have H' := H.other (a := ⟨g, j, none⟩) hne (bv true)
            have G' := grown_setNew G (p := ⟨g, j, none⟩) (.inl rfl) (bv true)
            have hs' : Hid ((wr.setCell ⟨g, j, none⟩ (bv true)).heap.size = w.heap.size) := by unfold Hid; simp [World.setCell, hs.out]
            clear hy hd hbm hmem R H G hs
            go_wp2_with fail
            go_roundw
            case rel => exact ⟨k + 1, by omega, by go_num, R', H', hd', G', hs'⟩
            case measure => simp [intOf]; omega
    · obtain rfl : k = n := by omega
      have hf : Hid (difB m xs = true) := by
        have h9 := hd.out; rw [List.take_of_length_le (by rw [l.out]; exact Nat.le_refl _)] at h9; exact h9
      clear hd
      go_wp2_with fail
      go_ret
      exact ⟨ret_bool hf.out.symm, ⟨_, R, LL.out _⟩, G, hs.out⟩

end Go.Proofs.Ytapkhgpifpgleaa
