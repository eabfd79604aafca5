/- impl's chapter 4: StoreSame, slices.Contains, markDifferent, markTargets. -/
import Derived.Test.YtpipagcpgjoigaaStos
import Derived.Test.YtpipagcpgjoigaaSBlack
import Derived.Test.YtpipagcpgjoigaaPureN
import Derived.Test.YtpipagcpgjoigaaLives
import Derived.Test.YtpipagcpgjoigaaBlk3
namespace Go.Proofs.Ytpipagcpgjoigaa
open Go.RowKit

set_option maxRecDepth 100000 in
set_option maxHeartbeats 3000000 in
theorem implStoreSame_any (w : World) (lo lo' : Nat) (v v' : Value) (a b : Cp) (hv : Cv w lo v a) (hv' : Cv w lo' v' b) : Calls Try.prog 21 #[v, v'] w (RetB w (sameC a b)) := by
  obtain ⟨A0, n0, c0, A1, n1, c1, A2, n2, c2, A3, n3, c3, rfl, hh, ⟨r0, r1, r2, r3⟩, ⟨l0, l1, l2, l3⟩, ⟨m0, m1, m2, m3⟩, _⟩ := hv.open_
  obtain ⟨A0', n0', c0', A1', n1', c1', A2', n2', c2', A3', n3', c3', rfl, hh', ⟨r0', r1', r2', r3'⟩, ⟨l0', l1', l2', l3'⟩, ⟨m0', m1', m2', m3'⟩, _⟩ := hv'.open_
  have X0 := (Blk4.new w (.slice A0 n0 c0) (.slice A1 n1 c1) (.slice A2 n2 c2) (.slice A3 n3 c3) 26).alloc (.cells #[.slice A0' n0' c0', .slice A1' n1' c1', .slice A2' n2' c2', .slice A3' n3' c3'] 26)
  have Y0 := Blk4.new_at (w := w.alloc (.cells #[.slice A0 n0 c0, .slice A1 n1 c1, .slice A2 n2 c2, .slice A3 n3 c3] 26)) (b := w.heap.size + 1) (by simp) (.slice A0' n0' c0') (.slice A1' n1' c1') (.slice A2' n2' c2') (.slice A3' n3' c3') 26
  have H := (hh.alloc (.cells #[.slice A0 n0 c0, .slice A1 n1 c1, .slice A2 n2 c2, .slice A3 n3 c3] 26)).alloc (.cells #[.slice A0' n0' c0', .slice A1' n1' c1', .slice A2' n2' c2', .slice A3' n3' c3'] 26)
  have H' := (hh'.alloc (.cells #[.slice A0 n0 c0, .slice A1 n1 c1, .slice A2 n2 c2, .slice A3 n3 c3] 26)).alloc (.cells #[.slice A0' n0' c0', .slice A1' n1' c1', .slice A2' n2' c2', .slice A3' n3' c3'] 26)
  have R := (r3.alloc (.cells #[.slice A0 n0 c0, .slice A1 n1 c1, .slice A2 n2 c2, .slice A3 n3 c3] 26)).alloc (.cells #[.slice A0' n0' c0', .slice A1' n1' c1', .slice A2' n2' c2', .slice A3' n3' c3'] 26)
  have R' := (r3'.alloc (.cells #[.slice A0 n0 c0, .slice A1 n1 c1, .slice A2 n2 c2, .slice A3 n3 c3] 26)).alloc (.cells #[.slice A0' n0' c0', .slice A1' n1' c1', .slice A2' n2' c2', .slice A3' n3' c3'] 26)
  have fin : Below w.heap.size w ((w.alloc (.cells #[.slice A0 n0 c0, .slice A1 n1 c1, .slice A2 n2 c2, .slice A3 n3 c3] 26)).alloc (.cells #[.slice A0' n0' c0', .slice A1' n1' c1', .slice A2' n2' c2', .slice A3' n3' c3'] 26)) := ((Below.refl _ _).alloc (Nat.le_refl _) _).alloc (by simp) _
  have S := implHeapSame_any _ _ _ _ _ _ _ H H'
  go_enter Try.func21, Try.ntmps21
  go_wp2_with fail
  generalize (w.alloc (.cells #[.slice A0 n0 c0, .slice A1 n1 c1, .slice A2 n2 c2, .slice A3 n3 c3] 26)).alloc (.cells #[.slice A0' n0' c0', .slice A1' n1' c1', .slice A2' n2' c2', .slice A3' n3' c3'] 26) = W at X0 Y0 H H' R R' fin S ⊢
  rcases es : sameB a.h b.h
  · rw [es] at S
    have hf : Hid (sameC a b = false) := by unfold Hid sameC; rw [es]; rfl
    clear es
    refine S.mono ?_; rintro e w1 ⟨rfl, hb1⟩
    go_wp2_with fail
    go_ret
    exact ⟨ret_bool hf.out.symm, fin.trans (hb1.mono fin.size)⟩
  · rw [es] at S
    have hf : Hid (sameC a b = decide (a.c = b.c)) := by unfold Hid sameC; rw [es]; rfl
    clear es
    refine S.mono ?_; rintro e w1 ⟨rfl, hb1⟩
    obtain ⟨x0, x1, x2, x3, _⟩ := (X0.below hb1).cells
    obtain ⟨y0, y1, y2, y3, _⟩ := (Y0.below hb1).cells
    have E := slicesEqual_any w1 _ _ _ _ _ _ _ _ _ _ (R.below hb1) l3.out m3 (R'.below hb1) l3'.out m3'
    generalize decide (a.c = b.c) = q at E hf
    have B1 := fin.trans (hb1.mono fin.size)
    clear S H H' X0 Y0 R R'
    go_wp2_with fail
    refine E.mono ?_; rintro e w2 ⟨rfl, q0, rfl⟩
    go_wp2_with fail
    go_ret
    exact ⟨ret_bool hf.out.symm, below_drewN B1 _⟩

set_option maxHeartbeats 1000000 in
theorem slicesIndex_any (w : World) (lo : Nat) (A : Option Addr) (n c : Nat) (xs : List Int) (h : Row w lo (.slice A n c) xs) (hn : xs.length = n) (hm : n ≤ 9223372036854775807) (x : Int) :
    Calls Try.prog 72 #[.slice A n c, .int .i64 x] w fun e w' => e = .returned (.int .i64 (firstOf xs x)) ∧ w = w' := by
  go_enter Try.func72, Try.ntmps72
  go_wp2
  go_loop [8] (fun i => ∃ k : Nat, k ≤ n ∧ i = .int .i64 k ∧ Hid (∀ j, j < k → xs[j]? ≠ some x)) (fun i => n - (intOf i).toNat)
  case atStart => exact ⟨0, Nat.zero_le _, rfl, fun j hj => absurd hj (Nat.not_lt_zero _)⟩
  case round =>
    obtain ⟨k, hk, rfl, ht⟩ := hrel
    by_cases hlt : k < n
    · obtain ⟨g, y, rfl, _, _, hy, hcy, _⟩ := h.get (k := k) (by omega)
      by_cases hxy : x = y
      · subst hxy
        have hf := Lib.hid (first_at hy.out ht.out)
        clear hy ht
        go_wp2
        go_ret
        exact ⟨ret_int hf.out.symm, rfl⟩
      · have hxy1 : (x == y) = false := by simp [hxy]
        have ht' : Hid (∀ j, j < k + 1 → xs[j]? ≠ some x) := fun j hj => by
          rcases Nat.lt_succ_iff_lt_or_eq.1 hj with h9 | rfl
          · exact ht.out j h9
          · rw [hy.out]; intro e; exact hxy (by simpa using e.symm)
        clear hy ht
        go_wp2
        go_round
        case rel => exact ⟨k + 1, by omega, by go_num, ht'⟩
        case measure => simp [intOf]; omega
    · obtain rfl : k = n := by omega
      have hf : Hid (firstOf xs x = -1) := first_none (fun j hj => ht.out j (by omega))
      clear ht
      go_wp2
      go_ret
      exact ⟨ret_int hf.out.symm, rfl⟩
set_option maxHeartbeats 1000000 in
theorem slicesContains_any (w : World) (lo : Nat) (A : Option Addr) (n c : Nat) (xs : List Int) (h : Row w lo (.slice A n c) xs) (hn : xs.length = n) (hm : n ≤ 9223372036854775807) (x : Int) :
    Calls Try.prog 60 #[.slice A n c, .int .i64 x] w fun e w' => e = .returned (.bool (decide (x ∈ xs))) ∧ w = w' := by
  have I := slicesIndex_any w lo A n c xs h hn hm x
  by_cases hx : x ∈ xs
  · obtain ⟨k, e, _⟩ := first_pos hx
    rw [e] at I
    have hk : (0 : Int) ≤ (k : Int) := by omega
    have hd : Hid (decide (x ∈ xs) = true) := by unfold Hid; simp [hx]
    clear e hx
    go_enter Try.func60, Try.ntmps60
    go_wp2_with fail
    refine I.mono ?_; rintro e w' ⟨rfl, rfl⟩
    go_wp2_with fail
    go_ret
    exact ⟨ret_bool hd.out.symm, rfl⟩
  · rw [first_neg hx] at I
    have hd : Hid (decide (x ∈ xs) = false) := by unfold Hid; simp [hx]
    clear hx
    go_enter Try.func60, Try.ntmps60
    go_wp2_with fail
    refine I.mono ?_; rintro e w' ⟨rfl, rfl⟩
    go_wp2_with fail
    go_ret
    exact ⟨ret_bool hd.out.symm, rfl⟩

/-- The marks of n cells: those of ys. -/
def markL (n : Nat) (ys : List Int) : List Bool := (List.range n).map fun i : Nat => decide ((i : Int) ∈ ys)
theorem markL_len (n : Nat) (ys : List Int) : (markL n ys).length = n := by unfold markL; simp
theorem markL_at {n : Nat} {ys : List Int} {k : Nat} (hk : k < n) : (markL n ys)[k]? = some (decide ((k : Int) ∈ ys)) := by
  unfold markL; simp [hk]
theorem markL_nil (n : Nat) : markL n [] = List.replicate n false := by
  apply List.ext_getElem?; intro i
  by_cases hi : i < n
  · rw [markL_at hi]; simp [hi]
  · rw [List.getElem?_eq_none (by rw [markL_len]; omega), List.getElem?_eq_none (by simp; omega)]
theorem markL_set {n : Nat} (ys : List Int) (k : Nat) : (markL n ys).set k true = markL n (ys ++ [(k : Int)]) := by
  apply List.ext_getElem?; intro i
  rw [List.getElem?_set, markL_len]
  by_cases hi : i < n
  · rw [markL_at hi, markL_at hi]
    by_cases e : k = i
    · subst e; rw [if_pos rfl, if_pos hi]; simp
    · rw [if_neg e]
      have h9 : ((i : Int) ∈ ys ++ [(k : Int)]) ↔ (i : Int) ∈ ys := by
        rw [List.mem_append, List.mem_singleton]
        exact ⟨fun h => h.resolve_right (by omega), .inl⟩
      simp [h9]
  · rw [List.getElem?_eq_none (by rw [markL_len]; omega : (markL n (ys ++ [(k : Int)])).length ≤ i), List.getElem?_eq_none (by rw [markL_len]; omega : (markL n ys).length ≤ i)]
    split
    · rw [if_neg (by omega)]
    · rfl
theorem markL_none (n : Nat) (ys : List Int) : markL n (ys ++ [-1]) = markL n ys := by
  unfold markL
  apply List.map_congr_left
  intro i _
  have h9 : ((i : Int) ∈ ys ++ [-1]) ↔ (i : Int) ∈ ys := by
    rw [List.mem_append, List.mem_singleton]
    exact ⟨fun h => h.resolve_right (by omega), .inl⟩
  simp [h9]
/-- Cells of n, all different. -/
def difB (n : Nat) (xs : List Int) : Bool := decide ((∀ x ∈ xs, 0 ≤ x ∧ x < n) ∧ xs.Nodup)
theorem dif_out {n : Nat} {xs : List Int} {k : Nat} {x : Int} (hx : xs[k]? = some x) (h : ¬ (0 ≤ x ∧ x < n)) : difB n xs = false := by
  unfold difB; rw [decide_eq_false_iff_not]; intro h9; exact h (h9.1 x (List.mem_of_getElem? hx))
theorem dif_dup {n : Nat} {xs : List Int} {k : Nat} {x : Int} (hx : xs[k]? = some x) (h : x ∈ xs.take k) : difB n xs = false := by
  unfold difB; rw [decide_eq_false_iff_not]; rintro ⟨_, hn⟩
  obtain ⟨j, hj, he⟩ := List.getElem_of_mem h
  obtain ⟨hk, ek⟩ := List.getElem?_eq_some_iff.1 hx
  have hj' : j < k := by rw [List.length_take] at hj; omega
  rw [List.getElem_take] at he
  exact (List.pairwise_iff_getElem.1 hn) j k (by omega) hk hj' (he.trans ek.symm)
theorem dif_next {n : Nat} {xs : List Int} {k : Nat} {x : Int} (hx : xs[k]? = some x) (h0 : 0 ≤ x ∧ x < n) (h1 : x ∉ xs.take k) (h : difB n (xs.take k) = true) : difB n (xs.take (k + 1)) = true := by
  unfold difB at h ⊢
  rw [decide_eq_true_eq] at h ⊢
  refine ⟨?_, nodup_take hx h1 h.2⟩
  rw [List.take_add_one, hx, Option.toList_some]
  intro y hy
  rcases List.mem_append.1 hy with h9 | h9
  · exact h.1 y h9
  · rw [List.mem_singleton.1 h9]; exact h0
theorem take_next {xs : List Int} {k : Nat} {x : Int} (hx : xs[k]? = some x) : xs.take (k + 1) = xs.take k ++ [x] := by rw [List.take_add_one, hx]; rfl

set_option maxRecDepth 100000 in
set_option maxHeartbeats 2000000 in
theorem markDifferent_any (w : World) (lo lm g : Nat) (A : Option Addr) (n c m d : Nat) (xs : List Int) (hr : RowB w lm (.slice (some ⟨g, 0, none⟩) m d) (markL m [])) (h : Row w lo (.slice A n c) xs) (l : Hid (xs.length = n)) (hm : n ≤ 9223372036854775807)
    (hne : (Value.slice A n c).ownBlock ≠ some g) :
    Calls Try.prog 48 #[.slice (some ⟨g, 0, none⟩) m d, .slice A n c] w fun e w' => e = .returned (.bool (difB m xs)) ∧ (∃ ys, RowB w' lm (.slice (some ⟨g, 0, none⟩) m d) ys ∧ ys.length = m) ∧ w.grownBy w' (some g) ∧ w'.heap.size = w.heap.size := by
  have LL := Lib.hid (markL_len m)
  go_enter Try.func48, Try.ntmps48
  go_wp2_with fail
  go_loopw [6, 9] (fun _ i wr => ∃ k : Nat, k ≤ n ∧ i = .int .i64 k ∧ RowB wr lm (.slice (some ⟨g, 0, none⟩) m d) (markL m (xs.take k)) ∧ Row wr lo (.slice A n c) xs ∧ Hid (difB m (xs.take k) = true) ∧ w.grownBy wr (some g) ∧ Hid (wr.heap.size = w.heap.size)) (fun _ i _ => n - (intOf i).toNat)
  case atStart => exact ⟨0, Nat.zero_le _, rfl, hr, h, by unfold Hid difB; simp, World.grownBy.refl w _, rfl⟩
  case round =>
    clear hr h
    obtain ⟨k, hk, rfl, R, H, hd, G, hs⟩ := hrel
    by_cases hlt : k < n
    · obtain ⟨gx, y, rfl, _, _, hy, hcy, _⟩ := H.get (k := k) (by rw [l.out]; exact hlt)
      have hb : (k : Int) < (n : Int) := by omega
      have ngx : gx ≠ g := fun e => hne (by rw [e]; rfl)
      by_cases hy0 : y < 0
      · have hf : Hid (difB m xs = false) := dif_out hy.out (by omega)
        clear hy hd
        go_wp2_with fail
        go_ret
        exact ⟨ret_bool hf.out.symm, ⟨_, R, LL.out _⟩, G, hs.out⟩
      · obtain ⟨j, rfl⟩ := Int.eq_ofNat_of_zero_le (by omega : 0 ≤ y)
        by_cases hym : m ≤ j
        · have hf : Hid (difB m xs = false) := dif_out hy.out (by omega)
          have hjm : (m : Int) ≤ (j : Int) := by omega
          clear hy hd
          go_wp2_with fail
          go_ret
          exact ⟨ret_bool hf.out.symm, ⟨_, R, LL.out _⟩, G, hs.out⟩
        · have hjm : (j : Int) < (m : Int) := by omega
          have hjm2 : ¬ ((m : Int) ≤ (j : Int)) := by omega
          obtain ⟨_, b, eb, _, _, hb1, hcb, hfb⟩ := R.get (k := j) (by rw [markL_len]; omega)
          cases eb
          have hbm : Hid (b = decide ((j : Int) ∈ xs.take k)) := by
            have h9 := hb1.out; rw [markL_at (by omega)] at h9; exact (Option.some.inj h9).symm
          clear hb1
          by_cases hmem : (j : Int) ∈ xs.take k
          · obtain rfl : b = true := by rw [hbm.out]; simp [hmem]
            have hf : Hid (difB m xs = false) := dif_dup hy.out hmem
            clear hy hd hbm hmem
            go_wp2_with fail
            go_ret
            exact ⟨ret_bool hf.out.symm, ⟨_, R, LL.out _⟩, G, hs.out⟩
          · obtain rfl : b = false := by rw [hbm.out]; simp [hmem]
            have hd' : Hid (difB m (xs.take (k + 1)) = true) := dif_next hy.out (by omega) hmem hd.out
            have R' := R.set_ j true
            rw [markL_set, ← take_next hy.out] at R'
            have H' := H.other (a := ⟨g, j, none⟩) hne (bv true)
            have G' := grown_setNew G (p := ⟨g, j, none⟩) (.inl rfl) (bv true)
            have hs' : Hid ((wr.setCell ⟨g, j, none⟩ (bv true)).heap.size = w.heap.size) := by unfold Hid; simp [World.setCell, hs.out]
            clear hy hd hbm hmem R H G hs
            go_wp2_with fail
            go_roundw
            case rel => exact ⟨k + 1, by omega, by go_num, R', H', hd', G', hs'⟩
            case measure => simp [intOf]; omega
    · obtain rfl : k = n := by omega
      have hf : Hid (difB m xs = true) := by
        have h9 := hd.out; rw [List.take_of_length_le (by rw [l.out]; exact Nat.le_refl _)] at h9; exact h9
      clear hd
      go_wp2_with fail
      go_ret
      exact ⟨ret_bool hf.out.symm, ⟨_, R, LL.out _⟩, G, hs.out⟩

set_option maxRecDepth 100000 in
set_option maxHeartbeats 2000000 in
theorem markTargets_any (w : World) (lo lm g : Nat) (A : Option Addr) (n c m d : Nat) (xs ys : List Int) (hr : RowB w lm (.slice (some ⟨g, 0, none⟩) m d) (markL m ys)) (h : Row w lo (.slice A n c) xs) (l : Hid (xs.length = n)) (hm : n ≤ 9223372036854775807)
    (hne : (Value.slice A n c).ownBlock ≠ some g) (hb : Hid (∀ x ∈ xs, -1 ≤ x ∧ x < m)) :
    Calls Try.prog 49 #[.slice (some ⟨g, 0, none⟩) m d, .slice A n c] w fun e w' => e = .returned (.tuple #[]) ∧ RowB w' lm (.slice (some ⟨g, 0, none⟩) m d) (markL m (ys ++ xs)) ∧ w.grownBy w' (some g) ∧ w'.heap.size = w.heap.size := by
  go_enter Try.func49, Try.ntmps49
  go_wp2_with fail
  go_loopw [5, 8] (fun _ i wr => ∃ k : Nat, k ≤ n ∧ i = .int .i64 k ∧ RowB wr lm (.slice (some ⟨g, 0, none⟩) m d) (markL m (ys ++ xs.take k)) ∧ Row wr lo (.slice A n c) xs ∧ w.grownBy wr (some g) ∧ Hid (wr.heap.size = w.heap.size)) (fun _ i _ => n - (intOf i).toNat)
  case atStart => exact ⟨0, Nat.zero_le _, rfl, by simpa using hr, h, World.grownBy.refl w _, rfl⟩
  case round =>
    clear hr h
    obtain ⟨k, hk, rfl, R, H, G, hs⟩ := hrel
    by_cases hlt : k < n
    · obtain ⟨gx, y, rfl, _, _, hy, hcy, _⟩ := H.get (k := k) (by rw [l.out]; exact hlt)
      have hkn : (k : Int) < (n : Int) := by omega
      have hyb := hb.out y (List.mem_of_getElem? hy.out)
      by_cases hy1 : y = -1
      · subst hy1
        rw [← markL_none, List.append_assoc, ← take_next hy.out] at R
        clear hy hyb
        go_wp2_with fail
        go_roundw
        case rel => exact ⟨k + 1, by omega, by go_num, R, H, G, hs⟩
        case measure => simp [intOf]; omega
      · obtain ⟨j, rfl⟩ := Int.eq_ofNat_of_zero_le (by omega : 0 ≤ y)
        have hj1 : ((j : Int) == -1) = false := by simp
        have hj2 : ((j : Int) != -1) = true := by simp
        have hjm : (j : Int) < (m : Int) := by omega
        obtain ⟨_, b, eb, _, _, _, hcb, hfb⟩ := R.get (k := j) (by rw [markL_len]; omega)
        cases eb
        have R' := R.set_ j true
        rw [markL_set, List.append_assoc, ← take_next hy.out] at R'
        have H' := H.other (a := ⟨g, j, none⟩) hne (bv true)
        have G' := grown_setNew G (p := ⟨g, j, none⟩) (.inl rfl) (bv true)
        have hs' : Hid ((wr.setCell ⟨g, j, none⟩ (bv true)).heap.size = w.heap.size) := by unfold Hid; simp [World.setCell, hs.out]
        clear hy R H G hs hyb
        go_wp2_with fail
        go_roundw
        case rel => exact ⟨k + 1, by omega, by go_num, R', H', G', hs'⟩
        case measure => simp [intOf]; omega
    · obtain rfl : k = n := by omega
      have hf : xs.take k = xs := List.take_of_length_le (by rw [l.out]; exact Nat.le_refl _)
      rw [hf] at R
      clear hf
      go_wp2_with fail
      go_end0
      exact ⟨rfl, R, G, hs.out⟩
end Go.Proofs.Ytpipagcpgjoigaa
