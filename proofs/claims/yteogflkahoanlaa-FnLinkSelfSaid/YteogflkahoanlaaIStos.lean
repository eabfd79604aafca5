import Derived.Test.YteogflkahoanlaaSCols
import Derived.Test.YteogflkahoanlaaRdA
import Derived.Test.YteogflkahoanlaaStos
import Derived.Test.YteogflkahoanlaaShades
import Derived.Test.YteogflkahoanlaaPureKS
import Derived.Test.YteogflkahoanlaaLives
import Derived.Test.YteogflkahoanlaaStoKs
import Derived.Lib.SliceRun
import Derived.Test.YteogflkahoanlaaHpB
import Derived.Test.YteogflkahoanlaaWrong
import Derived.OrdersHeld
import Derived.Deep.RegionHeld3
/- slices.Index. -/
namespace Go.Proofs.Yteogflkahoanlaa
open Go.RowKit

set_option maxHeartbeats 1000000 in
theorem slicesIndex_any (w : World) (lo : Nat) (A : Option Addr) (n c : Nat) (xs : List Int) (h : Row w lo (.slice A n c) xs) (hn : xs.length = n) (hm : n ≤ 9223372036854775807) (x : Int) :
    Calls Try.prog 75 #[.slice A n c, .int .i64 x] w fun e w' => e = .returned (.int .i64 (firstOf xs x)) ∧ w = w' := by
  go_enter Try.func75, Try.ntmps75
  go_wp2
  go_loop [8] (fun i => ∃ k : Nat, k ≤ n ∧ i = .int .i64 k ∧ Hid (∀ j, j < k → xs[j]? ≠ some x)) (fun i => n - (intOf i).toNat)
  case atStart => exact ⟨0, Nat.zero_le _, rfl, fun j hj => absurd hj (Nat.not_lt_zero _)⟩
  case round =>
    obtain ⟨k, hk, rfl, ht⟩ := hrel
    by_cases hlt : k < n
    · obtain ⟨g, y, rfl, _, _, hy, hcy, _⟩ := h.get (k := k) (by omega)
      by_cases hxy : x = y
      · subst hxy
        have hf := Lib.hid (first_at hy.out ht.out)
        clear hy ht
        go_wp2
        go_ret
        exact ⟨ret_int hf.out.symm, rfl⟩
      · have hxy1 : (x == y) = false := by simp [hxy]
        have ht' : Hid (∀ j, j < k + 1 → xs[j]? ≠ some x) := fun j hj => by
          rcases Nat.lt_succ_iff_lt_or_eq.1 hj with h9 | rfl
          · exact ht.out j h9
          · rw [hy.out]; intro e; exact hxy (by simpa using e.symm)
        clear hy ht
        go_wp2
        go_round
        case rel => exact ⟨k + 1, by omega, by go_num, ht'⟩
        case measure => simp [intOf]; omega
    · obtain rfl : k = n := by omega
      have hf : Hid (firstOf xs x = -1) := first_none (fun j hj => ht.out j (by omega))
      clear ht
      go_wp2
      go_ret
      exact ⟨ret_int hf.out.symm, rfl⟩
end Go.Proofs.Yteogflkahoanlaa

/- impl's chapter 4: StoreSame, slices.Contains, markDifferent, markTargets. -/
namespace Go.Proofs.Yteogflkahoanlaa
open Go.RowKit

set_option maxRecDepth 100000 in
set_option maxHeartbeats 3000000 in
theorem implStoreSame_any (w : World) (lo lo' : Nat) (v v' : Value) (a b : Cp) (hv : Cv w lo v a) (hv' : Cv w lo' v' b) : Calls Try.prog 36 #[v, v'] w (RetB w (sameC a b)) := by
  obtain ⟨A0, n0, c0, A1, n1, c1, A2, n2, c2, A3, n3, c3, rfl, hh, ⟨r0, r1, r2, r3⟩, ⟨l0, l1, l2, l3⟩, ⟨m0, m1, m2, m3⟩, _⟩ := hv.open_
  obtain ⟨A0', n0', c0', A1', n1', c1', A2', n2', c2', A3', n3', c3', rfl, hh', ⟨r0', r1', r2', r3'⟩, ⟨l0', l1', l2', l3'⟩, ⟨m0', m1', m2', m3'⟩, _⟩ := hv'.open_
  have X0 := (Blk4.new w (.slice A0 n0 c0) (.slice A1 n1 c1) (.slice A2 n2 c2) (.slice A3 n3 c3) 27).alloc (.cells #[.slice A0' n0' c0', .slice A1' n1' c1', .slice A2' n2' c2', .slice A3' n3' c3'] 27)
  have Y0 := Blk4.new_at (w := w.alloc (.cells #[.slice A0 n0 c0, .slice A1 n1 c1, .slice A2 n2 c2, .slice A3 n3 c3] 27)) (b := w.heap.size + 1) (by simp) (.slice A0' n0' c0') (.slice A1' n1' c1') (.slice A2' n2' c2') (.slice A3' n3' c3') 27
  have H := (hh.alloc (.cells #[.slice A0 n0 c0, .slice A1 n1 c1, .slice A2 n2 c2, .slice A3 n3 c3] 27)).alloc (.cells #[.slice A0' n0' c0', .slice A1' n1' c1', .slice A2' n2' c2', .slice A3' n3' c3'] 27)
  have H' := (hh'.alloc (.cells #[.slice A0 n0 c0, .slice A1 n1 c1, .slice A2 n2 c2, .slice A3 n3 c3] 27)).alloc (.cells #[.slice A0' n0' c0', .slice A1' n1' c1', .slice A2' n2' c2', .slice A3' n3' c3'] 27)
  have R := (r3.alloc (.cells #[.slice A0 n0 c0, .slice A1 n1 c1, .slice A2 n2 c2, .slice A3 n3 c3] 27)).alloc (.cells #[.slice A0' n0' c0', .slice A1' n1' c1', .slice A2' n2' c2', .slice A3' n3' c3'] 27)
  have R' := (r3'.alloc (.cells #[.slice A0 n0 c0, .slice A1 n1 c1, .slice A2 n2 c2, .slice A3 n3 c3] 27)).alloc (.cells #[.slice A0' n0' c0', .slice A1' n1' c1', .slice A2' n2' c2', .slice A3' n3' c3'] 27)
  have fin : Below w.heap.size w ((w.alloc (.cells #[.slice A0 n0 c0, .slice A1 n1 c1, .slice A2 n2 c2, .slice A3 n3 c3] 27)).alloc (.cells #[.slice A0' n0' c0', .slice A1' n1' c1', .slice A2' n2' c2', .slice A3' n3' c3'] 27)) := ((Below.refl _ _).alloc (Nat.le_refl _) _).alloc (by simp) _
  have S := implHeapSame_any _ _ _ _ _ _ _ H H'
  go_enter Try.func36, Try.ntmps36
  go_wp2_with fail
  generalize (w.alloc (.cells #[.slice A0 n0 c0, .slice A1 n1 c1, .slice A2 n2 c2, .slice A3 n3 c3] 27)).alloc (.cells #[.slice A0' n0' c0', .slice A1' n1' c1', .slice A2' n2' c2', .slice A3' n3' c3'] 27) = W at X0 Y0 H H' R R' fin S ⊢
  rcases es : sameB a.h b.h
  · rw [es] at S
    have hf : Hid (sameC a b = false) := by unfold Hid sameC; rw [es]; rfl
    clear es
    refine S.mono ?_; rintro e w1 ⟨rfl, hb1⟩
    go_wp2_with fail
    go_ret
    exact ⟨ret_bool hf.out.symm, fin.trans (hb1.mono fin.size)⟩
  · rw [es] at S
    have hf : Hid (sameC a b = decide (a.c = b.c)) := by unfold Hid sameC; rw [es]; rfl
    clear es
    refine S.mono ?_; rintro e w1 ⟨rfl, hb1⟩
    obtain ⟨x0, x1, x2, x3, _⟩ := (X0.below hb1).cells
    obtain ⟨y0, y1, y2, y3, _⟩ := (Y0.below hb1).cells
    have E := slicesEqual_any w1 _ _ _ _ _ _ _ _ _ _ (R.below hb1) l3.out m3 (R'.below hb1) l3'.out m3'
    generalize decide (a.c = b.c) = q at E hf
    have B1 := fin.trans (hb1.mono fin.size)
    clear S H H' X0 Y0 R R'
    go_wp2_with fail
    refine E.mono ?_; rintro e w2 ⟨rfl, q0, rfl⟩
    go_wp2_with fail
    go_ret
    exact ⟨ret_bool hf.out.symm, below_drewN B1 _⟩

set_option maxHeartbeats 1000000 in
theorem slicesContains_any (w : World) (lo : Nat) (A : Option Addr) (n c : Nat) (xs : List Int) (h : Row w lo (.slice A n c) xs) (hn : xs.length = n) (hm : n ≤ 9223372036854775807) (x : Int) :
    Calls Try.prog 52 #[.slice A n c, .int .i64 x] w fun e w' => e = .returned (.bool (decide (x ∈ xs))) ∧ w = w' := by
  have I := slicesIndex_any w lo A n c xs h hn hm x
  by_cases hx : x ∈ xs
  · obtain ⟨k, e, _⟩ := first_pos hx
    rw [e] at I
    have hk : (0 : Int) ≤ (k : Int) := by omega
    have hd : Hid (decide (x ∈ xs) = true) := by unfold Hid; simp [hx]
    clear e hx
    go_enter Try.func52, Try.ntmps52
    go_wp2_with fail
    refine I.mono ?_; rintro e w' ⟨rfl, rfl⟩
    go_wp2_with fail
    go_ret
    exact ⟨ret_bool hd.out.symm, rfl⟩
  · rw [first_neg hx] at I
    have hd : Hid (decide (x ∈ xs) = false) := by unfold Hid; simp [hx]
    clear hx
    go_enter Try.func52, Try.ntmps52
    go_wp2_with fail
    refine I.mono ?_; rintro e w' ⟨rfl, rfl⟩
    go_wp2_with fail
    go_ret
    exact ⟨ret_bool hd.out.symm, rfl⟩

/-- The marks of n cells: those of ys. -/
def markL (n : Nat) (ys : List Int) : List Bool := (List.range n).map fun i : Nat => decide ((i : Int) ∈ ys)
theorem markL_len (n : Nat) (ys : List Int) : (markL n ys).length = n := by unfold markL; simp
theorem markL_at {n : Nat} {ys : List Int} {k : Nat} (hk : k < n) : (markL n ys)[k]? = some (decide ((k : Int) ∈ ys)) := by
  unfold markL; simp [hk]
theorem markL_nil (n : Nat) : markL n [] = List.replicate n false := by
  apply List.ext_getElem?; intro i
  by_cases hi : i < n
  · rw [markL_at hi]; simp [hi]
  · rw [List.getElem?_eq_none (by rw [markL_len]; omega), List.getElem?_eq_none (by simp; omega)]
theorem markL_set {n : Nat} (ys : List Int) (k : Nat) : (markL n ys).set k true = markL n (ys ++ [(k : Int)]) := by
  apply List.ext_getElem?; intro i
  rw [List.getElem?_set, markL_len]
  by_cases hi : i < n
  · rw [markL_at hi, markL_at hi]
    by_cases e : k = i
    · subst e; rw [if_pos rfl, if_pos hi]; simp
    · rw [if_neg e]
      have h9 : ((i : Int) ∈ ys ++ [(k : Int)]) ↔ (i : Int) ∈ ys := by
        rw [List.mem_append, List.mem_singleton]
        exact ⟨fun h => h.resolve_right (by omega), .inl⟩
      simp [h9]
  · rw [List.getElem?_eq_none (by rw [markL_len]; omega : (markL n (ys ++ [(k : Int)])).length ≤ i), List.getElem?_eq_none (by rw [markL_len]; omega : (markL n ys).length ≤ i)]
    split
    · rw [if_neg (by omega)]
    · rfl
theorem markL_none (n : Nat) (ys : List Int) : markL n (ys ++ [-1]) = markL n ys := by
  unfold markL
  apply List.map_congr_left
  intro i _
  have h9 : ((i : Int) ∈ ys ++ [-1]) ↔ (i : Int) ∈ ys := by
    rw [List.mem_append, List.mem_singleton]
    exact ⟨fun h => h.resolve_right (by omega), .inl⟩
  simp [h9]
/-- Cells of n, all different. -/
def difB (n : Nat) (xs : List Int) : Bool := decide ((∀ x ∈ xs, 0 ≤ x ∧ x < n) ∧ xs.Nodup)
theorem dif_out {n : Nat} {xs : List Int} {k : Nat} {x : Int} (hx : xs[k]? = some x) (h : ¬ (0 ≤ x ∧ x < n)) : difB n xs = false := by
  unfold difB; rw [decide_eq_false_iff_not]; intro h9; exact h (h9.1 x (List.mem_of_getElem? hx))
theorem dif_dup {n : Nat} {xs : List Int} {k : Nat} {x : Int} (hx : xs[k]? = some x) (h : x ∈ xs.take k) : difB n xs = false := by
  unfold difB; rw [decide_eq_false_iff_not]; rintro ⟨_, hn⟩
  obtain ⟨j, hj, he⟩ := List.getElem_of_mem h
  obtain ⟨hk, ek⟩ := List.getElem?_eq_some_iff.1 hx
  have hj' : j < k := by rw [List.length_take] at hj; omega
  rw [List.getElem_take] at he
  exact (List.pairwise_iff_getElem.1 hn) j k (by omega) hk hj' (he.trans ek.symm)
theorem dif_next {n : Nat} {xs : List Int} {k : Nat} {x : Int} (hx : xs[k]? = some x) (h0 : 0 ≤ x ∧ x < n) (h1 : x ∉ xs.take k) (h : difB n (xs.take k) = true) : difB n (xs.take (k + 1)) = true := by
  unfold difB at h ⊢
  rw [decide_eq_true_eq] at h ⊢
  refine ⟨?_, nodup_take hx h1 h.2⟩
  rw [List.take_add_one, hx, Option.toList_some]
  intro y hy
  rcases List.mem_append.1 hy with h9 | h9
  · exact h.1 y h9
  · rw [List.mem_singleton.1 h9]; exact h0
theorem take_next {xs : List Int} {k : Nat} {x : Int} (hx : xs[k]? = some x) : xs.take (k + 1) = xs.take k ++ [x] := by rw [List.take_add_one, hx]; rfl

set_option maxRecDepth 100000 in
set_option maxHeartbeats 2000000 in
theorem markDifferent_any (w : World) (lo lm g : Nat) (A : Option Addr) (n c m d : Nat) (xs : List Int) (hr : RowB w lm (.slice (some ⟨g, 0, none⟩) m d) (markL m [])) (h : Row w lo (.slice A n c) xs) (l : Hid (xs.length = n)) (hm : n ≤ 9223372036854775807)
    (hne : (Value.slice A n c).ownBlock ≠ some g) :
    Calls Try.prog 68 #[.slice (some ⟨g, 0, none⟩) m d, .slice A n c] w fun e w' => e = .returned (.bool (difB m xs)) ∧ (∃ ys, RowB w' lm (.slice (some ⟨g, 0, none⟩) m d) ys ∧ ys.length = m) ∧ w.grownBy w' (some g) ∧ w'.heap.size = w.heap.size := by
  have LL := Lib.hid (markL_len m)
  go_enter Try.func68, Try.ntmps68
  go_wp2_with fail
  go_loopw [6, 9] (fun _ i wr => ∃ k : Nat, k ≤ n ∧ i = .int .i64 k ∧ RowB wr lm (.slice (some ⟨g, 0, none⟩) m d) (markL m (xs.take k)) ∧ Row wr lo (.slice A n c) xs ∧ Hid (difB m (xs.take k) = true) ∧ w.grownBy wr (some g) ∧ Hid (wr.heap.size = w.heap.size)) (fun _ i _ => n - (intOf i).toNat)
  case atStart => exact ⟨0, Nat.zero_le _, rfl, hr, h, by unfold Hid difB; simp, World.grownBy.refl w _, rfl⟩
  case round =>
    clear hr h
    obtain ⟨k, hk, rfl, R, H, hd, G, hs⟩ := hrel
    by_cases hlt : k < n
    · obtain ⟨gx, y, rfl, _, _, hy, hcy, _⟩ := H.get (k := k) (by rw [l.out]; exact hlt)
      have hb : (k : Int) < (n : Int) := by omega
      have ngx : gx ≠ g := fun e => hne (by rw [e]; rfl)
      by_cases hy0 : y < 0
      · have hf : Hid (difB m xs = false) := dif_out hy.out (by omega)
        clear hy hd
        go_wp2_with fail
        go_ret
        exact ⟨ret_bool hf.out.symm, ⟨_, R, LL.out _⟩, G, hs.out⟩
      · obtain ⟨j, rfl⟩ := Int.eq_ofNat_of_zero_le (by omega : 0 ≤ y)
        by_cases hym : m ≤ j
        · have hf : Hid (difB m xs = false) := dif_out hy.out (by omega)
          have hjm : (m : Int) ≤ (j : Int) := by omega
          clear hy hd
          go_wp2_with fail
          go_ret
          exact ⟨ret_bool hf.out.symm, ⟨_, R, LL.out _⟩, G, hs.out⟩
        · have hjm : (j : Int) < (m : Int) := by omega
          have hjm2 : ¬ ((m : Int) ≤ (j : Int)) := by omega
          obtain ⟨_, b, eb, _, _, hb1, hcb, hfb⟩ := R.get (k := j) (by rw [markL_len]; omega)
          cases eb
          have hbm : Hid (b = decide ((j : Int) ∈ xs.take k)) := by
            have h9 := hb1.out; rw [markL_at (by omega)] at h9; exact (Option.some.inj h9).symm
          clear hb1
          by_cases hmem : (j : Int) ∈ xs.take k
          · obtain rfl : b = true := by rw [hbm.out]; simp [hmem]
            have hf : Hid (difB m xs = false) := dif_dup hy.out hmem
            clear hy hd hbm hmem
            go_wp2_with fail
            go_ret
            exact ⟨ret_bool hf.out.symm, ⟨_, R, LL.out _⟩, G, hs.out⟩
          · obtain rfl : b = false := by rw [hbm.out]; simp [hmem]
            have hd' : Hid (difB m (xs.take (k + 1)) = true) := dif_next hy.out (by omega) hmem hd.out
            have R' := R.set_ j true
            rw [markL_set, ← take_next hy.out] at R'
            have H' := H.other (a := ⟨g, j, none⟩) hne (bv true)
            have G' := grown_setNew G (p := ⟨g, j, none⟩) (.inl rfl) (bv true)
            have hs' : Hid ((wr.setCell ⟨g, j, none⟩ (bv true)).heap.size = w.heap.size) := by unfold Hid; simp [World.setCell, hs.out]
            clear hy hd hbm hmem R H G hs
            go_wp2_with fail
            go_roundw
            case rel => exact ⟨k + 1, by omega, by go_num, R', H', hd', G', hs'⟩
            case measure => simp [intOf]; omega
    · obtain rfl : k = n := by omega
      have hf : Hid (difB m xs = true) := by
        have h9 := hd.out; rw [List.take_of_length_le (by rw [l.out]; exact Nat.le_refl _)] at h9; exact h9
      clear hd
      go_wp2_with fail
      go_ret
      exact ⟨ret_bool hf.out.symm, ⟨_, R, LL.out _⟩, G, hs.out⟩

set_option maxRecDepth 100000 in
set_option maxHeartbeats 2000000 in
theorem markTargets_any (w : World) (lo lm g : Nat) (A : Option Addr) (n c m d : Nat) (xs ys : List Int) (hr : RowB w lm (.slice (some ⟨g, 0, none⟩) m d) (markL m ys)) (h : Row w lo (.slice A n c) xs) (l : Hid (xs.length = n)) (hm : n ≤ 9223372036854775807)
    (hne : (Value.slice A n c).ownBlock ≠ some g) (hb : Hid (∀ x ∈ xs, -1 ≤ x ∧ x < m)) :
    Calls Try.prog 69 #[.slice (some ⟨g, 0, none⟩) m d, .slice A n c] w fun e w' => e = .returned (.tuple #[]) ∧ RowB w' lm (.slice (some ⟨g, 0, none⟩) m d) (markL m (ys ++ xs)) ∧ w.grownBy w' (some g) ∧ w'.heap.size = w.heap.size := by
  go_enter Try.func69, Try.ntmps69
  go_wp2_with fail
  go_loopw [5, 8] (fun _ i wr => ∃ k : Nat, k ≤ n ∧ i = .int .i64 k ∧ RowB wr lm (.slice (some ⟨g, 0, none⟩) m d) (markL m (ys ++ xs.take k)) ∧ Row wr lo (.slice A n c) xs ∧ w.grownBy wr (some g) ∧ Hid (wr.heap.size = w.heap.size)) (fun _ i _ => n - (intOf i).toNat)
  case atStart => exact ⟨0, Nat.zero_le _, rfl, by simpa using hr, h, World.grownBy.refl w _, rfl⟩
  case round =>
    clear hr h
    obtain ⟨k, hk, rfl, R, H, G, hs⟩ := hrel
    by_cases hlt : k < n
    · obtain ⟨gx, y, rfl, _, _, hy, hcy, _⟩ := H.get (k := k) (by rw [l.out]; exact hlt)
      have hkn : (k : Int) < (n : Int) := by omega
      have hyb := hb.out y (List.mem_of_getElem? hy.out)
      by_cases hy1 : y = -1
      · subst hy1
        rw [← markL_none, List.append_assoc, ← take_next hy.out] at R
        clear hy hyb
        go_wp2_with fail
        go_roundw
        case rel => exact ⟨k + 1, by omega, by go_num, R, H, G, hs⟩
        case measure => simp [intOf]; omega
      · obtain ⟨j, rfl⟩ := Int.eq_ofNat_of_zero_le (by omega : 0 ≤ y)
        have hj1 : ((j : Int) == -1) = false := by simp
        have hj2 : ((j : Int) != -1) = true := by simp
        have hjm : (j : Int) < (m : Int) := by omega
        obtain ⟨_, b, eb, _, _, _, hcb, hfb⟩ := R.get (k := j) (by rw [markL_len]; omega)
        cases eb
        have R' := R.set_ j true
        rw [markL_set, List.append_assoc, ← take_next hy.out] at R'
        have H' := H.other (a := ⟨g, j, none⟩) hne (bv true)
        have G' := grown_setNew G (p := ⟨g, j, none⟩) (.inl rfl) (bv true)
        have hs' : Hid ((wr.setCell ⟨g, j, none⟩ (bv true)).heap.size = w.heap.size) := by unfold Hid; simp [World.setCell, hs.out]
        clear hy R H G hs hyb
        go_wp2_with fail
        go_roundw
        case rel => exact ⟨k + 1, by omega, by go_num, R', H', G', hs'⟩
        case measure => simp [intOf]; omega
    · obtain rfl : k = n := by omega
      have hf : xs.take k = xs := List.take_of_length_le (by rw [l.out]; exact Nat.le_refl _)
      rw [hf] at R
      clear hf
      go_wp2_with fail
      go_end0
      exact ⟨rfl, R, G, hs.out⟩
end Go.Proofs.Yteogflkahoanlaa

/- dropPointersTo of impl. -/
namespace Go.Proofs.Yteogflkahoanlaa
open Go.RowKit

theorem cellSt {w : World} {a p : Addr} {u v : Value} (h : w.cell? a = some u) (hne : a.block ≠ p.block) : (w.setCell p v).cell? a = some u := (World.cell?_setCell_far w p a v hne.symm).trans h
theorem below_rowS {rb B : Nat} {w w' : World} (h : w.grownBy w' (some rb)) (hB : B ≤ rb) (hs : B ≤ w.heap.size) : Below B w w' :=
  ⟨h.os, h.tape, h.output, h.size, fun k hk => h.block k (by omega) (fun e => by have := Option.some.inj e; omega)⟩
theorem onlyB_blk3 {w w' : World} {b g : Nat} {x y z : Value} {t : TypeId} (h : Blk3 w b x y z t) (hO : OnlyB g w w') (hne : b ≠ g) : Blk3 w' b x y z t := (hO.1.block b h.lt (fun e => hne (Option.some.inj e))).trans h
theorem onlyB_blk4 {w w' : World} {b g : Nat} {x y z u : Value} {t : TypeId} (h : Blk4 w b x y z u t) (hO : OnlyB g w w') (hne : b ≠ g) : Blk4 w' b x y z u t := (hO.1.block b h.lt (fun e => hne (Option.some.inj e))).trans h
theorem blk4_drew {w : World} {b : Nat} {x y z u : Value} {t : TypeId} (h : Blk4 w b x y z u t) : Blk4 w.drew b x y z u t := h
theorem row_parts {w : World} {lo n c : Nat} {A : Option Addr} {xs : List Int} (h : Row w lo (.slice A n c) xs) : (A = none ∧ n = 0 ∧ c = 0 ∧ xs = []) ∨ ∃ g, A = some ⟨g, 0, none⟩ := by
  rcases h.2 with ⟨e, h0⟩ | ⟨g, cap, cur, e, _⟩
  · cases e; exact .inl ⟨rfl, rfl, rfl, List.eq_nil_of_length_eq_zero h0⟩
  · cases e; exact .inr ⟨g, rfl⟩
/-- The first k pointers to x are none. -/
def dropN (l : List Int) (x : Int) (k : Nat) : List Int := l.mapIdx fun i y => if i < k ∧ y = x then -1 else y
theorem dropN_len (l : List Int) (x : Int) (k : Nat) : (dropN l x k).length = l.length := by unfold dropN; simp
theorem dropN_at (l : List Int) (x : Int) (k i : Nat) : (dropN l x k)[i]? = l[i]?.map fun y => if i < k ∧ y = x then -1 else y := by unfold dropN; simp
theorem dropN_zero (l : List Int) (x : Int) : dropN l x 0 = l := by
  apply List.ext_getElem?; intro i; rw [dropN_at]; simp
theorem dropN_get (l : List Int) (x : Int) (k : Nat) : (dropN l x k)[k]? = l[k]? := by rw [dropN_at]; simp
theorem dropN_hit {l : List Int} {x : Int} {k : Nat} (hx : l[k]? = some x) : dropN l x (k + 1) = (dropN l x k).set k (-1) := by
  apply List.ext_getElem?; intro i
  rw [List.getElem?_set, dropN_at, dropN_at, dropN_len]
  obtain ⟨hk, _⟩ := List.getElem?_eq_some_iff.1 hx
  by_cases e : k = i
  · subst e
    rw [if_pos rfl, if_pos hk, hx]; simp
  · rw [if_neg e]
    congr 1; funext y
    by_cases h9 : i < k
    · simp [h9, show i < k + 1 by omega]
    · simp [h9, show ¬ i < k + 1 by omega]
theorem dropN_miss {l : List Int} {x y : Int} {k : Nat} (hy : l[k]? = some y) (h : y ≠ x) : dropN l x (k + 1) = dropN l x k := by
  apply List.ext_getElem?; intro i
  rw [dropN_at, dropN_at]
  by_cases e : i = k
  · subst e
    rw [hy]; simp [h]
  · congr 1; funext z
    by_cases h9 : i < k
    · simp [h9, show i < k + 1 by omega]
    · simp [h9, show ¬ i < k + 1 by omega]
theorem clr_drop {l : List Int} {n j : Nat} (hn : l.length = n) : dropN (l.set j (-1)) (j : Int) n = clrN l [(j : Int)] n := by
  apply List.ext_getElem?; intro i
  rw [dropN_at, clrN_at, List.getElem?_set]
  by_cases e : j = i
  · subst e
    rw [if_pos rfl]
    by_cases hj : j < l.length
    · rw [if_pos hj, List.getElem?_eq_getElem hj]
      simp [clrF, show j < n by omega]
    · rw [if_neg hj, List.getElem?_eq_none (by omega)]; rfl
  · rw [if_neg e]
    cases hx : l[i]? with
    | none => rfl
    | some y =>
      have hi : i < n := by have := (List.getElem?_eq_some_iff.1 hx).1; omega
      have e2 : ¬ ((i : Int) = (j : Int)) := by omega
      simp [clrF, hi, e2]

end Go.Proofs.Yteogflkahoanlaa

/- StoreValid of impl. -/
namespace Go.Proofs.Yteogflkahoanlaa
open Go.RowKit

/-- clear of a slice, at the list of a plain region's operations. -/
theorem wpList_clear {P : Program} {ops : Array Oper} {rest : List Oper} {o : Oper} {a : Act} {w : World} {Q : Exit → Act → World → Prop}
    (hg : o.guard = none) (x : Operand) (t : TypeId) (hop : o.op = Op.call { callee := Callee.builtin Builtin.clear, args := #[x], argTypes := #[t] })
    (e : TypeId) (z : Value) (hu : P.underlying t = some (.slice e)) (hv : ∀ w, (zeroValue e).run P w = .ok z w) (hz : z.cells = #[z]) (h1 : z.oneCell' = true)
    (b n c : Nat) (hx : a.eval x = .slice (some ⟨b, 0, none⟩) n c) (hn : 0 < n)
    (hc : ∀ j, j < n → (w.cell? ⟨b, 0 + j, none⟩).isSome = true) (hf : ∀ j, j < n → w.frozen? ⟨b, 0 + j, none⟩ = false)
    (hK : ∀ w', Hid (w' = w.setCells b 0 (List.replicate n z)) → wpList P ops Q rest (a.put o.dst (.tuple #[])) w') : wpList P ops Q (o :: rest) a w := by
  refine wpList_plain hg fun K hK' => ?_
  have h9 := hK' _ _ (hK _ rfl)
  have hrun := Lib.run_clear_slice (P := P) w t e o.type z hu hv hz h1 b 0 n c hn hc hf
  unfold Oper.wp
  simp [execOp, hop, resolve, invoke, builtin, hx, hrun, Result.andThen]
  exact h9
theorem RowB.clear {lo g n c : Nat} (k : Nat) : ∀ (o : Nat) (w : World) (ys : List Bool), RowB w lo (.slice (some ⟨g, 0, none⟩) n c) ys → o + k ≤ ys.length →
    ∃ zs, RowB (w.setCells g o (List.replicate k (bv false))) lo (.slice (some ⟨g, 0, none⟩) n c) zs ∧ zs.length = ys.length ∧ (∀ i, i < o + k → o ≤ i → zs[i]? = some false) ∧ (∀ i, i < o → zs[i]? = ys[i]?) ∧
      w.grownBy (w.setCells g o (List.replicate k (bv false))) (some g) ∧ (w.setCells g o (List.replicate k (bv false))).heap.size = w.heap.size := by
  induction k with
  | zero =>
    intro o w ys h _
    exact ⟨ys, h, rfl, fun i h1 h2 => by omega, fun _ _ => rfl, World.grownBy.refl w _, rfl⟩
  | succ k ih =>
    intro o w ys h hk
    have h1 := h.set_ o false
    obtain ⟨zs, r1, r2, r3, r4, r5, r6⟩ := ih (o + 1) _ _ h1 (by rw [List.length_set]; omega)
    have g0 : w.grownBy (w.setCell ⟨g, o, none⟩ (bv false)) (some g) := grown_setNew (World.grownBy.refl w _) (p := ⟨g, o, none⟩) (.inl rfl) (bv false)
    refine ⟨zs, r1, by rw [r2, List.length_set], fun i h1 h2 => ?_, fun i hi => ?_, trans_grown g0 r5, r6.trans (by simp [World.setCell])⟩
    · by_cases e : i = o
      · subst e
        rw [r4 i (by omega), List.getElem?_set, if_pos rfl, if_pos (by omega)]
      · exact r3 i (by omega) (by omega)
    · rw [r4 i (by omega), List.getElem?_set, if_neg (by omega)]
theorem RowB.cleared {w : World} {lo g n c : Nat} {ys : List Bool} (h : RowB w lo (.slice (some ⟨g, 0, none⟩) n c) ys) (hn : ys.length = n) :
    RowB (w.setCells g 0 (List.replicate n (bv false))) lo (.slice (some ⟨g, 0, none⟩) n c) (markL n []) ∧ w.grownBy (w.setCells g 0 (List.replicate n (bv false))) (some g) ∧ (w.setCells g 0 (List.replicate n (bv false))).heap.size = w.heap.size := by
  obtain ⟨zs, r1, r2, r3, _, r5, r6⟩ := RowB.clear n 0 w ys h (by omega)
  refine ⟨?_, r5, r6⟩
  have e : zs = markL n [] := by
    apply List.ext_getElem?; intro i
    by_cases hi : i < n
    · rw [r3 i (by omega) (by omega), markL_at hi]; simp
    · rw [List.getElem?_eq_none (by omega), List.getElem?_eq_none (by rw [markL_len]; omega)]
  rw [← e]; exact r1
theorem Try.zeroBool (w : World) : (zeroValue 4).run Try.prog w = .ok (.bool false) w := by kernel_rfl
theorem dif_range {n : Nat} {xs : List Int} (h : difB n xs = true) : (∀ x ∈ xs, 0 ≤ x ∧ x < n) ∧ xs.Nodup := by
  unfold difB at h; rw [decide_eq_true_eq] at h; exact h
theorem sto_dif {C : Cp} (h : stoB C = true) : difB C.h.l.length C.c = true := by
  obtain ⟨_, _, hf, hn⟩ := stoB_parts h
  unfold difB; rw [decide_eq_true_eq]
  refine ⟨fun x hx => ?_, hn⟩
  have h9 := hf x hx
  simp only [freeB, decide_eq_true_eq] at h9
  omega
/-- The test of one free cell. -/
theorem free_marks {h : Hp} {n j : Nat} (hn : h.l.length = n) (hj : j < n) {a b : Int} (ha : h.l[j]? = some a) (hb : h.r[j]? = some b) : freeB h (j : Int) = (!decide ((j : Int) ∈ [] ++ h.l ++ h.r ++ h.t) && decide (a = -1) && decide (b = -1)) := by
  unfold freeB
  rw [Bool.eq_iff_iff]
  simp only [decide_eq_true_eq, Bool.and_eq_true, Bool.not_eq_true', decide_eq_false_iff_not, List.mem_append, List.not_mem_nil, false_or]
  have e1 : h.l[(j : Int).toNat]? = some a := by simpa using ha
  have e2 : h.r[(j : Int).toNat]? = some b := by simpa using hb
  rw [e1, e2]
  constructor
  · rintro ⟨_, _, h3, h4, h5, h6, h7⟩
    exact ⟨⟨fun h => h.elim (fun h => h.elim h5 h6) h7, by simpa using h3⟩, by simpa using h4⟩
  · rintro ⟨⟨h3, h4⟩, h5⟩
    exact ⟨by omega, by omega, by rw [h4], by rw [h5], fun h => h3 (.inl (.inl h)), fun h => h3 (.inl (.inr h)), fun h => h3 (.inr h)⟩

set_option maxRecDepth 100000 in
set_option maxHeartbeats 4000000 in
theorem implStoreValid_any (w : World) (lo : Nat) (v : Value) (C : Cp) (hv : Cv w lo v C) : Calls Try.prog 40 #[v] w (RetB w (stoB C)) := by
  have hvo := hv
  obtain ⟨A0, n0, c0, A1, n1, c1, A2, n2, c2, A3, n3, c3, rfl, hh, ⟨r0, r1, r2, r3⟩, ⟨l0, l1, l2, l3⟩, ⟨mm0, mm1, mm2, mm3⟩, _⟩ := hvo.open_
  have X0 := Blk4.new w (.slice A0 n0 c0) (.slice A1 n1 c1) (.slice A2 n2 c2) (.slice A3 n3 c3) 27
  have fin : Below w.heap.size w (w.alloc (.cells #[.slice A0 n0 c0, .slice A1 n1 c1, .slice A2 n2 c2, .slice A3 n3 c3] 27)) := (Below.refl _ _).alloc (Nat.le_refl _) _
  have VV := hv.alloc (.cells #[.slice A0 n0 c0, .slice A1 n1 c1, .slice A2 n2 c2, .slice A3 n3 c3] 27)
  have HH := hh.alloc (.cells #[.slice A0 n0 c0, .slice A1 n1 c1, .slice A2 n2 c2, .slice A3 n3 c3] 27)
  have S0 := r0.alloc (.cells #[.slice A0 n0 c0, .slice A1 n1 c1, .slice A2 n2 c2, .slice A3 n3 c3] 27)
  have S1 := r1.alloc (.cells #[.slice A0 n0 c0, .slice A1 n1 c1, .slice A2 n2 c2, .slice A3 n3 c3] 27)
  have S2 := r2.alloc (.cells #[.slice A0 n0 c0, .slice A1 n1 c1, .slice A2 n2 c2, .slice A3 n3 c3] 27)
  have S3 := r3.alloc (.cells #[.slice A0 n0 c0, .slice A1 n1 c1, .slice A2 n2 c2, .slice A3 n3 c3] 27)
  obtain ⟨i0, hi, hz0, hz1, hz2⟩ := info_parts Try.infoBool
  have o0 := Lib.hid (fun i e => (r0.lt i e).2 : ∀ i, (Value.slice A0 n0 c0).ownBlock = some i → i < w.heap.size)
  have o1 := Lib.hid (fun i e => (r1.lt i e).2 : ∀ i, (Value.slice A1 n1 c1).ownBlock = some i → i < w.heap.size)
  have o2 := Lib.hid (fun i e => (r2.lt i e).2 : ∀ i, (Value.slice A2 n2 c2).ownBlock = some i → i < w.heap.size)
  have o3 := Lib.hid (fun i e => (r3.lt i e).2 : ∀ i, (Value.slice A3 n3 c3).ownBlock = some i → i < w.heap.size)
  clear r0 r1 r2 r3 hh hv VV
  go_enter Try.func40, Try.ntmps40
  go_wp2_with fail
  generalize w.alloc (.cells #[.slice A0 n0 c0, .slice A1 n1 c1, .slice A2 n2 c2, .slice A3 n3 c3] 27) = W at X0 fin HH S0 S1 S2 S3 ⊢
  obtain ⟨x0, x1, x2, x3, _⟩ := X0.cells
  have V := implHeapValid_any _ _ _ _ HH
  rcases ev : hvB C.h
  · rw [ev] at V
    have hf : Hid (stoB C = false) := stoB_not ev
    clear ev
    go_wp2_with fail
    refine V.mono ?_; rintro e w1 ⟨rfl, hb1⟩
    have BB := fin.trans (hb1.mono fin.size)
    go_wp2_with fail
    go_ret
    exact ⟨ret_bool hf.out.symm, BB⟩
  · rw [ev] at V
    have h8 := hvB_len ev
    have hev := Lib.hid ev
    have e0 := l0.out
    have e1 := l1.out
    have e3 := l3.out
    obtain ⟨_, rl, rr, rt⟩ := hvB_parts ev
    have bl : Hid (∀ x ∈ C.h.l, -1 ≤ x ∧ x < n0) := fun x hx => by
      rw [List.all_eq_true] at rl; have := rl x hx; simp only [ptB, decide_eq_true_eq] at this; omega
    have br : Hid (∀ x ∈ C.h.r, -1 ≤ x ∧ x < n0) := fun x hx => by
      rw [List.all_eq_true] at rr; have := rr x hx; simp only [ptB, decide_eq_true_eq] at this; omega
    have bt : Hid (∀ x ∈ C.h.t, -1 ≤ x ∧ x < n0) := fun x hx => by
      rw [List.all_eq_true] at rt; have := rt x hx; simp only [ptB, decide_eq_true_eq] at this; omega
    have u0 : 0 < n0 := by omega
    have u8 : n0 ≤ 8 := by omega
    clear ev rl rr rt
    go_wp2_with fail
    refine V.mono ?_; rintro e w1 ⟨rfl, hb1⟩
    have X1 := X0.below hb1
    have J10 := S0.below hb1
    have J11 := S1.below hb1
    have J12 := S2.below hb1
    have J13 := S3.below hb1
    have B1 := fin.trans (hb1.mono fin.size)
    have zw1 := B1.size
    clear V X0 S0 S1 S2 S3 HH x0 x1 x2 x3 fin hb1
    obtain ⟨x0, x1, x2, x3, _⟩ := X1.cells
    go_wp2_with (at_make; refine wpList_make_full _ rfl _ _ 45 rfl w1.heap.size 4 i0 (.bool false) 1 Try.underlying45 hi hz0 hz1 _ _ _ _ n0 rfl rfl rfl rfl ?b2 ?b3 (Nat.le_refl _) ?_)
    case b2 => rw [hz2]; omega
    case b3 => unfold maxLen; omega
    intro w2 hown2 hgrow2
    rw [mc_bool] at hown2
    have hrow2 : RowB w2 w1.heap.size (.slice (some ⟨w1.heap.size, 0, none⟩) n0 n0) (List.replicate n0 false) := by unfold RowB; simpa using hown2
    have hb2 : Below w1.heap.size w1 w2 := (Below.refl _ _).grown hgrow2 (Nat.le_refl _) (fun k h => by cases h)
    have lg := (hrow2.lt _ rfl).2
    have X2 := X1.below hb2
    have J20 := J10.below hb2
    have J21 := J11.below hb2
    have J22 := J12.below hb2
    have J23 := J13.below hb2
    have B2 := B1.trans (hb2.mono zw1)
    have lX := X1.lt
    have hgw : w.heap.size ≤ w1.heap.size := zw1
    have nX : w.heap.size ≠ w1.heap.size := by omega
    have n0g : (Value.slice A0 n0 c0).ownBlock ≠ some w1.heap.size := fun e => by have := o0.out w1.heap.size e; omega
    have n1g : (Value.slice A1 n1 c1).ownBlock ≠ some w1.heap.size := fun e => by have := o1.out w1.heap.size e; omega
    have n2g : (Value.slice A2 n2 c2).ownBlock ≠ some w1.heap.size := fun e => by have := o2.out w1.heap.size e; omega
    have n3g : (Value.slice A3 n3 c3).ownBlock ≠ some w1.heap.size := fun e => by have := o3.out w1.heap.size e; omega
    clear hown2 hgrow2 hb2 hz0 hz1 hz2 J10 J11 J12 J13 X1 x0 x1 x2 x3
    obtain ⟨x0, x1, x2, x3, _⟩ := X2.cells
    rw [← markL_nil] at hrow2
    have MD := markDifferent_any w2 lo w1.heap.size w1.heap.size A3 n3 c3 n0 n0 C.c hrow2 J23 l3 mm3 n3g
    go_wp2_with fail
    refine MD.mono ?_; rintro e w3 ⟨rfl, ⟨ys, hr3, hy3⟩, G3, s3⟩
    have O3 : OnlyB w1.heap.size w2 w3 := ⟨G3, s3⟩
    have X3 := onlyB_blk4 X2 O3 nX
    have J30 := onlyB_row J20 O3 n0g
    have J31 := onlyB_row J21 O3 n1g
    have J32 := onlyB_row J22 O3 n2g
    have J33 := onlyB_row J23 O3 n3g
    have B3 := B2.trans (below_only O3 hgw (by omega))
    have z3 : w3.heap.size = w2.heap.size := O3.2
    obtain ⟨x0, x1, x2, x3, _⟩ := X3.cells
    clear MD hrow2 G3 s3 O3
    rcases ed : difB n0 C.c
    · have hf : Hid (stoB C = false) := by
        unfold Hid; rw [Bool.eq_false_iff]; intro h9
        have h7 := sto_dif h9
        rw [e0, ed] at h7; cases h7
      clear ed
      go_wp2_with fail
      go_ret
      exact ⟨ret_bool hf.out.symm, B3⟩
    · have hdd := Lib.hid ed
      clear ed
      go_wp2_with (refine wpList_clear rfl _ 45 rfl 4 (.bool false) Try.underlying45 Try.zeroBool rfl rfl w1.heap.size n0 n0 rfl u0 ?k1 ?k2 ?_)
      case k1 =>
        intro j hj
        obtain ⟨_, b, eb, _, _, _, hc, _⟩ := hr3.get (k := j) (by omega)
        cases eb; rw [Nat.zero_add, hc]; rfl
      case k2 =>
        intro j hj
        obtain ⟨_, b, eb, _, _, _, _, hf⟩ := hr3.get (k := j) (by omega)
        cases eb; rw [Nat.zero_add]; exact hf
      intro w4 hw4
      obtain ⟨M4', G4', s4'⟩ := RowB.cleared hr3 hy3
      have M4 : RowB w4 w1.heap.size (.slice (some ⟨w1.heap.size, 0, none⟩) n0 n0) (markL n0 []) := by rw [hw4.out]; exact M4'
      have O4 : OnlyB w1.heap.size w3 w4 := by rw [hw4.out]; exact ⟨G4', s4'⟩
      have X4 := onlyB_blk4 X3 O4 nX
      have J40 := onlyB_row J30 O4 n0g
      have J41 := onlyB_row J31 O4 n1g
      have J42 := onlyB_row J32 O4 n2g
      have J43 := onlyB_row J33 O4 n3g
      have B4 := B3.trans (below_only O4 hgw (by omega))
      have z4 : w4.heap.size = w3.heap.size := O4.2
      obtain ⟨x0, x1, x2, x3, _⟩ := X4.cells
      clear M4' G4' s4' hw4 O4 hr3 hy3
      have T5 := markTargets_any w4 lo w1.heap.size w1.heap.size A0 n0 c0 n0 n0 C.h.l _ M4 J40 l0 mm0 n0g bl
      go_wp2_with fail
      refine T5.mono ?_; rintro e w5 ⟨rfl, M5, G5, s5⟩
      have O5 : OnlyB w1.heap.size w4 w5 := ⟨G5, s5⟩
      have X5 := onlyB_blk4 X4 O5 nX
      have J50 := onlyB_row J40 O5 n0g
      have J51 := onlyB_row J41 O5 n1g
      have J52 := onlyB_row J42 O5 n2g
      have J53 := onlyB_row J43 O5 n3g
      have B5 := B4.trans (below_only O5 hgw (by omega))
      have z5 : w5.heap.size = w4.heap.size := O5.2
      obtain ⟨x0, x1, x2, x3, _⟩ := X5.cells
      clear T5 M4 G5 s5 O5
      have T6 := markTargets_any w5 lo w1.heap.size w1.heap.size A1 n1 c1 n0 n0 C.h.r _ M5 J51 l1 mm1 n1g br
      go_wp2_with fail
      refine T6.mono ?_; rintro e w6 ⟨rfl, M6, G6, s6⟩
      have O6 : OnlyB w1.heap.size w5 w6 := ⟨G6, s6⟩
      have X6 := onlyB_blk4 X5 O6 nX
      have J60 := onlyB_row J50 O6 n0g
      have J61 := onlyB_row J51 O6 n1g
      have J62 := onlyB_row J52 O6 n2g
      have J63 := onlyB_row J53 O6 n3g
      have B6 := B5.trans (below_only O6 hgw (by omega))
      have z6 : w6.heap.size = w5.heap.size := O6.2
      obtain ⟨x0, x1, x2, x3, _⟩ := X6.cells
      clear T6 M5 G6 s6 O6
      have T7 := markTargets_any w6 lo w1.heap.size w1.heap.size A2 n2 c2 n0 n0 C.h.t _ M6 J62 l2 mm2 n2g bt
      go_wp2_with fail
      refine T7.mono ?_; rintro e w7 ⟨rfl, M7, G7, s7⟩
      have O7 : OnlyB w1.heap.size w6 w7 := ⟨G7, s7⟩
      have X7 := onlyB_blk4 X6 O7 nX
      have J70 := onlyB_row J60 O7 n0g
      have J71 := onlyB_row J61 O7 n1g
      have J72 := onlyB_row J62 O7 n2g
      have J73 := onlyB_row J63 O7 n3g
      have B7 := B6.trans (below_only O7 hgw (by omega))
      have z7 : w7.heap.size = w6.heap.size := O7.2
      obtain ⟨x0, x1, x2, x3, _⟩ := X7.cells
      clear T7 M6 G7 s7 O7 J20 J21 J22 J23 J30 J31 J32 J33 J40 J41 J42 J43 J50 J51 J52 J53 J60 J61 J62 J63 X2 X3 X4 X5 X6 B2 B3 B4 B5 B6
      go_wp2_with fail
      go_loopw [5, 39] (fun _ i wr => ∃ k : Nat, k ≤ n3 ∧ i = .int .i64 k ∧ Hid (∀ x ∈ C.c.take k, freeB C.h x = true) ∧ ∃ nq, wr = w7.drewN nq) (fun _ i _ => n3 - (intOf i).toNat)
      case atStart => exact ⟨0, Nat.zero_le _, rfl, fun x hx => by simp at hx, 0, rfl⟩
      case round =>
        obtain ⟨k, hk, rfl, ht, nq, rfl⟩ := hrel
        by_cases hlt : k < n3
        · obtain ⟨g3, y, rfl, _, _, hy, hcy, _⟩ := J73.get (k := k) (by omega)
          have hkn : (k : Int) < (n3 : Int) := by omega
          obtain ⟨hr0, hr1⟩ := (dif_range hdd.out).1 y (List.mem_of_getElem? hy.out)
          obtain ⟨j, rfl⟩ := Int.eq_ofNat_of_zero_le hr0
          have hj : j < n0 := by omega
          obtain ⟨_, m, em, _, _, hm, hcm, _⟩ := M7.get (k := j) (by rw [markL_len]; exact hj)
          cases em
          obtain ⟨ga, a, rfl, _, _, ha, hca, _⟩ := J70.get (k := j) (by omega)
          obtain ⟨gb, b, rfl, _, _, hb, hcb, _⟩ := J71.get (k := j) (by omega)
          have hj0 : (j : Int) < (n0 : Int) := by omega
          have hj1 : (j : Int) < (n1 : Int) := by omega
          have hfr := Lib.hid (free_marks e0 hj ha.out hb.out)
          have hmm : Hid (m = decide ((j : Int) ∈ [] ++ C.h.l ++ C.h.r ++ C.h.t)) := by
            have h9 := hm.out; rw [markL_at hj] at h9; exact (Option.some.inj h9).symm
          have bad : freeB C.h (j : Int) = false → Hid (stoB C = false) := fun h9 => stoB_unfree hy.out h9
          have good : freeB C.h (j : Int) = true → Hid (∀ x ∈ C.c.take (k + 1), freeB C.h x = true) := fun h9 => free_take hy.out h9 ht.out
          clear hy hm ha hb ht
          cases m
          · by_cases ha1 : a = -1
            · subst ha1
              by_cases hb1 : b = -1
              · subst hb1
                have hn := good (by rw [hfr.out, ← hmm.out]; rfl)
                clear good bad hfr hmm
                go_wp2_with fail
                go_roundw
                case rel => exact ⟨k + 1, by omega, by go_num, hn, _, by first | rfl | (rw [World.drewN_drewN])⟩
                case measure => simp [intOf]; omega
              · have hb2 : (b != -1) = true := by simp [hb1]
                have hf := bad (by rw [hfr.out, ← hmm.out]; simp [hb1])
                clear good bad hfr hmm
                go_wp2_with fail
                go_ret
                exact ⟨ret_bool hf.out.symm, below_drewN B7 _⟩
            · have ha2 : (a != -1) = true := by simp [ha1]
              have hf := bad (by rw [hfr.out, ← hmm.out]; simp [ha1])
              clear good bad hfr hmm
              go_wp2_with fail
              go_ret
              exact ⟨ret_bool hf.out.symm, below_drewN B7 _⟩
          · have hf := bad (by rw [hfr.out, ← hmm.out]; rfl)
            clear good bad hfr hmm
            go_wp2_with fail
            go_ret
            exact ⟨ret_bool hf.out.symm, below_drewN B7 _⟩
        · obtain rfl : k = n3 := by omega
          have hf : Hid (stoB C = true) := by
            have h1 := ht.out
            rw [List.take_of_length_le (by omega)] at h1
            obtain ⟨q1, q2⟩ := dif_range hdd.out
            exact stoB_of hev.out (by rw [e0]; exact pigeon q2 q1) h1 q2
          clear ht
          go_wp2_with fail
          go_ret
          exact ⟨ret_bool hf.out.symm, below_drewN B7 _⟩
end Go.Proofs.Yteogflkahoanlaa

/- Which cells point to a cell: hasCell, l2Points, SourcesOf of both. -/
namespace Go.Proofs.Yteogflkahoanlaa
open Go.RowKit

/-- Does cell k point to c? -/
def pntB (h : Hp) (k : Nat) (c : Int) : Bool := h.l.getD k 0 == c || h.r.getD k 0 == c
def srcN (h : Hp) (c : Int) (k : Nat) : List Int := ((List.range k).filter (pntB h · c)).map fun i : Nat => (i : Int)
def srcs (h : Hp) (c : Int) : List Int := if (hvB h && plB c h.l.length) = true then srcN h c h.l.length else []
theorem srcN_succ (h : Hp) (c : Int) (k : Nat) : srcN h c (k + 1) = if pntB h k c = true then srcN h c k ++ [(k : Int)] else srcN h c k := by
  unfold srcN
  rw [List.range_succ, List.filter_append]
  by_cases hp : pntB h k c = true <;> simp [hp]
theorem srcN_len (h : Hp) (c : Int) (k : Nat) : (srcN h c k).length ≤ k := by
  unfold srcN; rw [List.length_map]; exact Nat.le_trans (List.length_filter_le _ _) (by simp)

theorem srcs_len (h : Hp) (c : Int) : (srcs h c).length ≤ h.l.length := by
  unfold srcs; split
  · exact srcN_len _ _ _
  · simp

end Go.Proofs.Yteogflkahoanlaa

/- LeakedOf and IsFree of impl. -/
namespace Go.Proofs.Yteogflkahoanlaa
open Go.RowKit

set_option maxRecDepth 100000 in
set_option maxHeartbeats 4000000 in
theorem implLeaked_any (w : World) (lo : Nat) (v : Value) (C : Cp) (hv : Cv w lo v C) : Calls Try.prog 54 #[v] w (NewRow w (leakL C)) := by
  obtain ⟨i0, hi, hz0, hz1, hz2⟩ := info_parts Try.infoInt
  have hvo := hv
  obtain ⟨A0, n0, c0, A1, n1, c1, A2, n2, c2, A3, n3, c3, rfl, hh, ⟨r0, r1, r2, r3⟩, ⟨l0, l1, l2, l3⟩, ⟨mm0, mm1, mm2, mm3⟩, _⟩ := hvo.open_
  have X0 := Blk4.new w (.slice A0 n0 c0) (.slice A1 n1 c1) (.slice A2 n2 c2) (.slice A3 n3 c3) 27
  have fin : Below w.heap.size w (w.alloc (.cells #[.slice A0 n0 c0, .slice A1 n1 c1, .slice A2 n2 c2, .slice A3 n3 c3] 27)) := (Below.refl _ _).alloc (Nat.le_refl _) _
  have VV := hv.alloc (.cells #[.slice A0 n0 c0, .slice A1 n1 c1, .slice A2 n2 c2, .slice A3 n3 c3] 27)
  have HH := hh.alloc (.cells #[.slice A0 n0 c0, .slice A1 n1 c1, .slice A2 n2 c2, .slice A3 n3 c3] 27)
  have S0 := r0.alloc (.cells #[.slice A0 n0 c0, .slice A1 n1 c1, .slice A2 n2 c2, .slice A3 n3 c3] 27)
  have S1 := r1.alloc (.cells #[.slice A0 n0 c0, .slice A1 n1 c1, .slice A2 n2 c2, .slice A3 n3 c3] 27)
  have S2 := r2.alloc (.cells #[.slice A0 n0 c0, .slice A1 n1 c1, .slice A2 n2 c2, .slice A3 n3 c3] 27)
  have S3 := r3.alloc (.cells #[.slice A0 n0 c0, .slice A1 n1 c1, .slice A2 n2 c2, .slice A3 n3 c3] 27)
  have HF := Lib.hid (fun b hb => (r3.lt b hb).2 : ∀ b, (Value.slice A3 n3 c3).ownBlock = some b → b < w.heap.size)
  have V := implStoreValid_any _ _ _ _ VV
  clear hv hh r0 r1 r2 r3 S0 S1 S2 VV
  rcases ev : stoB C
  · rw [ev] at V
    have hf : leakL C = [] := by unfold leakL; rw [ev]; simp
    rw [hf]
    clear hf ev
    go_enter Try.func54, Try.ntmps54
    go_wp2_with fail
    refine V.mono ?_; rintro e w1 ⟨rfl, hb1⟩
    go_wp2_with fail
    go_ret
    exact ⟨_, _, rfl, Row.nil _ _, fin.trans (hb1.mono fin.size)⟩
  · rw [ev] at V
    have hf : leakL C = leakN (garb C.h) C.c (garb C.h).length := by unfold leakL; rw [if_pos ev]
    rw [hf]
    have hbd := garb_len C.h
    clear hf ev
    have G := fun W h9 => implGarb_any W lo (.agg #[.slice A0 n0 c0, .slice A1 n1 c1, .slice A2 n2 c2]) C.h h9
    generalize garb C.h = gs at G hbd ⊢
    go_enter Try.func54, Try.ntmps54
    go_wp2_with fail
    refine V.mono ?_; rintro e w1 ⟨rfl, hb1⟩
    have X1 := Blk4.below (by exact X0) hb1
    have H1 := Hv.below (by exact HH) hb1
    have F1 := Row.below (by exact S3) hb1
    have B1 := fin.trans (hb1.mono fin.size)
    have z1 : w.heap.size + 1 ≤ w1.heap.size := by have := hb1.size; simp at this; omega
    obtain ⟨x0, x1, x2, x3, _⟩ := X1.cells
    clear V X0 HH S3 fin hb1
    go_wp2_with fail
    refine (G _ H1).mono ?_; rintro e w2 ⟨A, cc, rfl, hr, hb2⟩
    have X2 := X1.below hb2
    have F2 := F1.below hb2
    have B2 := B1.trans (hb2.mono B1.size)
    have z2 := hb2.size
    generalize hn : gs.length = n at hr hbd ⊢
    have HN := Lib.hid hn
    clear hn G X1 F1 B1 H1 x0 x1 x2 x3 hb2
    have HR := Lib.hid (fun b hb => (hr.lt b hb).2 : ∀ b, (Value.slice A n cc).ownBlock = some b → b < w2.heap.size)
    go_wp2_with fail
    go_loopw [3, 5, 13] (fun v _ i wr => ∃ (k : Nat) (A' : Option Addr) (c' : Nat), k ≤ n ∧ i = .int .i64 k ∧ v = .slice A' (leakN gs C.c k).length c' ∧ Row wr (w2.heap.size) (.slice A' (leakN gs C.c k).length c') (leakN gs C.c k) ∧ Row wr 0 (.slice A n cc) gs ∧ Blk4 wr w.heap.size (.slice A0 n0 c0) (.slice A1 n1 c1) (.slice A2 n2 c2) (.slice A3 n3 c3) 27 ∧ Row wr lo (.slice A3 n3 c3) C.c ∧ Below w.heap.size w wr ∧ w2.heap.size ≤ wr.heap.size) (fun _ _ i _ => n - (intOf i).toNat)
    case atStart => exact ⟨0, none, 0, Nat.zero_le _, rfl, rfl, Row.nil _ _, hr.mono (by omega), X2, F2, B2, Nat.le_refl _⟩
    case round =>
      obtain ⟨k, A', c', hk, rfl, rfl, hrow, hr', X, F, hB, hz⟩ := hrel
      by_cases hlt : k < n
      · obtain ⟨g, y, rfl, _, _, hy, hcell, _⟩ := hr'.get (k := k) (by have := HN.out; omega)
        have hb : (k : Int) < (n : Int) := by omega
        obtain ⟨cX0, cX1, cX2, cX3, _⟩ := X.cells
        have hsl := leakN_len gs C.c k
        have I := slicesContains_any wr lo A3 n3 c3 C.c F l3.out mm3 y
        by_cases hm : y ∈ C.c
        · have HS := Lib.hid (leakN_in hy.out hm)
          rw [show decide (y ∈ C.c) = true by simp [hm]] at I
          clear hy hm
          go_wp2_with fail
          refine I.mono ?_; rintro e w3 ⟨rfl, rfl⟩
          go_wp2_with fail
          go_roundw
          case rel => exact ⟨k + 1, A', c', by omega, by go_num, by rw [HS.out], by rw [HS.out]; exact hrow, hr', X, F, hB, hz⟩
          case measure => simp [intOf]; omega
        · have HS := Lib.hid (leakN_not hy.out hm)
          rw [show decide (y ∈ C.c) = false by simp [hm]] at I
          clear hy hm
          go_wp2_with fail
          refine I.mono ?_; rintro e w3 ⟨rfl, rfl⟩
          have hown : wr.ownsRow w2.heap.size 3 1 (.slice A' (leakN gs C.c k).length c') (leakN gs C.c k).length ((leakN gs C.c k).map iv) := hrow
          generalize hsn : leakN gs C.c k = sn at *
          have HSN := Lib.hid hsn
          clear hsn hrow I
          have hsz := hB.size
          go_wp2_with (at_builtin; refine wpList_append_own_at _ rfl _ _ 23 rfl w2.heap.size 3 i0 (.int .i64 0) 1 8 Try.underlying23 hi hz0 hz1 hz2 rfl (by decide) _ _ _ rfl (hown.alloc _) ⟨wr.heap.size, 0, none⟩ 1 1 [.int .i64 y] rfl rfl ?ap1 ?ap2 ?ap3 ?ap4 ?ap5 ?_)
          try case ap1 => exact one_new
          try case ap2 => first | rfl | (intro u hu; simp at hu; subst hu; rfl)
          try case ap3 => unfold maxLen; omega
          try case ap4 => omega
          try case ap5 => first | omega | (simp; omega)
          intro v' w4 hown' hgrow hnil hloc
          have hrow' : Row w4 w2.heap.size v' (leakN gs C.c (k + 1)) := by rw [HS.out]; exact Row.of_own hown' (by simp) (by simp)
          have hB' := (hB.alloc hsz (.cells #[.int .i64 y] 3)).grown hgrow (by simp; omega) (fun j hj => by have := (hown.lt j hj).1; omega)
          have hr4 := Row.kept (hr'.alloc (.cells #[.int .i64 y] 3)) hgrow (.inr fun e => by
            have h1 := (hown.lt g e.symm).1
            have h2 := HR.out g rfl
            omega)
          have F4 := Row.kept (F.alloc (.cells #[.int .i64 y] 3)) hgrow (by
            rcases hq : (Value.slice A3 n3 c3).ownBlock with _ | b
            · exact .inl rfl
            · refine .inr fun e => ?_
              have h1 := HF.out b hq
              have h2 := (hown.lt b e.symm).1
              omega)
          have X4 := Blk4.kept_own (X.alloc (.cells #[.int .i64 y] 3)) hgrow (fun e => by have := (hown.lt _ e.symm).1; omega)
          have hz4 : w2.heap.size ≤ w4.heap.size := by have := hgrow.size; simp at this; omega
          obtain ⟨A4, c4, hv', _⟩ := hrow'.form
          subst hv'
          clear hown hown' hgrow hloc hnil
          go_wp2
          go_roundw
          case rel => exact ⟨k + 1, A4, c4, by omega, by go_num, rfl, hrow', hr4, X4, F4, hB', hz4⟩
          case measure => simp [intOf]; omega
      · obtain rfl : k = n := by omega
        go_wp2_with fail
        go_ret
        exact ⟨A', c', by simp [HN.out], by rw [HN.out]; exact hrow.mono (by omega), hB⟩

set_option maxRecDepth 100000 in
set_option maxHeartbeats 4000000 in
theorem implIsFree_any (w : World) (lo : Nat) (v : Value) (C : Cp) (hv : Cv w lo v C) (x : Int) : Calls Try.prog 19 #[v, .int .i64 x] w (RetB w (isFreeB C x)) := by
  have hvo := hv
  obtain ⟨A0, n0, c0, A1, n1, c1, A2, n2, c2, A3, n3, c3, rfl, hh, ⟨r0, r1, r2, r3⟩, ⟨l0, l1, l2, l3⟩, ⟨mm0, mm1, mm2, mm3⟩, _⟩ := hvo.open_
  have X0 := Blk4.new w (.slice A0 n0 c0) (.slice A1 n1 c1) (.slice A2 n2 c2) (.slice A3 n3 c3) 27
  have fin : Below w.heap.size w (w.alloc (.cells #[.slice A0 n0 c0, .slice A1 n1 c1, .slice A2 n2 c2, .slice A3 n3 c3] 27)) := (Below.refl _ _).alloc (Nat.le_refl _) _
  have VV := hv.alloc (.cells #[.slice A0 n0 c0, .slice A1 n1 c1, .slice A2 n2 c2, .slice A3 n3 c3] 27)
  have HH := hh.alloc (.cells #[.slice A0 n0 c0, .slice A1 n1 c1, .slice A2 n2 c2, .slice A3 n3 c3] 27)
  have S0 := r0.alloc (.cells #[.slice A0 n0 c0, .slice A1 n1 c1, .slice A2 n2 c2, .slice A3 n3 c3] 27)
  have S1 := r1.alloc (.cells #[.slice A0 n0 c0, .slice A1 n1 c1, .slice A2 n2 c2, .slice A3 n3 c3] 27)
  have S2 := r2.alloc (.cells #[.slice A0 n0 c0, .slice A1 n1 c1, .slice A2 n2 c2, .slice A3 n3 c3] 27)
  have S3 := r3.alloc (.cells #[.slice A0 n0 c0, .slice A1 n1 c1, .slice A2 n2 c2, .slice A3 n3 c3] 27)
  have V := implStoreValid_any _ _ _ _ VV
  clear hv hh r0 r1 r2 r3 S0 S1 S2 VV HH
  rcases ev : stoB C
  · rw [ev] at V
    have hf : Hid (isFreeB C x = false) := by unfold Hid isFreeB; rw [ev]; rfl
    clear ev
    go_enter Try.func19, Try.ntmps19
    go_wp2_with fail
    refine V.mono ?_; rintro e w1 ⟨rfl, hb1⟩
    have B1 := fin.trans (hb1.mono fin.size)
    go_wp2_with fail
    go_ret
    exact ⟨ret_bool hf.out.symm, B1⟩
  · rw [ev] at V
    have hf : Hid (isFreeB C x = decide (x ∈ C.c)) := by unfold Hid isFreeB; rw [ev]; rfl
    clear ev
    go_enter Try.func19, Try.ntmps19
    go_wp2_with fail
    refine V.mono ?_; rintro e w1 ⟨rfl, hb1⟩
    have B1 := fin.trans (hb1.mono fin.size)
    obtain ⟨x0, x1, x2, x3, _⟩ := (Blk4.below (by exact X0) hb1).cells
    have I := slicesContains_any w1 lo A3 n3 c3 C.c (Row.below (by exact S3) hb1) l3.out mm3 x
    generalize decide (x ∈ C.c) = q at I hf
    clear V X0 S3 fin hb1
    go_wp2_with fail
    refine I.mono ?_; rintro e w3 ⟨rfl, rfl⟩
    go_wp2_with fail
    go_ret
    exact ⟨ret_bool hf.out.symm, B1⟩
end Go.Proofs.Yteogflkahoanlaa

/- withCleared of impl. -/
namespace Go.Proofs.Yteogflkahoanlaa
open Go.RowKit

end Go.Proofs.Yteogflkahoanlaa

/- copyOfStore of impl. -/
namespace Go.Proofs.Yteogflkahoanlaa
open Go.RowKit

set_option maxRecDepth 100000 in
set_option maxHeartbeats 3000000 in
theorem copyOfStore_any (w : World) (lo : Nat) (v : Value) (C : Cp) (hv : Cv w lo v C) (b0 : C.h.l.length ≤ 1048576) (b1 : C.h.r.length ≤ 1048576) (b2 : C.h.t.length ≤ 1048576) (b3 : C.c.length ≤ 1048576) :
    Calls Try.prog 59 #[v] w (NewCv w C) := by
  have hvo := hv
  obtain ⟨A0, n0, c0, A1, n1, c1, A2, n2, c2, A3, n3, c3, rfl, hh, ⟨r0, r1, r2, r3⟩, ⟨l0, l1, l2, l3⟩, ⟨mm0, mm1, mm2, mm3⟩, _⟩ := hvo.open_
  have P := Blk4.new w (.slice A0 n0 c0) (.slice A1 n1 c1) (.slice A2 n2 c2) (.slice A3 n3 c3) 27
  have X := P.alloc (.cells #[.slice none 0 0, .slice none 0 0, .slice none 0 0, .slice none 0 0] 27)
  have Y := Blk4.new_at (w := w.alloc (.cells #[.slice A0 n0 c0, .slice A1 n1 c1, .slice A2 n2 c2, .slice A3 n3 c3] 27)) (b := w.heap.size + 1) (by simp) (.slice none 0 0) (.slice none 0 0) (.slice none 0 0) (.slice none 0 0) 27
  have VV := (hv.alloc (.cells #[.slice A0 n0 c0, .slice A1 n1 c1, .slice A2 n2 c2, .slice A3 n3 c3] 27)).alloc (.cells #[.slice none 0 0, .slice none 0 0, .slice none 0 0, .slice none 0 0] 27)
  have BB : Below w.heap.size w ((w.alloc (.cells #[.slice A0 n0 c0, .slice A1 n1 c1, .slice A2 n2 c2, .slice A3 n3 c3] 27)).alloc (.cells #[.slice none 0 0, .slice none 0 0, .slice none 0 0, .slice none 0 0] 27)) := ((Below.refl _ _).alloc (Nat.le_refl _) _).alloc (by simp) _
  have sz : ((w.alloc (.cells #[.slice A0 n0 c0, .slice A1 n1 c1, .slice A2 n2 c2, .slice A3 n3 c3] 27)).alloc (.cells #[.slice none 0 0, .slice none 0 0, .slice none 0 0, .slice none 0 0] 27)).heap.size = w.heap.size + 2 := by simp
  have HH := (hh.alloc (.cells #[.slice A0 n0 c0, .slice A1 n1 c1, .slice A2 n2 c2, .slice A3 n3 c3] 27)).alloc (.cells #[.slice none 0 0, .slice none 0 0, .slice none 0 0, .slice none 0 0] 27)
  have R3 := (r3.alloc (.cells #[.slice A0 n0 c0, .slice A1 n1 c1, .slice A2 n2 c2, .slice A3 n3 c3] 27)).alloc (.cells #[.slice none 0 0, .slice none 0 0, .slice none 0 0, .slice none 0 0] 27)
  have y3 : n3 ≤ 1048576 := by have := l3.out; omega
  go_enter Try.func59, Try.ntmps59
  go_wp2_with fail
  generalize (w.alloc (.cells #[.slice A0 n0 c0, .slice A1 n1 c1, .slice A2 n2 c2, .slice A3 n3 c3] 27)).alloc (.cells #[.slice none 0 0, .slice none 0 0, .slice none 0 0, .slice none 0 0] 27) = W at X Y VV HH R3 BB sz ⊢
  obtain ⟨x0, x1, x2, x3, _⟩ := X.cells
  have hnb : w.heap.size + 1 ≠ w.heap.size := by omega
  go_region_held3 (fun w' => w'.cell? ⟨w.heap.size, 0, none⟩ = some (.slice A0 n0 c0) ∧ w'.cell? ⟨w.heap.size, 1, none⟩ = some (.slice A1 n1 c1) ∧ w'.cell? ⟨w.heap.size, 2, none⟩ = some (.slice A2 n2 c2) ∧ w'.cell? ⟨w.heap.size, 3, none⟩ = some (.slice A3 n3 c3))
    (((try dsimp only); (repeat' apply And.intro) <;> (with_reducible (first | exact cellF4 s0 hnb _ _ _ _ | exact cellF4 s1 hnb _ _ _ _ | exact cellF4 s2 hnb _ _ _ _ | exact cellF4 s3 hnb _ _ _ _ | exact s0 | exact s1 | exact s2 | exact s3 | exact p0 | exact p1 | exact p2 | exact p3 | exact cellD x0 | exact cellD x1 | exact cellD x2 | exact cellD x3 | exact x0 | exact x1 | exact x2 | exact x3)) <;> done))
    (first
      | (go_at_call 72; (with_reducible refine (copyOfHeap_any W.drew lo _ C.h HH.drew b0 b1 b2).mono ?_); rintro e w1 ⟨vv, rfl, HN0, hb0⟩; (have HN : Hv w1 W.heap.size vv C.h := HN0); (have hb1 : Below W.heap.size W w1 := (Below.refl W.heap.size W).drew.trans (hb0.mono (Nat.le_refl _))); (obtain ⟨p0, p1, p2, p3, _⟩ := (X.below hb1).cells); (have hNo := HN); (obtain ⟨B0, u0, e0, B1, u1, e1, B2, u2, e2, rfl, _⟩ := hNo.open_))
      | (go_at_call 73; (with_reducible refine (copyOfInts_any w1 lo A3 n3 c3 C.c (R3.below hb1) l3.out y3).mono ?_); rintro e w2 ⟨B3, e3, rfl, r3n, hb2⟩; (have X2 := (X.below hb1).below hb2); (obtain ⟨s0, s1, s2, s3, _⟩ := X2.cells); (have Y2 := (Y.below hb1).below hb2); (obtain ⟨q0, q1, q2, q3, k0, k1, k2, k3⟩ := Y2.cells)))
  rename_i hHeld
  clear hHeld
  have z1 := hb1.size
  have HN2 : Hv w2 W.heap.size (.agg #[.slice B0 u0 e0, .slice B1 u1 e1, .slice B2 u2 e2]) C.h := HN.below hb2
  have r3m : Row w2 (w.heap.size + 2) (.slice B3 C.c.length e3) C.c := r3n.mono (by omega)
  have ap : ∀ (v : Value) (xs : List Int), Row w1 W.heap.size v xs → Apart v (.slice B3 C.c.length e3) := fun v xs r j e e' => by
    have h1 := (r.lt j e).2
    have h2 := (r3n.lt j e').1
    omega
  obtain ⟨_, _, _, ev, H0, H1, H2, _⟩ := HN
  cases ev
  obtain ⟨hH, hB⟩ := copyC_done (w := w) (C := C) (HN2.mono (by omega)) r3m ⟨ap _ _ H0, ap _ _ H1, ap _ _ H2⟩ (BB.trans ((hb1.mono (by omega)).trans (hb2.mono (by omega))))
  clear s0 s1 s2 s3 p0 p1 p2 p3 x0 x1 x2 x3
  go_wp2_with fail
  refine bodyPost_ret (v := .agg #[.slice B0 u0 e0, .slice B1 u1 e1, .slice B2 u2 e2, .slice B3 C.c.length e3]) ?_ rfl ⟨_, rfl, hH, hB⟩
  simp [results, Try.results59, go_sem, q0, q1, q2, q3]

/-- Of a valid store. -/
theorem copyS_valid (w : World) (lo : Nat) (v : Value) (C : Cp) (hv : Cv w lo v C) (hC : stoB C = true) : Calls Try.prog 59 #[v] w (NewCv w C) := by
  obtain ⟨hvh, hlen, _⟩ := stoB_parts hC
  have h9 := hvB_len hvh
  exact copyOfStore_any w lo v C hv (by omega) (by omega) (by omega) (by omega)
end Go.Proofs.Yteogflkahoanlaa

