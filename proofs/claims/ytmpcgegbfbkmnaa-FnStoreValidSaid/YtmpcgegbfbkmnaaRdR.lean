/- Rows that are only read, wherever in a block they begin; stores whose free cells lie in such a row. -/
import Derived.Test.YtmpcgegbfbkmnaaIStos
import Derived.Test.YtmpcgegbfbkmnaaLives
namespace Go.Proofs.Ytmpcgegbfbkmnaa
open Go.RowKit

def RdR (w : World) (lo : Nat) (v : Value) (xs : List Int) : Prop := ∃ A c, v = .slice A xs.length c ∧ xs.length ≤ 9223372036854775807 ∧ ∀ (k : Nat) (x : Int), xs[k]? = some x → ∃ g o, A = some ⟨g, o, none⟩ ∧ lo ≤ g ∧ g < w.heap.size ∧ w.cell? ⟨g, o + k, none⟩ = some (.int .i64 x)
theorem RdR.get {w : World} {lo n c : Nat} {A : Option Addr} {xs : List Int} (h : RdR w lo (.slice A n c) xs) {k : Nat} (hk : k < xs.length) : ∃ g o x, A = some ⟨g, o, none⟩ ∧ lo ≤ g ∧ g < w.heap.size ∧ Hid (xs[k]? = some x) ∧ w.cell? ⟨g, o + k, none⟩ = some (.int .i64 x) := by
  obtain ⟨A', c', e, _, h2⟩ := h
  cases e
  obtain ⟨g, o, h3, h4, h5, h6⟩ := h2 k _ (List.getElem?_eq_getElem hk)
  exact ⟨g, o, _, h3, h4, h5, List.getElem?_eq_getElem hk, h6⟩
theorem RdR.below {w w' : World} {lo : Nat} {v : Value} {xs : List Int} (h : RdR w lo v xs) (hb : Below w.heap.size w w') : RdR w' lo v xs := by
  obtain ⟨A, c, e, h1, h2⟩ := h
  refine ⟨A, c, e, h1, fun k x hx => ?_⟩
  obtain ⟨g, o, h3, h4, h5, h6⟩ := h2 k x hx
  exact ⟨g, o, h3, h4, by have := hb.size; omega, (hb.cell (p := ⟨g, o + k, none⟩) h5).trans h6⟩
theorem RdR.alloc {w : World} {lo : Nat} {v : Value} {xs : List Int} (h : RdR w lo v xs) (o : Obj) : RdR (w.alloc o) lo v xs := h.below ((Below.refl _ _).alloc (Nat.le_refl _) o)
theorem RdR.mono {w : World} {lo lo' : Nat} {v : Value} {xs : List Int} (h : RdR w lo v xs) (hl : lo' ≤ lo) : RdR w lo' v xs := by
  obtain ⟨A, c, e, h1, h2⟩ := h
  refine ⟨A, c, e, h1, fun k x hx => ?_⟩
  obtain ⟨g, o, h3, h4, h5, h6⟩ := h2 k x hx
  exact ⟨g, o, h3, by omega, h5, h6⟩
theorem RdR.drop {w : World} {lo g n c m d : Nat} {xs : List Int} (h : Row w lo (.slice (some ⟨g, 0, none⟩) n c) xs) (j : Nat) (hm : (xs.drop j).length = m) (hl : m ≤ 9223372036854775807) (A : Option Addr) (hA : 0 < m → A = some ⟨g, j, none⟩) : RdR w lo (.slice A m d) (xs.drop j) := by
  refine ⟨A, d, by rw [hm], by omega, fun k x hx => ?_⟩
  have hk0 := (List.getElem?_eq_some_iff.1 hx).1
  rw [List.getElem?_drop] at hx
  obtain ⟨hk, _⟩ := List.getElem?_eq_some_iff.1 hx
  obtain ⟨g', y, e, h4, h5, hy, hc, _⟩ := h.get hk
  cases e
  have e := hy.out
  rw [hx] at e
  cases e
  exact ⟨_, j, hA (by omega), h4, h5, hc⟩
theorem RdR.other {w : World} {lo g o n c : Nat} {xs : List Int} (h : RdR w lo (.slice (some ⟨g, o, none⟩) n c) xs) {a : Addr} (hne : g ≠ a.block) (u : Value) : RdR (w.setCell a u) lo (.slice (some ⟨g, o, none⟩) n c) xs := by
  obtain ⟨A, c', e, h1, h2⟩ := h
  refine ⟨A, c', e, h1, fun k x hx => ?_⟩
  obtain ⟨g', o', h3, h4, h5, h6⟩ := h2 k x hx
  cases e; cases h3
  exact ⟨_, _, rfl, h4, by simpa [World.setCell] using h5, (World.cell?_setCell_far w a ⟨_, _, none⟩ u (fun e => hne e.symm)).trans h6⟩
/-- A store that is only read. -/
def Cw (w : World) (lo : Nat) (v : Value) (C : Cp) : Prop := ∃ v0 v1 v2 v3, v = .agg #[v0, v1, v2, v3] ∧ Hv w lo (.agg #[v0, v1, v2]) C.h ∧ RdR w lo v3 C.c
theorem Cw.open_ {w : World} {lo : Nat} {v : Value} {C : Cp} (hv : Cw w lo v C) : ∃ A0 n0 c0 A1 n1 c1 A2 n2 c2 A3 n3 c3, v = .agg #[.slice A0 n0 c0, .slice A1 n1 c1, .slice A2 n2 c2, .slice A3 n3 c3] ∧
    Hv w lo (.agg #[.slice A0 n0 c0, .slice A1 n1 c1, .slice A2 n2 c2]) C.h ∧
    (Row w lo (.slice A0 n0 c0) C.h.l ∧ Row w lo (.slice A1 n1 c1) C.h.r ∧ Row w lo (.slice A2 n2 c2) C.h.t ∧ RdR w lo (.slice A3 n3 c3) C.c) ∧
    (Hid (C.h.l.length = n0) ∧ Hid (C.h.r.length = n1) ∧ Hid (C.h.t.length = n2) ∧ Hid (C.c.length = n3)) ∧ (n0 ≤ 9223372036854775807 ∧ n1 ≤ 9223372036854775807 ∧ n2 ≤ 9223372036854775807 ∧ n3 ≤ 9223372036854775807) ∧ True := by
  obtain ⟨v0, v1, v2, v3, rfl, hh, h3⟩ := hv
  obtain ⟨A0, n0, c0, A1, n1, c1, A2, n2, c2, e, ⟨h0, h1, h2⟩, ⟨l0, l1, l2⟩, ⟨m0, m1, m2⟩, _⟩ := hh.open_
  cases e
  have h4 := h3
  obtain ⟨A3, c3, rfl, m3, _⟩ := h4
  exact ⟨A0, n0, c0, A1, n1, c1, A2, n2, c2, A3, _, c3, rfl, hh, ⟨h0, h1, h2, h3⟩, ⟨l0, l1, l2, rfl⟩, ⟨m0, m1, m2, m3⟩, trivial⟩
theorem Cw.below {w w' : World} {lo : Nat} {v : Value} {C : Cp} (h : Cw w lo v C) (hb : Below w.heap.size w w') : Cw w' lo v C := by
  obtain ⟨v0, v1, v2, v3, rfl, hh, h3⟩ := h
  exact ⟨v0, v1, v2, v3, rfl, hh.below hb, h3.below hb⟩
theorem Cw.drew {w : World} {lo : Nat} {v : Value} {C : Cp} (h : Cw w lo v C) : Cw w.drew lo v C := h.below (Below.refl w.heap.size w).drew
theorem RdR.ofRow {w : World} {lo n c : Nat} {A : Option Addr} {xs : List Int} (h : Row w lo (.slice A n c) xs) (hm : n ≤ 9223372036854775807) : RdR w lo (.slice A n c) xs := by
  have hl : xs.length = n := by obtain ⟨_, _, e, _⟩ := h.form; cases e; rfl
  refine ⟨A, c, by rw [hl], by omega, fun k x hx => ?_⟩
  obtain ⟨hk, _⟩ := List.getElem?_eq_some_iff.1 hx
  obtain ⟨g, y, rfl, h4, h5, hy, hc, _⟩ := h.get hk
  have e := hy.out
  rw [hx] at e
  cases e
  exact ⟨g, 0, rfl, h4, h5, by rw [Nat.zero_add]; exact hc⟩
theorem Cw.alloc {w : World} {lo : Nat} {v : Value} {C : Cp} (h : Cw w lo v C) (o : Obj) : Cw (w.alloc o) lo v C := h.below ((Below.refl _ _).alloc (Nat.le_refl _) o)

set_option maxHeartbeats 1000000 in
theorem slicesIndexR_any (w : World) (lo : Nat) (A : Option Addr) (n c : Nat) (xs : List Int) (h : RdR w lo (.slice A n c) xs) (hn : xs.length = n) (hm : n ≤ 9223372036854775807) (x : Int) :
    Calls Try.prog 75 #[.slice A n c, .int .i64 x] w fun e w' => e = .returned (.int .i64 (firstOf xs x)) ∧ w = w' := by
  go_enter Try.func75, Try.ntmps75
  go_wp2
  go_loop [8] (fun i => ∃ k : Nat, k ≤ n ∧ i = .int .i64 k ∧ Hid (∀ j, j < k → xs[j]? ≠ some x)) (fun i => n - (intOf i).toNat)
  case atStart => exact ⟨0, Nat.zero_le _, rfl, fun j hj => absurd hj (Nat.not_lt_zero _)⟩
  case round =>
    obtain ⟨k, hk, rfl, ht⟩ := hrel
    by_cases hlt : k < n
    · obtain ⟨g, o, y, rfl, _, _, hy, hcy⟩ := h.get (k := k) (by omega)
      by_cases hxy : x = y
      · subst hxy
        have hf := Lib.hid (first_at hy.out ht.out)
        clear hy ht
        go_wp2
        go_ret
        exact ⟨ret_int hf.out.symm, rfl⟩
      · have hxy1 : (x == y) = false := by simp [hxy]
        have ht' : Hid (∀ j, j < k + 1 → xs[j]? ≠ some x) := fun j hj => by
          rcases Nat.lt_succ_iff_lt_or_eq.1 hj with h9 | rfl
          · exact ht.out j h9
          · rw [hy.out]; intro e; exact hxy (by simpa using e.symm)
        clear hy ht
        go_wp2
        go_round
        case rel => exact ⟨k + 1, by omega, by go_num, ht'⟩
        case measure => simp [intOf]; omega
    · obtain rfl : k = n := by omega
      have hf : Hid (firstOf xs x = -1) := first_none (fun j hj => ht.out j (by omega))
      clear ht
      go_wp2
      go_ret
      exact ⟨ret_int hf.out.symm, rfl⟩
set_option maxHeartbeats 1000000 in
theorem slicesContainsR_any (w : World) (lo : Nat) (A : Option Addr) (n c : Nat) (xs : List Int) (h : RdR w lo (.slice A n c) xs) (hn : xs.length = n) (hm : n ≤ 9223372036854775807) (x : Int) :
    Calls Try.prog 50 #[.slice A n c, .int .i64 x] w fun e w' => e = .returned (.bool (decide (x ∈ xs))) ∧ w = w' := by
  have I := slicesIndexR_any w lo A n c xs h hn hm x
  by_cases hx : x ∈ xs
  · obtain ⟨k, e, _⟩ := first_pos hx
    rw [e] at I
    have hk : (0 : Int) ≤ (k : Int) := by omega
    have hd : Hid (decide (x ∈ xs) = true) := by unfold Hid; simp [hx]
    clear e hx
    go_enter Try.func50, Try.ntmps50
    go_wp2_with fail
    refine I.mono ?_; rintro e w' ⟨rfl, rfl⟩
    go_wp2_with fail
    go_ret
    exact ⟨ret_bool hd.out.symm, rfl⟩
  · rw [first_neg hx] at I
    have hd : Hid (decide (x ∈ xs) = false) := by unfold Hid; simp [hx]
    clear hx
    go_enter Try.func50, Try.ntmps50
    go_wp2_with fail
    refine I.mono ?_; rintro e w' ⟨rfl, rfl⟩
    go_wp2_with fail
    go_ret
    exact ⟨ret_bool hd.out.symm, rfl⟩

set_option maxRecDepth 100000 in
set_option maxHeartbeats 2000000 in
theorem markDifferentR_any (W w : World) (lo lm g lg : Nat) (A : Option Addr) (n c m d : Nat) (xs : List Int) (hr : RowB w lm (.slice (some ⟨g, 0, none⟩) m d) (markL m [])) (h : RdR w lo (.slice A n c) xs) (l : Hid (xs.length = n)) (hm : n ≤ 9223372036854775807)
    (hg : lg ≤ g) (hgw : lg = W.heap.size) (hW : RdR W lo (.slice A n c) xs) :
    Calls Try.prog 51 #[.slice (some ⟨g, 0, none⟩) m d, .slice A n c] w fun e w' => e = .returned (.bool (difB m xs)) ∧ (∃ ys, RowB w' lm (.slice (some ⟨g, 0, none⟩) m d) ys ∧ ys.length = m) ∧ w.grownBy w' (some g) ∧ w'.heap.size = w.heap.size := by
  have LL := Lib.hid (markL_len m)
  go_enter Try.func51, Try.ntmps51
  go_wp2_with fail
  go_loopw [6, 9] (fun _ i wr => ∃ k : Nat, k ≤ n ∧ i = .int .i64 k ∧ RowB wr lm (.slice (some ⟨g, 0, none⟩) m d) (markL m (xs.take k)) ∧ RdR wr lo (.slice A n c) xs ∧ Hid (difB m (xs.take k) = true) ∧ w.grownBy wr (some g) ∧ Hid (wr.heap.size = w.heap.size)) (fun _ i _ => n - (intOf i).toNat)
  case atStart => exact ⟨0, Nat.zero_le _, rfl, hr, h, by unfold Hid difB; simp, World.grownBy.refl w _, rfl⟩
  case round =>
    clear hr h
    obtain ⟨k, hk, rfl, R, H, hd, G, hs⟩ := hrel
    by_cases hlt : k < n
    · obtain ⟨gx, o, y, rfl, _, _, hy, hcy⟩ := H.get (k := k) (by rw [l.out]; exact hlt)
      have hb : (k : Int) < (n : Int) := by omega
      have ngx : gx ≠ g := by
        obtain ⟨gy, oy, _, ey, _, hgy, _⟩ := hW.get (k := k) (by rw [l.out]; exact hlt)
        cases ey; omega
      by_cases hy0 : y < 0
      · have hf : Hid (difB m xs = false) := dif_out hy.out (by omega)
        clear hy hd
        go_wp2_with fail
        go_ret
        exact ⟨ret_bool hf.out.symm, ⟨_, R, LL.out _⟩, G, hs.out⟩
      · obtain ⟨j, rfl⟩ := Int.eq_ofNat_of_zero_le (by omega : 0 ≤ y)
        by_cases hym : m ≤ j
        · have hf : Hid (difB m xs = false) := dif_out hy.out (by omega)
          have hjm : (m : Int) ≤ (j : Int) := by omega
          clear hy hd
          go_wp2_with fail
          go_ret
          exact ⟨ret_bool hf.out.symm, ⟨_, R, LL.out _⟩, G, hs.out⟩
        · have hjm : (j : Int) < (m : Int) := by omega
          have hjm2 : ¬ ((m : Int) ≤ (j : Int)) := by omega
          obtain ⟨_, b, eb, _, _, hb1, hcb, hfb⟩ := R.get (k := j) (by rw [markL_len]; omega)
          cases eb
          have hbm : Hid (b = decide ((j : Int) ∈ xs.take k)) := by
            have h9 := hb1.out; rw [markL_at (by omega)] at h9; exact (Option.some.inj h9).symm
          clear hb1
          by_cases hmem : (j : Int) ∈ xs.take k
          · obtain rfl : b = true := by rw [hbm.out]; simp [hmem]
            have hf : Hid (difB m xs = false) := dif_dup hy.out hmem
            clear hy hd hbm hmem
            go_wp2_with fail
            go_ret
            exact ⟨ret_bool hf.out.symm, ⟨_, R, LL.out _⟩, G, hs.out⟩
          · obtain rfl : b = false := by rw [hbm.out]; simp [hmem]
            have hd' : Hid (difB m (xs.take (k + 1)) = true) := dif_next hy.out (by omega) hmem hd.out
            have R' := R.set_ j true
            rw [markL_set, ← take_next hy.out] at R'
            have H' : RdR (wr.setCell ⟨g, j, none⟩ (bv true)) lo (.slice (some ⟨gx, o, none⟩) n c) xs := RdR.other H (a := ⟨g, j, none⟩) ngx (bv true)
            have G' := grown_setNew G (p := ⟨g, j, none⟩) (.inl rfl) (bv true)
            have hs' : Hid ((wr.setCell ⟨g, j, none⟩ (bv true)).heap.size = w.heap.size) := by unfold Hid; simp [World.setCell, hs.out]
            clear hy hd hbm hmem R H G hs
            go_wp2_with fail
            go_roundw
            case rel => exact ⟨k + 1, by omega, by go_num, R', H', hd', G', hs'⟩
            case measure => simp [intOf]; omega
    · obtain rfl : k = n := by omega
      have hf : Hid (difB m xs = true) := by
        have h9 := hd.out; rw [List.take_of_length_le (by rw [l.out]; exact Nat.le_refl _)] at h9; exact h9
      clear hd
      go_wp2_with fail
      go_ret
      exact ⟨ret_bool hf.out.symm, ⟨_, R, LL.out _⟩, G, hs.out⟩

set_option maxRecDepth 100000 in
set_option maxHeartbeats 4000000 in
theorem implStoreValidR_any (w : World) (lo : Nat) (v : Value) (C : Cp) (hv : Cw w lo v C) : Calls Try.prog 21 #[v] w (RetB w (stoB C)) := by
  have hvo := hv
  obtain ⟨A0, n0, c0, A1, n1, c1, A2, n2, c2, A3, n3, c3, rfl, hh, ⟨r0, r1, r2, r3⟩, ⟨l0, l1, l2, l3⟩, ⟨mm0, mm1, mm2, mm3⟩, _⟩ := hvo.open_
  have X0 := Blk4.new w (.slice A0 n0 c0) (.slice A1 n1 c1) (.slice A2 n2 c2) (.slice A3 n3 c3) 27
  have fin : Below w.heap.size w (w.alloc (.cells #[.slice A0 n0 c0, .slice A1 n1 c1, .slice A2 n2 c2, .slice A3 n3 c3] 27)) := (Below.refl _ _).alloc (Nat.le_refl _) _
  have HH := hh.alloc (.cells #[.slice A0 n0 c0, .slice A1 n1 c1, .slice A2 n2 c2, .slice A3 n3 c3] 27)
  have S0 := r0.alloc (.cells #[.slice A0 n0 c0, .slice A1 n1 c1, .slice A2 n2 c2, .slice A3 n3 c3] 27)
  have S1 := r1.alloc (.cells #[.slice A0 n0 c0, .slice A1 n1 c1, .slice A2 n2 c2, .slice A3 n3 c3] 27)
  have S2 := r2.alloc (.cells #[.slice A0 n0 c0, .slice A1 n1 c1, .slice A2 n2 c2, .slice A3 n3 c3] 27)
  have R3 := r3
  obtain ⟨i0, hi, hz0, hz1, hz2⟩ := info_parts Try.infoBool
  have o0 := Lib.hid (fun i e => (r0.lt i e).2 : ∀ i, (Value.slice A0 n0 c0).ownBlock = some i → i < w.heap.size)
  have o1 := Lib.hid (fun i e => (r1.lt i e).2 : ∀ i, (Value.slice A1 n1 c1).ownBlock = some i → i < w.heap.size)
  have o2 := Lib.hid (fun i e => (r2.lt i e).2 : ∀ i, (Value.slice A2 n2 c2).ownBlock = some i → i < w.heap.size)
  clear r0 r1 r2 r3 hh hv
  go_enter Try.func21, Try.ntmps21
  go_wp2_with fail
  generalize w.alloc (.cells #[.slice A0 n0 c0, .slice A1 n1 c1, .slice A2 n2 c2, .slice A3 n3 c3] 27) = W at X0 fin HH S0 S1 S2 ⊢
  obtain ⟨x0, x1, x2, x3, _⟩ := X0.cells
  have V := implHeapValid_any _ _ _ _ HH
  rcases ev : hvB C.h
  · rw [ev] at V
    have hf : Hid (stoB C = false) := stoB_not ev
    clear ev
    go_wp2_with fail
    refine V.mono ?_; rintro e w1 ⟨rfl, hb1⟩
    have BB := fin.trans (hb1.mono fin.size)
    go_wp2_with fail
    go_ret
    exact ⟨ret_bool hf.out.symm, BB⟩
  · rw [ev] at V
    have h8 := hvB_len ev
    have hev := Lib.hid ev
    have e0 := l0.out
    have e1 := l1.out
    have e3 := l3.out
    obtain ⟨_, rl, rr, rt⟩ := hvB_parts ev
    have bl : Hid (∀ x ∈ C.h.l, -1 ≤ x ∧ x < n0) := fun x hx => by
      rw [List.all_eq_true] at rl; have := rl x hx; simp only [ptB, decide_eq_true_eq] at this; omega
    have br : Hid (∀ x ∈ C.h.r, -1 ≤ x ∧ x < n0) := fun x hx => by
      rw [List.all_eq_true] at rr; have := rr x hx; simp only [ptB, decide_eq_true_eq] at this; omega
    have bt : Hid (∀ x ∈ C.h.t, -1 ≤ x ∧ x < n0) := fun x hx => by
      rw [List.all_eq_true] at rt; have := rt x hx; simp only [ptB, decide_eq_true_eq] at this; omega
    have u0 : 0 < n0 := by omega
    have u8 : n0 ≤ 8 := by omega
    clear ev rl rr rt
    go_wp2_with fail
    refine V.mono ?_; rintro e w1 ⟨rfl, hb1⟩
    have X1 := X0.below hb1
    have J10 := S0.below hb1
    have J11 := S1.below hb1
    have J12 := S2.below hb1
    have B1 := fin.trans (hb1.mono fin.size)
    have zw1 := B1.size
    clear V X0 S0 S1 S2 HH x0 x1 x2 x3 fin hb1
    obtain ⟨x0, x1, x2, x3, _⟩ := X1.cells
    go_wp2_with (at_make; refine wpList_make_full _ rfl _ _ 32 rfl w1.heap.size 4 i0 (.bool false) 1 Try.underlying32 hi hz0 hz1 _ _ _ _ n0 rfl rfl rfl rfl ?b2 ?b3 (Nat.le_refl _) ?_)
    case b2 => rw [hz2]; omega
    case b3 => unfold maxLen; omega
    intro w2 hown2 hgrow2
    rw [mc_bool] at hown2
    have hrow2 : RowB w2 w1.heap.size (.slice (some ⟨w1.heap.size, 0, none⟩) n0 n0) (List.replicate n0 false) := by unfold RowB; simpa using hown2
    have hb2 : Below w1.heap.size w1 w2 := (Below.refl _ _).grown hgrow2 (Nat.le_refl _) (fun k h => by cases h)
    have lg := (hrow2.lt _ rfl).2
    have X2 := X1.below hb2
    have J20 := J10.below hb2
    have J21 := J11.below hb2
    have J22 := J12.below hb2
    have B2 := B1.trans (hb2.mono zw1)
    have lX := X1.lt
    have hgw : w.heap.size ≤ w1.heap.size := zw1
    have nX : w.heap.size ≠ w1.heap.size := by omega
    have n0g : (Value.slice A0 n0 c0).ownBlock ≠ some w1.heap.size := fun e => by have := o0.out w1.heap.size e; omega
    have n1g : (Value.slice A1 n1 c1).ownBlock ≠ some w1.heap.size := fun e => by have := o1.out w1.heap.size e; omega
    have n2g : (Value.slice A2 n2 c2).ownBlock ≠ some w1.heap.size := fun e => by have := o2.out w1.heap.size e; omega
    clear hown2 hgrow2 hb2 hz0 hz1 hz2 J10 J11 J12 X1 x0 x1 x2 x3
    obtain ⟨x0, x1, x2, x3, _⟩ := X2.cells
    rw [← markL_nil] at hrow2
    have MD := markDifferentR_any w w2 lo w1.heap.size w1.heap.size w.heap.size A3 n3 c3 n0 n0 C.c hrow2 (R3.below B2) l3 mm3 hgw rfl R3
    go_wp2_with fail
    refine MD.mono ?_; rintro e w3 ⟨rfl, ⟨ys, hr3, hy3⟩, G3, s3⟩
    have O3 : OnlyB w1.heap.size w2 w3 := ⟨G3, s3⟩
    have X3 := onlyB_blk4 X2 O3 nX
    have J30 := onlyB_row J20 O3 n0g
    have J31 := onlyB_row J21 O3 n1g
    have J32 := onlyB_row J22 O3 n2g
    have B3 := B2.trans (below_only O3 hgw (by omega))
    have z3 : w3.heap.size = w2.heap.size := O3.2
    obtain ⟨x0, x1, x2, x3, _⟩ := X3.cells
    clear MD hrow2 G3 s3 O3
    rcases ed : difB n0 C.c
    · have hf : Hid (stoB C = false) := by
        unfold Hid; rw [Bool.eq_false_iff]; intro h9
        have h7 := sto_dif h9
        rw [e0, ed] at h7; cases h7
      clear ed
      go_wp2_with fail
      go_ret
      exact ⟨ret_bool hf.out.symm, B3⟩
    · have hdd := Lib.hid ed
      clear ed
      go_wp2_with (refine wpList_clear rfl _ 32 rfl 4 (.bool false) Try.underlying32 Try.zeroBool rfl rfl w1.heap.size n0 n0 rfl u0 ?k1 ?k2 ?_)
      case k1 =>
        intro j hj
        obtain ⟨_, b, eb, _, _, _, hc, _⟩ := hr3.get (k := j) (by omega)
        cases eb; rw [Nat.zero_add, hc]; rfl
      case k2 =>
        intro j hj
        obtain ⟨_, b, eb, _, _, _, _, hf⟩ := hr3.get (k := j) (by omega)
        cases eb; rw [Nat.zero_add]; exact hf
      intro w4 hw4
      obtain ⟨M4', G4', s4'⟩ := RowB.cleared hr3 hy3
      have M4 : RowB w4 w1.heap.size (.slice (some ⟨w1.heap.size, 0, none⟩) n0 n0) (markL n0 []) := by rw [hw4.out]; exact M4'
      have O4 : OnlyB w1.heap.size w3 w4 := by rw [hw4.out]; exact ⟨G4', s4'⟩
      have X4 := onlyB_blk4 X3 O4 nX
      have J40 := onlyB_row J30 O4 n0g
      have J41 := onlyB_row J31 O4 n1g
      have J42 := onlyB_row J32 O4 n2g
      have B4 := B3.trans (below_only O4 hgw (by omega))
      have z4 : w4.heap.size = w3.heap.size := O4.2
      obtain ⟨x0, x1, x2, x3, _⟩ := X4.cells
      clear M4' G4' s4' hw4 O4 hr3 hy3
      have T5 := markTargets_any w4 lo w1.heap.size w1.heap.size A0 n0 c0 n0 n0 C.h.l _ M4 J40 l0 mm0 n0g bl
      go_wp2_with fail
      refine T5.mono ?_; rintro e w5 ⟨rfl, M5, G5, s5⟩
      have O5 : OnlyB w1.heap.size w4 w5 := ⟨G5, s5⟩
      have X5 := onlyB_blk4 X4 O5 nX
      have J50 := onlyB_row J40 O5 n0g
      have J51 := onlyB_row J41 O5 n1g
      have J52 := onlyB_row J42 O5 n2g
      have B5 := B4.trans (below_only O5 hgw (by omega))
      have z5 : w5.heap.size = w4.heap.size := O5.2
      obtain ⟨x0, x1, x2, x3, _⟩ := X5.cells
      clear T5 M4 G5 s5 O5
      have T6 := markTargets_any w5 lo w1.heap.size w1.heap.size A1 n1 c1 n0 n0 C.h.r _ M5 J51 l1 mm1 n1g br
      go_wp2_with fail
      refine T6.mono ?_; rintro e w6 ⟨rfl, M6, G6, s6⟩
      have O6 : OnlyB w1.heap.size w5 w6 := ⟨G6, s6⟩
      have X6 := onlyB_blk4 X5 O6 nX
      have J60 := onlyB_row J50 O6 n0g
      have J61 := onlyB_row J51 O6 n1g
      have J62 := onlyB_row J52 O6 n2g
      have B6 := B5.trans (below_only O6 hgw (by omega))
      have z6 : w6.heap.size = w5.heap.size := O6.2
      obtain ⟨x0, x1, x2, x3, _⟩ := X6.cells
      clear T6 M5 G6 s6 O6
      have T7 := markTargets_any w6 lo w1.heap.size w1.heap.size A2 n2 c2 n0 n0 C.h.t _ M6 J62 l2 mm2 n2g bt
      go_wp2_with fail
      refine T7.mono ?_; rintro e w7 ⟨rfl, M7, G7, s7⟩
      have O7 : OnlyB w1.heap.size w6 w7 := ⟨G7, s7⟩
      have X7 := onlyB_blk4 X6 O7 nX
      have J70 := onlyB_row J60 O7 n0g
      have J71 := onlyB_row J61 O7 n1g
      have J72 := onlyB_row J62 O7 n2g
      have B7 := B6.trans (below_only O7 hgw (by omega))
      have J73 := R3.below B7
      have z7 : w7.heap.size = w6.heap.size := O7.2
      obtain ⟨x0, x1, x2, x3, _⟩ := X7.cells
      clear T7 M6 G7 s7 O7 J20 J21 J22 J30 J31 J32 J40 J41 J42 J50 J51 J52 J60 J61 J62 X2 X3 X4 X5 X6 B2 B3 B4 B5 B6
      go_wp2_with fail
      go_loopw [5, 39] (fun _ i wr => ∃ k : Nat, k ≤ n3 ∧ i = .int .i64 k ∧ Hid (∀ x ∈ C.c.take k, freeB C.h x = true) ∧ ∃ nq, wr = w7.drewN nq) (fun _ i _ => n3 - (intOf i).toNat)
      case atStart => exact ⟨0, Nat.zero_le _, rfl, fun x hx => by simp at hx, 0, rfl⟩
      case round =>
        obtain ⟨k, hk, rfl, ht, nq, rfl⟩ := hrel
        by_cases hlt : k < n3
        · obtain ⟨g3, o3, y, rfl, _, _, hy, hcy⟩ := J73.get (k := k) (by omega)
          have hkn : (k : Int) < (n3 : Int) := by omega
          obtain ⟨hr0, hr1⟩ := (dif_range hdd.out).1 y (List.mem_of_getElem? hy.out)
          obtain ⟨j, rfl⟩ := Int.eq_ofNat_of_zero_le hr0
          have hj : j < n0 := by omega
          obtain ⟨_, m, em, _, _, hm, hcm, _⟩ := M7.get (k := j) (by rw [markL_len]; exact hj)
          cases em
          obtain ⟨ga, a, rfl, _, _, ha, hca, _⟩ := J70.get (k := j) (by omega)
          obtain ⟨gb, b, rfl, _, _, hb, hcb, _⟩ := J71.get (k := j) (by omega)
          have hj0 : (j : Int) < (n0 : Int) := by omega
          have hj1 : (j : Int) < (n1 : Int) := by omega
          have hfr := Lib.hid (free_marks e0 hj ha.out hb.out)
          have hmm : Hid (m = decide ((j : Int) ∈ [] ++ C.h.l ++ C.h.r ++ C.h.t)) := by
            have h9 := hm.out; rw [markL_at hj] at h9; exact (Option.some.inj h9).symm
          have bad : freeB C.h (j : Int) = false → Hid (stoB C = false) := fun h9 => stoB_unfree hy.out h9
          have good : freeB C.h (j : Int) = true → Hid (∀ x ∈ C.c.take (k + 1), freeB C.h x = true) := fun h9 => free_take hy.out h9 ht.out
          clear hy hm ha hb ht
          cases m
          · by_cases ha1 : a = -1
            · subst ha1
              by_cases hb1 : b = -1
              · subst hb1
                have hn := good (by rw [hfr.out, ← hmm.out]; rfl)
                clear good bad hfr hmm
                go_wp2_with fail
                go_roundw
                case rel => exact ⟨k + 1, by omega, by go_num, hn, _, by first | rfl | (rw [World.drewN_drewN])⟩
                case measure => simp [intOf]; omega
              · have hb2 : (b != -1) = true := by simp [hb1]
                have hf := bad (by rw [hfr.out, ← hmm.out]; simp [hb1])
                clear good bad hfr hmm
                go_wp2_with fail
                go_ret
                exact ⟨ret_bool hf.out.symm, below_drewN B7 _⟩
            · have ha2 : (a != -1) = true := by simp [ha1]
              have hf := bad (by rw [hfr.out, ← hmm.out]; simp [ha1])
              clear good bad hfr hmm
              go_wp2_with fail
              go_ret
              exact ⟨ret_bool hf.out.symm, below_drewN B7 _⟩
          · have hf := bad (by rw [hfr.out, ← hmm.out]; rfl)
            clear good bad hfr hmm
            go_wp2_with fail
            go_ret
            exact ⟨ret_bool hf.out.symm, below_drewN B7 _⟩
        · obtain rfl : k = n3 := by omega
          have hf : Hid (stoB C = true) := by
            have h1 := ht.out
            rw [List.take_of_length_le (by omega)] at h1
            obtain ⟨q1, q2⟩ := dif_range hdd.out
            exact stoB_of hev.out (by rw [e0]; exact pigeon q2 q1) h1 q2
          clear ht
          go_wp2_with fail
          go_ret
          exact ⟨ret_bool hf.out.symm, below_drewN B7 _⟩
end Go.Proofs.Ytmpcgegbfbkmnaa
