import Derived.Test.YtfoimicbmkiigaaGreatCol
import Derived.Test.YtfoimicbmkiigaaGreatCntA
import Derived.Test.YtfoimicbmkiigaaGreatSp3
import Derived.Test.YtfoimicbmkiigaaGreatHpA
import Derived.Deep.RegionLaw
import Derived.Test.YtfoimicbmkiigaaGreatRdA
import Derived.Test.YtfoimicbmkiigaaGreatIStos
/- The small functions of colors, of impl: shaded, colorsValid, pointsToWhite; ColoredValid, ColoredSame. -/
namespace Go.Proofs.YtfoimicbmkiigaaGreat
open Go.RowKit

/-- What color a cell of this color has when it was shaded; zero if it is none. -/
def shV (x : Int) : Int := if x = 0 then 1 else if x = 1 ∨ x = 2 then x else 0

set_option maxHeartbeats 400000 in
theorem shaded_any (x : Int) (w : World) : Calls Tryz.prog 121 #[.int .i64 x] w fun e w' => e = .returned (.tuple #[.int .i64 (shV x), .bool (colB x)]) ∧ w = w' := by
  by_cases h0 : x = 0
  · subst h0
    go_enter Tryz.func121, Tryz.ntmps121
    go_wp2
    refine bodyPost_ret (v := .tuple #[.int .i64 1, .bool true]) ?_ rfl ⟨by simp [shV, colB], rfl⟩
    simp [results, Tryz.results121, go_sem]
  · have h0' : (x == 0) = false := by simpa using h0
    by_cases h1 : x = 1
    · subst h1
      go_enter Tryz.func121, Tryz.ntmps121
      go_wp2
      refine bodyPost_ret (v := .tuple #[.int .i64 1, .bool true]) ?_ rfl ⟨by simp [shV, colB], rfl⟩
      simp [results, Tryz.results121, go_sem]
    · have h1' : (x == 1) = false := by simpa using h1
      by_cases h2 : x = 2
      · subst h2
        go_enter Tryz.func121, Tryz.ntmps121
        go_wp2
        refine bodyPost_ret (v := .tuple #[.int .i64 2, .bool true]) ?_ rfl ⟨by simp [shV, colB], rfl⟩
        simp [results, Tryz.results121, go_sem]
      · have h2' : (x == 2) = false := by simpa using h2
        have hv : Hid (shV x = 0) := by unfold Hid shV; rw [if_neg h0, if_neg (by omega)]
        have hc : Hid (colB x = false) := by unfold Hid colB; simp; omega
        go_enter Tryz.func121, Tryz.ntmps121
        go_wp2
        refine bodyPost_ret (v := .tuple #[.int .i64 0, .bool false]) ?_ rfl ⟨by rw [hv.out, hc.out], rfl⟩
        simp [results, Tryz.results121, go_sem]

set_option maxHeartbeats 400000 in
theorem colorsValid_any (w : World) (lo : Nat) (A : Option Addr) (n c : Nat) (xs : List Int) (h : Row w lo (.slice A n c) xs) (hn : xs.length = n) (hm : n ≤ 9223372036854775807) (cells : Nat) :
    Calls Tryz.prog 92 #[.slice A n c, .int .i64 cells] w fun e w' => e = .returned (.bool (xs.all colB && decide (n = cells))) ∧ w = w' := by
  have hd : Hid (((n : Int) == (cells : Int)) = decide (n = cells)) := by
    unfold Hid; by_cases h9 : n = cells
    · subst h9; simp
    · have : ((n : Int) == (cells : Int)) = false := by simp; omega
      rw [this]; simp [h9]
  go_enter Tryz.func92, Tryz.ntmps92
  go_wp2
  go_loop [11] (fun i => ∃ k : Nat, k ≤ n ∧ i = .int .i64 k ∧ Hid ((xs.take k).all colB = true)) (fun i => n - (intOf i).toNat)
  case atStart => exact ⟨0, Nat.zero_le _, rfl, rfl⟩
  case round =>
    obtain ⟨k, hk, rfl, ht⟩ := hrel
    by_cases hlt : k < n
    · obtain ⟨g, x, rfl, _, _, hx, hcell, _⟩ := h.get (k := k) (by omega)
      have H := shaded_any x
      have Ht : Hid ((xs.take (k + 1)).all colB = colB x) := by
        unfold Hid; rw [take_snoc hx.out, List.all_append, ht.out]; simp
      generalize shV x = y at H
      rcases hb : colB x
      · rw [hb] at H
        have Hf : Hid (xs.all colB = false) := by
          unfold Hid; rw [List.all_eq_false]; exact ⟨x, List.mem_of_getElem? hx.out, by simp [hb]⟩
        clear ht Ht hb hx
        go_wp2_with (go_at_call 121; refine (H _).mono ?_; rintro e w' ⟨rfl, rfl⟩)
        go_ret
        exact ⟨ret_bool (by rw [Hf.out]; rfl), rfl⟩
      · rw [hb] at H
        have Ht' : Hid ((xs.take (k + 1)).all colB = true) := by unfold Hid; rw [Ht.out, hb]
        clear ht Ht hb hx
        go_wp2_with (go_at_call 121; refine (H _).mono ?_; rintro e w' ⟨rfl, rfl⟩)
        go_round
        case rel => exact ⟨k + 1, by omega, by go_num, Ht'⟩
        case measure => simp [intOf]; omega
    · obtain rfl : k = n := by omega
      have Hf : Hid (xs.all colB = true) := by
        have := ht.out; rw [List.take_of_length_le (by omega)] at this; exact this
      go_wp2
      go_ret
      exact ⟨ret_bool (by rw [Hf.out, Bool.true_and]; exact hd.out), rfl⟩

end Go.Proofs.YtfoimicbmkiigaaGreat

/- CountColor, pointsToWhite, ColorHolds of impl. -/
namespace Go.Proofs.YtfoimicbmkiigaaGreat
open Go.RowKit

/-- A pointer to a white cell. -/
def wtB (c : List Int) (p : Int) : Bool := decide (0 ≤ p ∧ c[p.toNat]? = some 0)
set_option maxHeartbeats 1000000 in
theorem pointsToWhite_any (w : World) (lo : Nat) (A : Option Addr) (n c : Nat) (xs : List Int) (h : Row w lo (.slice A n c) xs) (hn : xs.length = n) (k : Int) (h1 : -1 ≤ k) (h2 : k < n) :
    Calls Tryz.prog 166 #[.slice A n c, .int .i64 k] w fun e w' => e = .returned (.bool (wtB xs k)) ∧ w = w' := by
  by_cases hk : k = -1
  · subst hk
    go_enter Tryz.func166, Tryz.ntmps166
    go_wp2_with fail
    go_ret
    exact ⟨ret_bool (by simp [wtB]), rfl⟩
  · obtain ⟨j, rfl⟩ := Int.eq_ofNat_of_zero_le (by omega : 0 ≤ k)
    obtain ⟨g', x, rfl, _, _, hx, hc, hf⟩ := h.get (k := j) (by omega)
    have hk2 : ((j : Int) == -1) = false := by simp
    have hk3 : ((j : Int) != -1) = true := by simp
    have hq : Hid (wtB xs j = decide (x = 0)) := by unfold Hid wtB; simp [hx.out]
    clear hx
    by_cases hx0 : x = 0
    · subst hx0
      go_enter Tryz.func166, Tryz.ntmps166
      go_wp2_with fail
      go_ret
      exact ⟨ret_bool (by rw [hq.out]; simp), rfl⟩
    · have hx1 : (x == 0) = false := by simp [hx0]
      go_enter Tryz.func166, Tryz.ntmps166
      go_wp2_with fail
      go_ret
      exact ⟨ret_bool (by rw [hq.out]; simp [hx0]), rfl⟩
end Go.Proofs.YtfoimicbmkiigaaGreat

/- whiteColors of impl: bits.Mul64, bits.Mul, slices.Repeat, at one white and a small count. -/
namespace Go.Proofs.YtfoimicbmkiigaaGreat
open Go.RowKit

set_option maxHeartbeats 2000000 in
theorem mul64_any (w : World) (n : Int) (h1 : 1 ≤ n) (h8 : n ≤ 8) :
    Calls Tryz.prog 171 #[.int .u64 1, .int .u64 n] w fun e w' => e = .returned (.tuple #[.int .u64 0, .int .u64 n]) ∧ w = w' := by
  have : n = 1 ∨ n = 2 ∨ n = 3 ∨ n = 4 ∨ n = 5 ∨ n = 6 ∨ n = 7 ∨ n = 8 := by omega
  clear h1 h8
  rcases this with rfl | rfl | rfl | rfl | rfl | rfl | rfl | rfl
  all_goals
    go_enter Tryz.func171, Tryz.ntmps171
    go_wp2_with fail
    refine bodyPost_ret (v := .tuple #[.int .u64 0, .int .u64 _]) ?_ rfl ⟨rfl, rfl⟩
    simp [results, Tryz.results171, go_sem] <;> decide +kernel

set_option maxHeartbeats 1000000 in
theorem mul_any (w : World) (n : Int) (h1 : 1 ≤ n) (h8 : n ≤ 8) :
    Calls Tryz.prog 169 #[.int .u64 1, .int .u64 n] w fun e w' => e = .returned (.tuple #[.int .u64 0, .int .u64 n]) ∧ w = w' := by
  go_enter Tryz.func169, Tryz.ntmps169
  go_wp2_with fail
  refine (mul64_any _ n h1 h8).mono ?_; rintro e w' ⟨rfl, rfl⟩
  go_wp2_with fail
  refine bodyPost_ret (v := .tuple #[.int .u64 0, .int .u64 n]) ?_ rfl ⟨rfl, rfl⟩
  simp [results, Tryz.results169, go_sem]

theorem splice_rep (a : Value) (n off k : Nat) (h : off + k ≤ n) : splice (List.replicate n a) off (List.replicate k a) = List.replicate n a := by
  unfold splice
  rw [List.take_replicate, List.drop_replicate, List.length_replicate, List.replicate_append_replicate, List.replicate_append_replicate]
  congr 1; omega

set_option maxRecDepth 100000 in
set_option maxHeartbeats 2000000 in
theorem repeat_any (w : World) (lo g : Nat) (hr : Row w lo (.slice (some ⟨g, 0, none⟩) 1 1) [0]) (n : Nat) (h1 : 1 ≤ n) (h8 : n ≤ 8) :
    Calls Tryz.prog 165 #[.slice (some ⟨g, 0, none⟩) 1 1, .int .i64 n] w (NewRow w (List.replicate n 0)) := by
  obtain ⟨i0, hi, hz0, hz1, hz2⟩ := info_parts Tryz.infoInt
  have hii : (Tryz.prog.info? 3).map (·.size) = some 1 := by rw [hi]; simp [hz1]
  have hwu : IntKind.u64.wrap (n : Int) = n := IntWalk.u64_in _ (by omega)
  have hwi : IntKind.i64.wrap (n : Int) = n := IntWalk.i64_in _ (by omega)
  have hn0 : ¬ ((n : Int) < 0) := by omega
  have hnb : ¬ ((n : Int) > 9223372036854775807) := by omega
  go_enter Tryz.func165, Tryz.ntmps165
  go_wp2_with fail
  refine (mul_any _ n (by omega) (by omega)).mono ?_; rintro e w' ⟨rfl, rfl⟩
  go_wp2_with (at_make; refine wpList_make_full _ rfl _ _ 23 rfl w.heap.size 3 i0 (.int .i64 0) 1 Tryz.underlying23 hi hz0 hz1 _ _ _ _ n rfl rfl rfl rfl ?b2 ?b3 (Nat.le_refl _) ?_)
  case b2 => rw [hz2]; omega
  case b3 => unfold maxLen; omega
  intro w0 hown0 hgrow0
  have hb0 : Below w.heap.size w w0 := (Below.refl _ _).grown hgrow0 (Nat.le_refl _) (fun k h => by cases h)
  have h0 : Row w0 lo (.slice (some ⟨g, 0, none⟩) 1 1) [0] := hr.below hb0
  have hblk : Hid (w0.heap[w.heap.size]? = some (.cells (List.replicate n (iv 0)).toArray 3 (0, 0))) := by
    rw [mc_int] at hown0
    rcases hown0.2 with ⟨e, _⟩ | ⟨g, cap, cur, e, _, hg, _, _, h3, h4⟩
    · cases e
    · cases e
      unfold Hid
      have e9 : cur.toList = List.replicate n (iv 0) := by
        have h5 := h4
        rw [Nat.mul_one, List.take_of_length_le (by simp; omega)] at h5
        simpa using h5
      rw [hg, ← e9]
  clear hown0 hgrow0 hz0 hz1 hz2
  go_wp2_with (refine wpList_copy_splice rfl _ _ 23 23 rfl 3 Tryz.underlying23 hii _ _ _ _ _ _ rfl rfl w.heap.size 0 _ 3 hblk.out (List.replicate 1 (iv 0)) ?d1 ?d2 ?d3 ?d4 w.heap.size w hb0 (Nat.le_refl _) ?_)
  case d1 => exact (Nat.min_eq_left h1).symm
  case d2 =>
    intro j v hv
    have hj : j = 0 := by
      have := (List.getElem?_eq_some_iff.1 hv).1; simp at this; exact this
    subst hj
    simp at hv; subst hv
    obtain ⟨g', x, e, _, _, hx, hc, _⟩ := h0.get (k := 0) (by simp)
    cases e
    have := hx.out; simp at this; subst this
    exact hc
  case d3 => simp; omega
  case d4 => intro v hv; simp at hv; subst hv; rfl
  intro w1 hw1 hb1
  have hs1 : splice (List.replicate n (iv 0)) 0 [iv 0] = List.replicate n (iv 0) := splice_rep (iv 0) n 0 1 (by omega)
  rw [hs1] at hw1
  clear hblk hb0 h0 hr hs1
  go_wp2_with fail
  go_loopw [8] (fun i wr => ∃ m : Nat, 1 ≤ m ∧ m ≤ n ∧ i = .int .i64 m ∧ Hid (wr.heap[w.heap.size]? = some (.cells (List.replicate n (iv 0)).toArray 3 (0, 0))) ∧ Below w.heap.size w wr) (fun i _ => n - (intOf i).toNat)
  case atStart => exact ⟨1, Nat.le_refl _, h1, rfl, hw1, hb1⟩
  case round =>
    clear hw1 hb1
    obtain ⟨m, hm1, hm, rfl, hw1, hb1⟩ := hrel
    by_cases hlt : m < n
    · have hlt' : (m : Int) < (n : Int) := by omega
      obtain ⟨k, hk, hk1, hk2⟩ : ∃ k : Nat, Hid (k = Nat.min m (n - m)) ∧ 1 ≤ k ∧ m + k ≤ n := ⟨Nat.min m (n - m), rfl, by simp only [Nat.min_def]; split <;> omega, by simp only [Nat.min_def]; split <;> omega⟩
      have src : ∀ j v, (List.replicate k (iv 0))[j]? = some v → wr.drew.cell? ((⟨w.heap.size, 0, none⟩ : Addr).add j) = some v := fun j v hv => by
        obtain ⟨hj, e⟩ := List.getElem?_eq_some_iff.1 hv
        simp at hj e
        subst e
        have ha : (⟨w.heap.size, 0, none⟩ : Addr).add j = ⟨w.heap.size, j, none⟩ := by unfold Addr.add; split <;> simp_all
        rw [ha]
        show wr.cell? _ = _
        have h9 := hw1.out
        have hjn : j < n := by omega
        simp [World.cell?, h9, hjn]
      have hsum : IntKind.i64.wrap ((m : Int) + (k : Int)) = (m : Int) + (k : Int) := IntWalk.i64_in _ (by omega)
      have fit : m + (List.replicate k (iv 0)).length ≤ (List.replicate n (iv 0)).length := by simp; omega
      have one : ∀ v ∈ List.replicate k (iv 0), v.oneCell' = true := fun v hv => by
        obtain ⟨_, rfl⟩ := List.mem_replicate.1 hv; rfl
      have lenk : Hid ((List.replicate k (iv 0)).length = Nat.min m (n - m)) := by unfold Hid; rw [List.length_replicate]; exact hk.out
      have hB := Below.drew hb1
      have hm0 : (0 : Int) ≤ (m : Int) := by omega
      go_wp2_with fail
      go_region_law (refine step_copy_splice rfl (.tmp 41) (.tmp 44) 23 23 rfl 3 Tryz.underlying23 hii (some ⟨w.heap.size, m, none⟩) (some ⟨w.heap.size, 0, none⟩) (n - m) (n - m) m n (by simp [Act.eval, Act.put]; omega) (by simp [Act.eval, Act.put]) w.heap.size m _ 3 (by exact hw1.out) (List.replicate k (iv 0)) (by exact lenk.out) (fun _ => ⟨by rfl, _, by rfl, src⟩) fit one w.heap.size w hB (Nat.le_refl _) ?_; intro w2 hw2 hb2)
      rw [splice_rep _ _ _ _ (by omega)] at hw2
      clear hw1 hb1 src lenk fit one hB
      go_wp2_with fail
      go_roundw
      case rel => exact ⟨m + k, by omega, by omega, by omega, by unfold Hid; simpa using hw2.out⟩
      case measure => simp [intOf]; omega
    · obtain rfl : m = n := by omega
      have hrow : Row wr w.heap.size (.slice (some ⟨w.heap.size, 0, none⟩) m m) (List.replicate m 0) := by
        refine ⟨by simp, .inr ⟨w.heap.size, m, _, by simp, Nat.le_refl _, hw1.out, by simp, by unfold maxLen; omega, by simp, by simp⟩⟩
      go_wp2_with fail
      go_ret
      exact ⟨some ⟨w.heap.size, 0, none⟩, m, by simp, by simpa using hrow, hb1⟩

set_option maxHeartbeats 1000000 in
theorem whiteColors_any (w : World) (n : Nat) (h1 : 1 ≤ n) (h8 : n ≤ 8) : Calls Tryz.prog 157 #[.int .i64 n] w (NewRow w (List.replicate n 0)) := by
  have L : Row (w.alloc (.cells #[.int .i64 0] 3)) 0 (.slice (some ⟨w.heap.size, 0, none⟩) 1 1) [0] := Row.of_own (World.ownsRow_lit w #[.int .i64 0] 1 (Nat.zero_le _) (by unfold maxLen; omega) rfl) rfl rfl
  have R := repeat_any _ 0 _ L n h1 h8
  have z : Below w.heap.size w (w.alloc (.cells #[.int .i64 0] 3)) := (Below.refl _ _).alloc (Nat.le_refl _) _
  go_enter Tryz.func157, Tryz.ntmps157
  go_wp2_with fail
  refine R.mono ?_; rintro e w1 ⟨A, c, rfl, hr, hb⟩
  go_wp2_with fail
  go_ret
  exact ⟨A, c, by simp, hr.mono (by simp), z.trans (hb.mono (by simp))⟩
end Go.Proofs.YtfoimicbmkiigaaGreat

/- shade, slices.Index, markFirstGray of impl. -/
namespace Go.Proofs.YtfoimicbmkiigaaGreat
open Go.RowKit

theorem set_self {c : List Int} {k : Nat} {x : Int} (h : c[k]? = some x) : c.set k x = c := by
  apply List.ext_getElem?
  intro i
  rw [List.getElem?_set]
  split
  · rename_i e; subst e
    obtain ⟨hl, he⟩ := List.getElem?_eq_some_iff.1 h
    rw [if_pos hl, h]
  · rfl

set_option maxHeartbeats 1000000 in
theorem implShade_any (w : World) (lo g n c : Nat) (xs : List Int) (h : Row w lo (.slice (some ⟨g, 0, none⟩) n c) xs) (hn : xs.length = n) (hv : ∀ x ∈ xs, 0 ≤ x ∧ x ≤ 2) (k : Int) (h1 : -1 ≤ k) (h2 : k < n) :
    Calls Tryz.prog 78 #[.slice (some ⟨g, 0, none⟩) n c, .int .i64 k] w fun e w' => e = .returned (.tuple #[]) ∧ Row w' lo (.slice (some ⟨g, 0, none⟩) n c) (shade xs k) ∧ OnlyB g w w' := by
  by_cases hk : k = -1
  · subst hk
    go_enter Tryz.func78, Tryz.ntmps78
    go_wp2_with fail
    go_end0
    exact ⟨rfl, by rw [shade_none]; exact h, World.grownBy.refl w _, rfl⟩
  · obtain ⟨j, rfl⟩ := Int.eq_ofNat_of_zero_le (by omega : 0 ≤ k)
    obtain ⟨g', x, e, _, _, hx, hc, hf⟩ := h.get (k := j) (by omega)
    cases e
    have hk2 : ((j : Int) == -1) = false := by simp
    have hk3 : ((j : Int) != -1) = true := by simp
    have hb := hv x (List.mem_of_getElem? hx.out)
    have hcb : colB x = true := by simp [colB, hb]
    have H := shaded_any x
    rw [hcb] at H
    have R := h.set_ j (shV x)
    have hs : Hid (xs.set j (shV x) = shade xs j) := by
      unfold Hid
      by_cases hx0 : x = 0
      · subst hx0; rw [shade_white hx.out]; rfl
      · have : shV x = x := by unfold shV; rw [if_neg hx0, if_pos (by omega)]
        rw [this, shade_other hx.out hx0]; exact set_self hx.out
    have gr : OnlyB g w (w.setCell ⟨g, j, none⟩ (.int .i64 (shV x))) := ⟨⟨rfl, rfl, rfl, by simp [World.setCell], fun b _ hne => Below.heap_setCell _ _ _ _ (fun e => hne (by rw [e]))⟩, by simp [World.setCell]⟩
    generalize shV x = y at *
    rw [hs.out] at R
    clear hx hb hcb hv hs
    go_enter Tryz.func78, Tryz.ntmps78
    go_wp2_with (go_at_call 121; refine (H _).mono ?_; rintro e w' ⟨rfl, rfl⟩)
    go_end0
    exact ⟨rfl, R, gr⟩

theorem stepC_none {C : Cp} (h : firstOf C.c 1 = -1) : stepC C = C ∧ movesB C = false := by
  unfold stepC movesB; rw [if_pos h]; simp [h]
theorem stepC_some {C : Cp} {k : Nat} (h : firstOf C.c 1 = k) : stepC C = ⟨C.h, blackC C.h C.c k⟩ ∧ movesB C = true := by
  unfold stepC movesB; rw [if_neg (by omega), h]; simp

set_option maxRecDepth 100000 in
set_option maxHeartbeats 2000000 in
theorem markFirstGray_any (w : World) (lo : Nat) (A0 A1 A2 : Option Addr) (n0 c0 n1 c1 n2 c2 g n3 c3 : Nat) (C : Cp) (hv : Cv w lo (.agg #[.slice A0 n0 c0, .slice A1 n1 c1, .slice A2 n2 c2, .slice (some ⟨g, 0, none⟩) n3 c3]) C) (hC : cvB C = true) :
    Calls Tryz.prog 159 #[.agg #[.slice A0 n0 c0, .slice A1 n1 c1, .slice A2 n2 c2], .slice (some ⟨g, 0, none⟩) n3 c3] w fun e w' =>
      e = .returned (.bool (movesB C)) ∧
      Cv w' lo (.agg #[.slice A0 n0 c0, .slice A1 n1 c1, .slice A2 n2 c2, .slice (some ⟨g, 0, none⟩) n3 c3]) (stepC C) ∧ w.grownBy w' (some g) := by
  have hvo := hv
  obtain ⟨_, _, _, _, _, _, _, _, _, _, _, _, ev, hh, ⟨r0, r1, r2, r3⟩, ⟨l0, l1, l2, l3⟩, ⟨_, _, _, m3⟩, ⟨a01, a02, a12⟩, ⟨a03, a13, a23⟩⟩ := hvo.open_
  cases ev
  obtain ⟨hvh, hlen, hcol⟩ := cvB_parts hC
  obtain ⟨⟨hrl, _⟩, pl, pr, _⟩ := hvB_parts hvh
  have hvl := hvB_len hvh
  have lC := l3.out
  have lL := l0.out
  have lR := l1.out
  have P := Blk3.new w (.slice A0 n0 c0) (.slice A1 n1 c1) (.slice A2 n2 c2) 25
  have VV := hv.alloc (.cells #[.slice A0 n0 c0, .slice A1 n1 c1, .slice A2 n2 c2] 25)
  have S0 := r0.alloc (.cells #[.slice A0 n0 c0, .slice A1 n1 c1, .slice A2 n2 c2] 25)
  have S1 := r1.alloc (.cells #[.slice A0 n0 c0, .slice A1 n1 c1, .slice A2 n2 c2] 25)
  have S2 := r2.alloc (.cells #[.slice A0 n0 c0, .slice A1 n1 c1, .slice A2 n2 c2] 25)
  have S3 := r3.alloc (.cells #[.slice A0 n0 c0, .slice A1 n1 c1, .slice A2 n2 c2] 25)
  have G0 : w.grownBy (w.alloc (.cells #[.slice A0 n0 c0, .slice A1 n1 c1, .slice A2 n2 c2] 25)) (some g) := ⟨rfl, rfl, rfl, by simp, fun j hj _ => ((Below.refl w.heap.size w).alloc (Nat.le_refl _) _).block j hj⟩
  have gw := (r3.lt g rfl).2
  generalize hbv : w.heap.size = b at *
  have nb : b ≠ g := by omega
  have I := slicesIndex_any _ _ _ _ _ _ S3 lC m3 1
  go_enter Tryz.func159, Tryz.ntmps159
  go_wp2_with fail
  generalize w.alloc (.cells #[.slice A0 n0 c0, .slice A1 n1 c1, .slice A2 n2 c2] 25) = W at P VV S0 S1 S2 S3 G0 I ⊢
  rcases first_cases C.c 1 with e1 | ⟨k, e1, hk, hkc⟩
  · obtain ⟨s1, s2⟩ := stepC_none e1
    have hs := Lib.hid s2
    rw [e1] at I
    rw [← s1] at VV
    clear e1 s1 s2
    refine I.mono ?_; rintro e w' ⟨rfl, rfl⟩
    go_wp2_with fail
    go_ret
    exact ⟨ret_bool hs.out.symm, VV, G0⟩
  · obtain ⟨s1, s2⟩ := stepC_some e1
    have hs := Lib.hid s2
    have hst := Lib.hid s1
    rw [e1] at I
    clear e1 s1 s2
    obtain ⟨g0, x, rfl, _, hg0, hx, hcx, _⟩ := S0.get (k := k) (by omega)
    obtain ⟨g1, y, rfl, _, hg1, hy, hcy, _⟩ := S1.get (k := k) (by omega)
    have bx : -1 ≤ x ∧ x < n3 := by
      rw [List.all_eq_true] at pl; have := pl x (List.mem_of_getElem? hx.out); simp only [ptB, decide_eq_true_eq] at this; omega
    have bY : -1 ≤ y ∧ y < n3 := by
      rw [List.all_eq_true] at pr; have := pr y (List.mem_of_getElem? hy.out); simp only [ptB, decide_eq_true_eq] at this; omega
    have n03 : g0 ≠ g := fun e => a03 g0 rfl (by rw [e]; rfl)
    have n13 : g1 ≠ g := fun e => a13 g1 rfl (by rw [e]; rfl)
    have hB : Hid (blackC C.h C.c k = (shade (shade C.c x) y).set k 2) := by
      unfold Hid blackC
      rw [show C.h.l.getD k 0 = x by simp [List.getD, hx.out], show C.h.r.getD k 0 = y by simp [List.getD, hy.out]]
    have hkn : (k : Int) < (n3 : Int) := by omega
    have hkn0 : (k : Int) < (n0 : Int) := by omega
    have hkn1 : (k : Int) < (n1 : Int) := by omega
    have L1 : (shade C.c x).length = n3 := by rw [shade_len]; exact lC
    have L2 : (shade (shade C.c x) y).length = n3 := by rw [shade_len]; exact L1
    have hcol2 := shade_valid x hcol
    have T := implShade_any W lo g n3 c3 _ S3 lC hcol x bx.1 bx.2
    have own0 : (Value.slice (some ⟨g0, 0, none⟩) n0 c0).ownBlock ≠ some g := fun e => n03 (Option.some.inj e)
    have own1 : (Value.slice (some ⟨g1, 0, none⟩) n1 c1).ownBlock ≠ some g := fun e => n13 (Option.some.inj e)
    have own2 : (Value.slice A2 n2 c2).ownBlock ≠ some g := fun e => a23 g e rfl
    obtain ⟨x0, x1, x2, _⟩ := P.cells
    clear hx hy pl pr hvh hC hv hh r0 r1 r2 r3 VV hkc hlen hvl
    refine I.mono ?_; rintro e w' ⟨rfl, rfl⟩
    go_wp2_with fail
    refine T.mono ?_; rintro e w1 ⟨rfl, R1, O1⟩
    have P1 := Blk3.kept (by exact P) O1.1 nb
    have K0 := onlyB_row S0 O1 own0
    have K1 := onlyB_row S1 O1 own1
    have K2 := onlyB_row S2 O1 own2
    have hcy1 := O1.1.cell hcy (fun e => n13 (Option.some.inj e))
    have G1 := trans_grown G0 O1.1
    obtain ⟨p0, p1, p2, _⟩ := P1.cells
    have T2 := implShade_any w1 lo g n3 c3 _ R1 L1 hcol2 y bY.1 bY.2
    clear T I S0 S1 S2 S3 P G0 O1 x0 x1 x2
    go_wp2_with fail
    refine T2.mono ?_; rintro e w2 ⟨rfl, R2, O2⟩
    have J0 := (onlyB_row K0 O2 own0).other (a := ⟨g, k, none⟩) own0 (.int .i64 2)
    have J1 := (onlyB_row K1 O2 own1).other (a := ⟨g, k, none⟩) own1 (.int .i64 2)
    have J2 := (onlyB_row K2 O2 own2).other (a := ⟨g, k, none⟩) own2 (.int .i64 2)
    have G2 := grown_setNew (trans_grown G1 O2.1) (p := ⟨g, k, none⟩) (.inl rfl) (.int .i64 2)
    obtain ⟨_, zz, e', _, _, _, hcz3, hfz3⟩ := R2.get (k := k) (by omega)
    cases e'
    have R3 := R2.set_ k 2
    rw [← hB.out] at R3
    clear K0 K1 K2 G1 O2 P1 T2 R1 R2
    go_wp2_with fail
    go_ret
    exact ⟨ret_bool hs.out.symm, by rw [hst.out]; exact ⟨_, _, _, _, rfl, ⟨_, _, _, rfl, J0, J1, J2, a01, a02, a12⟩, R3, a03, a13, a23⟩, G2⟩
end Go.Proofs.YtfoimicbmkiigaaGreat

/- copyOfColored of impl. -/
namespace Go.Proofs.YtfoimicbmkiigaaGreat
open Go.RowKit

end Go.Proofs.YtfoimicbmkiigaaGreat

/- A colored heap whose colors are turned by shade. -/
namespace Go.Proofs.YtfoimicbmkiigaaGreat
open Go.RowKit

theorem Cv.only {w w' : World} {lo : Nat} {D0 D1 D2 : Option Addr} {m0 d0 m1 d1 m2 d2 g m3 d3 : Nat} {C : Cp} {c' : List Int} (hv : Cv w lo (.agg #[.slice D0 m0 d0, .slice D1 m1 d1, .slice D2 m2 d2, .slice (some ⟨g, 0, none⟩) m3 d3]) C) (hO : OnlyB g w w') (hr : Row w' lo (.slice (some ⟨g, 0, none⟩) m3 d3) c') : Cv w' lo (.agg #[.slice D0 m0 d0, .slice D1 m1 d1, .slice D2 m2 d2, .slice (some ⟨g, 0, none⟩) m3 d3]) ⟨C.h, c'⟩ := by
  obtain ⟨_, _, _, _, e, ⟨_, _, _, e', r0, r1, r2, a⟩, _, b0, b1, b2⟩ := hv
  cases e; cases e'
  exact ⟨_, _, _, _, rfl, ⟨_, _, _, rfl, onlyB_row r0 hO (fun e => b0 g e rfl), onlyB_row r1 hO (fun e => b1 g e rfl), onlyB_row r2 hO (fun e => b2 g e rfl), a⟩, hr, b0, b1, b2⟩
theorem Cv.last {w : World} {lo : Nat} {D0 D1 D2 D3 : Option Addr} {m0 d0 m1 d1 m2 d2 m3 d3 : Nat} {C : Cp} (hv : Cv w lo (.agg #[.slice D0 m0 d0, .slice D1 m1 d1, .slice D2 m2 d2, .slice D3 m3 d3]) C) : Row w lo (.slice D3 m3 d3) C.c ∧ C.c.length = m3 := by
  obtain ⟨_, _, _, _, _, _, _, _, _, _, _, _, e, _, ⟨_, _, _, r⟩, ⟨_, _, _, l⟩, _⟩ := hv.open_
  cases e; exact ⟨r, l.out⟩
theorem implShadeC_any (w : World) (lo : Nat) (D0 D1 D2 : Option Addr) (m0 d0 m1 d1 m2 d2 g m3 d3 : Nat) (C : Cp) (hv : Cv w lo (.agg #[.slice D0 m0 d0, .slice D1 m1 d1, .slice D2 m2 d2, .slice (some ⟨g, 0, none⟩) m3 d3]) C) (hc : ∀ x ∈ C.c, 0 ≤ x ∧ x ≤ 2) (k : Int) (h1 : -1 ≤ k) (h2 : k < m3) :
    Calls Tryz.prog 78 #[.slice (some ⟨g, 0, none⟩) m3 d3, .int .i64 k] w fun e w' => e = .returned (.tuple #[]) ∧ Cv w' lo (.agg #[.slice D0 m0 d0, .slice D1 m1 d1, .slice D2 m2 d2, .slice (some ⟨g, 0, none⟩) m3 d3]) ⟨C.h, shade C.c k⟩ ∧ OnlyB g w w' :=
  (implShade_any w lo g m3 d3 C.c hv.last.1 hv.last.2 hc k h1 h2).mono fun _ _ ⟨a, b, c⟩ => ⟨a, hv.only c b, c⟩
theorem shadeAll_valid (ks : List Int) : ∀ c : List Int, (∀ x ∈ c, 0 ≤ x ∧ x ≤ 2) → ∀ x ∈ shadeAll c ks, 0 ≤ x ∧ x ≤ 2 := by
  induction ks with
  | nil => intro c h; exact h
  | cons k r ih => intro c h; exact ih (shade c k) (shade_valid k h)
theorem cvB_mk {h : Hp} {c : List Int} (h1 : hvB h = true) (h2 : c.length = h.l.length) (h3 : ∀ x ∈ c, 0 ≤ x ∧ x ≤ 2) : cvB ⟨h, c⟩ = true := by
  simp only [cvB, Bool.and_eq_true, decide_eq_true_eq, List.all_eq_true, colB]
  exact ⟨⟨h1, h2⟩, h3⟩
end Go.Proofs.YtfoimicbmkiigaaGreat

