/- whiteColors of impl: bits.Mul64, bits.Mul, slices.Repeat, at one white and a small count. -/
import Derived.Test.YtdealoclkajliaaMake
import Derived.Deep.RegionLaw
namespace Go.Proofs.Ytdealoclkajliaa
open Go.RowKit

set_option maxHeartbeats 2000000 in
theorem mul64_any (w : World) (n : Int) (h1 : 1 ≤ n) (h8 : n ≤ 8) :
    Calls Try.prog 100 #[.int .u64 1, .int .u64 n] w fun e w' => e = .returned (.tuple #[.int .u64 0, .int .u64 n]) ∧ w = w' := by
  have : n = 1 ∨ n = 2 ∨ n = 3 ∨ n = 4 ∨ n = 5 ∨ n = 6 ∨ n = 7 ∨ n = 8 := by omega
  clear h1 h8
  rcases this with rfl | rfl | rfl | rfl | rfl | rfl | rfl | rfl
  all_goals
    go_enter Try.func100, Try.ntmps100
    go_wp2_with fail
    refine bodyPost_ret (v := .tuple #[.int .u64 0, .int .u64 _]) ?_ rfl ⟨rfl, rfl⟩
    simp [results, Try.results100, go_sem] <;> decide +kernel

set_option maxHeartbeats 1000000 in
theorem mul_any (w : World) (n : Int) (h1 : 1 ≤ n) (h8 : n ≤ 8) :
    Calls Try.prog 87 #[.int .u64 1, .int .u64 n] w fun e w' => e = .returned (.tuple #[.int .u64 0, .int .u64 n]) ∧ w = w' := by
  go_enter Try.func87, Try.ntmps87
  go_wp2_with fail
  refine (mul64_any _ n h1 h8).mono ?_; rintro e w' ⟨rfl, rfl⟩
  go_wp2_with fail
  refine bodyPost_ret (v := .tuple #[.int .u64 0, .int .u64 n]) ?_ rfl ⟨rfl, rfl⟩
  simp [results, Try.results87, go_sem]

theorem splice_rep (a : Value) (n off k : Nat) (h : off + k ≤ n) : splice (List.replicate n a) off (List.replicate k a) = List.replicate n a := by
  unfold splice
  rw [List.take_replicate, List.drop_replicate, List.length_replicate, List.replicate_append_replicate, List.replicate_append_replicate]
  congr 1; omega

set_option maxRecDepth 100000 in
set_option maxHeartbeats 2000000 in
theorem repeat_any (w : World) (lo g : Nat) (hr : Row w lo (.slice (some ⟨g, 0, none⟩) 1 1) [0]) (n : Nat) (h1 : 1 ≤ n) (h8 : n ≤ 8) :
    Calls Try.prog 73 #[.slice (some ⟨g, 0, none⟩) 1 1, .int .i64 n] w (NewRow w (List.replicate n 0)) := by
  obtain ⟨i0, hi, hz0, hz1, hz2⟩ := info_parts Try.infoInt
  have hii : (Try.prog.info? 3).map (·.size) = some 1 := by rw [hi]; simp [hz1]
  have hwu : IntKind.u64.wrap (n : Int) = n := IntWalk.u64_in _ (by omega)
  have hwi : IntKind.i64.wrap (n : Int) = n := IntWalk.i64_in _ (by omega)
  have hn0 : ¬ ((n : Int) < 0) := by omega
  have hnb : ¬ ((n : Int) > 9223372036854775807) := by omega
  go_enter Try.func73, Try.ntmps73
  go_wp2_with fail
  refine (mul_any _ n (by omega) (by omega)).mono ?_; rintro e w' ⟨rfl, rfl⟩
  go_wp2_with (at_make; refine wpList_make_full _ rfl _ _ 22 rfl w.heap.size 3 i0 (.int .i64 0) 1 Try.underlying22 hi hz0 hz1 _ _ _ _ n rfl rfl rfl rfl ?b2 ?b3 (Nat.le_refl _) ?_)
  case b2 => rw [hz2]; omega
  case b3 => unfold maxLen; omega
  intro w0 hown0 hgrow0
  have hb0 : Below w.heap.size w w0 := (Below.refl _ _).grown hgrow0 (Nat.le_refl _) (fun k h => by cases h)
  have h0 : Row w0 lo (.slice (some ⟨g, 0, none⟩) 1 1) [0] := hr.below hb0
  have hblk : Hid (w0.heap[w.heap.size]? = some (.cells (List.replicate n (iv 0)).toArray 3 (0, 0))) := by
    rw [mc_int] at hown0
    rcases hown0.2 with ⟨e, _⟩ | ⟨g, cap, cur, e, _, hg, _, _, h3, h4⟩
    · cases e
    · cases e
      unfold Hid
      have e9 : cur.toList = List.replicate n (iv 0) := by
        have h5 := h4
        rw [Nat.mul_one, List.take_of_length_le (by simp; omega)] at h5
        simpa using h5
      rw [hg, ← e9]
  clear hown0 hgrow0 hz0 hz1 hz2
  go_wp2_with (refine wpList_copy_splice rfl _ _ 22 22 rfl 3 Try.underlying22 hii _ _ _ _ _ _ rfl rfl w.heap.size 0 _ 3 hblk.out (List.replicate 1 (iv 0)) ?d1 ?d2 ?d3 ?d4 w.heap.size w hb0 (Nat.le_refl _) ?_)
  case d1 => exact (Nat.min_eq_left h1).symm
  case d2 =>
    intro j v hv
    have hj : j = 0 := by
      have := (List.getElem?_eq_some_iff.1 hv).1; simp at this; exact this
    subst hj
    simp at hv; subst hv
    obtain ⟨g', x, e, _, _, hx, hc, _⟩ := h0.get (k := 0) (by simp)
    cases e
    have := hx.out; simp at this; subst this
    exact hc
  case d3 => simp; omega
  case d4 => intro v hv; simp at hv; subst hv; rfl
  intro w1 hw1 hb1
  have hs1 : splice (List.replicate n (iv 0)) 0 [iv 0] = List.replicate n (iv 0) := splice_rep (iv 0) n 0 1 (by omega)
  rw [hs1] at hw1
  clear hblk hb0 h0 hr hs1
  go_wp2_with fail
  go_loopw [8] (fun i wr => ∃ m : Nat, 1 ≤ m ∧ m ≤ n ∧ i = .int .i64 m ∧ Hid (wr.heap[w.heap.size]? = some (.cells (List.replicate n (iv 0)).toArray 3 (0, 0))) ∧ Below w.heap.size w wr) (fun i _ => n - (intOf i).toNat)
  case atStart => exact ⟨1, Nat.le_refl _, h1, rfl, hw1, hb1⟩
  case round =>
    clear hw1 hb1
    obtain ⟨m, hm1, hm, rfl, hw1, hb1⟩ := hrel
    by_cases hlt : m < n
    · have hlt' : (m : Int) < (n : Int) := by omega
      obtain ⟨k, hk, hk1, hk2⟩ : ∃ k : Nat, Hid (k = Nat.min m (n - m)) ∧ 1 ≤ k ∧ m + k ≤ n := ⟨Nat.min m (n - m), rfl, by simp only [Nat.min_def]; split <;> omega, by simp only [Nat.min_def]; split <;> omega⟩
      have src : ∀ j v, (List.replicate k (iv 0))[j]? = some v → wr.drew.cell? ((⟨w.heap.size, 0, none⟩ : Addr).add j) = some v := fun j v hv => by
        obtain ⟨hj, e⟩ := List.getElem?_eq_some_iff.1 hv
        simp at hj e
        subst e
        have ha : (⟨w.heap.size, 0, none⟩ : Addr).add j = ⟨w.heap.size, j, none⟩ := by unfold Addr.add; split <;> simp_all
        rw [ha]
        show wr.cell? _ = _
        have h9 := hw1.out
        have hjn : j < n := by omega
        simp [World.cell?, h9, hjn]
      have hsum : IntKind.i64.wrap ((m : Int) + (k : Int)) = (m : Int) + (k : Int) := IntWalk.i64_in _ (by omega)
      have fit : m + (List.replicate k (iv 0)).length ≤ (List.replicate n (iv 0)).length := by simp; omega
      have one : ∀ v ∈ List.replicate k (iv 0), v.oneCell' = true := fun v hv => by
        obtain ⟨_, rfl⟩ := List.mem_replicate.1 hv; rfl
      have lenk : Hid ((List.replicate k (iv 0)).length = Nat.min m (n - m)) := by unfold Hid; rw [List.length_replicate]; exact hk.out
      have hB := Below.drew hb1
      have hm0 : (0 : Int) ≤ (m : Int) := by omega
      go_wp2_with fail
      go_region_law (refine step_copy_splice rfl (.tmp 41) (.tmp 44) 22 22 rfl 3 Try.underlying22 hii (some ⟨w.heap.size, m, none⟩) (some ⟨w.heap.size, 0, none⟩) (n - m) (n - m) m n (by simp [Act.eval, Act.put]; omega) (by simp [Act.eval, Act.put]) w.heap.size m _ 3 (by exact hw1.out) (List.replicate k (iv 0)) (by exact lenk.out) (fun _ => ⟨by rfl, _, by rfl, src⟩) fit one w.heap.size w hB (Nat.le_refl _) ?_; intro w2 hw2 hb2)
      rw [splice_rep _ _ _ _ (by omega)] at hw2
      clear hw1 hb1 src lenk fit one hB
      go_wp2_with fail
      go_roundw
      case rel => exact ⟨m + k, by omega, by omega, by omega, by unfold Hid; simpa using hw2.out⟩
      case measure => simp [intOf]; omega
    · obtain rfl : m = n := by omega
      have hrow : Row wr w.heap.size (.slice (some ⟨w.heap.size, 0, none⟩) m m) (List.replicate m 0) := by
        refine ⟨by simp, .inr ⟨w.heap.size, m, _, by simp, Nat.le_refl _, hw1.out, by simp, by unfold maxLen; omega, by simp, by simp⟩⟩
      go_wp2_with fail
      go_ret
      exact ⟨some ⟨w.heap.size, 0, none⟩, m, by simp, by simpa using hrow, hb1⟩

set_option maxHeartbeats 1000000 in
theorem whiteColors_any (w : World) (n : Nat) (h1 : 1 ≤ n) (h8 : n ≤ 8) : Calls Try.prog 43 #[.int .i64 n] w (NewRow w (List.replicate n 0)) := by
  have L : Row (w.alloc (.cells #[.int .i64 0] 3)) 0 (.slice (some ⟨w.heap.size, 0, none⟩) 1 1) [0] := Row.of_own (World.ownsRow_lit w #[.int .i64 0] 1 (Nat.zero_le _) (by unfold maxLen; omega) rfl) rfl rfl
  have R := repeat_any _ 0 _ L n h1 h8
  have z : Below w.heap.size w (w.alloc (.cells #[.int .i64 0] 3)) := (Below.refl _ _).alloc (Nat.le_refl _) _
  go_enter Try.func43, Try.ntmps43
  go_wp2_with fail
  refine R.mono ?_; rintro e w1 ⟨A, c, rfl, hr, hb⟩
  go_wp2_with fail
  go_ret
  exact ⟨A, c, by simp, hr.mono (by simp), z.trans (hb.mono (by simp))⟩
end Go.Proofs.Ytdealoclkajliaa
