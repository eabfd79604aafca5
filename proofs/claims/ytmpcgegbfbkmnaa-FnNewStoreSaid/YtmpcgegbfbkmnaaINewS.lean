/- NewStore of impl. -/
import Derived.Test.YtmpcgegbfbkmnaaSNewS
namespace Go.Proofs.Ytmpcgegbfbkmnaa
open Go.RowKit

set_option maxRecDepth 100000 in
set_option maxHeartbeats 4000000 in
theorem implNewStore_any (w : World) (c r : Int) : Calls Try.prog 35 #[.int .i64 c, .int .i64 r] w (OptCv w (newSO c r)) := by
  obtain ⟨i0, hi, hz0, hz1, hz2⟩ := info_parts Try.infoInt
  have Y := Blk4.new w (.slice none 0 0) (.slice none 0 0) (.slice none 0 0) (.slice none 0 0) 27
  have BY : Below w.heap.size w (w.alloc (.cells #[.slice none 0 0, .slice none 0 0, .slice none 0 0, .slice none 0 0] 27)) := (Below.refl _ _).alloc (Nat.le_refl _) _
  have sY : (w.alloc (.cells #[.slice none 0 0, .slice none 0 0, .slice none 0 0, .slice none 0 0] 27)).heap.size = w.heap.size + 1 := by simp
  have N := implNewHeap_any (w.alloc (.cells #[.slice none 0 0, .slice none 0 0, .slice none 0 0, .slice none 0 0] 27)) c r
  rcases es : szB c r
  · have hf : Hid (newSO c r = none) := by unfold Hid newSO; rw [es]; simp
    rw [show newO c r = none by unfold newO; rw [es]; simp] at N
    go_enter Try.func35, Try.ntmps35
    go_wp2_with fail
    refine N.mono ?_; rintro e w1 ⟨v, rfl, hH, hb1⟩
    obtain ⟨D0, m0, d0, D1, m1, d1, D2, m2, d2, rfl, _⟩ := hH.open_
    have Y1 := (Y.below hb1).alloc (.cells #[.slice D0 m0 d0, .slice D1 m1 d1, .slice D2 m2 d2] 25)
    have B1 := (BY.trans (hb1.mono (by rw [sY]; omega))).alloc (Nat.le_trans BY.size hb1.size) (.cells #[.slice D0 m0 d0, .slice D1 m1 d1, .slice D2 m2 d2] 25)
    obtain ⟨y0, y1, y2, y3, f0, f1, f2, f3⟩ := Y1.cells
    obtain ⟨hZ, hB⟩ := zero_done (w := w) (b := w.heap.size) (Nat.le_refl _) B1
    simp only [Option.isSome]
    go_wp2_with fail
    rw [hf.out]
    refine bodyPost_ret (v := .tuple #[.agg #[.slice none 0 0, .slice none 0 0, .slice none 0 0, .slice none 0 0], .bool false]) ?_ rfl ⟨_, rfl, hZ, hB⟩
    simp [results, Try.results35, go_sem, y0, y1, y2, y3]
  · obtain ⟨n, rfl⟩ : ∃ n : Nat, c = n := by
      simp only [szB, decide_eq_true_eq] at es
      exact ⟨c.toNat, by omega⟩
    have hnn : 1 ≤ n ∧ n ≤ 8 := by simp only [szB, decide_eq_true_eq] at es; omega
    obtain ⟨u1, u8⟩ := hnn
    obtain ⟨hp, hhp⟩ : ∃ hp : Hp, newO (n : Int) r = some hp ∧ newSO (n : Int) r = some ⟨hp, nums n⟩ := by
      refine ⟨_, by unfold newO; rw [if_pos es], ?_⟩
      unfold newSO; rw [if_pos es]; simp
    have hf := Lib.hid hhp.2
    rw [hhp.1] at N
    clear hhp es
    go_enter Try.func35, Try.ntmps35
    go_wp2_with fail
    refine N.mono ?_; rintro e w1 ⟨v, rfl, hH, hb1⟩
    have hH' : Hv w1 (w.alloc (.cells #[.slice none 0 0, .slice none 0 0, .slice none 0 0, .slice none 0 0] 27)).heap.size v hp := hH
    obtain ⟨D0, m0, d0, D1, m1, d1, D2, m2, d2, rfl, ⟨s0, s1, s2⟩, _⟩ := hH'.open_
    have z1 := hb1.size
    rw [sY] at z1
    have Y3 := (Y.below hb1).alloc (.cells #[.slice D0 m0 d0, .slice D1 m1 d1, .slice D2 m2 d2] 25)
    have H3 := (hH'.mono (lo' := w.heap.size + 1) (by rw [sY]; omega)).alloc (.cells #[.slice D0 m0 d0, .slice D1 m1 d1, .slice D2 m2 d2] 25)
    have B3 := (BY.trans (hb1.mono (by rw [sY]; omega))).alloc (by omega) (.cells #[.slice D0 m0 d0, .slice D1 m1 d1, .slice D2 m2 d2] 25)
    have Z3 := Blk3.new_at (w := w1) (b := w1.heap.size) rfl (.slice D0 m0 d0) (.slice D1 m1 d1) (.slice D2 m2 d2) 25
    have z3 : (w1.alloc (.cells #[.slice D0 m0 d0, .slice D1 m1 d1, .slice D2 m2 d2] 25)).heap.size = w1.heap.size + 1 := by simp
    have zh := Lib.hid z3
    simp only [Option.isSome]
    clear N Y BY hH hH' s0 s1 s2 hb1 z3
    obtain ⟨h0, h1, h2, _⟩ := Z3.cells
    go_wp2_with (at_make; refine wpList_make_full _ rfl _ _ 23 rfl (w1.alloc (.cells #[.slice D0 m0 d0, .slice D1 m1 d1, .slice D2 m2 d2] 25)).heap.size 3 i0 (.int .i64 0) 1 Try.underlying23 hi hz0 hz1 _ _ _ _ n rfl rfl rfl rfl ?b2 ?b3 (Nat.le_refl _) ?_)
    case b2 => rw [hz2]; omega
    case b3 => unfold maxLen; omega
    intro w4 hown4 hgrow4
    rw [mc_int] at hown4
    have R4 : Row w4 (w1.heap.size + 1) (.slice (some ⟨w1.heap.size + 1, 0, none⟩) n n) (nums 0 ++ List.replicate (n - 0) 0) := by
      show Row w4 (w1.heap.size + 1) _ ([] ++ List.replicate n 0)
      unfold Row; simpa using hown4
    have B4 : Below (w1.heap.size + 1) (w1.alloc (.cells #[.slice D0 m0 d0, .slice D1 m1 d1, .slice D2 m2 d2] 25)) w4 := (Below.refl _ _).grown hgrow4 (by simp) (fun k h => by cases h)
    clear hown4 hgrow4 hz0 hz1 hz2
    generalize w1.alloc (.cells #[.slice D0 m0 d0, .slice D1 m1 d1, .slice D2 m2 d2] 25) = W3 at Y3 H3 B3 Z3 h0 h1 h2 zh B4 ⊢
    go_wp2_with fail
    go_loopw [9, 23] (fun _ i wr => ∃ k : Nat, k ≤ n ∧ i = .int .i64 k ∧ Row wr (w1.heap.size + 1) (.slice (some ⟨w1.heap.size + 1, 0, none⟩) n n) (nums k ++ List.replicate (n - k) 0) ∧ Below (w1.heap.size + 1) W3 wr) (fun _ i _ => n - (intOf i).toNat)
    case atStart => exact ⟨0, Nat.zero_le _, rfl, R4, B4⟩
    case round =>
      clear R4 B4
      obtain ⟨k, hk, rfl, R, B⟩ := hrel
      by_cases hlt : k < n
      · obtain ⟨g, x, e, _, _, _, hcell, hfr⟩ := R.get (k := k) (by simp [nums_len]; omega)
        cases e
        have hkn : (k : Int) < (n : Int) := by omega
        have R' := R.set_ k (k : Int)
        rw [nums_set k n hlt] at R'
        have B' : Below (w1.heap.size + 1) W3 (wr.setCell ⟨w1.heap.size + 1, k, none⟩ (iv (k : Int))) := B.setCell (Nat.le_refl _) _
        clear R B
        go_wp2_with fail
        go_roundw
        case rel => exact ⟨k + 1, by omega, by go_num, R', B'⟩
        case measure => simp [intOf]; omega
      · obtain rfl : k = n := by omega
        have B9 : Below W3.heap.size W3 wr := by rw [zh.out]; exact B
        obtain ⟨p0, p1, p2, _⟩ := (Z3.below B9).cells
        have R' : Row wr (w1.heap.size + 1) (.slice (some ⟨w1.heap.size + 1, 0, none⟩) k k) (nums k) := by simpa using R
        have hw3 := zh.out
        obtain ⟨y0, y1, y2, y3, f0, f1, f2, f3⟩ := (Y3.below B9).cells
        have BB := B3.trans (B9.mono (by omega))
        have hH := H3.below B9
        obtain ⟨_, _, _, evv, H0, H1, H2, aa, ab, ac⟩ := H3
        cases evv
        have ap : ∀ (v : Value) (xs : List Int), Row W3 (w.heap.size + 1) v xs → Apart v (.slice (some ⟨w1.heap.size + 1, 0, none⟩) k k) := fun v xs r j e e' => by
          have h1 := (r.lt j e).2
          have h2 := (R'.lt j e').1
          omega
        have CC : Cv wr (w.heap.size + 1) (.agg #[.slice D0 m0 d0, .slice D1 m1 d1, .slice D2 m2 d2, .slice (some ⟨w1.heap.size + 1, 0, none⟩) k k]) ⟨hp, nums k⟩ := ⟨_, _, _, _, rfl, hH, R'.mono (by omega), ap _ _ H0, ap _ _ H1, ap _ _ H2⟩
        have lb : w.heap.size < w.heap.size + 1 := by omega
        clear hw3 R B9
        have CF := ((((CC.set_low (p := ⟨w.heap.size, 0, none⟩) lb (.slice D0 m0 d0)).set_low (p := ⟨w.heap.size, 1, none⟩) lb (.slice D1 m1 d1)).set_low (p := ⟨w.heap.size, 2, none⟩) lb (.slice D2 m2 d2)).set_low (p := ⟨w.heap.size, 3, none⟩) lb (.slice (some ⟨w1.heap.size + 1, 0, none⟩) k k)).mono (lo' := w.heap.size) (by omega)
        have BF := ((((BB.setCell (p := ⟨w.heap.size, 0, none⟩) (by simp) (.slice D0 m0 d0)).setCell (p := ⟨w.heap.size, 1, none⟩) (by simp) (.slice D1 m1 d1)).setCell (p := ⟨w.heap.size, 2, none⟩) (by simp) (.slice D2 m2 d2)).setCell (p := ⟨w.heap.size, 3, none⟩) (by simp) (.slice (some ⟨w1.heap.size + 1, 0, none⟩) k k))
        go_wp2_with fail
        rw [hf.out]
        refine bodyPost_ret (v := .tuple #[.agg #[.slice D0 m0 d0, .slice D1 m1 d1, .slice D2 m2 d2, .slice (some ⟨w1.heap.size + 1, 0, none⟩) k k], .bool true]) ?_ rfl ⟨_, rfl, CF, BF⟩
        simp [results, Try.results35, go_sem, y0, y1, y2, y3]
end Go.Proofs.Ytmpcgegbfbkmnaa
