/- NewStore of spec. -/
import Derived.Test.YthbflohanjnaeaaStoKs
import Derived.Test.YthbflohanjnaeaaPureN
import Derived.Test.YthbflohanjnaeaaNew
namespace Go.Proofs.Ythbflohanjnaeaa
open Go.RowKit

/-- A new store. -/
def newSO (c r : Int) : Option Cp := if szB c r = true then some ⟨⟨List.replicate c.toNat (-1), List.replicate c.toNat (-1), List.replicate r.toNat (-1)⟩, nums c.toNat⟩ else none
theorem nums_set (k n : Nat) (hk : k < n) : (nums k ++ List.replicate (n - k) (0 : Int)).set k (k : Int) = nums (k + 1) ++ List.replicate (n - (k + 1)) 0 := by
  rw [List.set_append, if_neg (by rw [nums_len]; omega), nums_len, Nat.sub_self, show n - k = (n - (k + 1)) + 1 from by omega, List.replicate_succ, List.set_cons_zero, nums_succ]
  simp

set_option maxRecDepth 100000 in
set_option maxHeartbeats 4000000 in
theorem specNewStore_any (w : World) (c r : Int) : Calls Try.prog 58 #[.int .i64 c, .int .i64 r] w (OptCv w (newSO c r)) := by
  obtain ⟨i0, hi, hz0, hz1, hz2⟩ := info_parts Try.infoInt
  have Y := Blk4.new w (.slice none 0 0) (.slice none 0 0) (.slice none 0 0) (.slice none 0 0) 27
  have BY : Below w.heap.size w (w.alloc (.cells #[.slice none 0 0, .slice none 0 0, .slice none 0 0, .slice none 0 0] 27)) := (Below.refl _ _).alloc (Nat.le_refl _) _
  have sY : (w.alloc (.cells #[.slice none 0 0, .slice none 0 0, .slice none 0 0, .slice none 0 0] 27)).heap.size = w.heap.size + 1 := by simp
  have N := specNewHeap_any (w.alloc (.cells #[.slice none 0 0, .slice none 0 0, .slice none 0 0, .slice none 0 0] 27)) c r
  rcases es : szB c r
  · have hf : Hid (newSO c r = none) := by unfold Hid newSO; rw [es]; simp
    rw [show newO c r = none by unfold newO; rw [es]; simp] at N
    go_enter Try.func58, Try.ntmps58
    go_wp2_with fail
    refine N.mono ?_; rintro e w1 ⟨v, rfl, hH, hb1⟩
    obtain ⟨D0, m0, d0, D1, m1, d1, D2, m2, d2, rfl, _⟩ := hH.open_
    have Y1 := (Y.below hb1).alloc (.cells #[.slice D0 m0 d0, .slice D1 m1 d1, .slice D2 m2 d2] 25)
    have B1 := (BY.trans (hb1.mono (by rw [sY]; omega))).alloc (Nat.le_trans BY.size hb1.size) (.cells #[.slice D0 m0 d0, .slice D1 m1 d1, .slice D2 m2 d2] 25)
    obtain ⟨y0, y1, y2, y3, f0, f1, f2, f3⟩ := Y1.cells
    obtain ⟨hZ, hB⟩ := zero_done (w := w) (b := w.heap.size) (Nat.le_refl _) B1
    simp only [Option.isSome]
    go_wp2_with fail
    rw [hf.out]
    refine bodyPost_ret (v := .tuple #[.agg #[.slice none 0 0, .slice none 0 0, .slice none 0 0, .slice none 0 0], .bool false]) ?_ rfl ⟨_, rfl, hZ, hB⟩
    simp [results, Try.results58, go_sem, y0, y1, y2, y3]
  · obtain ⟨n, rfl⟩ : ∃ n : Nat, c = n := by
      simp only [szB, decide_eq_true_eq] at es
      exact ⟨c.toNat, by omega⟩
    have hnn : 1 ≤ n ∧ n ≤ 8 := by simp only [szB, decide_eq_true_eq] at es; omega
    obtain ⟨u1, u8⟩ := hnn
    obtain ⟨hp, hhp⟩ : ∃ hp : Hp, newO (n : Int) r = some hp ∧ newSO (n : Int) r = some ⟨hp, nums n⟩ := by
      refine ⟨_, by unfold newO; rw [if_pos es], ?_⟩
      unfold newSO; rw [if_pos es]; simp
    have hf := Lib.hid hhp.2
    rw [hhp.1] at N
    clear hhp es
    go_enter Try.func58, Try.ntmps58
    go_wp2_with fail
    refine N.mono ?_; rintro e w1 ⟨v, rfl, hH, hb1⟩
    have hH' : Hv w1 (w.alloc (.cells #[.slice none 0 0, .slice none 0 0, .slice none 0 0, .slice none 0 0] 27)).heap.size v hp := hH
    obtain ⟨D0, m0, d0, D1, m1, d1, D2, m2, d2, rfl, ⟨s0, s1, s2⟩, _⟩ := hH'.open_
    have z1 := hb1.size
    rw [sY] at z1
    have Y3 := (Y.below hb1).alloc (.cells #[.slice D0 m0 d0, .slice D1 m1 d1, .slice D2 m2 d2] 25)
    have H3 := (hH'.mono (lo' := w.heap.size + 1) (by rw [sY]; omega)).alloc (.cells #[.slice D0 m0 d0, .slice D1 m1 d1, .slice D2 m2 d2] 25)
    have B3 := (BY.trans (hb1.mono (by rw [sY]; omega))).alloc (by omega) (.cells #[.slice D0 m0 d0, .slice D1 m1 d1, .slice D2 m2 d2] 25)
    have Z3 := Blk3.new_at (w := w1) (b := w1.heap.size) rfl (.slice D0 m0 d0) (.slice D1 m1 d1) (.slice D2 m2 d2) 25
    have z3 : (w1.alloc (.cells #[.slice D0 m0 d0, .slice D1 m1 d1, .slice D2 m2 d2] 25)).heap.size = w1.heap.size + 1 := by simp
    have zh := Lib.hid z3
    simp only [Option.isSome]
    clear N Y BY hH hH' s0 s1 s2 hb1 z3
    obtain ⟨h0, h1, h2, _⟩ := Z3.cells
    go_wp2_with fail
    generalize w1.alloc (.cells #[.slice D0 m0 d0, .slice D1 m1 d1, .slice D2 m2 d2] 25) = W3 at Y3 H3 B3 Z3 h0 h1 h2 zh ⊢
    have S4 := Blk4.new_at (w := W3) (b := w1.heap.size + 1) zh.out.symm (.slice D0 m0 d0) (.slice D1 m1 d1) (.slice D2 m2 d2) (.slice none 0 0) 27
    have B4 : Below (w1.heap.size + 1) W3 (W3.alloc (.cells #[.slice D0 m0 d0, .slice D1 m1 d1, .slice D2 m2 d2, .slice none 0 0] 27)) := (Below.refl _ _).alloc (by have := zh.out; omega) _
    have z4 : w1.heap.size + 1 + 1 ≤ (W3.alloc (.cells #[.slice D0 m0 d0, .slice D1 m1 d1, .slice D2 m2 d2, .slice none 0 0] 27)).heap.size := by have := zh.out; simp; omega
    go_loopw [9] (fun i wr => ∃ (k : Nat) (E : Option Addr) (q : Nat), k ≤ n ∧ i = .int .i64 k ∧ Blk4 wr (w1.heap.size + 1) (.slice D0 m0 d0) (.slice D1 m1 d1) (.slice D2 m2 d2) (.slice E k q) 27 ∧ Row wr ((w1.heap.size + 1) + 1) (.slice E k q) (nums k) ∧ Below (w1.heap.size + 1) W3 wr ∧ (w1.heap.size + 1) + 1 ≤ wr.heap.size) (fun i _ => n - (intOf i).toNat)
    case atStart => exact ⟨0, none, 0, Nat.zero_le _, rfl, S4, Row.nil _ _, B4, z4⟩
    case round =>
      clear S4 B4 z4
      obtain ⟨k, E, q, hk, rfl, S, R, B, zr⟩ := hrel
      obtain ⟨c0, c1, c2, c3, g0, g1, g2, g3⟩ := S.cells
      by_cases hlt : k < n
      · have hkn : (k : Int) < (n : Int) := by omega
        have hown : wr.ownsRow ((w1.heap.size + 1) + 1) 3 1 (.slice E k q) k ((nums k).map iv) := by have h9 := R; unfold Row at h9; rw [nums_len] at h9; exact h9
        have cA3 := cellA c3 (.cells #[.int .i64 (k : Int)] 3)
        clear R
        go_wp2_with (at_builtin; refine wpList_append_own_at _ rfl _ _ 23 rfl ((w1.heap.size + 1) + 1) 3 i0 (.int .i64 0) 1 8 Try.underlying23 hi hz0 hz1 hz2 rfl (by decide) _ _ _ rfl (hown.alloc _) ⟨wr.heap.size, 0, none⟩ 1 1 [.int .i64 (k : Int)] rfl rfl ?ap1 ?ap2 ?ap3 ?ap4 ?ap5 ?_)
        try case ap1 => exact one_new
        try case ap2 => first | rfl | (intro u hu; simp at hu; subst hu; rfl)
        try case ap3 => unfold maxLen; omega
        try case ap4 => omega
        try case ap5 => first | omega | (simp; omega)
        intro v' w4 hown' hgrow hnil hloc
        have hrow' : Row w4 ((w1.heap.size + 1) + 1) v' (nums (k + 1)) := Row.of_own hown' (by rw [nums_succ]; simp) (by rw [nums_len])
        have hB' := (B.alloc (by omega) (.cells #[.int .i64 (k : Int)] 3)).grown hgrow (by simp; omega) (fun j hj => by have := (hown.lt j hj).1; omega)
        have S5 := Blk4.kept_own (S.alloc (.cells #[.int .i64 (k : Int)] 3)) hgrow (fun e => by have := (hown.lt _ e.symm).1; omega)
        have hz4 : (w1.heap.size + 1) + 1 ≤ w4.heap.size := by have := hgrow.size; simp at this; omega
        obtain ⟨A4, c4, hv', _⟩ := hrow'.form
        rw [nums_len] at hv'
        subst hv'
        have S6 := S5.set3 (.slice A4 (k + 1) c4)
        have hB6 := hB'.setCell (p := ⟨(w1.heap.size + 1), 3, none⟩) (by simp) (.slice A4 (k + 1) c4)
        have hr6 := hrow'.other (a := ⟨(w1.heap.size + 1), 3, none⟩) (fun e => by have := (hrow'.lt _ e).1; simp at this; omega) (.slice A4 (k + 1) c4)
        have hz6 : (w1.heap.size + 1) + 1 ≤ (w4.setCell ⟨(w1.heap.size + 1), 3, none⟩ (.slice A4 (k + 1) c4)).heap.size := by simp [World.setCell]; omega
        obtain ⟨k0, k1, k2, k3, j0, j1, j2, j3⟩ := S5.cells
        clear hown hown' hgrow hloc hnil hrow' hB' S c0 c1 c2 c3 cA3
        go_wp2_with fail
        go_roundw
        case rel => exact ⟨k + 1, A4, c4, by omega, by go_num, S6, hr6, hB6, hz6⟩
        case measure => simp [intOf]; omega
      · obtain rfl : k = n := by omega
        have hw3 := zh.out
        have B9 : Below W3.heap.size W3 wr := by rw [hw3]; exact B
        obtain ⟨y0, y1, y2, y3, f0, f1, f2, f3⟩ := (Y3.below B9).cells
        have BB := B3.trans (B9.mono (by omega))
        have hH := H3.below B9
        obtain ⟨_, _, _, evv, H0, H1, H2, aa, ab, ac⟩ := H3
        cases evv
        have ap : ∀ (v : Value) (xs : List Int), Row W3 (w.heap.size + 1) v xs → Apart v (.slice E k q) := fun v xs r j e e' => by
          have h1 := (r.lt j e).2
          have h2 := (R.lt j e').1
          omega
        have CC : Cv wr (w.heap.size + 1) (.agg #[.slice D0 m0 d0, .slice D1 m1 d1, .slice D2 m2 d2, .slice E k q]) ⟨hp, nums k⟩ := ⟨_, _, _, _, rfl, hH, R.mono (by omega), ap _ _ H0, ap _ _ H1, ap _ _ H2⟩
        have lb : w.heap.size < w.heap.size + 1 := by omega
        clear hw3 B9
        have CF := ((((CC.set_low (p := ⟨w.heap.size, 0, none⟩) lb (.slice D0 m0 d0)).set_low (p := ⟨w.heap.size, 1, none⟩) lb (.slice D1 m1 d1)).set_low (p := ⟨w.heap.size, 2, none⟩) lb (.slice D2 m2 d2)).set_low (p := ⟨w.heap.size, 3, none⟩) lb (.slice E k q)).mono (lo' := w.heap.size) (by omega)
        have BF := ((((BB.setCell (p := ⟨w.heap.size, 0, none⟩) (by simp) (.slice D0 m0 d0)).setCell (p := ⟨w.heap.size, 1, none⟩) (by simp) (.slice D1 m1 d1)).setCell (p := ⟨w.heap.size, 2, none⟩) (by simp) (.slice D2 m2 d2)).setCell (p := ⟨w.heap.size, 3, none⟩) (by simp) (.slice E k q))
        go_wp2_with fail
        rw [hf.out]
        refine bodyPost_ret (v := .tuple #[.agg #[.slice D0 m0 d0, .slice D1 m1 d1, .slice D2 m2 d2, .slice E k q], .bool true]) ?_ rfl ⟨_, rfl, CF, BF⟩
        simp [results, Try.results58, go_sem, y0, y1, y2, y3]
end Go.Proofs.Ythbflohanjnaeaa
