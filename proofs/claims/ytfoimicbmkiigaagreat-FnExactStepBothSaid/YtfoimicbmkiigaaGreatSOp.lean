/- Operations of spec: their words, and which are valid. -/
import Derived.Test.YtfoimicbmkiigaaGreatOp
import Derived.Test.YtfoimicbmkiigaaGreatRdA
namespace Go.Proofs.YtfoimicbmkiigaaGreat
open Go.RowKit

/-- The word of a kind. -/
def wordL (k : Int) : List UInt8 :=
  if k = 1 then [110, 101, 119] else if k = 2 then [99, 111, 112, 121] else if k = 3 then [108, 101, 102, 116] else if k = 4 then [114, 105, 103, 104, 116] else if k = 5 then [112, 117, 116, 108, 101, 102, 116] else if k = 6 then [112, 117, 116, 114, 105, 103, 104, 116] else if k = 7 then [99, 108, 101, 97, 114] else []
theorem wordL_none {k : Int} (h : ¬ (1 ≤ k ∧ k ≤ 7)) : wordL k = [] := by
  unfold wordL
  repeat rw [if_neg (by omega)]
theorem wordL_some {k : Int} (h : 1 ≤ k ∧ k ≤ 7) : (wordL k).isEmpty = false ∧ (wordL k).length ≤ 8 := by
  have hk : k = 1 ∨ k = 2 ∨ k = 3 ∨ k = 4 ∨ k = 5 ∨ k = 6 ∨ k = 7 := by omega
  rcases hk with rfl | rfl | rfl | rfl | rfl | rfl | rfl <;> exact ⟨rfl, by decide⟩

set_option maxRecDepth 100000 in
set_option maxHeartbeats 1000000 in
theorem l5Word_any (w : World) (k : Int) :
    Calls Tryz.prog 150 #[.int .i64 k] w fun e w' => e = .returned (.string ⟨(wordL k).toArray⟩) ∧ Below w.heap.size w w' := by
  by_cases h0 : k < 1
  · rw [wordL_none (by omega)]
    go_enter Tryz.func150, Tryz.ntmps150
    go_wp2_with fail
    go_ret
    exact ⟨rfl, (Below.refl _ _).alloc (Nat.le_refl _) _⟩
  · by_cases h7 : 7 < k
    · rw [wordL_none (by omega)]
      go_enter Tryz.func150, Tryz.ntmps150
      go_wp2_with fail
      go_ret
      exact ⟨rfl, (Below.refl _ _).alloc (Nat.le_refl _) _⟩
    · have hk : k = 1 ∨ k = 2 ∨ k = 3 ∨ k = 4 ∨ k = 5 ∨ k = 6 ∨ k = 7 := by omega
      clear h0 h7
      rcases hk with rfl | rfl | rfl | rfl | rfl | rfl | rfl
      all_goals
        go_enter Tryz.func150, Tryz.ntmps150
        go_wp2_with fail
        go_ret
        exact ⟨rfl, (Below.refl _ _).alloc (Nat.le_refl _) _⟩

set_option maxHeartbeats 1000000 in
theorem l5One_any (w : World) (k : Int) :
    Calls Tryz.prog 151 #[.int .i64 k] w fun e w' => e = .returned (.bool (oneB k)) ∧ w = w' := by
  by_cases h1 : k = 1
  · subst h1
    go_enter Tryz.func151, Tryz.ntmps151
    go_wp2_with fail
    go_ret
    exact ⟨rfl, rfl⟩
  · have h1b : (k == 1) = false := by simpa using h1
    by_cases h7 : k = 7
    · subst h7
      go_enter Tryz.func151, Tryz.ntmps151
      go_wp2_with fail
      go_ret
      exact ⟨rfl, rfl⟩
    · have h7b : (k == 7) = false := by simpa using h7
      have hf : Hid (oneB k = false) := by unfold Hid oneB; simp [h1, h7]
      clear h1 h7
      go_enter Tryz.func151, Tryz.ntmps151
      go_wp2_with fail
      go_ret
      exact ⟨ret_bool hf.out.symm, rfl⟩

set_option maxRecDepth 100000 in
set_option maxHeartbeats 2000000 in
theorem specOpValid_any (w : World) (o : Opv) (n : Int) : Calls Tryz.prog 124 #[opV o, .int .i64 n] w (RetB w (opB o n)) := by
  obtain ⟨k, a, b⟩ := o
  show Calls Tryz.prog 124 #[.agg #[.int .i64 k, .int .i64 a, .int .i64 b], .int .i64 n] w _
  have X0 := Blk3.new w (.int .i64 k) (.int .i64 a) (.int .i64 b) 40
  have fin : Below w.heap.size w (w.alloc (.cells #[.int .i64 k, .int .i64 a, .int .i64 b] 40)) := (Below.refl _ _).alloc (Nat.le_refl _) _
  have LW := l5Word_any (w.alloc (.cells #[.int .i64 k, .int .i64 a, .int .i64 b] 40)) k
  by_cases hk : 1 ≤ k ∧ k ≤ 7
  · obtain ⟨s1, s2⟩ := wordL_some hk
    generalize wordL k = s at LW s1 s2
    clear s2
    by_cases c0 : a < 0
    · have hf : Hid (opB ⟨k, a, b⟩ n = false) := by unfold Hid; rw [Bool.eq_false_iff]; intro h; have := opB_iff.1 h; simp only at this; omega
      go_enter Tryz.func124, Tryz.ntmps124
      go_wp2_with fail
      refine LW.mono ?_; rintro e w1 ⟨rfl, hb1⟩
      have X1 := Blk3.below (by exact X0) hb1
      obtain ⟨p0, p1, p2, _⟩ := X1.cells
      go_wp2_with fail
      go_ret
      exact ⟨ret_bool hf.out.symm, fin.trans (hb1.mono fin.size)⟩
    · have c0n : ¬ (a < 0) := c0
      clear c0
      by_cases c1 : n ≤ a
      · have hf : Hid (opB ⟨k, a, b⟩ n = false) := by unfold Hid; rw [Bool.eq_false_iff]; intro h; have := opB_iff.1 h; simp only at this; omega
        go_enter Tryz.func124, Tryz.ntmps124
        go_wp2_with fail
        refine LW.mono ?_; rintro e w1 ⟨rfl, hb1⟩
        have X1 := Blk3.below (by exact X0) hb1
        obtain ⟨p0, p1, p2, _⟩ := X1.cells
        go_wp2_with fail
        go_ret
        exact ⟨ret_bool hf.out.symm, fin.trans (hb1.mono fin.size)⟩
      · have c1n : ¬ (n ≤ a) := c1
        clear c1
        by_cases c2 : 3 ≤ a
        · have hf : Hid (opB ⟨k, a, b⟩ n = false) := by unfold Hid; rw [Bool.eq_false_iff]; intro h; have := opB_iff.1 h; simp only at this; omega
          go_enter Tryz.func124, Tryz.ntmps124
          go_wp2_with fail
          refine LW.mono ?_; rintro e w1 ⟨rfl, hb1⟩
          have X1 := Blk3.below (by exact X0) hb1
          obtain ⟨p0, p1, p2, _⟩ := X1.cells
          go_wp2_with fail
          go_ret
          exact ⟨ret_bool hf.out.symm, fin.trans (hb1.mono fin.size)⟩
        · have c2n : ¬ (3 ≤ a) := c2
          clear c2
          by_cases c3 : b < 0
          · have hf : Hid (opB ⟨k, a, b⟩ n = false) := by unfold Hid; rw [Bool.eq_false_iff]; intro h; have := opB_iff.1 h; simp only at this; omega
            go_enter Tryz.func124, Tryz.ntmps124
            go_wp2_with fail
            refine LW.mono ?_; rintro e w1 ⟨rfl, hb1⟩
            have X1 := Blk3.below (by exact X0) hb1
            obtain ⟨p0, p1, p2, _⟩ := X1.cells
            go_wp2_with fail
            go_ret
            exact ⟨ret_bool hf.out.symm, fin.trans (hb1.mono fin.size)⟩
          · have c3n : ¬ (b < 0) := c3
            clear c3
            by_cases c4 : 3 ≤ b
            · have hf : Hid (opB ⟨k, a, b⟩ n = false) := by unfold Hid; rw [Bool.eq_false_iff]; intro h; have := opB_iff.1 h; simp only at this; omega
              go_enter Tryz.func124, Tryz.ntmps124
              go_wp2_with fail
              refine LW.mono ?_; rintro e w1 ⟨rfl, hb1⟩
              have X1 := Blk3.below (by exact X0) hb1
              obtain ⟨p0, p1, p2, _⟩ := X1.cells
              go_wp2_with fail
              go_ret
              exact ⟨ret_bool hf.out.symm, fin.trans (hb1.mono fin.size)⟩
            · have c4n : ¬ (3 ≤ b) := c4
              clear c4
              have OK := opB_iff (o := ⟨k, a, b⟩) (n := n)
              have L1 := fun W => l5One_any W k
              by_cases h1 : k = 1 ∨ k = 7
              · have ho : oneB k = true := by unfold oneB; simp [h1]
                rw [ho] at L1
                have hf : Hid (opB ⟨k, a, b⟩ n = (b == 0)) := by unfold Hid; rw [Bool.eq_iff_iff, OK]; simp only [beq_iff_eq]; omega
                clear OK ho h1
                go_enter Tryz.func124, Tryz.ntmps124
                go_wp2_with fail
                refine LW.mono ?_; rintro e w1 ⟨rfl, hb1⟩
                have X1 := Blk3.below (by exact X0) hb1
                obtain ⟨p0, p1, p2, _⟩ := X1.cells
                go_wp2_with fail
                refine (L1 _).mono ?_; rintro e w2 ⟨rfl, rfl⟩
                go_wp2_with fail
                go_ret
                exact ⟨ret_bool hf.out.symm, fin.trans (hb1.mono fin.size)⟩
              · have ho : oneB k = false := by unfold oneB; simp [h1]
                rw [ho] at L1
                have hf : Hid (opB ⟨k, a, b⟩ n = decide (b < n)) := by unfold Hid; rw [Bool.eq_iff_iff, OK]; simp only [decide_eq_true_eq]; omega
                clear OK ho h1
                go_enter Tryz.func124, Tryz.ntmps124
                go_wp2_with fail
                refine LW.mono ?_; rintro e w1 ⟨rfl, hb1⟩
                have X1 := Blk3.below (by exact X0) hb1
                obtain ⟨p0, p1, p2, _⟩ := X1.cells
                go_wp2_with fail
                refine (L1 _).mono ?_; rintro e w2 ⟨rfl, rfl⟩
                go_wp2_with fail
                go_ret
                exact ⟨ret_bool hf.out.symm, fin.trans (hb1.mono fin.size)⟩
  · rw [wordL_none hk] at LW
    have hf : Hid (opB ⟨k, a, b⟩ n = false) := by unfold Hid; rw [Bool.eq_false_iff]; intro h; have := opB_iff.1 h; simp only at this; omega
    go_enter Tryz.func124, Tryz.ntmps124
    go_wp2_with fail
    refine LW.mono ?_; rintro e w1 ⟨rfl, hb1⟩
    have X1 := Blk3.below (by exact X0) hb1
    obtain ⟨p0, p1, p2, _⟩ := X1.cells
    go_wp2_with fail
    go_ret
    exact ⟨ret_bool hf.out.symm, fin.trans (hb1.mono fin.size)⟩
end Go.Proofs.YtfoimicbmkiigaaGreat
