import Derived.Test.YtdifplakkepnkaaOp
import Derived.Test.YtdifplakkepnkaaRdA
import Derived.Test.YtdifplakkepnkaaSDoH
import Derived.Test.YtdifplakkepnkaaBlks1
import Derived.Test.YtdifplakkepnkaaIAlloc
import Derived.BigRegion
import Derived.StillTailTactics
import Derived.Test.YtdifplakkepnkaaIStos
import Derived.Test.YtdifplakkepnkaaShades
/- Operations of impl: nodes behind an interface; which operations are valid. -/
namespace Go.Proofs.Ytdifplakkepnkaa
open Go.RowKit

/-- The node of an operation. -/
def stepV (o : Opv) : Value :=
  if o.k = 1 then .iface 140 (.agg #[.int .i64 o.a])
  else if o.k = 2 then .iface 142 (.agg #[.int .i64 o.a, .int .i64 o.b])
  else if o.k = 3 then .iface 144 (.agg #[.int .i64 o.a, .int .i64 o.b, .bool false])
  else if o.k = 4 then .iface 144 (.agg #[.int .i64 o.a, .int .i64 o.b, .bool true])
  else if o.k = 5 then .iface 113 (.agg #[.int .i64 o.a, .int .i64 o.b, .bool false])
  else if o.k = 6 then .iface 113 (.agg #[.int .i64 o.a, .int .i64 o.b, .bool true])
  else if o.k = 7 then .iface 145 (.agg #[.int .i64 o.a])
  else .nilIface
def namedN (k : Int) : Int := if k = 1 ∨ k = 7 then 1 else if 1 ≤ k ∧ k ≤ 7 then 2 else 0
def rnB (a n : Int) : Bool := decide (0 ≤ a ∧ a < n ∧ a < 3)
theorem opB_one {k a b n : Int} (h : k = 1 ∨ k = 7) : opB ⟨k, a, b⟩ n = (rnB a n && decide (b = 0)) := by
  rw [Bool.eq_iff_iff, opB_iff, Bool.and_eq_true]
  simp only [rnB, decide_eq_true_eq]; omega
theorem opB_two {k a b n : Int} (h : 2 ≤ k ∧ k ≤ 6) : opB ⟨k, a, b⟩ n = (rnB a n && rnB b n) := by
  rw [Bool.eq_iff_iff, opB_iff, Bool.and_eq_true]
  simp only [rnB, decide_eq_true_eq]; omega
theorem opB_none {k a b n : Int} (h : ¬ (1 ≤ k ∧ k ≤ 7)) : opB ⟨k, a, b⟩ n = false := by
  rw [Bool.eq_false_iff]; intro h9; have := opB_iff.1 h9; simp only at this; omega

theorem ta_newStep_newStep (v : Value) (w : World) : (Instr.typeAssert (.iface 140 v) 107 140 true).run Try.prog w = .ok (.tuple #[v, .bool true]) w := by kernel_rfl
theorem ta_newStep_clearStep (v : Value) (w : World) : (Instr.typeAssert (.iface 140 v) 107 145 true).run Try.prog w = .ok (.tuple #[.agg #[.int .i64 0], .bool false]) w := by kernel_rfl
theorem ta_newStep_copyStep (v : Value) (w : World) : (Instr.typeAssert (.iface 140 v) 107 142 true).run Try.prog w = .ok (.tuple #[.agg #[.int .i64 0, .int .i64 0], .bool false]) w := by kernel_rfl
theorem ta_newStep_readStep (v : Value) (w : World) : (Instr.typeAssert (.iface 140 v) 107 144 true).run Try.prog w = .ok (.tuple #[.agg #[.int .i64 0, .int .i64 0, .bool false], .bool false]) w := by kernel_rfl
theorem ta_newStep_putStep (v : Value) (w : World) : (Instr.typeAssert (.iface 140 v) 107 113 true).run Try.prog w = .ok (.tuple #[.agg #[.int .i64 0, .int .i64 0, .bool false], .bool false]) w := by kernel_rfl
theorem ta_clearStep_newStep (v : Value) (w : World) : (Instr.typeAssert (.iface 145 v) 107 140 true).run Try.prog w = .ok (.tuple #[.agg #[.int .i64 0], .bool false]) w := by kernel_rfl
theorem ta_clearStep_clearStep (v : Value) (w : World) : (Instr.typeAssert (.iface 145 v) 107 145 true).run Try.prog w = .ok (.tuple #[v, .bool true]) w := by kernel_rfl
theorem ta_clearStep_copyStep (v : Value) (w : World) : (Instr.typeAssert (.iface 145 v) 107 142 true).run Try.prog w = .ok (.tuple #[.agg #[.int .i64 0, .int .i64 0], .bool false]) w := by kernel_rfl
theorem ta_clearStep_readStep (v : Value) (w : World) : (Instr.typeAssert (.iface 145 v) 107 144 true).run Try.prog w = .ok (.tuple #[.agg #[.int .i64 0, .int .i64 0, .bool false], .bool false]) w := by kernel_rfl
theorem ta_clearStep_putStep (v : Value) (w : World) : (Instr.typeAssert (.iface 145 v) 107 113 true).run Try.prog w = .ok (.tuple #[.agg #[.int .i64 0, .int .i64 0, .bool false], .bool false]) w := by kernel_rfl
theorem ta_copyStep_newStep (v : Value) (w : World) : (Instr.typeAssert (.iface 142 v) 107 140 true).run Try.prog w = .ok (.tuple #[.agg #[.int .i64 0], .bool false]) w := by kernel_rfl
theorem ta_copyStep_clearStep (v : Value) (w : World) : (Instr.typeAssert (.iface 142 v) 107 145 true).run Try.prog w = .ok (.tuple #[.agg #[.int .i64 0], .bool false]) w := by kernel_rfl
theorem ta_copyStep_copyStep (v : Value) (w : World) : (Instr.typeAssert (.iface 142 v) 107 142 true).run Try.prog w = .ok (.tuple #[v, .bool true]) w := by kernel_rfl
theorem ta_copyStep_readStep (v : Value) (w : World) : (Instr.typeAssert (.iface 142 v) 107 144 true).run Try.prog w = .ok (.tuple #[.agg #[.int .i64 0, .int .i64 0, .bool false], .bool false]) w := by kernel_rfl
theorem ta_copyStep_putStep (v : Value) (w : World) : (Instr.typeAssert (.iface 142 v) 107 113 true).run Try.prog w = .ok (.tuple #[.agg #[.int .i64 0, .int .i64 0, .bool false], .bool false]) w := by kernel_rfl
theorem ta_readStep_newStep (v : Value) (w : World) : (Instr.typeAssert (.iface 144 v) 107 140 true).run Try.prog w = .ok (.tuple #[.agg #[.int .i64 0], .bool false]) w := by kernel_rfl
theorem ta_readStep_clearStep (v : Value) (w : World) : (Instr.typeAssert (.iface 144 v) 107 145 true).run Try.prog w = .ok (.tuple #[.agg #[.int .i64 0], .bool false]) w := by kernel_rfl
theorem ta_readStep_copyStep (v : Value) (w : World) : (Instr.typeAssert (.iface 144 v) 107 142 true).run Try.prog w = .ok (.tuple #[.agg #[.int .i64 0, .int .i64 0], .bool false]) w := by kernel_rfl
theorem ta_readStep_readStep (v : Value) (w : World) : (Instr.typeAssert (.iface 144 v) 107 144 true).run Try.prog w = .ok (.tuple #[v, .bool true]) w := by kernel_rfl
theorem ta_readStep_putStep (v : Value) (w : World) : (Instr.typeAssert (.iface 144 v) 107 113 true).run Try.prog w = .ok (.tuple #[.agg #[.int .i64 0, .int .i64 0, .bool false], .bool false]) w := by kernel_rfl
theorem ta_putStep_newStep (v : Value) (w : World) : (Instr.typeAssert (.iface 113 v) 107 140 true).run Try.prog w = .ok (.tuple #[.agg #[.int .i64 0], .bool false]) w := by kernel_rfl
theorem ta_putStep_clearStep (v : Value) (w : World) : (Instr.typeAssert (.iface 113 v) 107 145 true).run Try.prog w = .ok (.tuple #[.agg #[.int .i64 0], .bool false]) w := by kernel_rfl
theorem ta_putStep_copyStep (v : Value) (w : World) : (Instr.typeAssert (.iface 113 v) 107 142 true).run Try.prog w = .ok (.tuple #[.agg #[.int .i64 0, .int .i64 0], .bool false]) w := by kernel_rfl
theorem ta_putStep_readStep (v : Value) (w : World) : (Instr.typeAssert (.iface 113 v) 107 144 true).run Try.prog w = .ok (.tuple #[.agg #[.int .i64 0, .int .i64 0, .bool false], .bool false]) w := by kernel_rfl
theorem ta_putStep_putStep (v : Value) (w : World) : (Instr.typeAssert (.iface 113 v) 107 113 true).run Try.prog w = .ok (.tuple #[v, .bool true]) w := by kernel_rfl
theorem ta_nil_newStep (w : World) : (Instr.typeAssert .nilIface 107 140 true).run Try.prog w = .ok (.tuple #[.agg #[.int .i64 0], .bool false]) w := by kernel_rfl
theorem ta_nil_clearStep (w : World) : (Instr.typeAssert .nilIface 107 145 true).run Try.prog w = .ok (.tuple #[.agg #[.int .i64 0], .bool false]) w := by kernel_rfl
theorem ta_nil_copyStep (w : World) : (Instr.typeAssert .nilIface 107 142 true).run Try.prog w = .ok (.tuple #[.agg #[.int .i64 0, .int .i64 0], .bool false]) w := by kernel_rfl
theorem ta_nil_readStep (w : World) : (Instr.typeAssert .nilIface 107 144 true).run Try.prog w = .ok (.tuple #[.agg #[.int .i64 0, .int .i64 0, .bool false], .bool false]) w := by kernel_rfl
theorem ta_nil_putStep (w : World) : (Instr.typeAssert .nilIface 107 113 true).run Try.prog w = .ok (.tuple #[.agg #[.int .i64 0, .int .i64 0, .bool false], .bool false]) w := by kernel_rfl

set_option maxRecDepth 100000 in
set_option maxHeartbeats 1000000 in
theorem stepOf_any (w : World) (o : Opv) : Calls Try.prog 96 #[opV o] w fun e w' => e = .returned (stepV o) ∧ Below w.heap.size w w' := by
  obtain ⟨k, a, b⟩ := o
  show Calls Try.prog 96 #[.agg #[.int .i64 k, .int .i64 a, .int .i64 b]] w _
  by_cases hk : 1 ≤ k ∧ k ≤ 7
  · have hk : k = 1 ∨ k = 2 ∨ k = 3 ∨ k = 4 ∨ k = 5 ∨ k = 6 ∨ k = 7 := by omega
    rcases hk with rfl | rfl | rfl | rfl | rfl | rfl | rfl
    all_goals
      go_enter Try.func96, Try.ntmps96
      go_wp2_with fail
      go_ret
      exact ⟨rfl, (Below.refl _ _).alloc (Nat.le_refl _) _⟩
  · have hf : Hid (stepV ⟨k, a, b⟩ = .nilIface) := by unfold Hid stepV; simp only; rw [if_neg (by omega)]; rw [if_neg (by omega)]; rw [if_neg (by omega)]; rw [if_neg (by omega)]; rw [if_neg (by omega)]; rw [if_neg (by omega)]; rw [if_neg (by omega)]
    have g1 : (k == 1) = false := by simp; omega
    have g2 : (k == 2) = false := by simp; omega
    have g3 : (k == 3) = false := by simp; omega
    have g4 : (k == 4) = false := by simp; omega
    have g5 : (k == 5) = false := by simp; omega
    have g6 : (k == 6) = false := by simp; omega
    have g7 : (k == 7) = false := by simp; omega
    clear hk
    go_enter Try.func96, Try.ntmps96
    go_wp2_with fail
    go_ret
    exact ⟨by rw [hf.out]; rfl, (Below.refl _ _).alloc (Nat.le_refl _) _⟩

set_option maxRecDepth 100000 in
set_option maxHeartbeats 1000000 in
theorem countNamed_any (w : World) (o : Opv) : Calls Try.prog 117 #[opV o] w (RetI w (namedN o.k)) := by
  obtain ⟨k, a, b⟩ := o
  show Calls Try.prog 117 #[.agg #[.int .i64 k, .int .i64 a, .int .i64 b]] w (RetI w (namedN k))
  have S := stepOf_any (w.alloc (.cells #[.int .i64 k, .int .i64 a, .int .i64 b] 70)) ⟨k, a, b⟩
  have X0 := Blk3.new w (.int .i64 k) (.int .i64 a) (.int .i64 b) 70
  have fin : Below w.heap.size w (w.alloc (.cells #[.int .i64 k, .int .i64 a, .int .i64 b] 70)) := (Below.refl _ _).alloc (Nat.le_refl _) _
  by_cases hk : 1 ≤ k ∧ k ≤ 7
  · have hk : k = 1 ∨ k = 2 ∨ k = 3 ∨ k = 4 ∨ k = 5 ∨ k = 6 ∨ k = 7 := by omega
    rcases hk with rfl | rfl | rfl | rfl | rfl | rfl | rfl
    · have hS : stepV ⟨1, a, b⟩ = .iface 140 (.agg #[.int .i64 a]) := rfl
      rw [hS] at S
      have t_newStep := ta_newStep_newStep
      have t_clearStep := ta_newStep_clearStep
      go_enter Try.func117, Try.ntmps117
      go_wp2_with fail
      refine S.mono ?_; rintro e w1 ⟨rfl, hb1⟩
      go_wp2_with fail
      go_ret
      exact ⟨rfl, fin.trans (hb1.mono fin.size)⟩
    · have hS : stepV ⟨2, a, b⟩ = .iface 142 (.agg #[.int .i64 a, .int .i64 b]) := rfl
      rw [hS] at S
      have t_newStep := ta_copyStep_newStep
      have t_clearStep := ta_copyStep_clearStep
      have t_copyStep := ta_copyStep_copyStep
      have t_readStep := ta_copyStep_readStep
      have t_putStep := ta_copyStep_putStep
      go_enter Try.func117, Try.ntmps117
      go_wp2_with fail
      refine S.mono ?_; rintro e w1 ⟨rfl, hb1⟩
      go_wp2_with fail
      go_ret
      exact ⟨rfl, fin.trans (hb1.mono fin.size)⟩
    · have hS : stepV ⟨3, a, b⟩ = .iface 144 (.agg #[.int .i64 a, .int .i64 b, .bool false]) := rfl
      rw [hS] at S
      have t_newStep := ta_readStep_newStep
      have t_clearStep := ta_readStep_clearStep
      have t_copyStep := ta_readStep_copyStep
      have t_readStep := ta_readStep_readStep
      have t_putStep := ta_readStep_putStep
      go_enter Try.func117, Try.ntmps117
      go_wp2_with fail
      refine S.mono ?_; rintro e w1 ⟨rfl, hb1⟩
      go_wp2_with fail
      go_ret
      exact ⟨rfl, fin.trans (hb1.mono fin.size)⟩
    · have hS : stepV ⟨4, a, b⟩ = .iface 144 (.agg #[.int .i64 a, .int .i64 b, .bool true]) := rfl
      rw [hS] at S
      have t_newStep := ta_readStep_newStep
      have t_clearStep := ta_readStep_clearStep
      have t_copyStep := ta_readStep_copyStep
      have t_readStep := ta_readStep_readStep
      have t_putStep := ta_readStep_putStep
      go_enter Try.func117, Try.ntmps117
      go_wp2_with fail
      refine S.mono ?_; rintro e w1 ⟨rfl, hb1⟩
      go_wp2_with fail
      go_ret
      exact ⟨rfl, fin.trans (hb1.mono fin.size)⟩
    · have hS : stepV ⟨5, a, b⟩ = .iface 113 (.agg #[.int .i64 a, .int .i64 b, .bool false]) := rfl
      rw [hS] at S
      have t_newStep := ta_putStep_newStep
      have t_clearStep := ta_putStep_clearStep
      have t_copyStep := ta_putStep_copyStep
      have t_readStep := ta_putStep_readStep
      have t_putStep := ta_putStep_putStep
      go_enter Try.func117, Try.ntmps117
      go_wp2_with fail
      refine S.mono ?_; rintro e w1 ⟨rfl, hb1⟩
      go_wp2_with fail
      go_ret
      exact ⟨rfl, fin.trans (hb1.mono fin.size)⟩
    · have hS : stepV ⟨6, a, b⟩ = .iface 113 (.agg #[.int .i64 a, .int .i64 b, .bool true]) := rfl
      rw [hS] at S
      have t_newStep := ta_putStep_newStep
      have t_clearStep := ta_putStep_clearStep
      have t_copyStep := ta_putStep_copyStep
      have t_readStep := ta_putStep_readStep
      have t_putStep := ta_putStep_putStep
      go_enter Try.func117, Try.ntmps117
      go_wp2_with fail
      refine S.mono ?_; rintro e w1 ⟨rfl, hb1⟩
      go_wp2_with fail
      go_ret
      exact ⟨rfl, fin.trans (hb1.mono fin.size)⟩
    · have hS : stepV ⟨7, a, b⟩ = .iface 145 (.agg #[.int .i64 a]) := rfl
      rw [hS] at S
      have t_newStep := ta_clearStep_newStep
      have t_clearStep := ta_clearStep_clearStep
      go_enter Try.func117, Try.ntmps117
      go_wp2_with fail
      refine S.mono ?_; rintro e w1 ⟨rfl, hb1⟩
      go_wp2_with fail
      go_ret
      exact ⟨rfl, fin.trans (hb1.mono fin.size)⟩
  · have hf : Hid (stepV ⟨k, a, b⟩ = .nilIface) := by unfold Hid stepV; simp only; rw [if_neg (by omega)]; rw [if_neg (by omega)]; rw [if_neg (by omega)]; rw [if_neg (by omega)]; rw [if_neg (by omega)]; rw [if_neg (by omega)]; rw [if_neg (by omega)]
    have hc : Hid (namedN k = 0) := by unfold Hid namedN; rw [if_neg (by omega), if_neg (by omega)]
    rw [hf.out] at S
    have t_newStep := ta_nil_newStep
    have t_clearStep := ta_nil_clearStep
    have t_copyStep := ta_nil_copyStep
    have t_readStep := ta_nil_readStep
    have t_putStep := ta_nil_putStep
    clear hk hf
    go_enter Try.func117, Try.ntmps117
    go_wp2_with fail
    refine S.mono ?_; rintro e w1 ⟨rfl, hb1⟩
    go_wp2_with fail
    go_ret
    exact ⟨ret_int hc.out.symm, fin.trans (hb1.mono fin.size)⟩

set_option maxHeartbeats 1000000 in
theorem rootNamed_any (w : World) (a n : Int) : Calls Try.prog 118 #[.int .i64 a, .int .i64 n] w fun e w' => e = .returned (.bool (rnB a n)) ∧ w = w' := by
  by_cases h0 : 0 ≤ a
  · by_cases hn : n ≤ 3
    · have hf : Hid (rnB a n = decide (a < n)) := by unfold Hid rnB; rw [Bool.eq_iff_iff, decide_eq_true_eq, decide_eq_true_eq]; omega
      have hm : min n 3 = n := by omega
      go_enter Try.func118, Try.ntmps118
      go_wp2_with fail
      go_ret
      exact ⟨ret_bool hf.out.symm, rfl⟩
    · have hf : Hid (rnB a n = decide (a < 3)) := by unfold Hid rnB; rw [Bool.eq_iff_iff, decide_eq_true_eq, decide_eq_true_eq]; omega
      have hm : min n 3 = 3 := by omega
      go_enter Try.func118, Try.ntmps118
      go_wp2_with fail
      go_ret
      exact ⟨ret_bool hf.out.symm, rfl⟩
  · have hf : Hid (rnB a n = false) := by unfold Hid rnB; rw [decide_eq_false_iff_not]; omega
    go_enter Try.func118, Try.ntmps118
    go_wp2_with fail
    go_ret
    exact ⟨ret_bool hf.out.symm, rfl⟩

set_option maxRecDepth 100000 in
set_option maxHeartbeats 1000000 in
theorem implOpValid_any (w : World) (o : Opv) (n : Int) : Calls Try.prog 84 #[opV o, .int .i64 n] w (RetB w (opB o n)) := by
  obtain ⟨k, a, b⟩ := o
  show Calls Try.prog 84 #[.agg #[.int .i64 k, .int .i64 a, .int .i64 b], .int .i64 n] w _
  have S := countNamed_any (w.alloc (.cells #[.int .i64 k, .int .i64 a, .int .i64 b] 70)) ⟨k, a, b⟩
  have X0 := Blk3.new w (.int .i64 k) (.int .i64 a) (.int .i64 b) 70
  have fin : Below w.heap.size w (w.alloc (.cells #[.int .i64 k, .int .i64 a, .int .i64 b] 70)) := (Below.refl _ _).alloc (Nat.le_refl _) _
  have RA := fun W => rootNamed_any W a n
  have RB := fun W => rootNamed_any W b n
  by_cases h1 : k = 1 ∨ k = 7
  · have hc : namedN k = 1 := by unfold namedN; rw [if_pos h1]
    simp only [hc] at S
    have hf0 := Lib.hid (opB_one (a := a) (b := b) (n := n) h1)
    clear h1 hc RB
    rcases hr : rnB a n
    · have hf : Hid (opB ⟨k, a, b⟩ n = false) := by unfold Hid; rw [hf0.out, hr]; rfl
      rw [hr] at RA; clear hr hf0
      go_enter Try.func84, Try.ntmps84
      go_wp2_with fail
      refine S.mono ?_; rintro e w1 ⟨rfl, hb1⟩
      have X1 := Blk3.below (by exact X0) hb1
      obtain ⟨p0, p1, p2, _⟩ := X1.cells
      have B1 := fin.trans (hb1.mono fin.size)
      go_wp2_with fail
      refine (RA _).mono ?_; rintro e w2 ⟨rfl, rfl⟩
      go_wp2_with fail
      go_ret
      exact ⟨ret_bool hf.out.symm, B1⟩
    · have hf : Hid (opB ⟨k, a, b⟩ n = (b == 0)) := by unfold Hid; rw [hf0.out, hr]; rfl
      rw [hr] at RA; clear hr hf0
      go_enter Try.func84, Try.ntmps84
      go_wp2_with fail
      refine S.mono ?_; rintro e w1 ⟨rfl, hb1⟩
      have X1 := Blk3.below (by exact X0) hb1
      obtain ⟨p0, p1, p2, _⟩ := X1.cells
      have B1 := fin.trans (hb1.mono fin.size)
      go_wp2_with fail
      refine (RA _).mono ?_; rintro e w2 ⟨rfl, rfl⟩
      go_wp2_with fail
      go_ret
      exact ⟨ret_bool hf.out.symm, B1⟩
  · by_cases h2 : 2 ≤ k ∧ k ≤ 6
    · have hc : namedN k = 2 := by unfold namedN; rw [if_neg h1, if_pos (by omega)]
      simp only [hc] at S
      have hf0 := Lib.hid (opB_two (a := a) (b := b) (n := n) h2)
      clear h1 h2 hc
      rcases hr : rnB a n
      · have hf : Hid (opB ⟨k, a, b⟩ n = false) := by unfold Hid; rw [hf0.out, hr]; rfl
        rw [hr] at RA; clear hr hf0 RB
        go_enter Try.func84, Try.ntmps84
        go_wp2_with fail
        refine S.mono ?_; rintro e w1 ⟨rfl, hb1⟩
        have X1 := Blk3.below (by exact X0) hb1
        obtain ⟨p0, p1, p2, _⟩ := X1.cells
        have B1 := fin.trans (hb1.mono fin.size)
        go_wp2_with fail
        refine (RA _).mono ?_; rintro e w2 ⟨rfl, rfl⟩
        go_wp2_with fail
        go_ret
        exact ⟨ret_bool hf.out.symm, B1⟩
      · have hf : Hid (opB ⟨k, a, b⟩ n = rnB b n) := by unfold Hid; rw [hf0.out, hr]; rfl
        rw [hr] at RA; clear hr hf0
        go_enter Try.func84, Try.ntmps84
        go_wp2_with fail
        refine S.mono ?_; rintro e w1 ⟨rfl, hb1⟩
        have X1 := Blk3.below (by exact X0) hb1
        obtain ⟨p0, p1, p2, _⟩ := X1.cells
        have B1 := fin.trans (hb1.mono fin.size)
        go_wp2_with fail
        refine (RA _).mono ?_; rintro e w2 ⟨rfl, rfl⟩
        go_wp2_with fail
        refine (RB _).mono ?_; rintro e w3 ⟨rfl, rfl⟩
        go_wp2_with fail
        go_ret
        exact ⟨ret_bool hf.out.symm, B1⟩
    · have hc : namedN k = 0 := by unfold namedN; rw [if_neg h1, if_neg (by omega)]
      simp only [hc] at S
      have hf := Lib.hid (opB_none (a := a) (b := b) (n := n) (k := k) (by omega))
      clear h1 h2 hc RA RB
      go_enter Try.func84, Try.ntmps84
      go_wp2_with fail
      refine S.mono ?_; rintro e w1 ⟨rfl, hb1⟩
      have B1 := fin.trans (hb1.mono fin.size)
      go_wp2_with fail
      go_ret
      exact ⟨ret_bool hf.out.symm, B1⟩
end Go.Proofs.Ytdifplakkepnkaa

/- What the nodes of operations do to a store behind a pointer. -/
namespace Go.Proofs.Ytdifplakkepnkaa
open Go.RowKit

/-- A variable that holds a store, apart from the store's rows. -/
def StoAt (w : World) (lo b : Nat) (C : Cp) : Prop := ∃ v0 v1 v2 v3, Blk4 w b v0 v1 v2 v3 27 ∧ Cv w lo (.agg #[v0, v1, v2, v3]) C ∧ v0.ownBlock ≠ some b ∧ v1.ownBlock ≠ some b ∧ v2.ownBlock ≠ some b ∧ v3.ownBlock ≠ some b
theorem StoAt.below {w w' : World} {lo b : Nat} {C : Cp} (h : StoAt w lo b C) (hb : Below w.heap.size w w') : StoAt w' lo b C := by
  obtain ⟨v0, v1, v2, v3, X, hv, o⟩ := h
  exact ⟨v0, v1, v2, v3, X.below hb, hv.below hb, o⟩
theorem StoAt.lt {w : World} {lo b : Nat} {C : Cp} (h : StoAt w lo b C) : b < w.heap.size := by
  obtain ⟨v0, v1, v2, v3, X, _⟩ := h
  exact X.lt
/-- A step's end. -/
def StepPost (w : World) (lo b : Nat) (C : Cp) (o : Opv) (e : Ending) (w' : World) : Prop := e = .returned (.int .i64 (runE C o)) ∧ StoAt w' lo b (runC C o) ∧ Below lo w w'
theorem Below.lower {w w' : World} {lo : Nat} (h : Below w.heap.size w w') (hl : lo ≤ w.heap.size) : Below lo w w' := h.mono hl
/-- The parts of a store's variable whose roots are not empty. -/
theorem StoAt.open_ {w : World} {lo b : Nat} {C : Cp} (h : StoAt w lo b C) : ∃ A0 n0 c0 A1 n1 c1 A2 n2 c2 A3 n3 c3, Blk4 w b (.slice A0 n0 c0) (.slice A1 n1 c1) (.slice A2 n2 c2) (.slice A3 n3 c3) 27 ∧ Cv w lo (.agg #[.slice A0 n0 c0, .slice A1 n1 c1, .slice A2 n2 c2, .slice A3 n3 c3]) C ∧
    ((.slice A0 n0 c0 : Value).ownBlock ≠ some b ∧ (.slice A1 n1 c1 : Value).ownBlock ≠ some b ∧ (.slice A2 n2 c2 : Value).ownBlock ≠ some b ∧ (.slice A3 n3 c3 : Value).ownBlock ≠ some b) ∧
    (Row w lo (.slice A0 n0 c0) C.h.l ∧ Row w lo (.slice A1 n1 c1) C.h.r ∧ Row w lo (.slice A2 n2 c2) C.h.t) ∧ (C.h.l.length = n0 ∧ C.h.r.length = n1 ∧ C.h.t.length = n2) := by
  obtain ⟨v0, v1, v2, v3, X, hv, o⟩ := h
  have hvo := hv
  obtain ⟨A0, n0, c0, A1, n1, c1, A2, n2, c2, A3, n3, c3, ev, _, ⟨r0, r1, r2, _⟩, ⟨l0, l1, l2, _⟩, _, _⟩ := hvo.open_
  cases ev
  exact ⟨A0, n0, c0, A1, n1, c1, A2, n2, c2, A3, n3, c3, X, hv, o, ⟨r0, r1, r2⟩, l0.out, l1.out, l2.out⟩

set_option maxHeartbeats 1000000 in
theorem sideOf_any (w : World) (x y z : Value) (r : Bool) : Calls Try.prog 149 #[.agg #[x, y, z], .bool r] w fun e w' => e = .returned (if r = true then y else x) ∧ Below w.heap.size w w' := by
  cases r
  all_goals
    go_enter Try.func149, Try.ntmps149
    go_wp2_with fail
    go_ret
    exact ⟨rfl, (Below.refl _ _).alloc (Nat.le_refl _) _⟩

set_option maxRecDepth 100000 in
set_option maxHeartbeats 2000000 in
theorem clearStep_any (w : World) (lo b : Nat) (C : Cp) (hs : StoAt w lo b C) (hlo : lo ≤ b) (a : Int) (hr : runB C ⟨7, a, 0⟩ = true) :
    Calls Try.prog 154 #[.agg #[.int .i64 a], .pointer (some ⟨b, 0, none⟩)] w (StepPost w lo b C ⟨7, a, 0⟩) := by
  have hE : Hid (runE C ⟨7, a, 0⟩ = 0) := by unfold Hid runE doE; rw [if_pos hr]; simp
  obtain ⟨A0, n0, c0, A1, n1, c1, A2, n2, c2, A3, n3, c3, X, hv, ⟨o0, o1, o2, o3⟩, ⟨r0, r1, r2⟩, e0, e1, e2⟩ := hs.open_
  obtain ⟨hC, ho⟩ := runB_iff.1 hr
  obtain ⟨hvh, _⟩ := stoB_parts hC
  have h8 := hvB_len hvh
  obtain ⟨_, ⟨a0, a1, _⟩, ⟨b0, _⟩, hb7, hbn⟩ := opB_iff.1 ho
  simp only at a0 a1 b0 hb7 hbn
  obtain ⟨ja, rfl⟩ := Int.eq_ofNat_of_zero_le a0
  have na : ja < n2 := by omega
  have nai : (ja : Int) < (n2 : Int) := by omega
  have TA := rootA_at a0 a1
  simp only [Int.toNat_natCast] at TA
  obtain ⟨g2, xa, rfl, hlo2, hg2, hxa, hca, hza⟩ := r2.get (k := ja) (by omega)
  have hxa9 := hxa.out
  rw [TA, Option.some.injEq] at hxa9
  have nb2 : b ≠ g2 := fun e => o2 (by rw [e]; rfl)
  have hR : Hid (runC C ⟨7, (ja : Int), 0⟩ = ⟨⟨C.h.l, C.h.r, C.h.t.set ja (-1)⟩, C.c⟩) := by unfold Hid runC doC; rw [if_pos hr]; simp
  have Y1 := Blk1.new w (.int .i64 (ja : Int)) 145
  have X1 := X.alloc (.cells #[.int .i64 (ja : Int)] 145)
  have V1 := hv.alloc (.cells #[.int .i64 (ja : Int)] 145)
  have B1 : Below lo w (w.alloc (.cells #[.int .i64 (ja : Int)] 145)) := (Below.refl lo w).alloc (by have := X.lt; omega) _
  have hWs : b < w.heap.size := X.lt
  have z1 : w.heap.size + 1 ≤ (w.alloc (.cells #[.int .i64 (ja : Int)] 145)).heap.size := by simp
  have ca1 := cellA hca (.cells #[.int .i64 (ja : Int)] 145)
  go_enter Try.func154, Try.ntmps154
  go_wp2_with fail
  generalize (w.alloc (.cells #[.int .i64 (ja : Int)] 145)) = W at Y1 X1 V1 B1 z1 ca1 ⊢
  obtain ⟨y0, _⟩ := Y1.cells
  obtain ⟨x0, x1, x2, x3, _⟩ := X1.cells
  obtain ⟨_, _, e9, _, _, _, _, za1⟩ := V1.rowsO.2.2.get (k := ja) (by omega)
  cases e9
  clear ho hs X hv r0 r1 r2 hca hza TA hxa
  go_region
  have X2 : Blk4 W.drew b _ _ _ _ _ := X1
  have V2 : Cv W.drew _ _ _ := V1
  have B2 := B1.drew
  go_wp2_with fail
  go_ret
  unfold StepPost; rw [hE.out]
  refine ⟨rfl, ?_, B2.setCell (by simpa using hlo2) _⟩
  rw [hR.out]
  exact ⟨_, _, _, _, X2.other (by simpa using nb2) _, V2.putTO ja (-1), o0, o1, o2, o3⟩

set_option maxRecDepth 100000 in
set_option maxHeartbeats 4000000 in
theorem copyStep_any (w : World) (lo b : Nat) (C : Cp) (hs : StoAt w lo b C) (hlo : lo ≤ b) (a q : Int) (hr : runB C ⟨2, a, q⟩ = true) :
    Calls Try.prog 152 #[.agg #[.int .i64 a, .int .i64 q], .pointer (some ⟨b, 0, none⟩)] w (StepPost w lo b C ⟨2, a, q⟩) := by
  have hE : Hid (runE C ⟨2, a, q⟩ = 0) := by unfold Hid runE doE; rw [if_pos hr]; simp
  obtain ⟨A0, n0, c0, A1, n1, c1, A2, n2, c2, A3, n3, c3, X, hv, ⟨o0, o1, o2, o3⟩, ⟨r0, r1, r2⟩, e0, e1, e2⟩ := hs.open_
  obtain ⟨hC, ho⟩ := runB_iff.1 hr
  obtain ⟨hvh, _⟩ := stoB_parts hC
  have h8 := hvB_len hvh
  obtain ⟨_, ⟨a0, a1, _⟩, ⟨b0, _⟩, hb7, hbn⟩ := opB_iff.1 ho
  simp only at a0 a1 b0 hb7 hbn
  obtain ⟨ja, rfl⟩ := Int.eq_ofNat_of_zero_le a0
  have na : ja < n2 := by omega
  have nai : (ja : Int) < (n2 : Int) := by omega
  have TA := rootA_at a0 a1
  simp only [Int.toNat_natCast] at TA
  obtain ⟨g2, xa, rfl, hlo2, hg2, hxa, hca, hza⟩ := r2.get (k := ja) (by omega)
  have hxa9 := hxa.out
  rw [TA, Option.some.injEq] at hxa9
  have nb2 : b ≠ g2 := fun e => o2 (by rw [e]; rfl)
  obtain ⟨jb, rfl⟩ := Int.eq_ofNat_of_zero_le b0
  have hbt : (jb : Int) < C.h.t.length := hbn (by omega)
  have nb : jb < n2 := by omega
  have nbi : (jb : Int) < (n2 : Int) := by omega
  have TB := rootA_at b0 hbt
  simp only [Int.toNat_natCast] at TB
  obtain ⟨_, xb, eb, _, _, hxb, hcb, _⟩ := r2.get (k := jb) (by omega)
  cases eb
  have hxb9 := hxb.out
  rw [TB, Option.some.injEq] at hxb9
  have hR : Hid (runC C ⟨2, (ja : Int), (jb : Int)⟩ = ⟨⟨C.h.l, C.h.r, C.h.t.set ja xb⟩, C.c⟩) := by unfold Hid runC doC; rw [if_pos hr]; simp [hxb9]
  have Y1 := Blk2.new w (.int .i64 (ja : Int)) (.int .i64 (jb : Int)) 142
  have X1 := X.alloc (.cells #[.int .i64 (ja : Int), .int .i64 (jb : Int)] 142)
  have V1 := hv.alloc (.cells #[.int .i64 (ja : Int), .int .i64 (jb : Int)] 142)
  have B1 : Below lo w (w.alloc (.cells #[.int .i64 (ja : Int), .int .i64 (jb : Int)] 142)) := (Below.refl lo w).alloc (by have := X.lt; omega) _
  have hWs : b < w.heap.size := X.lt
  have z1 : w.heap.size + 1 ≤ (w.alloc (.cells #[.int .i64 (ja : Int), .int .i64 (jb : Int)] 142)).heap.size := by simp
  have cb1 := cellA hcb (.cells #[.int .i64 (ja : Int), .int .i64 (jb : Int)] 142)
  have ca1 := cellA hca (.cells #[.int .i64 (ja : Int), .int .i64 (jb : Int)] 142)
  go_enter Try.func152, Try.ntmps152
  go_wp2_with fail
  generalize (w.alloc (.cells #[.int .i64 (ja : Int), .int .i64 (jb : Int)] 142)) = W at Y1 X1 V1 B1 z1 cb1 ca1 ⊢
  obtain ⟨y0, y1, _⟩ := Y1.cells
  obtain ⟨x0, x1, x2, x3, _⟩ := X1.cells
  obtain ⟨_, _, e9, _, _, _, _, za1⟩ := V1.rowsO.2.2.get (k := ja) (by omega)
  cases e9
  clear ho hs X hv r0 r1 r2 hca hza hcb TA hxa TB hxb hxa9 hxb9
  go_still_tail 17, (by kernel_rfl)
  change wpList _ _ _ _ _ W.drew
  have X2 : Blk4 W.drew b _ _ _ _ _ := X1
  have V2 : Cv W.drew _ _ _ := V1
  have B2 := B1.drew
  have ca2 := cellD ca1
  have za2 : W.drew.frozen? ⟨g2, ja, none⟩ = false := za1
  generalize W.drew = W2 at X2 V2 B2 ca2 za2 ⊢
  go_wp2_with fail
  go_ret
  unfold StepPost; rw [hE.out]
  refine ⟨rfl, ?_, B2.setCell (by simpa using hlo2) _⟩
  rw [hR.out]
  exact ⟨_, _, _, _, X2.other (by simpa using nb2) _, V2.putTO ja xb, o0, o1, o2, o3⟩

set_option maxRecDepth 100000 in
set_option maxHeartbeats 4000000 in
theorem readStep3_any (w : World) (lo b : Nat) (C : Cp) (hs : StoAt w lo b C) (hlo : lo ≤ b) (a q : Int) (hr : runB C ⟨3, a, q⟩ = true) :
    Calls Try.prog 153 #[.agg #[.int .i64 a, .int .i64 q, .bool false], .pointer (some ⟨b, 0, none⟩)] w (StepPost w lo b C ⟨3, a, q⟩) := by
  obtain ⟨A0, n0, c0, A1, n1, c1, A2, n2, c2, A3, n3, c3, X, hv, ⟨o0, o1, o2, o3⟩, ⟨r0, r1, r2⟩, e0, e1, e2⟩ := hs.open_
  obtain ⟨hC, ho⟩ := runB_iff.1 hr
  obtain ⟨hvh, _⟩ := stoB_parts hC
  have h8 := hvB_len hvh
  obtain ⟨_, ⟨a0, a1, _⟩, ⟨b0, _⟩, hb7, hbn⟩ := opB_iff.1 ho
  simp only at a0 a1 b0 hb7 hbn
  obtain ⟨ja, rfl⟩ := Int.eq_ofNat_of_zero_le a0
  have na : ja < n2 := by omega
  have nai : (ja : Int) < (n2 : Int) := by omega
  have TA := rootA_at a0 a1
  simp only [Int.toNat_natCast] at TA
  obtain ⟨g2, xa, rfl, hlo2, hg2, hxa, hca, hza⟩ := r2.get (k := ja) (by omega)
  have hxa9 := hxa.out
  rw [TA, Option.some.injEq] at hxa9
  have nb2 : b ≠ g2 := fun e => o2 (by rw [e]; rfl)
  obtain ⟨jb, rfl⟩ := Int.eq_ofNat_of_zero_le b0
  have hbt : (jb : Int) < C.h.t.length := hbn (by omega)
  have nb : jb < n2 := by omega
  have nbi : (jb : Int) < (n2 : Int) := by omega
  have TB := rootA_at b0 hbt
  simp only [Int.toNat_natCast] at TB
  obtain ⟨_, xb, eb, _, _, hxb, hcb, _⟩ := r2.get (k := jb) (by omega)
  cases eb
  have hxb9 := hxb.out
  rw [TB, Option.some.injEq] at hxb9
  have RG := rootA_range hvh b0 hbt
  rcases RG with e9 | ⟨kk, e9, hkk⟩
  · obtain rfl : xb = -1 := hxb9.symm.trans e9
    have hE : Hid (runE C ⟨3, (ja : Int), (jb : Int)⟩ = 2) := by unfold Hid runE doE; rw [if_pos hr]; simp [e9]
    have hR : Hid (runC C ⟨3, (ja : Int), (jb : Int)⟩ = C) := by unfold Hid runC doC; rw [if_pos hr]; simp [e9]
    clear e9 hxb9
    have Y1 := Blk3.new w (.int .i64 (ja : Int)) (.int .i64 (jb : Int)) (.bool false) 144
    have X1 := X.alloc (.cells #[.int .i64 (ja : Int), .int .i64 (jb : Int), .bool false] 144)
    have V1 := hv.alloc (.cells #[.int .i64 (ja : Int), .int .i64 (jb : Int), .bool false] 144)
    have B1 : Below lo w (w.alloc (.cells #[.int .i64 (ja : Int), .int .i64 (jb : Int), .bool false] 144)) := (Below.refl lo w).alloc (by have := X.lt; omega) _
    have hWs : b < w.heap.size := X.lt
    have z1 : w.heap.size + 1 ≤ (w.alloc (.cells #[.int .i64 (ja : Int), .int .i64 (jb : Int), .bool false] 144)).heap.size := by simp
    have cb1 := cellA hcb (.cells #[.int .i64 (ja : Int), .int .i64 (jb : Int), .bool false] 144)
    have ca1 := cellA hca (.cells #[.int .i64 (ja : Int), .int .i64 (jb : Int), .bool false] 144)
    go_enter Try.func153, Try.ntmps153
    go_wp2_with fail
    generalize (w.alloc (.cells #[.int .i64 (ja : Int), .int .i64 (jb : Int), .bool false] 144)) = W at Y1 X1 V1 B1 z1 cb1 ca1 ⊢
    obtain ⟨y0, y1, y2, _⟩ := Y1.cells
    obtain ⟨x0, x1, x2, x3, _⟩ := X1.cells
    go_quiet (fail)
    have X2 : Blk4 (W.drewN nq) _ _ _ _ _ _ := X1
    have V2 : Cv (W.drewN nq) _ _ _ := V1
    have B2 := below_drewN B1 nq
    go_wp2_with fail
    go_ret
    unfold StepPost; rw [hE.out]
    exact ⟨rfl, by rw [hR.out]; exact ⟨_, _, _, _, X2, V2, o0, o1, o2, o3⟩, B2⟩
  · have hkn : kk < n0 := by omega
    have hk1 : ¬ ((kk : Int) = -1) := by omega
    have hkb : ((kk : Int) == -1) = false := by rw [beq_eq_false_iff_ne]; omega
    obtain rfl : xb = (kk : Int) := hxb9.symm.trans e9
    obtain ⟨g0, xl, rfl, hlo3, hg3, hxl, hcl, _⟩ := r0.get (k := kk) (by omega)
    have hxl9 : C.h.l.getD kk (-1) = xl := by rw [List.getD_eq_getElem?_getD, hxl.out]; rfl
    have hE : Hid (runE C ⟨3, (ja : Int), (jb : Int)⟩ = 0) := by unfold Hid runE doE; rw [if_pos hr]; simp [e9, hk1]
    have hR : Hid (runC C ⟨3, (ja : Int), (jb : Int)⟩ = ⟨⟨C.h.l, C.h.r, C.h.t.set ja xl⟩, C.c⟩) := by rw [← hxl9]; unfold Hid runC doC; rw [if_pos hr]; simp [e9, hk1]
    have nb3 : b ≠ g0 := fun e => o0 (by rw [e]; rfl)
    have ng : g0 ≠ g2 := by obtain ⟨_, _, _, _, ee, ⟨_, _, _, ee2, _, _, _, _, a02, a12⟩, _⟩ := hv; cases ee; cases ee2; exact fun h => a02 g0 rfl (by rw [h]; rfl)
    have nw : w.heap.size ≠ g2 := by omega
    have hki : (kk : Int) < (n0 : Int) := by omega
    clear e9 hxb9 hxl9 hk1
    have Y1 := Blk3.new w (.int .i64 (ja : Int)) (.int .i64 (jb : Int)) (.bool false) 144
    have X1 := X.alloc (.cells #[.int .i64 (ja : Int), .int .i64 (jb : Int), .bool false] 144)
    have V1 := hv.alloc (.cells #[.int .i64 (ja : Int), .int .i64 (jb : Int), .bool false] 144)
    have B1 : Below lo w (w.alloc (.cells #[.int .i64 (ja : Int), .int .i64 (jb : Int), .bool false] 144)) := (Below.refl lo w).alloc (by have := X.lt; omega) _
    have hWs : b < w.heap.size := X.lt
    have z1 : w.heap.size + 1 ≤ (w.alloc (.cells #[.int .i64 (ja : Int), .int .i64 (jb : Int), .bool false] 144)).heap.size := by simp
    have cb1 := cellA hcb (.cells #[.int .i64 (ja : Int), .int .i64 (jb : Int), .bool false] 144)
    have ca1 := cellA hca (.cells #[.int .i64 (ja : Int), .int .i64 (jb : Int), .bool false] 144)
    have cl1 := cellA hcl (.cells #[.int .i64 (ja : Int), .int .i64 (jb : Int), .bool false] 144)
    go_enter Try.func153, Try.ntmps153
    go_wp2_with fail
    generalize (w.alloc (.cells #[.int .i64 (ja : Int), .int .i64 (jb : Int), .bool false] 144)) = W at Y1 X1 V1 B1 z1 cb1 ca1 cl1 ⊢
    obtain ⟨y0, y1, y2, _⟩ := Y1.cells
    obtain ⟨x0, x1, x2, x3, _⟩ := X1.cells
    clear ho hs X hv r0 r1 r2 hca hza hcb TA hxa TB hcl hxb
    go_quiet (fail)
    have X2 : Blk4 (W.drewN nq) _ _ _ _ _ _ := X1
    have Y2 : Blk3 (W.drewN nq) _ _ _ _ _ := Y1
    have V2 : Cv (W.drewN nq) _ _ _ := V1
    have B2 := below_drewN B1 nq
    have z2 : w.heap.size + 1 ≤ (W.drewN nq).heap.size := z1
    clear X1 Y1 V1 B1 z1 x0 x1 x2 x3 y0 y1 y2
    go_wp2_with fail
    generalize W.drewN nq = W2 at X2 Y2 V2 B2 z2 ⊢
    obtain ⟨y0, y1, y2, _⟩ := Y2.cells
    obtain ⟨x0, x1, x2, x3, _⟩ := X2.cells
    obtain ⟨_, vl2, e8, _, gl2, hl2, cl2, _⟩ := V2.rowsO.1.get (k := kk) (by omega)
    cases e8
    obtain rfl : vl2 = xl := by have h9 := hl2.out; rw [hxl.out] at h9; simpa using h9.symm
    clear hl2 hxl
    go_region_held3 (fun w' => w'.cell? ⟨w.heap.size, 0, none⟩ = some (.int .i64 (ja : Int)) ∧ w'.cell? ⟨w.heap.size, 1, none⟩ = some (.int .i64 (jb : Int)) ∧ w'.cell? ⟨w.heap.size, 2, none⟩ = some (.bool false) ∧ w'.cell? ⟨b, 0, none⟩ = some (.slice (some ⟨g0, 0, none⟩) n0 c0) ∧ w'.cell? ⟨b, 1, none⟩ = some (.slice A1 n1 c1) ∧ w'.cell? ⟨b, 2, none⟩ = some (.slice (some ⟨g2, 0, none⟩) n2 c2) ∧ w'.cell? ⟨b, 3, none⟩ = some (.slice A3 n3 c3) ∧ w'.cell? ⟨g0, kk, none⟩ = some (.int .i64 vl2))
      (((try dsimp only); (repeat' apply And.intro) <;> (with_reducible (first | exact cellSo p0 nw | exact cellSo p1 nw | exact cellSo p2 nw | exact cellSo q0 nb2 | exact cellSo q1 nb2 | exact cellSo q2 nb2 | exact cellSo q3 nb2 | exact cellSo cl3 ng | exact p0 | exact p1 | exact p2 | exact q0 | exact q1 | exact q2 | exact q3 | exact cl3 | exact cellD y0 | exact cellD y1 | exact cellD y2 | exact cellD x0 | exact cellD x1 | exact cellD x2 | exact cellD x3 | exact cellD cl2 | exact y0 | exact y1 | exact y2 | exact x0 | exact x1 | exact x2 | exact x3 | exact cl2))))
      ((go_at_call 149; (with_reducible refine (sideOf_any W2.drew _ _ _ _).mono ?_); rintro e w3 ⟨rfl, hb30⟩; (have hb3 : Below W2.heap.size W2 w3 := (Below.refl W2.heap.size W2).drew.trans hb30); (have X3 := X2.below hb3); (have Y3 := Y2.below hb3); (have V3 := V2.below hb3); (obtain ⟨p0, p1, p2, _⟩ := Y3.cells); (obtain ⟨q0, q1, q2, q3, _⟩ := X3.cells); (have cl3 := (hb3.cell (p := ⟨g0, kk, none⟩) gl2).trans cl2); (obtain ⟨_, vs3, e7, _, _, _, cs3, fs3⟩ := V3.rowsO.2.2.get (k := ja) (by omega)); cases e7))
    rename_i hHeld
    clear hHeld
    have B3 : Below lo w w3 := B2.trans (hb3.mono (by omega))
    go_wp2_with fail
    go_ret
    unfold StepPost; rw [hE.out]
    refine ⟨rfl, ?_, B3.setCell (by simpa using hlo2) _⟩
    rw [hR.out]
    exact ⟨_, _, _, _, X3.other (by simpa using nb2) _, V3.putTO ja _, o0, o1, o2, o3⟩

set_option maxRecDepth 100000 in
set_option maxHeartbeats 4000000 in
theorem readStep4_any (w : World) (lo b : Nat) (C : Cp) (hs : StoAt w lo b C) (hlo : lo ≤ b) (a q : Int) (hr : runB C ⟨4, a, q⟩ = true) :
    Calls Try.prog 153 #[.agg #[.int .i64 a, .int .i64 q, .bool true], .pointer (some ⟨b, 0, none⟩)] w (StepPost w lo b C ⟨4, a, q⟩) := by
  obtain ⟨A0, n0, c0, A1, n1, c1, A2, n2, c2, A3, n3, c3, X, hv, ⟨o0, o1, o2, o3⟩, ⟨r0, r1, r2⟩, e0, e1, e2⟩ := hs.open_
  obtain ⟨hC, ho⟩ := runB_iff.1 hr
  obtain ⟨hvh, _⟩ := stoB_parts hC
  have h8 := hvB_len hvh
  obtain ⟨_, ⟨a0, a1, _⟩, ⟨b0, _⟩, hb7, hbn⟩ := opB_iff.1 ho
  simp only at a0 a1 b0 hb7 hbn
  obtain ⟨ja, rfl⟩ := Int.eq_ofNat_of_zero_le a0
  have na : ja < n2 := by omega
  have nai : (ja : Int) < (n2 : Int) := by omega
  have TA := rootA_at a0 a1
  simp only [Int.toNat_natCast] at TA
  obtain ⟨g2, xa, rfl, hlo2, hg2, hxa, hca, hza⟩ := r2.get (k := ja) (by omega)
  have hxa9 := hxa.out
  rw [TA, Option.some.injEq] at hxa9
  have nb2 : b ≠ g2 := fun e => o2 (by rw [e]; rfl)
  obtain ⟨jb, rfl⟩ := Int.eq_ofNat_of_zero_le b0
  have hbt : (jb : Int) < C.h.t.length := hbn (by omega)
  have nb : jb < n2 := by omega
  have nbi : (jb : Int) < (n2 : Int) := by omega
  have TB := rootA_at b0 hbt
  simp only [Int.toNat_natCast] at TB
  obtain ⟨_, xb, eb, _, _, hxb, hcb, _⟩ := r2.get (k := jb) (by omega)
  cases eb
  have hxb9 := hxb.out
  rw [TB, Option.some.injEq] at hxb9
  have RG := rootA_range hvh b0 hbt
  rcases RG with e9 | ⟨kk, e9, hkk⟩
  · obtain rfl : xb = -1 := hxb9.symm.trans e9
    have hE : Hid (runE C ⟨4, (ja : Int), (jb : Int)⟩ = 2) := by unfold Hid runE doE; rw [if_pos hr]; simp [e9]
    have hR : Hid (runC C ⟨4, (ja : Int), (jb : Int)⟩ = C) := by unfold Hid runC doC; rw [if_pos hr]; simp [e9]
    clear e9 hxb9
    have Y1 := Blk3.new w (.int .i64 (ja : Int)) (.int .i64 (jb : Int)) (.bool true) 144
    have X1 := X.alloc (.cells #[.int .i64 (ja : Int), .int .i64 (jb : Int), .bool true] 144)
    have V1 := hv.alloc (.cells #[.int .i64 (ja : Int), .int .i64 (jb : Int), .bool true] 144)
    have B1 : Below lo w (w.alloc (.cells #[.int .i64 (ja : Int), .int .i64 (jb : Int), .bool true] 144)) := (Below.refl lo w).alloc (by have := X.lt; omega) _
    have hWs : b < w.heap.size := X.lt
    have z1 : w.heap.size + 1 ≤ (w.alloc (.cells #[.int .i64 (ja : Int), .int .i64 (jb : Int), .bool true] 144)).heap.size := by simp
    have cb1 := cellA hcb (.cells #[.int .i64 (ja : Int), .int .i64 (jb : Int), .bool true] 144)
    have ca1 := cellA hca (.cells #[.int .i64 (ja : Int), .int .i64 (jb : Int), .bool true] 144)
    go_enter Try.func153, Try.ntmps153
    go_wp2_with fail
    generalize (w.alloc (.cells #[.int .i64 (ja : Int), .int .i64 (jb : Int), .bool true] 144)) = W at Y1 X1 V1 B1 z1 cb1 ca1 ⊢
    obtain ⟨y0, y1, y2, _⟩ := Y1.cells
    obtain ⟨x0, x1, x2, x3, _⟩ := X1.cells
    go_quiet (fail)
    have X2 : Blk4 (W.drewN nq) _ _ _ _ _ _ := X1
    have V2 : Cv (W.drewN nq) _ _ _ := V1
    have B2 := below_drewN B1 nq
    go_wp2_with fail
    go_ret
    unfold StepPost; rw [hE.out]
    exact ⟨rfl, by rw [hR.out]; exact ⟨_, _, _, _, X2, V2, o0, o1, o2, o3⟩, B2⟩
  · have hkn : kk < n1 := by omega
    have hk1 : ¬ ((kk : Int) = -1) := by omega
    have hkb : ((kk : Int) == -1) = false := by rw [beq_eq_false_iff_ne]; omega
    obtain rfl : xb = (kk : Int) := hxb9.symm.trans e9
    obtain ⟨g1, xl, rfl, hlo3, hg3, hxl, hcl, _⟩ := r1.get (k := kk) (by omega)
    have hxl9 : C.h.r.getD kk (-1) = xl := by rw [List.getD_eq_getElem?_getD, hxl.out]; rfl
    have hE : Hid (runE C ⟨4, (ja : Int), (jb : Int)⟩ = 0) := by unfold Hid runE doE; rw [if_pos hr]; simp [e9, hk1]
    have hR : Hid (runC C ⟨4, (ja : Int), (jb : Int)⟩ = ⟨⟨C.h.l, C.h.r, C.h.t.set ja xl⟩, C.c⟩) := by rw [← hxl9]; unfold Hid runC doC; rw [if_pos hr]; simp [e9, hk1]
    have nb3 : b ≠ g1 := fun e => o1 (by rw [e]; rfl)
    have ng : g1 ≠ g2 := by obtain ⟨_, _, _, _, ee, ⟨_, _, _, ee2, _, _, _, _, a02, a12⟩, _⟩ := hv; cases ee; cases ee2; exact fun h => a12 g1 rfl (by rw [h]; rfl)
    have nw : w.heap.size ≠ g2 := by omega
    have hki : (kk : Int) < (n1 : Int) := by omega
    clear e9 hxb9 hxl9 hk1
    have Y1 := Blk3.new w (.int .i64 (ja : Int)) (.int .i64 (jb : Int)) (.bool true) 144
    have X1 := X.alloc (.cells #[.int .i64 (ja : Int), .int .i64 (jb : Int), .bool true] 144)
    have V1 := hv.alloc (.cells #[.int .i64 (ja : Int), .int .i64 (jb : Int), .bool true] 144)
    have B1 : Below lo w (w.alloc (.cells #[.int .i64 (ja : Int), .int .i64 (jb : Int), .bool true] 144)) := (Below.refl lo w).alloc (by have := X.lt; omega) _
    have hWs : b < w.heap.size := X.lt
    have z1 : w.heap.size + 1 ≤ (w.alloc (.cells #[.int .i64 (ja : Int), .int .i64 (jb : Int), .bool true] 144)).heap.size := by simp
    have cb1 := cellA hcb (.cells #[.int .i64 (ja : Int), .int .i64 (jb : Int), .bool true] 144)
    have ca1 := cellA hca (.cells #[.int .i64 (ja : Int), .int .i64 (jb : Int), .bool true] 144)
    have cl1 := cellA hcl (.cells #[.int .i64 (ja : Int), .int .i64 (jb : Int), .bool true] 144)
    go_enter Try.func153, Try.ntmps153
    go_wp2_with fail
    generalize (w.alloc (.cells #[.int .i64 (ja : Int), .int .i64 (jb : Int), .bool true] 144)) = W at Y1 X1 V1 B1 z1 cb1 ca1 cl1 ⊢
    obtain ⟨y0, y1, y2, _⟩ := Y1.cells
    obtain ⟨x0, x1, x2, x3, _⟩ := X1.cells
    clear ho hs X hv r0 r1 r2 hca hza hcb TA hxa TB hcl hxb
    go_quiet (fail)
    have X2 : Blk4 (W.drewN nq) _ _ _ _ _ _ := X1
    have Y2 : Blk3 (W.drewN nq) _ _ _ _ _ := Y1
    have V2 : Cv (W.drewN nq) _ _ _ := V1
    have B2 := below_drewN B1 nq
    have z2 : w.heap.size + 1 ≤ (W.drewN nq).heap.size := z1
    clear X1 Y1 V1 B1 z1 x0 x1 x2 x3 y0 y1 y2
    go_wp2_with fail
    generalize W.drewN nq = W2 at X2 Y2 V2 B2 z2 ⊢
    obtain ⟨y0, y1, y2, _⟩ := Y2.cells
    obtain ⟨x0, x1, x2, x3, _⟩ := X2.cells
    obtain ⟨_, vl2, e8, _, gl2, hl2, cl2, _⟩ := V2.rowsO.2.1.get (k := kk) (by omega)
    cases e8
    obtain rfl : vl2 = xl := by have h9 := hl2.out; rw [hxl.out] at h9; simpa using h9.symm
    clear hl2 hxl
    go_region_held3 (fun w' => w'.cell? ⟨w.heap.size, 0, none⟩ = some (.int .i64 (ja : Int)) ∧ w'.cell? ⟨w.heap.size, 1, none⟩ = some (.int .i64 (jb : Int)) ∧ w'.cell? ⟨w.heap.size, 2, none⟩ = some (.bool true) ∧ w'.cell? ⟨b, 0, none⟩ = some (.slice A0 n0 c0) ∧ w'.cell? ⟨b, 1, none⟩ = some (.slice (some ⟨g1, 0, none⟩) n1 c1) ∧ w'.cell? ⟨b, 2, none⟩ = some (.slice (some ⟨g2, 0, none⟩) n2 c2) ∧ w'.cell? ⟨b, 3, none⟩ = some (.slice A3 n3 c3) ∧ w'.cell? ⟨g1, kk, none⟩ = some (.int .i64 vl2))
      (((try dsimp only); (repeat' apply And.intro) <;> (with_reducible (first | exact cellSo p0 nw | exact cellSo p1 nw | exact cellSo p2 nw | exact cellSo q0 nb2 | exact cellSo q1 nb2 | exact cellSo q2 nb2 | exact cellSo q3 nb2 | exact cellSo cl3 ng | exact p0 | exact p1 | exact p2 | exact q0 | exact q1 | exact q2 | exact q3 | exact cl3 | exact cellD y0 | exact cellD y1 | exact cellD y2 | exact cellD x0 | exact cellD x1 | exact cellD x2 | exact cellD x3 | exact cellD cl2 | exact y0 | exact y1 | exact y2 | exact x0 | exact x1 | exact x2 | exact x3 | exact cl2))))
      ((go_at_call 149; (with_reducible refine (sideOf_any W2.drew _ _ _ _).mono ?_); rintro e w3 ⟨rfl, hb30⟩; (have hb3 : Below W2.heap.size W2 w3 := (Below.refl W2.heap.size W2).drew.trans hb30); (have X3 := X2.below hb3); (have Y3 := Y2.below hb3); (have V3 := V2.below hb3); (obtain ⟨p0, p1, p2, _⟩ := Y3.cells); (obtain ⟨q0, q1, q2, q3, _⟩ := X3.cells); (have cl3 := (hb3.cell (p := ⟨g1, kk, none⟩) gl2).trans cl2); (obtain ⟨_, vs3, e7, _, _, _, cs3, fs3⟩ := V3.rowsO.2.2.get (k := ja) (by omega)); cases e7))
    rename_i hHeld
    clear hHeld
    have B3 : Below lo w w3 := B2.trans (hb3.mono (by omega))
    go_wp2_with fail
    go_ret
    unfold StepPost; rw [hE.out]
    refine ⟨rfl, ?_, B3.setCell (by simpa using hlo2) _⟩
    rw [hR.out]
    exact ⟨_, _, _, _, X3.other (by simpa using nb2) _, V3.putTO ja _, o0, o1, o2, o3⟩

set_option maxRecDepth 100000 in
set_option maxHeartbeats 4000000 in
theorem putStep5_any (w : World) (lo b : Nat) (C : Cp) (hs : StoAt w lo b C) (hlo : lo ≤ b) (a q : Int) (hr : runB C ⟨5, a, q⟩ = true) :
    Calls Try.prog 148 #[.agg #[.int .i64 a, .int .i64 q, .bool false], .pointer (some ⟨b, 0, none⟩)] w (StepPost w lo b C ⟨5, a, q⟩) := by
  obtain ⟨A0, n0, c0, A1, n1, c1, A2, n2, c2, A3, n3, c3, X, hv, ⟨o0, o1, o2, o3⟩, ⟨r0, r1, r2⟩, e0, e1, e2⟩ := hs.open_
  obtain ⟨hC, ho⟩ := runB_iff.1 hr
  obtain ⟨hvh, _⟩ := stoB_parts hC
  have h8 := hvB_len hvh
  obtain ⟨_, ⟨a0, a1, _⟩, ⟨b0, _⟩, hb7, hbn⟩ := opB_iff.1 ho
  simp only at a0 a1 b0 hb7 hbn
  obtain ⟨ja, rfl⟩ := Int.eq_ofNat_of_zero_le a0
  have na : ja < n2 := by omega
  have nai : (ja : Int) < (n2 : Int) := by omega
  have TA := rootA_at a0 a1
  simp only [Int.toNat_natCast] at TA
  obtain ⟨g2, xa, rfl, hlo2, hg2, hxa, hca, hza⟩ := r2.get (k := ja) (by omega)
  have hxa9 := hxa.out
  rw [TA, Option.some.injEq] at hxa9
  have nb2 : b ≠ g2 := fun e => o2 (by rw [e]; rfl)
  obtain ⟨jb, rfl⟩ := Int.eq_ofNat_of_zero_le b0
  have hbt : (jb : Int) < C.h.t.length := hbn (by omega)
  have nb : jb < n2 := by omega
  have nbi : (jb : Int) < (n2 : Int) := by omega
  have TB := rootA_at b0 hbt
  simp only [Int.toNat_natCast] at TB
  obtain ⟨_, xb, eb, _, _, hxb, hcb, _⟩ := r2.get (k := jb) (by omega)
  cases eb
  have hxb9 := hxb.out
  rw [TB, Option.some.injEq] at hxb9
  have RG := rootA_range hvh a0 a1
  rcases RG with e9 | ⟨kk, e9, hkk⟩
  · obtain rfl : xa = -1 := hxa9.symm.trans e9
    have hE : Hid (runE C ⟨5, (ja : Int), (jb : Int)⟩ = 2) := by unfold Hid runE doE; rw [if_pos hr]; simp [e9]
    have hR : Hid (runC C ⟨5, (ja : Int), (jb : Int)⟩ = C) := by unfold Hid runC doC; rw [if_pos hr]; simp [e9]
    clear e9 hxa9
    have Y1 := Blk3.new w (.int .i64 (ja : Int)) (.int .i64 (jb : Int)) (.bool false) 113
    have X1 := X.alloc (.cells #[.int .i64 (ja : Int), .int .i64 (jb : Int), .bool false] 113)
    have V1 := hv.alloc (.cells #[.int .i64 (ja : Int), .int .i64 (jb : Int), .bool false] 113)
    have B1 : Below lo w (w.alloc (.cells #[.int .i64 (ja : Int), .int .i64 (jb : Int), .bool false] 113)) := (Below.refl lo w).alloc (by have := X.lt; omega) _
    have hWs : b < w.heap.size := X.lt
    have z1 : w.heap.size + 1 ≤ (w.alloc (.cells #[.int .i64 (ja : Int), .int .i64 (jb : Int), .bool false] 113)).heap.size := by simp
    have cb1 := cellA hcb (.cells #[.int .i64 (ja : Int), .int .i64 (jb : Int), .bool false] 113)
    have ca1 := cellA hca (.cells #[.int .i64 (ja : Int), .int .i64 (jb : Int), .bool false] 113)
    go_enter Try.func148, Try.ntmps148
    go_wp2_with fail
    generalize (w.alloc (.cells #[.int .i64 (ja : Int), .int .i64 (jb : Int), .bool false] 113)) = W at Y1 X1 V1 B1 z1 cb1 ca1 ⊢
    obtain ⟨y0, y1, y2, _⟩ := Y1.cells
    obtain ⟨x0, x1, x2, x3, _⟩ := X1.cells
    go_quiet (fail)
    have X2 : Blk4 (W.drewN nq) _ _ _ _ _ _ := X1
    have V2 : Cv (W.drewN nq) _ _ _ := V1
    have B2 := below_drewN B1 nq
    go_wp2_with fail
    go_ret
    unfold StepPost; rw [hE.out]
    exact ⟨rfl, by rw [hR.out]; exact ⟨_, _, _, _, X2, V2, o0, o1, o2, o3⟩, B2⟩
  · have hkn : kk < n0 := by omega
    have hk1 : ¬ ((kk : Int) = -1) := by omega
    have hkb : ((kk : Int) == -1) = false := by rw [beq_eq_false_iff_ne]; omega
    obtain rfl : xa = (kk : Int) := hxa9.symm.trans e9
    obtain ⟨g0, xl, rfl, hlo3, hg3, hxl, hcl, _⟩ := r0.get (k := kk) (by omega)
    have hxl9 : C.h.l.getD kk (-1) = xl := by rw [List.getD_eq_getElem?_getD, hxl.out]; rfl
    have hE : Hid (runE C ⟨5, (ja : Int), (jb : Int)⟩ = 0) := by unfold Hid runE doE; rw [if_pos hr]; simp [e9, hk1]
    have hR : Hid (runC C ⟨5, (ja : Int), (jb : Int)⟩ = ⟨⟨C.h.l.set kk xb, C.h.r, C.h.t⟩, C.c⟩) := by unfold Hid runC doC; rw [if_pos hr]; simp [e9, hk1, hxb9]
    have nb3 : b ≠ g0 := fun e => o0 (by rw [e]; rfl)
    have ng : g0 ≠ g2 := by obtain ⟨_, _, _, _, ee, ⟨_, _, _, ee2, _, _, _, _, a02, a12⟩, _⟩ := hv; cases ee; cases ee2; exact fun h => a02 g0 rfl (by rw [h]; rfl)
    have nw : w.heap.size ≠ g0 := by omega
    have ng2 := ng.symm
    have hki : (kk : Int) < (n0 : Int) := by omega
    clear e9 hxa9 hxl9 hk1
    have Y1 := Blk3.new w (.int .i64 (ja : Int)) (.int .i64 (jb : Int)) (.bool false) 113
    have X1 := X.alloc (.cells #[.int .i64 (ja : Int), .int .i64 (jb : Int), .bool false] 113)
    have V1 := hv.alloc (.cells #[.int .i64 (ja : Int), .int .i64 (jb : Int), .bool false] 113)
    have B1 : Below lo w (w.alloc (.cells #[.int .i64 (ja : Int), .int .i64 (jb : Int), .bool false] 113)) := (Below.refl lo w).alloc (by have := X.lt; omega) _
    have hWs : b < w.heap.size := X.lt
    have z1 : w.heap.size + 1 ≤ (w.alloc (.cells #[.int .i64 (ja : Int), .int .i64 (jb : Int), .bool false] 113)).heap.size := by simp
    have cb1 := cellA hcb (.cells #[.int .i64 (ja : Int), .int .i64 (jb : Int), .bool false] 113)
    have ca1 := cellA hca (.cells #[.int .i64 (ja : Int), .int .i64 (jb : Int), .bool false] 113)
    have cl1 := cellA hcl (.cells #[.int .i64 (ja : Int), .int .i64 (jb : Int), .bool false] 113)
    go_enter Try.func148, Try.ntmps148
    go_wp2_with fail
    generalize (w.alloc (.cells #[.int .i64 (ja : Int), .int .i64 (jb : Int), .bool false] 113)) = W at Y1 X1 V1 B1 z1 cb1 ca1 cl1 ⊢
    obtain ⟨y0, y1, y2, _⟩ := Y1.cells
    obtain ⟨x0, x1, x2, x3, _⟩ := X1.cells
    clear ho hs X hv r0 r1 r2 hca hza hcb TA hxa TB hcl hxl
    go_quiet (fail)
    have X2 : Blk4 (W.drewN nq) _ _ _ _ _ _ := X1
    have Y2 : Blk3 (W.drewN nq) _ _ _ _ _ := Y1
    have V2 : Cv (W.drewN nq) _ _ _ := V1
    have B2 := below_drewN B1 nq
    have z2 : w.heap.size + 1 ≤ (W.drewN nq).heap.size := z1
    clear X1 Y1 V1 B1 z1 x0 x1 x2 x3 y0 y1 y2
    go_wp2_with fail
    generalize W.drewN nq = W2 at X2 Y2 V2 B2 z2 ⊢
    obtain ⟨y0, y1, y2, _⟩ := Y2.cells
    obtain ⟨x0, x1, x2, x3, _⟩ := X2.cells
    obtain ⟨_, vl2, e8, _, gl2, hl2, cl2, _⟩ := V2.rowsO.2.2.get (k := jb) (by omega)
    cases e8
    obtain rfl : vl2 = xb := by have h9 := hl2.out; rw [hxb.out] at h9; simpa using h9.symm
    clear hl2 hxb
    go_region_held3 (fun w' => w'.cell? ⟨w.heap.size, 0, none⟩ = some (.int .i64 (ja : Int)) ∧ w'.cell? ⟨w.heap.size, 1, none⟩ = some (.int .i64 (jb : Int)) ∧ w'.cell? ⟨w.heap.size, 2, none⟩ = some (.bool false) ∧ w'.cell? ⟨b, 0, none⟩ = some (.slice (some ⟨g0, 0, none⟩) n0 c0) ∧ w'.cell? ⟨b, 1, none⟩ = some (.slice A1 n1 c1) ∧ w'.cell? ⟨b, 2, none⟩ = some (.slice (some ⟨g2, 0, none⟩) n2 c2) ∧ w'.cell? ⟨b, 3, none⟩ = some (.slice A3 n3 c3) ∧ w'.cell? ⟨g2, jb, none⟩ = some (.int .i64 vl2))
      (((try dsimp only); (repeat' apply And.intro) <;> (with_reducible (first | exact cellSo p0 nw | exact cellSo p1 nw | exact cellSo p2 nw | exact cellSo q0 nb3 | exact cellSo q1 nb3 | exact cellSo q2 nb3 | exact cellSo q3 nb3 | exact cellSo cl3 ng2 | exact p0 | exact p1 | exact p2 | exact q0 | exact q1 | exact q2 | exact q3 | exact cl3 | exact cellD y0 | exact cellD y1 | exact cellD y2 | exact cellD x0 | exact cellD x1 | exact cellD x2 | exact cellD x3 | exact cellD cl2 | exact y0 | exact y1 | exact y2 | exact x0 | exact x1 | exact x2 | exact x3 | exact cl2))))
      ((go_at_call 149; (with_reducible refine (sideOf_any W2.drew _ _ _ _).mono ?_); rintro e w3 ⟨rfl, hb30⟩; (have hb3 : Below W2.heap.size W2 w3 := (Below.refl W2.heap.size W2).drew.trans hb30); (have X3 := X2.below hb3); (have Y3 := Y2.below hb3); (have V3 := V2.below hb3); (obtain ⟨p0, p1, p2, _⟩ := Y3.cells); (obtain ⟨q0, q1, q2, q3, _⟩ := X3.cells); (have cl3 := (hb3.cell (p := ⟨g2, jb, none⟩) gl2).trans cl2); (obtain ⟨_, vs3, e7, _, _, _, cs3, fs3⟩ := V3.rowsO.1.get (k := kk) (by omega)); cases e7))
    rename_i hHeld
    clear hHeld
    have B3 : Below lo w w3 := B2.trans (hb3.mono (by omega))
    go_wp2_with fail
    go_ret
    unfold StepPost; rw [hE.out]
    refine ⟨rfl, ?_, B3.setCell (by simpa using hlo3) _⟩
    rw [hR.out]
    exact ⟨_, _, _, _, X3.other (by simpa using nb3) _, V3.putLO kk _, o0, o1, o2, o3⟩

set_option maxRecDepth 100000 in
set_option maxHeartbeats 4000000 in
theorem putStep6_any (w : World) (lo b : Nat) (C : Cp) (hs : StoAt w lo b C) (hlo : lo ≤ b) (a q : Int) (hr : runB C ⟨6, a, q⟩ = true) :
    Calls Try.prog 148 #[.agg #[.int .i64 a, .int .i64 q, .bool true], .pointer (some ⟨b, 0, none⟩)] w (StepPost w lo b C ⟨6, a, q⟩) := by
  obtain ⟨A0, n0, c0, A1, n1, c1, A2, n2, c2, A3, n3, c3, X, hv, ⟨o0, o1, o2, o3⟩, ⟨r0, r1, r2⟩, e0, e1, e2⟩ := hs.open_
  obtain ⟨hC, ho⟩ := runB_iff.1 hr
  obtain ⟨hvh, _⟩ := stoB_parts hC
  have h8 := hvB_len hvh
  obtain ⟨_, ⟨a0, a1, _⟩, ⟨b0, _⟩, hb7, hbn⟩ := opB_iff.1 ho
  simp only at a0 a1 b0 hb7 hbn
  obtain ⟨ja, rfl⟩ := Int.eq_ofNat_of_zero_le a0
  have na : ja < n2 := by omega
  have nai : (ja : Int) < (n2 : Int) := by omega
  have TA := rootA_at a0 a1
  simp only [Int.toNat_natCast] at TA
  obtain ⟨g2, xa, rfl, hlo2, hg2, hxa, hca, hza⟩ := r2.get (k := ja) (by omega)
  have hxa9 := hxa.out
  rw [TA, Option.some.injEq] at hxa9
  have nb2 : b ≠ g2 := fun e => o2 (by rw [e]; rfl)
  obtain ⟨jb, rfl⟩ := Int.eq_ofNat_of_zero_le b0
  have hbt : (jb : Int) < C.h.t.length := hbn (by omega)
  have nb : jb < n2 := by omega
  have nbi : (jb : Int) < (n2 : Int) := by omega
  have TB := rootA_at b0 hbt
  simp only [Int.toNat_natCast] at TB
  obtain ⟨_, xb, eb, _, _, hxb, hcb, _⟩ := r2.get (k := jb) (by omega)
  cases eb
  have hxb9 := hxb.out
  rw [TB, Option.some.injEq] at hxb9
  have RG := rootA_range hvh a0 a1
  rcases RG with e9 | ⟨kk, e9, hkk⟩
  · obtain rfl : xa = -1 := hxa9.symm.trans e9
    have hE : Hid (runE C ⟨6, (ja : Int), (jb : Int)⟩ = 2) := by unfold Hid runE doE; rw [if_pos hr]; simp [e9]
    have hR : Hid (runC C ⟨6, (ja : Int), (jb : Int)⟩ = C) := by unfold Hid runC doC; rw [if_pos hr]; simp [e9]
    clear e9 hxa9
    have Y1 := Blk3.new w (.int .i64 (ja : Int)) (.int .i64 (jb : Int)) (.bool true) 113
    have X1 := X.alloc (.cells #[.int .i64 (ja : Int), .int .i64 (jb : Int), .bool true] 113)
    have V1 := hv.alloc (.cells #[.int .i64 (ja : Int), .int .i64 (jb : Int), .bool true] 113)
    have B1 : Below lo w (w.alloc (.cells #[.int .i64 (ja : Int), .int .i64 (jb : Int), .bool true] 113)) := (Below.refl lo w).alloc (by have := X.lt; omega) _
    have hWs : b < w.heap.size := X.lt
    have z1 : w.heap.size + 1 ≤ (w.alloc (.cells #[.int .i64 (ja : Int), .int .i64 (jb : Int), .bool true] 113)).heap.size := by simp
    have cb1 := cellA hcb (.cells #[.int .i64 (ja : Int), .int .i64 (jb : Int), .bool true] 113)
    have ca1 := cellA hca (.cells #[.int .i64 (ja : Int), .int .i64 (jb : Int), .bool true] 113)
    go_enter Try.func148, Try.ntmps148
    go_wp2_with fail
    generalize (w.alloc (.cells #[.int .i64 (ja : Int), .int .i64 (jb : Int), .bool true] 113)) = W at Y1 X1 V1 B1 z1 cb1 ca1 ⊢
    obtain ⟨y0, y1, y2, _⟩ := Y1.cells
    obtain ⟨x0, x1, x2, x3, _⟩ := X1.cells
    go_quiet (fail)
    have X2 : Blk4 (W.drewN nq) _ _ _ _ _ _ := X1
    have V2 : Cv (W.drewN nq) _ _ _ := V1
    have B2 := below_drewN B1 nq
    go_wp2_with fail
    go_ret
    unfold StepPost; rw [hE.out]
    exact ⟨rfl, by rw [hR.out]; exact ⟨_, _, _, _, X2, V2, o0, o1, o2, o3⟩, B2⟩
  · have hkn : kk < n1 := by omega
    have hk1 : ¬ ((kk : Int) = -1) := by omega
    have hkb : ((kk : Int) == -1) = false := by rw [beq_eq_false_iff_ne]; omega
    obtain rfl : xa = (kk : Int) := hxa9.symm.trans e9
    obtain ⟨g1, xl, rfl, hlo3, hg3, hxl, hcl, _⟩ := r1.get (k := kk) (by omega)
    have hxl9 : C.h.r.getD kk (-1) = xl := by rw [List.getD_eq_getElem?_getD, hxl.out]; rfl
    have hE : Hid (runE C ⟨6, (ja : Int), (jb : Int)⟩ = 0) := by unfold Hid runE doE; rw [if_pos hr]; simp [e9, hk1]
    have hR : Hid (runC C ⟨6, (ja : Int), (jb : Int)⟩ = ⟨⟨C.h.l, C.h.r.set kk xb, C.h.t⟩, C.c⟩) := by unfold Hid runC doC; rw [if_pos hr]; simp [e9, hk1, hxb9]
    have nb3 : b ≠ g1 := fun e => o1 (by rw [e]; rfl)
    have ng : g1 ≠ g2 := by obtain ⟨_, _, _, _, ee, ⟨_, _, _, ee2, _, _, _, _, a02, a12⟩, _⟩ := hv; cases ee; cases ee2; exact fun h => a12 g1 rfl (by rw [h]; rfl)
    have nw : w.heap.size ≠ g1 := by omega
    have ng2 := ng.symm
    have hki : (kk : Int) < (n1 : Int) := by omega
    clear e9 hxa9 hxl9 hk1
    have Y1 := Blk3.new w (.int .i64 (ja : Int)) (.int .i64 (jb : Int)) (.bool true) 113
    have X1 := X.alloc (.cells #[.int .i64 (ja : Int), .int .i64 (jb : Int), .bool true] 113)
    have V1 := hv.alloc (.cells #[.int .i64 (ja : Int), .int .i64 (jb : Int), .bool true] 113)
    have B1 : Below lo w (w.alloc (.cells #[.int .i64 (ja : Int), .int .i64 (jb : Int), .bool true] 113)) := (Below.refl lo w).alloc (by have := X.lt; omega) _
    have hWs : b < w.heap.size := X.lt
    have z1 : w.heap.size + 1 ≤ (w.alloc (.cells #[.int .i64 (ja : Int), .int .i64 (jb : Int), .bool true] 113)).heap.size := by simp
    have cb1 := cellA hcb (.cells #[.int .i64 (ja : Int), .int .i64 (jb : Int), .bool true] 113)
    have ca1 := cellA hca (.cells #[.int .i64 (ja : Int), .int .i64 (jb : Int), .bool true] 113)
    have cl1 := cellA hcl (.cells #[.int .i64 (ja : Int), .int .i64 (jb : Int), .bool true] 113)
    go_enter Try.func148, Try.ntmps148
    go_wp2_with fail
    generalize (w.alloc (.cells #[.int .i64 (ja : Int), .int .i64 (jb : Int), .bool true] 113)) = W at Y1 X1 V1 B1 z1 cb1 ca1 cl1 ⊢
    obtain ⟨y0, y1, y2, _⟩ := Y1.cells
    obtain ⟨x0, x1, x2, x3, _⟩ := X1.cells
    clear ho hs X hv r0 r1 r2 hca hza hcb TA hxa TB hcl hxl
    go_quiet (fail)
    have X2 : Blk4 (W.drewN nq) _ _ _ _ _ _ := X1
    have Y2 : Blk3 (W.drewN nq) _ _ _ _ _ := Y1
    have V2 : Cv (W.drewN nq) _ _ _ := V1
    have B2 := below_drewN B1 nq
    have z2 : w.heap.size + 1 ≤ (W.drewN nq).heap.size := z1
    clear X1 Y1 V1 B1 z1 x0 x1 x2 x3 y0 y1 y2
    go_wp2_with fail
    generalize W.drewN nq = W2 at X2 Y2 V2 B2 z2 ⊢
    obtain ⟨y0, y1, y2, _⟩ := Y2.cells
    obtain ⟨x0, x1, x2, x3, _⟩ := X2.cells
    obtain ⟨_, vl2, e8, _, gl2, hl2, cl2, _⟩ := V2.rowsO.2.2.get (k := jb) (by omega)
    cases e8
    obtain rfl : vl2 = xb := by have h9 := hl2.out; rw [hxb.out] at h9; simpa using h9.symm
    clear hl2 hxb
    go_region_held3 (fun w' => w'.cell? ⟨w.heap.size, 0, none⟩ = some (.int .i64 (ja : Int)) ∧ w'.cell? ⟨w.heap.size, 1, none⟩ = some (.int .i64 (jb : Int)) ∧ w'.cell? ⟨w.heap.size, 2, none⟩ = some (.bool true) ∧ w'.cell? ⟨b, 0, none⟩ = some (.slice A0 n0 c0) ∧ w'.cell? ⟨b, 1, none⟩ = some (.slice (some ⟨g1, 0, none⟩) n1 c1) ∧ w'.cell? ⟨b, 2, none⟩ = some (.slice (some ⟨g2, 0, none⟩) n2 c2) ∧ w'.cell? ⟨b, 3, none⟩ = some (.slice A3 n3 c3) ∧ w'.cell? ⟨g2, jb, none⟩ = some (.int .i64 vl2))
      (((try dsimp only); (repeat' apply And.intro) <;> (with_reducible (first | exact cellSo p0 nw | exact cellSo p1 nw | exact cellSo p2 nw | exact cellSo q0 nb3 | exact cellSo q1 nb3 | exact cellSo q2 nb3 | exact cellSo q3 nb3 | exact cellSo cl3 ng2 | exact p0 | exact p1 | exact p2 | exact q0 | exact q1 | exact q2 | exact q3 | exact cl3 | exact cellD y0 | exact cellD y1 | exact cellD y2 | exact cellD x0 | exact cellD x1 | exact cellD x2 | exact cellD x3 | exact cellD cl2 | exact y0 | exact y1 | exact y2 | exact x0 | exact x1 | exact x2 | exact x3 | exact cl2))))
      ((go_at_call 149; (with_reducible refine (sideOf_any W2.drew _ _ _ _).mono ?_); rintro e w3 ⟨rfl, hb30⟩; (have hb3 : Below W2.heap.size W2 w3 := (Below.refl W2.heap.size W2).drew.trans hb30); (have X3 := X2.below hb3); (have Y3 := Y2.below hb3); (have V3 := V2.below hb3); (obtain ⟨p0, p1, p2, _⟩ := Y3.cells); (obtain ⟨q0, q1, q2, q3, _⟩ := X3.cells); (have cl3 := (hb3.cell (p := ⟨g2, jb, none⟩) gl2).trans cl2); (obtain ⟨_, vs3, e7, _, _, _, cs3, fs3⟩ := V3.rowsO.2.1.get (k := kk) (by omega)); cases e7))
    rename_i hHeld
    clear hHeld
    have B3 : Below lo w w3 := B2.trans (hb3.mono (by omega))
    go_wp2_with fail
    go_ret
    unfold StepPost; rw [hE.out]
    refine ⟨rfl, ?_, B3.setCell (by simpa using hlo3) _⟩
    rw [hR.out]
    exact ⟨_, _, _, _, X3.other (by simpa using nb3) _, V3.putRO kk _, o0, o1, o2, o3⟩

set_option maxRecDepth 100000 in
set_option maxHeartbeats 4000000 in
theorem newStep_any (w : World) (lo b : Nat) (C : Cp) (hs : StoAt w lo b C) (hlo : lo ≤ b) (a : Int) (hr : runB C ⟨1, a, 0⟩ = true) :
    Calls Try.prog 150 #[.agg #[.int .i64 a], .pointer (some ⟨b, 0, none⟩)] w (StepPost w lo b C ⟨1, a, 0⟩) := by
  obtain ⟨A0, n0, c0, A1, n1, c1, A2, n2, c2, A3, n3, c3, X, hv, ⟨o0, o1, o2, o3⟩, _, _, _, _⟩ := hs.open_
  have A := fun W' lo' v hv => implAllocCell_any W' lo' v C hv a
  have hRE : runC C ⟨1, a, 0⟩ = (if allocB C a = true then allocC C a else C) ∧ runE C ⟨1, a, 0⟩ = (if allocB C a = true then 0 else 1) := by unfold runC runE; rw [if_pos hr, if_pos hr]; exact ⟨rfl, rfl⟩
  obtain ⟨hR0, hE0⟩ := hRE
  generalize allocX C a = xx at A
  rcases ha : allocB C a
  · rw [ha] at A hR0 hE0
    have hE : Hid (runE C ⟨1, a, 0⟩ = 1) := by unfold Hid; rw [hE0]; rfl
    have hR : Hid (runC C ⟨1, a, 0⟩ = C) := by unfold Hid; rw [hR0]; rfl
    clear ha hR0 hE0 hr
    generalize allocC C a = D at A
    have Y1 := Blk1.new w (.int .i64 a) 140
    have X1 := X.alloc (.cells #[.int .i64 a] 140)
    have V1 := hv.alloc (.cells #[.int .i64 a] 140)
    have B1 : Below lo w (w.alloc (.cells #[.int .i64 a] 140)) := (Below.refl lo w).alloc (by have := X.lt; omega) _
    have hWs : b < w.heap.size := X.lt
    have z1 : w.heap.size + 1 ≤ (w.alloc (.cells #[.int .i64 a] 140)).heap.size := by simp
    go_enter Try.func150, Try.ntmps150
    go_wp2_with fail
    generalize (w.alloc (.cells #[.int .i64 a] 140)) = W at Y1 X1 V1 B1 z1 ⊢
    obtain ⟨y0, _⟩ := Y1.cells
    obtain ⟨x0, x1, x2, x3, _⟩ := X1.cells
    clear hs X hv
    have nZb : W.heap.size ≠ b := by omega
    have nZw : W.heap.size ≠ w.heap.size := by omega
    go_region_held3 (fun w' => w'.cell? ⟨w.heap.size, 0, none⟩ = some (.int .i64 a) ∧ w'.cell? ⟨b, 0, none⟩ = some (.slice A0 n0 c0) ∧ w'.cell? ⟨b, 1, none⟩ = some (.slice A1 n1 c1) ∧ w'.cell? ⟨b, 2, none⟩ = some (.slice A2 n2 c2) ∧ w'.cell? ⟨b, 3, none⟩ = some (.slice A3 n3 c3))
      (((try dsimp only); (repeat' apply And.intro) <;> (with_reducible (first | exact cellF4 q0 nZb _ _ _ _ | exact cellF4 q1 nZb _ _ _ _ | exact cellF4 q2 nZb _ _ _ _ | exact cellF4 q3 nZb _ _ _ _ | exact cellF4 p0 nZw _ _ _ _ | exact cellA (cellD y0) _ | exact cellA (cellD x0) _ | exact cellA (cellD x1) _ | exact cellA (cellD x2) _ | exact cellA (cellD x3) _ | exact cellA p0 _ | exact cellA q0 _ | exact cellA q1 _ | exact cellA q2 _ | exact cellA q3 _ | exact cellA y0 _ | exact cellA x0 _ | exact cellA x1 _ | exact cellA x2 _ | exact cellA x3 _ | exact p0 | exact q0 | exact q1 | exact q2 | exact q3 | exact cellD (cellA y0 _) | exact cellD (cellA x0 _) | exact cellD (cellA x1 _) | exact cellD (cellA x2 _) | exact cellD (cellA x3 _) | exact cellD y0 | exact cellD x0 | exact cellD x1 | exact cellD x2 | exact cellD x3 | exact y0 | exact x0 | exact x1 | exact x2 | exact x3))))
      (first
        | (go_at_call 151; (with_reducible refine (A W.drew lo _ V1.drew).mono ?_); rintro e w3 ⟨vv, rfl, HN0, hb30⟩; (have HN : Cv w3 W.heap.size vv D := HN0); (have hb3 : Below W.heap.size W w3 := (Below.refl W.heap.size W).drew.trans hb30); (have X3 := X1.below hb3); (have Y3 := Y1.below hb3); (obtain ⟨p0, _⟩ := Y3.cells); (obtain ⟨q0, q1, q2, q3, _⟩ := X3.cells); (have s3 := hb3.size); (have HNo := HN); (obtain ⟨D0, m0, d0, D1, m1, d1, D2, m2, d2, D3, m3, d3, rfl, _⟩ := HNo.open_))
        | (go_at_call 151; (with_reducible refine (A (W.alloc (.cells #[.slice none 0 0, .slice none 0 0, .slice none 0 0, .slice none 0 0] 27)).drew lo _ (V1.alloc (.cells #[.slice none 0 0, .slice none 0 0, .slice none 0 0, .slice none 0 0] 27)).drew).mono ?_); rintro e w3 ⟨vv, rfl, HN0, hb30⟩; (have hA : (W.alloc (.cells #[.slice none 0 0, .slice none 0 0, .slice none 0 0, .slice none 0 0] 27)).drew.heap.size = W.heap.size + 1 := by show (W.alloc _).heap.size = _; simp); (rw [hA] at HN0 hb30); (have HN : Cv w3 (W.heap.size + 1) vv D := HN0); (have hb3 : Below W.heap.size W w3 := (((Below.refl W.heap.size W).alloc (Nat.le_refl _) (.cells #[.slice none 0 0, .slice none 0 0, .slice none 0 0, .slice none 0 0] 27)).drew).trans (hb30.mono (by omega))); (have Z3 : Blk4 w3 W.heap.size (.slice none 0 0) (.slice none 0 0) (.slice none 0 0) (.slice none 0 0) 27 := Blk4.belowAt (w := (W.alloc (.cells #[.slice none 0 0, .slice none 0 0, .slice none 0 0, .slice none 0 0] 27)).drew) (Blk4.new W _ _ _ _ _) hb30 (by omega)); (obtain ⟨zz0, zz1, zz2, zz3, zf0, zf1, zf2, zf3⟩ := Z3.cells); (have s30 := hb30.size); (have X3 := X1.below hb3); (have Y3 := Y1.below hb3); (obtain ⟨p0, _⟩ := Y3.cells); (obtain ⟨q0, q1, q2, q3, _⟩ := X3.cells); (have s3 := hb3.size); (have HNo := HN); (obtain ⟨D0, m0, d0, D1, m1, d1, D2, m2, d2, D3, m3, d3, rfl, _⟩ := HNo.open_)))
    · rename_i hHeld
      clear hHeld
      have T5 : Blk4 (w3.alloc (.cells #[.slice D0 m0 d0, .slice D1 m1 d1, .slice D2 m2 d2, .slice D3 m3 d3] 27)) w3.heap.size (.slice D0 m0 d0) (.slice D1 m1 d1) (.slice D2 m2 d2) (.slice D3 m3 d3) 27 := Blk4.new w3 (.slice D0 m0 d0) (.slice D1 m1 d1) (.slice D2 m2 d2) (.slice D3 m3 d3) 27
      have X5 := X3.alloc (.cells #[.slice D0 m0 d0, .slice D1 m1 d1, .slice D2 m2 d2, .slice D3 m3 d3] 27)
      have V5 := (V1.below hb3).alloc (.cells #[.slice D0 m0 d0, .slice D1 m1 d1, .slice D2 m2 d2, .slice D3 m3 d3] 27)
      have N5 : Cv (w3.alloc (.cells #[.slice D0 m0 d0, .slice D1 m1 d1, .slice D2 m2 d2, .slice D3 m3 d3] 27)) W.heap.size (.agg #[.slice D0 m0 d0, .slice D1 m1 d1, .slice D2 m2 d2, .slice D3 m3 d3]) D := HN.alloc _
      have B5 : Below lo w (w3.alloc (.cells #[.slice D0 m0 d0, .slice D1 m1 d1, .slice D2 m2 d2, .slice D3 m3 d3] 27)) := (B1.trans (hb3.mono (by omega))).alloc (by omega) _
      have hvb : b < w3.heap.size := by omega
      have ow := N5.ownLt b (.inl (by omega))
      clear x0 x1 x2 x3 y0 p0 q0 q1 q2 q3 HN X3 Y3
      generalize (w3.alloc (.cells #[.slice D0 m0 d0, .slice D1 m1 d1, .slice D2 m2 d2, .slice D3 m3 d3] 27)) = W5 at T5 X5 V5 N5 B5 ⊢
      generalize w3.heap.size = vb at T5 hvb ⊢
      obtain ⟨t0, t1, t2, t3, _⟩ := T5.cells
      obtain ⟨q0, q1, q2, q3, f0, f1, f2, f3⟩ := X5.cells
      go_wp2_with fail
      go_ret
      unfold StepPost; rw [hE.out]
      exact ⟨rfl, by rw [hR.out]; exact ⟨_, _, _, _, X5, V5, o0, o1, o2, o3⟩, B5⟩
    · rename_i hHeld
      clear hHeld
      have T5 : Blk4 ((((w3.setCell ⟨W.heap.size, 0, none⟩ (.slice D0 m0 d0)).setCell ⟨W.heap.size, 1, none⟩ (.slice D1 m1 d1)).setCell ⟨W.heap.size, 2, none⟩ (.slice D2 m2 d2)).setCell ⟨W.heap.size, 3, none⟩ (.slice D3 m3 d3)) W.heap.size (.slice D0 m0 d0) (.slice D1 m1 d1) (.slice D2 m2 d2) (.slice D3 m3 d3) 27 := Z3.set4R _ _ _ _
      have X5 : Blk4 ((((w3.setCell ⟨W.heap.size, 0, none⟩ (.slice D0 m0 d0)).setCell ⟨W.heap.size, 1, none⟩ (.slice D1 m1 d1)).setCell ⟨W.heap.size, 2, none⟩ (.slice D2 m2 d2)).setCell ⟨W.heap.size, 3, none⟩ (.slice D3 m3 d3)) b _ _ _ _ _ := X3.far4 (by omega) _ _ _ _
      have V5 : Cv ((((w3.setCell ⟨W.heap.size, 0, none⟩ (.slice D0 m0 d0)).setCell ⟨W.heap.size, 1, none⟩ (.slice D1 m1 d1)).setCell ⟨W.heap.size, 2, none⟩ (.slice D2 m2 d2)).setCell ⟨W.heap.size, 3, none⟩ (.slice D3 m3 d3)) _ _ _ := (V1.below hb3).set4O (V1.ownLt W.heap.size (.inr (Nat.le_refl _))) _ _ _ _
      have N5 : Cv ((((w3.setCell ⟨W.heap.size, 0, none⟩ (.slice D0 m0 d0)).setCell ⟨W.heap.size, 1, none⟩ (.slice D1 m1 d1)).setCell ⟨W.heap.size, 2, none⟩ (.slice D2 m2 d2)).setCell ⟨W.heap.size, 3, none⟩ (.slice D3 m3 d3)) W.heap.size (.agg #[.slice D0 m0 d0, .slice D1 m1 d1, .slice D2 m2 d2, .slice D3 m3 d3]) D := (HN.set4O (HN.ownLt W.heap.size (.inl (by omega))) _ _ _ _).mono (by omega)
      have B5 : Below lo w ((((w3.setCell ⟨W.heap.size, 0, none⟩ (.slice D0 m0 d0)).setCell ⟨W.heap.size, 1, none⟩ (.slice D1 m1 d1)).setCell ⟨W.heap.size, 2, none⟩ (.slice D2 m2 d2)).setCell ⟨W.heap.size, 3, none⟩ (.slice D3 m3 d3)) := below_set4 (B1.trans (hb3.mono (by omega))) (by omega) _ _ _ _
      have hvb : b < W.heap.size := by omega
      have ow := N5.ownLt b (.inl (by omega))
      clear x0 x1 x2 x3 y0 p0 q0 q1 q2 q3 zz0 zz1 zz2 zz3 zf0 zf1 zf2 zf3 Z3 HN X3 Y3
      generalize ((((w3.setCell ⟨W.heap.size, 0, none⟩ (.slice D0 m0 d0)).setCell ⟨W.heap.size, 1, none⟩ (.slice D1 m1 d1)).setCell ⟨W.heap.size, 2, none⟩ (.slice D2 m2 d2)).setCell ⟨W.heap.size, 3, none⟩ (.slice D3 m3 d3)) = W5 at T5 X5 V5 N5 B5 ⊢
      obtain ⟨t0, t1, t2, t3, _⟩ := T5.cells
      obtain ⟨q0, q1, q2, q3, f0, f1, f2, f3⟩ := X5.cells
      go_wp2_with fail
      go_ret
      unfold StepPost; rw [hE.out]
      exact ⟨rfl, by rw [hR.out]; exact ⟨_, _, _, _, X5, V5, o0, o1, o2, o3⟩, B5⟩
  · rw [ha] at A hR0 hE0
    have hE : Hid (runE C ⟨1, a, 0⟩ = 0) := by unfold Hid; rw [hE0]; rfl
    have hR : Hid (runC C ⟨1, a, 0⟩ = allocC C a) := by unfold Hid; rw [hR0]; rfl
    clear ha hR0 hE0 hr
    generalize allocC C a = D at A hR
    have Y1 := Blk1.new w (.int .i64 a) 140
    have X1 := X.alloc (.cells #[.int .i64 a] 140)
    have V1 := hv.alloc (.cells #[.int .i64 a] 140)
    have B1 : Below lo w (w.alloc (.cells #[.int .i64 a] 140)) := (Below.refl lo w).alloc (by have := X.lt; omega) _
    have hWs : b < w.heap.size := X.lt
    have z1 : w.heap.size + 1 ≤ (w.alloc (.cells #[.int .i64 a] 140)).heap.size := by simp
    go_enter Try.func150, Try.ntmps150
    go_wp2_with fail
    generalize (w.alloc (.cells #[.int .i64 a] 140)) = W at Y1 X1 V1 B1 z1 ⊢
    obtain ⟨y0, _⟩ := Y1.cells
    obtain ⟨x0, x1, x2, x3, _⟩ := X1.cells
    clear hs X hv
    have nZb : W.heap.size ≠ b := by omega
    have nZw : W.heap.size ≠ w.heap.size := by omega
    go_region_held3 (fun w' => w'.cell? ⟨w.heap.size, 0, none⟩ = some (.int .i64 a) ∧ w'.cell? ⟨b, 0, none⟩ = some (.slice A0 n0 c0) ∧ w'.cell? ⟨b, 1, none⟩ = some (.slice A1 n1 c1) ∧ w'.cell? ⟨b, 2, none⟩ = some (.slice A2 n2 c2) ∧ w'.cell? ⟨b, 3, none⟩ = some (.slice A3 n3 c3))
      (((try dsimp only); (repeat' apply And.intro) <;> (with_reducible (first | exact cellF4 q0 nZb _ _ _ _ | exact cellF4 q1 nZb _ _ _ _ | exact cellF4 q2 nZb _ _ _ _ | exact cellF4 q3 nZb _ _ _ _ | exact cellF4 p0 nZw _ _ _ _ | exact cellA (cellD y0) _ | exact cellA (cellD x0) _ | exact cellA (cellD x1) _ | exact cellA (cellD x2) _ | exact cellA (cellD x3) _ | exact cellA p0 _ | exact cellA q0 _ | exact cellA q1 _ | exact cellA q2 _ | exact cellA q3 _ | exact cellA y0 _ | exact cellA x0 _ | exact cellA x1 _ | exact cellA x2 _ | exact cellA x3 _ | exact p0 | exact q0 | exact q1 | exact q2 | exact q3 | exact cellD (cellA y0 _) | exact cellD (cellA x0 _) | exact cellD (cellA x1 _) | exact cellD (cellA x2 _) | exact cellD (cellA x3 _) | exact cellD y0 | exact cellD x0 | exact cellD x1 | exact cellD x2 | exact cellD x3 | exact y0 | exact x0 | exact x1 | exact x2 | exact x3))))
      (first
        | (go_at_call 151; (with_reducible refine (A W.drew lo _ V1.drew).mono ?_); rintro e w3 ⟨vv, rfl, HN0, hb30⟩; (have HN : Cv w3 W.heap.size vv D := HN0); (have hb3 : Below W.heap.size W w3 := (Below.refl W.heap.size W).drew.trans hb30); (have X3 := X1.below hb3); (have Y3 := Y1.below hb3); (obtain ⟨p0, _⟩ := Y3.cells); (obtain ⟨q0, q1, q2, q3, _⟩ := X3.cells); (have s3 := hb3.size); (have HNo := HN); (obtain ⟨D0, m0, d0, D1, m1, d1, D2, m2, d2, D3, m3, d3, rfl, _⟩ := HNo.open_))
        | (go_at_call 151; (with_reducible refine (A (W.alloc (.cells #[.slice none 0 0, .slice none 0 0, .slice none 0 0, .slice none 0 0] 27)).drew lo _ (V1.alloc (.cells #[.slice none 0 0, .slice none 0 0, .slice none 0 0, .slice none 0 0] 27)).drew).mono ?_); rintro e w3 ⟨vv, rfl, HN0, hb30⟩; (have hA : (W.alloc (.cells #[.slice none 0 0, .slice none 0 0, .slice none 0 0, .slice none 0 0] 27)).drew.heap.size = W.heap.size + 1 := by show (W.alloc _).heap.size = _; simp); (rw [hA] at HN0 hb30); (have HN : Cv w3 (W.heap.size + 1) vv D := HN0); (have hb3 : Below W.heap.size W w3 := (((Below.refl W.heap.size W).alloc (Nat.le_refl _) (.cells #[.slice none 0 0, .slice none 0 0, .slice none 0 0, .slice none 0 0] 27)).drew).trans (hb30.mono (by omega))); (have Z3 : Blk4 w3 W.heap.size (.slice none 0 0) (.slice none 0 0) (.slice none 0 0) (.slice none 0 0) 27 := Blk4.belowAt (w := (W.alloc (.cells #[.slice none 0 0, .slice none 0 0, .slice none 0 0, .slice none 0 0] 27)).drew) (Blk4.new W _ _ _ _ _) hb30 (by omega)); (obtain ⟨zz0, zz1, zz2, zz3, zf0, zf1, zf2, zf3⟩ := Z3.cells); (have s30 := hb30.size); (have X3 := X1.below hb3); (have Y3 := Y1.below hb3); (obtain ⟨p0, _⟩ := Y3.cells); (obtain ⟨q0, q1, q2, q3, _⟩ := X3.cells); (have s3 := hb3.size); (have HNo := HN); (obtain ⟨D0, m0, d0, D1, m1, d1, D2, m2, d2, D3, m3, d3, rfl, _⟩ := HNo.open_)))
    · rename_i hHeld
      clear hHeld
      have T5 : Blk4 (w3.alloc (.cells #[.slice D0 m0 d0, .slice D1 m1 d1, .slice D2 m2 d2, .slice D3 m3 d3] 27)) w3.heap.size (.slice D0 m0 d0) (.slice D1 m1 d1) (.slice D2 m2 d2) (.slice D3 m3 d3) 27 := Blk4.new w3 (.slice D0 m0 d0) (.slice D1 m1 d1) (.slice D2 m2 d2) (.slice D3 m3 d3) 27
      have X5 := X3.alloc (.cells #[.slice D0 m0 d0, .slice D1 m1 d1, .slice D2 m2 d2, .slice D3 m3 d3] 27)
      have V5 := (V1.below hb3).alloc (.cells #[.slice D0 m0 d0, .slice D1 m1 d1, .slice D2 m2 d2, .slice D3 m3 d3] 27)
      have N5 : Cv (w3.alloc (.cells #[.slice D0 m0 d0, .slice D1 m1 d1, .slice D2 m2 d2, .slice D3 m3 d3] 27)) W.heap.size (.agg #[.slice D0 m0 d0, .slice D1 m1 d1, .slice D2 m2 d2, .slice D3 m3 d3]) D := HN.alloc _
      have B5 : Below lo w (w3.alloc (.cells #[.slice D0 m0 d0, .slice D1 m1 d1, .slice D2 m2 d2, .slice D3 m3 d3] 27)) := (B1.trans (hb3.mono (by omega))).alloc (by omega) _
      have hvb : b < w3.heap.size := by omega
      have ow := N5.ownLt b (.inl (by omega))
      clear x0 x1 x2 x3 y0 p0 q0 q1 q2 q3 HN X3 Y3
      generalize (w3.alloc (.cells #[.slice D0 m0 d0, .slice D1 m1 d1, .slice D2 m2 d2, .slice D3 m3 d3] 27)) = W5 at T5 X5 V5 N5 B5 ⊢
      generalize w3.heap.size = vb at T5 hvb ⊢
      obtain ⟨t0, t1, t2, t3, _⟩ := T5.cells
      obtain ⟨q0, q1, q2, q3, f0, f1, f2, f3⟩ := X5.cells
      go_wp2_with fail
      go_ret
      unfold StepPost; rw [hE.out]
      exact ⟨rfl, by rw [hR.out]; exact ⟨_, _, _, _, X5.set4R _ _ _ _, (N5.set4O ow _ _ _ _).mono (by omega), ow⟩, below_set4 B5 hlo _ _ _ _⟩
    · rename_i hHeld
      clear hHeld
      have T5 : Blk4 ((((w3.setCell ⟨W.heap.size, 0, none⟩ (.slice D0 m0 d0)).setCell ⟨W.heap.size, 1, none⟩ (.slice D1 m1 d1)).setCell ⟨W.heap.size, 2, none⟩ (.slice D2 m2 d2)).setCell ⟨W.heap.size, 3, none⟩ (.slice D3 m3 d3)) W.heap.size (.slice D0 m0 d0) (.slice D1 m1 d1) (.slice D2 m2 d2) (.slice D3 m3 d3) 27 := Z3.set4R _ _ _ _
      have X5 : Blk4 ((((w3.setCell ⟨W.heap.size, 0, none⟩ (.slice D0 m0 d0)).setCell ⟨W.heap.size, 1, none⟩ (.slice D1 m1 d1)).setCell ⟨W.heap.size, 2, none⟩ (.slice D2 m2 d2)).setCell ⟨W.heap.size, 3, none⟩ (.slice D3 m3 d3)) b _ _ _ _ _ := X3.far4 (by omega) _ _ _ _
      have V5 : Cv ((((w3.setCell ⟨W.heap.size, 0, none⟩ (.slice D0 m0 d0)).setCell ⟨W.heap.size, 1, none⟩ (.slice D1 m1 d1)).setCell ⟨W.heap.size, 2, none⟩ (.slice D2 m2 d2)).setCell ⟨W.heap.size, 3, none⟩ (.slice D3 m3 d3)) _ _ _ := (V1.below hb3).set4O (V1.ownLt W.heap.size (.inr (Nat.le_refl _))) _ _ _ _
      have N5 : Cv ((((w3.setCell ⟨W.heap.size, 0, none⟩ (.slice D0 m0 d0)).setCell ⟨W.heap.size, 1, none⟩ (.slice D1 m1 d1)).setCell ⟨W.heap.size, 2, none⟩ (.slice D2 m2 d2)).setCell ⟨W.heap.size, 3, none⟩ (.slice D3 m3 d3)) W.heap.size (.agg #[.slice D0 m0 d0, .slice D1 m1 d1, .slice D2 m2 d2, .slice D3 m3 d3]) D := (HN.set4O (HN.ownLt W.heap.size (.inl (by omega))) _ _ _ _).mono (by omega)
      have B5 : Below lo w ((((w3.setCell ⟨W.heap.size, 0, none⟩ (.slice D0 m0 d0)).setCell ⟨W.heap.size, 1, none⟩ (.slice D1 m1 d1)).setCell ⟨W.heap.size, 2, none⟩ (.slice D2 m2 d2)).setCell ⟨W.heap.size, 3, none⟩ (.slice D3 m3 d3)) := below_set4 (B1.trans (hb3.mono (by omega))) (by omega) _ _ _ _
      have hvb : b < W.heap.size := by omega
      have ow := N5.ownLt b (.inl (by omega))
      clear x0 x1 x2 x3 y0 p0 q0 q1 q2 q3 zz0 zz1 zz2 zz3 zf0 zf1 zf2 zf3 Z3 HN X3 Y3
      generalize ((((w3.setCell ⟨W.heap.size, 0, none⟩ (.slice D0 m0 d0)).setCell ⟨W.heap.size, 1, none⟩ (.slice D1 m1 d1)).setCell ⟨W.heap.size, 2, none⟩ (.slice D2 m2 d2)).setCell ⟨W.heap.size, 3, none⟩ (.slice D3 m3 d3)) = W5 at T5 X5 V5 N5 B5 ⊢
      obtain ⟨t0, t1, t2, t3, _⟩ := T5.cells
      obtain ⟨q0, q1, q2, q3, f0, f1, f2, f3⟩ := X5.cells
      go_wp2_with fail
      go_ret
      unfold StepPost; rw [hE.out]
      exact ⟨rfl, by rw [hR.out]; exact ⟨_, _, _, _, X5.set4R _ _ _ _, (N5.set4O ow _ _ _ _).mono (by omega), ow⟩, below_set4 B5 hlo _ _ _ _⟩

end Go.Proofs.Ytdifplakkepnkaa

/- RunOp of impl. -/
namespace Go.Proofs.Ytdifplakkepnkaa
open Go.RowKit

/-- The node that an operation becomes: its type, its value, its method. -/
def StepOk (o : Opv) (T : TypeId) (v0 : Value) (f : FuncId) : Prop := stepV o = .iface T v0 ∧ (∀ (n : Nat) (w : World), (nilAhead (n + 1) T v0 "loop.example/cellcollector/impl.run").run Try.prog w = .ok (some false) w) ∧ (∀ (n : Nat) (w : World), (method (n + 1) T v0 "loop.example/cellcollector/impl.run").run Try.prog w = .ok (f, v0) w) ∧ (∀ (args : Array Value) (w : World), (callFunc f args).run Try.prog w = .ok (.enter f args) w) ∧ ∀ (w : World) (lo b : Nat) (C : Cp), StoAt w lo b C → lo ≤ b → runB C o = true → Calls Try.prog f #[v0, .pointer (some ⟨b, 0, none⟩)] w (StepPost w lo b C o)
theorem nil_newStep (a : Int) (n : Nat) (w : World) : (nilAhead (n + 1) 140 (.agg #[.int .i64 a]) "loop.example/cellcollector/impl.run").run Try.prog w = .ok (some false) w := by kernel_rfl
theorem meth_newStep (a : Int) (n : Nat) (w : World) : (method (n + 1) 140 (.agg #[.int .i64 a]) "loop.example/cellcollector/impl.run").run Try.prog w = .ok (150, .agg #[.int .i64 a]) w := by kernel_rfl
theorem nil_clearStep (a : Int) (n : Nat) (w : World) : (nilAhead (n + 1) 145 (.agg #[.int .i64 a]) "loop.example/cellcollector/impl.run").run Try.prog w = .ok (some false) w := by kernel_rfl
theorem meth_clearStep (a : Int) (n : Nat) (w : World) : (method (n + 1) 145 (.agg #[.int .i64 a]) "loop.example/cellcollector/impl.run").run Try.prog w = .ok (154, .agg #[.int .i64 a]) w := by kernel_rfl
theorem nil_copyStep (a q : Int) (n : Nat) (w : World) : (nilAhead (n + 1) 142 (.agg #[.int .i64 a, .int .i64 q]) "loop.example/cellcollector/impl.run").run Try.prog w = .ok (some false) w := by kernel_rfl
theorem meth_copyStep (a q : Int) (n : Nat) (w : World) : (method (n + 1) 142 (.agg #[.int .i64 a, .int .i64 q]) "loop.example/cellcollector/impl.run").run Try.prog w = .ok (152, .agg #[.int .i64 a, .int .i64 q]) w := by kernel_rfl
theorem nil_readStep (a q : Int) (r : Bool) (n : Nat) (w : World) : (nilAhead (n + 1) 144 (.agg #[.int .i64 a, .int .i64 q, .bool r]) "loop.example/cellcollector/impl.run").run Try.prog w = .ok (some false) w := by kernel_rfl
theorem meth_readStep (a q : Int) (r : Bool) (n : Nat) (w : World) : (method (n + 1) 144 (.agg #[.int .i64 a, .int .i64 q, .bool r]) "loop.example/cellcollector/impl.run").run Try.prog w = .ok (153, .agg #[.int .i64 a, .int .i64 q, .bool r]) w := by kernel_rfl
theorem nil_putStep (a q : Int) (r : Bool) (n : Nat) (w : World) : (nilAhead (n + 1) 113 (.agg #[.int .i64 a, .int .i64 q, .bool r]) "loop.example/cellcollector/impl.run").run Try.prog w = .ok (some false) w := by kernel_rfl
theorem meth_putStep (a q : Int) (r : Bool) (n : Nat) (w : World) : (method (n + 1) 113 (.agg #[.int .i64 a, .int .i64 q, .bool r]) "loop.example/cellcollector/impl.run").run Try.prog w = .ok (148, .agg #[.int .i64 a, .int .i64 q, .bool r]) w := by kernel_rfl
theorem call_newStep (args : Array Value) (w : World) : (callFunc 150 args).run Try.prog w = .ok (.enter 150 args) w := by kernel_rfl
theorem call_clearStep (args : Array Value) (w : World) : (callFunc 154 args).run Try.prog w = .ok (.enter 154 args) w := by kernel_rfl
theorem call_copyStep (args : Array Value) (w : World) : (callFunc 152 args).run Try.prog w = .ok (.enter 152 args) w := by kernel_rfl
theorem call_readStep (args : Array Value) (w : World) : (callFunc 153 args).run Try.prog w = .ok (.enter 153 args) w := by kernel_rfl
theorem call_putStep (args : Array Value) (w : World) : (callFunc 148 args).run Try.prog w = .ok (.enter 148 args) w := by kernel_rfl
theorem run_one {C : Cp} {k a q : Int} (h : runB C ⟨k, a, q⟩ = true) (hk : k = 1 ∨ k = 7) : q = 0 := (opB_iff.1 (runB_iff.1 h).2).2.2.2.1 hk
theorem step_any {o : Opv} (h : 1 ≤ o.k ∧ o.k ≤ 7) : ∃ T v0 f, StepOk o T v0 f := by
  obtain ⟨k, a, q⟩ := o
  have hk : k = 1 ∨ k = 2 ∨ k = 3 ∨ k = 4 ∨ k = 5 ∨ k = 6 ∨ k = 7 := by simp only at h; omega
  rcases hk with rfl | rfl | rfl | rfl | rfl | rfl | rfl
  · exact ⟨_, _, _, rfl, nil_newStep a, meth_newStep a, call_newStep, fun w lo b C hs hlo hr => by obtain rfl := run_one hr (by omega); exact newStep_any w lo b C hs hlo a hr⟩
  · exact ⟨_, _, _, rfl, nil_copyStep a q, meth_copyStep a q, call_copyStep, fun w lo b C hs hlo hr => copyStep_any w lo b C hs hlo a q hr⟩
  · exact ⟨_, _, _, rfl, nil_readStep a q false, meth_readStep a q false, call_readStep, fun w lo b C hs hlo hr => readStep3_any w lo b C hs hlo a q hr⟩
  · exact ⟨_, _, _, rfl, nil_readStep a q true, meth_readStep a q true, call_readStep, fun w lo b C hs hlo hr => readStep4_any w lo b C hs hlo a q hr⟩
  · exact ⟨_, _, _, rfl, nil_putStep a q false, meth_putStep a q false, call_putStep, fun w lo b C hs hlo hr => putStep5_any w lo b C hs hlo a q hr⟩
  · exact ⟨_, _, _, rfl, nil_putStep a q true, meth_putStep a q true, call_putStep, fun w lo b C hs hlo hr => putStep6_any w lo b C hs hlo a q hr⟩
  · exact ⟨_, _, _, rfl, nil_clearStep a, meth_clearStep a, call_clearStep, fun w lo b C hs hlo hr => by obtain rfl := run_one hr (by omega); exact clearStep_any w lo b C hs hlo a hr⟩

set_option maxRecDepth 100000 in
set_option maxHeartbeats 2000000 in
theorem canRun_any (w : World) (lo : Nat) (v : Value) (C : Cp) (hv : Cv w lo v C) (o : Opv) : Calls Try.prog 95 #[v, opV o] w (RetB w (runB C o)) := by
  have hvo := hv
  obtain ⟨A0, n0, c0, A1, n1, c1, A2, n2, c2, A3, n3, c3, rfl, _, _, ⟨_, _, l2, _⟩, ⟨_, _, b2, _⟩, _⟩ := hvo.open_
  obtain ⟨k, a, q⟩ := o
  show Calls Try.prog 95 #[.agg #[.slice A0 n0 c0, .slice A1 n1 c1, .slice A2 n2 c2, .slice A3 n3 c3], .agg #[.int .i64 k, .int .i64 a, .int .i64 q]] w _
  have X := (Blk4.new w (.slice A0 n0 c0) (.slice A1 n1 c1) (.slice A2 n2 c2) (.slice A3 n3 c3) 27).alloc (.cells #[.int .i64 k, .int .i64 a, .int .i64 q] 70)
  have Y := Blk3.new_at (w := w.alloc (.cells #[.slice A0 n0 c0, .slice A1 n1 c1, .slice A2 n2 c2, .slice A3 n3 c3] 27)) (b := w.heap.size + 1) (by simp) (.int .i64 k) (.int .i64 a) (.int .i64 q) 70
  have VV := (hv.alloc (.cells #[.slice A0 n0 c0, .slice A1 n1 c1, .slice A2 n2 c2, .slice A3 n3 c3] 27)).alloc (.cells #[.int .i64 k, .int .i64 a, .int .i64 q] 70)
  have BB : Below w.heap.size w ((w.alloc (.cells #[.slice A0 n0 c0, .slice A1 n1 c1, .slice A2 n2 c2, .slice A3 n3 c3] 27)).alloc (.cells #[.int .i64 k, .int .i64 a, .int .i64 q] 70)) := ((Below.refl _ w).alloc (Nat.le_refl _) _).alloc (by simp) _
  have V := implStoreValid_any _ _ _ _ VV
  have OV := fun W => implOpValid_any W ⟨k, a, q⟩ (n2 : Int)
  have hB : Hid (runB C ⟨k, a, q⟩ = (stoB C && opB ⟨k, a, q⟩ (n2 : Int))) := by unfold Hid runB; rw [l2.out]
  clear hv hvo
  rcases ev : stoB C
  · rw [ev] at V
    have hf : Hid (runB C ⟨k, a, q⟩ = false) := by unfold Hid; rw [hB.out, ev]; rfl
    clear ev hB
    go_enter Try.func95, Try.ntmps95
    go_wp2_with fail
    refine V.mono ?_; rintro e w1 ⟨rfl, hb1⟩
    have B1 := BB.trans (hb1.mono BB.size)
    go_wp2_with fail
    go_ret
    exact ⟨ret_bool hf.out.symm, B1⟩
  · rw [ev] at V
    have hf : Hid (runB C ⟨k, a, q⟩ = opB ⟨k, a, q⟩ (n2 : Int)) := by unfold Hid; rw [hB.out, ev]; rfl
    clear ev hB
    go_enter Try.func95, Try.ntmps95
    go_wp2_with fail
    refine V.mono ?_; rintro e w1 ⟨rfl, hb1⟩
    have B1 := BB.trans (hb1.mono BB.size)
    obtain ⟨x0, x1, x2, x3, _⟩ := (Blk4.below (by exact X) hb1).cells
    obtain ⟨y0, y1, y2, _⟩ := (Blk3.below (by exact Y) hb1).cells
    go_wp2_with fail
    refine (OV _).mono ?_; rintro e w2 ⟨rfl, hb2⟩
    go_wp2_with fail
    go_ret
    exact ⟨ret_bool hf.out.symm, B1.trans (hb2.mono B1.size)⟩

set_option maxRecDepth 100000 in
set_option maxHeartbeats 4000000 in
theorem implRunOp_any (w : World) (lo : Nat) (v : Value) (C : Cp) (hv : Cv w lo v C) (o : Opv) : Calls Try.prog 66 #[v, opV o] w (OptCI w (runC C o) (runE C o) (runB C o)) := by
  have hvo := hv
  obtain ⟨A0, n0, c0, A1, n1, c1, A2, n2, c2, A3, n3, c3, rfl, _, _, _, _, _⟩ := hvo.open_
  obtain ⟨k, a, q⟩ := o
  show Calls Try.prog 66 #[.agg #[.slice A0 n0 c0, .slice A1 n1 c1, .slice A2 n2 c2, .slice A3 n3 c3], .agg #[.int .i64 k, .int .i64 a, .int .i64 q]] w _
  have X := ((Blk4.new w (.slice A0 n0 c0) (.slice A1 n1 c1) (.slice A2 n2 c2) (.slice A3 n3 c3) 27).alloc (.cells #[.int .i64 k, .int .i64 a, .int .i64 q] 70)).alloc (.cells #[.slice none 0 0, .slice none 0 0, .slice none 0 0, .slice none 0 0] 27)
  have Y := (Blk3.new_at (w := w.alloc (.cells #[.slice A0 n0 c0, .slice A1 n1 c1, .slice A2 n2 c2, .slice A3 n3 c3] 27)) (b := w.heap.size + 1) (by simp) (.int .i64 k) (.int .i64 a) (.int .i64 q) 70).alloc (.cells #[.slice none 0 0, .slice none 0 0, .slice none 0 0, .slice none 0 0] 27)
  have Q := Blk4.new_at (w := (w.alloc (.cells #[.slice A0 n0 c0, .slice A1 n1 c1, .slice A2 n2 c2, .slice A3 n3 c3] 27)).alloc (.cells #[.int .i64 k, .int .i64 a, .int .i64 q] 70)) (b := w.heap.size + 2) (by simp) (.slice none 0 0) (.slice none 0 0) (.slice none 0 0) (.slice none 0 0) 27
  have VV := ((hv.alloc (.cells #[.slice A0 n0 c0, .slice A1 n1 c1, .slice A2 n2 c2, .slice A3 n3 c3] 27)).alloc (.cells #[.int .i64 k, .int .i64 a, .int .i64 q] 70)).alloc (.cells #[.slice none 0 0, .slice none 0 0, .slice none 0 0, .slice none 0 0] 27)
  have BB : Below w.heap.size w (((w.alloc (.cells #[.slice A0 n0 c0, .slice A1 n1 c1, .slice A2 n2 c2, .slice A3 n3 c3] 27)).alloc (.cells #[.int .i64 k, .int .i64 a, .int .i64 q] 70)).alloc (.cells #[.slice none 0 0, .slice none 0 0, .slice none 0 0, .slice none 0 0] 27)) := (((Below.refl _ w).alloc (Nat.le_refl _) _).alloc (by simp) _).alloc (by simp; omega) _
  have sz : (((w.alloc (.cells #[.slice A0 n0 c0, .slice A1 n1 c1, .slice A2 n2 c2, .slice A3 n3 c3] 27)).alloc (.cells #[.int .i64 k, .int .i64 a, .int .i64 q] 70)).alloc (.cells #[.slice none 0 0, .slice none 0 0, .slice none 0 0, .slice none 0 0] 27)).heap.size = w.heap.size + 3 := by simp
  have CR := fun W (hW : Cv W lo (.agg #[.slice A0 n0 c0, .slice A1 n1 c1, .slice A2 n2 c2, .slice A3 n3 c3]) C) => canRun_any W lo _ C hW ⟨k, a, q⟩
  clear hv hvo
  rcases er : runB C ⟨k, a, q⟩
  · rw [er] at CR
    have hc : Hid (runC C ⟨k, a, q⟩ = Cp.zero) := Lib.hid (runC_not er)
    have hx : Hid (runE C ⟨k, a, q⟩ = 0) := Lib.hid (runE_not er)
    clear er
    go_enter Try.func66, Try.ntmps66
    go_wp2_with fail
    generalize (((w.alloc (.cells #[.slice A0 n0 c0, .slice A1 n1 c1, .slice A2 n2 c2, .slice A3 n3 c3] 27)).alloc (.cells #[.int .i64 k, .int .i64 a, .int .i64 q] 70)).alloc (.cells #[.slice none 0 0, .slice none 0 0, .slice none 0 0, .slice none 0 0] 27)) = W at X Y Q VV BB sz ⊢
    obtain ⟨x0, x1, x2, x3, _⟩ := X.cells
    obtain ⟨y0, y1, y2, _⟩ := Y.cells
    go_wp2_with fail
    refine (CR _ VV).mono ?_; rintro e w1 ⟨rfl, hb1⟩
    have Q1 := Q.below hb1
    have B1 := BB.trans (hb1.mono BB.size)
    clear X Y Q VV BB x0 x1 x2 x3 y0 y1 y2
    obtain ⟨q0, q1, q2, q3, f0, f1, f2, f3⟩ := Q1.cells
    obtain ⟨hZ, hB⟩ := zero_done (w := w) (b := w.heap.size + 2) (by omega) B1
    go_wp2_with fail
    rw [hc.out, hx.out]
    refine bodyPost_ret (v := .tuple #[.agg #[.slice none 0 0, .slice none 0 0, .slice none 0 0, .slice none 0 0], .int .i64 0, .bool false]) ?_ rfl ⟨_, rfl, hZ, hB⟩
    simp [results, Try.results66, go_sem, q0, q1, q2, q3]
  · rw [er] at CR
    obtain ⟨hC, ho⟩ := runB_iff.1 er
    obtain ⟨hk17, _⟩ := opB_iff.1 ho
    obtain ⟨T, v0, f, hsv, hn, hm, hcf, hs⟩ := step_any (o := ⟨k, a, q⟩) hk17
    have HS := fun w lo b hw hl => hs w lo b C hw hl er
    have SO := fun W => stepOf_any W ⟨k, a, q⟩
    rw [hsv] at SO
    have CS := fun W (hW : Cv W lo (.agg #[.slice A0 n0 c0, .slice A1 n1 c1, .slice A2 n2 c2, .slice A3 n3 c3]) C) => copyS_valid W lo _ C hW hC
    clear er hC ho hk17 hs hsv
    go_enter Try.func66, Try.ntmps66
    go_wp2_with fail
    generalize (((w.alloc (.cells #[.slice A0 n0 c0, .slice A1 n1 c1, .slice A2 n2 c2, .slice A3 n3 c3] 27)).alloc (.cells #[.int .i64 k, .int .i64 a, .int .i64 q] 70)).alloc (.cells #[.slice none 0 0, .slice none 0 0, .slice none 0 0, .slice none 0 0] 27)) = W at X Y Q VV BB sz ⊢
    obtain ⟨x0, x1, x2, x3, _⟩ := X.cells
    obtain ⟨y0, y1, y2, _⟩ := Y.cells
    go_wp2_with fail
    refine (CR _ VV).mono ?_; rintro e w1 ⟨rfl, hb1⟩
    have X1 := X.below hb1
    have Y1 := Y.below hb1
    have Q1 := Q.below hb1
    have V1 := VV.below hb1
    have B1 := BB.trans (hb1.mono BB.size)
    have z1 := hb1.size
    rw [sz] at z1
    clear X Y Q VV BB x0 x1 x2 x3 y0 y1 y2 hb1 CR
    obtain ⟨x0, x1, x2, x3, _⟩ := X1.cells
    go_wp2_with fail
    refine (CS _ V1).mono ?_; rintro e w2 ⟨vv, rfl, HN, hb2⟩
    have HNo := HN
    obtain ⟨D0, m0, d0, D1, m1, d1, D2, m2, d2, D3, m3, d3, rfl, _⟩ := HNo.open_
    have s2 := hb2.size
    have ow := HN.ownLt w2.heap.size (.inr (Nat.le_refl _))
    have Y2 := (Y1.below hb2).alloc (.cells #[.slice D0 m0 d0, .slice D1 m1 d1, .slice D2 m2 d2, .slice D3 m3 d3] 27)
    have Q2 := (Q1.below hb2).alloc (.cells #[.slice D0 m0 d0, .slice D1 m1 d1, .slice D2 m2 d2, .slice D3 m3 d3] 27)
    have B2 : Below w.heap.size w (w2.alloc (.cells #[.slice D0 m0 d0, .slice D1 m1 d1, .slice D2 m2 d2, .slice D3 m3 d3] 27)) := (B1.trans (hb2.mono (by omega))).alloc (by omega) _
    have S2 : StoAt (w2.alloc (.cells #[.slice D0 m0 d0, .slice D1 m1 d1, .slice D2 m2 d2, .slice D3 m3 d3] 27)) (w.heap.size + 3) w2.heap.size C := ⟨_, _, _, _, Blk4.new w2 _ _ _ _ _, (HN.alloc _).mono (by omega), ow⟩
    have z2 : w2.heap.size + 1 ≤ (w2.alloc (.cells #[.slice D0 m0 d0, .slice D1 m1 d1, .slice D2 m2 d2, .slice D3 m3 d3] 27)).heap.size := by simp
    have hb7 : w.heap.size + 3 ≤ w2.heap.size := by omega
    clear x0 x1 x2 x3 X1 Y1 Q1 V1 B1 HN hb2 z1 CS
    obtain ⟨y0, y1, y2, _⟩ := Y2.cells
    go_wp2_with fail
    generalize w2.alloc (.cells #[.slice D0 m0 d0, .slice D1 m1 d1, .slice D2 m2 d2, .slice D3 m3 d3] 27) = W2 at Y2 Q2 B2 S2 z2 y0 y1 y2 ⊢
    generalize w2.heap.size = b7 at S2 z2 hb7 ⊢
    refine (SO _).mono ?_; rintro e w3 ⟨rfl, hb3⟩
    have Q3 := Q2.below hb3
    have S3 := S2.below hb3
    have B3 := B2.trans (hb3.mono B2.size)
    have z3 := hb3.size
    clear Y2 Q2 S2 B2 hb3 y0 y1 y2 SO
    go_wp2_with fail
    refine (HS _ _ _ S3 hb7).mono ?_; rintro e w4 ⟨rfl, S4, hb4⟩
    have Q4 := Q3.belowAt hb4 (by omega)
    have B4 := B3.trans (hb4.mono (by omega))
    obtain ⟨v0', v1', v2', v3', T4, N4, _⟩ := S4
    have HNo := N4
    obtain ⟨E0, i0, h0, E1, i1, h1, E2, i2, h2, E3, i3, h3, ev, _⟩ := HNo.open_
    cases ev
    obtain ⟨t0, t1, t2, t3, _⟩ := T4.cells
    obtain ⟨q0, q1, q2, q3, f0, f1, f2, f3⟩ := Q4.cells
    obtain ⟨hF, hFB⟩ := fin_run (b := w.heap.size + 2) (by omega) N4 B4
    obtain ⟨e0, e1, e2, e3⟩ := cells4 (.slice E0 i0 h0) (.slice E1 i1 h1) (.slice E2 i2 h2) (.slice E3 i3 h3) q0 q1 q2 q3
    go_wp2_with fail
    refine bodyPost_ret (v := .tuple #[.agg #[.slice E0 i0 h0, .slice E1 i1 h1, .slice E2 i2 h2, .slice E3 i3 h3], .int .i64 (runE C ⟨k, a, q⟩), .bool true]) ?_ rfl ⟨_, rfl, hF, hFB⟩
    simp [results, Try.results66, go_sem, e0, e1, e2, e3]
end Go.Proofs.Ytdifplakkepnkaa

