/- Operations of impl: nodes behind an interface; which operations are valid. -/
import Derived.Test.YtfoimicbmkiigaaGreatOp
import Derived.Test.YtfoimicbmkiigaaGreatRdA
namespace Go.Proofs.YtfoimicbmkiigaaGreat
open Go.RowKit

/-- The node of an operation. -/
def stepV (o : Opv) : Value :=
  if o.k = 1 then .iface 124 (.agg #[.int .i64 o.a])
  else if o.k = 2 then .iface 126 (.agg #[.int .i64 o.a, .int .i64 o.b])
  else if o.k = 3 then .iface 128 (.agg #[.int .i64 o.a, .int .i64 o.b, .bool false])
  else if o.k = 4 then .iface 128 (.agg #[.int .i64 o.a, .int .i64 o.b, .bool true])
  else if o.k = 5 then .iface 117 (.agg #[.int .i64 o.a, .int .i64 o.b, .bool false])
  else if o.k = 6 then .iface 117 (.agg #[.int .i64 o.a, .int .i64 o.b, .bool true])
  else if o.k = 7 then .iface 129 (.agg #[.int .i64 o.a])
  else .nilIface
def namedN (k : Int) : Int := if k = 1 ∨ k = 7 then 1 else if 1 ≤ k ∧ k ≤ 7 then 2 else 0
def rnB (a n : Int) : Bool := decide (0 ≤ a ∧ a < n ∧ a < 3)
theorem opB_one {k a b n : Int} (h : k = 1 ∨ k = 7) : opB ⟨k, a, b⟩ n = (rnB a n && decide (b = 0)) := by
  rw [Bool.eq_iff_iff, opB_iff, Bool.and_eq_true]
  simp only [rnB, decide_eq_true_eq]; omega
theorem opB_two {k a b n : Int} (h : 2 ≤ k ∧ k ≤ 6) : opB ⟨k, a, b⟩ n = (rnB a n && rnB b n) := by
  rw [Bool.eq_iff_iff, opB_iff, Bool.and_eq_true]
  simp only [rnB, decide_eq_true_eq]; omega
theorem opB_none {k a b n : Int} (h : ¬ (1 ≤ k ∧ k ≤ 7)) : opB ⟨k, a, b⟩ n = false := by
  rw [Bool.eq_false_iff]; intro h9; have := opB_iff.1 h9; simp only at this; omega

theorem ta_newStep_newStep (v : Value) (w : World) : (Instr.typeAssert (.iface 124 v) 77 124 true).run Tryz.prog w = .ok (.tuple #[v, .bool true]) w := by kernel_rfl
theorem ta_newStep_clearStep (v : Value) (w : World) : (Instr.typeAssert (.iface 124 v) 77 129 true).run Tryz.prog w = .ok (.tuple #[.agg #[.int .i64 0], .bool false]) w := by kernel_rfl
theorem ta_newStep_copyStep (v : Value) (w : World) : (Instr.typeAssert (.iface 124 v) 77 126 true).run Tryz.prog w = .ok (.tuple #[.agg #[.int .i64 0, .int .i64 0], .bool false]) w := by kernel_rfl
theorem ta_newStep_readStep (v : Value) (w : World) : (Instr.typeAssert (.iface 124 v) 77 128 true).run Tryz.prog w = .ok (.tuple #[.agg #[.int .i64 0, .int .i64 0, .bool false], .bool false]) w := by kernel_rfl
theorem ta_newStep_putStep (v : Value) (w : World) : (Instr.typeAssert (.iface 124 v) 77 117 true).run Tryz.prog w = .ok (.tuple #[.agg #[.int .i64 0, .int .i64 0, .bool false], .bool false]) w := by kernel_rfl
theorem ta_clearStep_newStep (v : Value) (w : World) : (Instr.typeAssert (.iface 129 v) 77 124 true).run Tryz.prog w = .ok (.tuple #[.agg #[.int .i64 0], .bool false]) w := by kernel_rfl
theorem ta_clearStep_clearStep (v : Value) (w : World) : (Instr.typeAssert (.iface 129 v) 77 129 true).run Tryz.prog w = .ok (.tuple #[v, .bool true]) w := by kernel_rfl
theorem ta_clearStep_copyStep (v : Value) (w : World) : (Instr.typeAssert (.iface 129 v) 77 126 true).run Tryz.prog w = .ok (.tuple #[.agg #[.int .i64 0, .int .i64 0], .bool false]) w := by kernel_rfl
theorem ta_clearStep_readStep (v : Value) (w : World) : (Instr.typeAssert (.iface 129 v) 77 128 true).run Tryz.prog w = .ok (.tuple #[.agg #[.int .i64 0, .int .i64 0, .bool false], .bool false]) w := by kernel_rfl
theorem ta_clearStep_putStep (v : Value) (w : World) : (Instr.typeAssert (.iface 129 v) 77 117 true).run Tryz.prog w = .ok (.tuple #[.agg #[.int .i64 0, .int .i64 0, .bool false], .bool false]) w := by kernel_rfl
theorem ta_copyStep_newStep (v : Value) (w : World) : (Instr.typeAssert (.iface 126 v) 77 124 true).run Tryz.prog w = .ok (.tuple #[.agg #[.int .i64 0], .bool false]) w := by kernel_rfl
theorem ta_copyStep_clearStep (v : Value) (w : World) : (Instr.typeAssert (.iface 126 v) 77 129 true).run Tryz.prog w = .ok (.tuple #[.agg #[.int .i64 0], .bool false]) w := by kernel_rfl
theorem ta_copyStep_copyStep (v : Value) (w : World) : (Instr.typeAssert (.iface 126 v) 77 126 true).run Tryz.prog w = .ok (.tuple #[v, .bool true]) w := by kernel_rfl
theorem ta_copyStep_readStep (v : Value) (w : World) : (Instr.typeAssert (.iface 126 v) 77 128 true).run Tryz.prog w = .ok (.tuple #[.agg #[.int .i64 0, .int .i64 0, .bool false], .bool false]) w := by kernel_rfl
theorem ta_copyStep_putStep (v : Value) (w : World) : (Instr.typeAssert (.iface 126 v) 77 117 true).run Tryz.prog w = .ok (.tuple #[.agg #[.int .i64 0, .int .i64 0, .bool false], .bool false]) w := by kernel_rfl
theorem ta_readStep_newStep (v : Value) (w : World) : (Instr.typeAssert (.iface 128 v) 77 124 true).run Tryz.prog w = .ok (.tuple #[.agg #[.int .i64 0], .bool false]) w := by kernel_rfl
theorem ta_readStep_clearStep (v : Value) (w : World) : (Instr.typeAssert (.iface 128 v) 77 129 true).run Tryz.prog w = .ok (.tuple #[.agg #[.int .i64 0], .bool false]) w := by kernel_rfl
theorem ta_readStep_copyStep (v : Value) (w : World) : (Instr.typeAssert (.iface 128 v) 77 126 true).run Tryz.prog w = .ok (.tuple #[.agg #[.int .i64 0, .int .i64 0], .bool false]) w := by kernel_rfl
theorem ta_readStep_readStep (v : Value) (w : World) : (Instr.typeAssert (.iface 128 v) 77 128 true).run Tryz.prog w = .ok (.tuple #[v, .bool true]) w := by kernel_rfl
theorem ta_readStep_putStep (v : Value) (w : World) : (Instr.typeAssert (.iface 128 v) 77 117 true).run Tryz.prog w = .ok (.tuple #[.agg #[.int .i64 0, .int .i64 0, .bool false], .bool false]) w := by kernel_rfl
theorem ta_putStep_newStep (v : Value) (w : World) : (Instr.typeAssert (.iface 117 v) 77 124 true).run Tryz.prog w = .ok (.tuple #[.agg #[.int .i64 0], .bool false]) w := by kernel_rfl
theorem ta_putStep_clearStep (v : Value) (w : World) : (Instr.typeAssert (.iface 117 v) 77 129 true).run Tryz.prog w = .ok (.tuple #[.agg #[.int .i64 0], .bool false]) w := by kernel_rfl
theorem ta_putStep_copyStep (v : Value) (w : World) : (Instr.typeAssert (.iface 117 v) 77 126 true).run Tryz.prog w = .ok (.tuple #[.agg #[.int .i64 0, .int .i64 0], .bool false]) w := by kernel_rfl
theorem ta_putStep_readStep (v : Value) (w : World) : (Instr.typeAssert (.iface 117 v) 77 128 true).run Tryz.prog w = .ok (.tuple #[.agg #[.int .i64 0, .int .i64 0, .bool false], .bool false]) w := by kernel_rfl
theorem ta_putStep_putStep (v : Value) (w : World) : (Instr.typeAssert (.iface 117 v) 77 117 true).run Tryz.prog w = .ok (.tuple #[v, .bool true]) w := by kernel_rfl
theorem ta_nil_newStep (w : World) : (Instr.typeAssert .nilIface 77 124 true).run Tryz.prog w = .ok (.tuple #[.agg #[.int .i64 0], .bool false]) w := by kernel_rfl
theorem ta_nil_clearStep (w : World) : (Instr.typeAssert .nilIface 77 129 true).run Tryz.prog w = .ok (.tuple #[.agg #[.int .i64 0], .bool false]) w := by kernel_rfl
theorem ta_nil_copyStep (w : World) : (Instr.typeAssert .nilIface 77 126 true).run Tryz.prog w = .ok (.tuple #[.agg #[.int .i64 0, .int .i64 0], .bool false]) w := by kernel_rfl
theorem ta_nil_readStep (w : World) : (Instr.typeAssert .nilIface 77 128 true).run Tryz.prog w = .ok (.tuple #[.agg #[.int .i64 0, .int .i64 0, .bool false], .bool false]) w := by kernel_rfl
theorem ta_nil_putStep (w : World) : (Instr.typeAssert .nilIface 77 117 true).run Tryz.prog w = .ok (.tuple #[.agg #[.int .i64 0, .int .i64 0, .bool false], .bool false]) w := by kernel_rfl

set_option maxRecDepth 100000 in
set_option maxHeartbeats 1000000 in
theorem stepOf_any (w : World) (o : Opv) : Calls Tryz.prog 40 #[opV o] w fun e w' => e = .returned (stepV o) ∧ Below w.heap.size w w' := by
  obtain ⟨k, a, b⟩ := o
  show Calls Tryz.prog 40 #[.agg #[.int .i64 k, .int .i64 a, .int .i64 b]] w _
  by_cases hk : 1 ≤ k ∧ k ≤ 7
  · have hk : k = 1 ∨ k = 2 ∨ k = 3 ∨ k = 4 ∨ k = 5 ∨ k = 6 ∨ k = 7 := by omega
    rcases hk with rfl | rfl | rfl | rfl | rfl | rfl | rfl
    all_goals
      go_enter Tryz.func40, Tryz.ntmps40
      go_wp2_with fail
      go_ret
      exact ⟨rfl, (Below.refl _ _).alloc (Nat.le_refl _) _⟩
  · have hf : Hid (stepV ⟨k, a, b⟩ = .nilIface) := by unfold Hid stepV; simp only; rw [if_neg (by omega)]; rw [if_neg (by omega)]; rw [if_neg (by omega)]; rw [if_neg (by omega)]; rw [if_neg (by omega)]; rw [if_neg (by omega)]; rw [if_neg (by omega)]
    have g1 : (k == 1) = false := by simp; omega
    have g2 : (k == 2) = false := by simp; omega
    have g3 : (k == 3) = false := by simp; omega
    have g4 : (k == 4) = false := by simp; omega
    have g5 : (k == 5) = false := by simp; omega
    have g6 : (k == 6) = false := by simp; omega
    have g7 : (k == 7) = false := by simp; omega
    clear hk
    go_enter Tryz.func40, Tryz.ntmps40
    go_wp2_with fail
    go_ret
    exact ⟨by rw [hf.out]; rfl, (Below.refl _ _).alloc (Nat.le_refl _) _⟩

set_option maxRecDepth 100000 in
set_option maxHeartbeats 1000000 in
theorem countNamed_any (w : World) (o : Opv) : Calls Tryz.prog 130 #[opV o] w (RetI w (namedN o.k)) := by
  obtain ⟨k, a, b⟩ := o
  show Calls Tryz.prog 130 #[.agg #[.int .i64 k, .int .i64 a, .int .i64 b]] w (RetI w (namedN k))
  have S := stepOf_any (w.alloc (.cells #[.int .i64 k, .int .i64 a, .int .i64 b] 40)) ⟨k, a, b⟩
  have X0 := Blk3.new w (.int .i64 k) (.int .i64 a) (.int .i64 b) 40
  have fin : Below w.heap.size w (w.alloc (.cells #[.int .i64 k, .int .i64 a, .int .i64 b] 40)) := (Below.refl _ _).alloc (Nat.le_refl _) _
  by_cases hk : 1 ≤ k ∧ k ≤ 7
  · have hk : k = 1 ∨ k = 2 ∨ k = 3 ∨ k = 4 ∨ k = 5 ∨ k = 6 ∨ k = 7 := by omega
    rcases hk with rfl | rfl | rfl | rfl | rfl | rfl | rfl
    · have hS : stepV ⟨1, a, b⟩ = .iface 124 (.agg #[.int .i64 a]) := rfl
      rw [hS] at S
      have t_newStep := ta_newStep_newStep
      have t_clearStep := ta_newStep_clearStep
      go_enter Tryz.func130, Tryz.ntmps130
      go_wp2_with fail
      refine S.mono ?_; rintro e w1 ⟨rfl, hb1⟩
      go_wp2_with fail
      go_ret
      exact ⟨rfl, fin.trans (hb1.mono fin.size)⟩
    · have hS : stepV ⟨2, a, b⟩ = .iface 126 (.agg #[.int .i64 a, .int .i64 b]) := rfl
      rw [hS] at S
      have t_newStep := ta_copyStep_newStep
      have t_clearStep := ta_copyStep_clearStep
      have t_copyStep := ta_copyStep_copyStep
      have t_readStep := ta_copyStep_readStep
      have t_putStep := ta_copyStep_putStep
      go_enter Tryz.func130, Tryz.ntmps130
      go_wp2_with fail
      refine S.mono ?_; rintro e w1 ⟨rfl, hb1⟩
      go_wp2_with fail
      go_ret
      exact ⟨rfl, fin.trans (hb1.mono fin.size)⟩
    · have hS : stepV ⟨3, a, b⟩ = .iface 128 (.agg #[.int .i64 a, .int .i64 b, .bool false]) := rfl
      rw [hS] at S
      have t_newStep := ta_readStep_newStep
      have t_clearStep := ta_readStep_clearStep
      have t_copyStep := ta_readStep_copyStep
      have t_readStep := ta_readStep_readStep
      have t_putStep := ta_readStep_putStep
      go_enter Tryz.func130, Tryz.ntmps130
      go_wp2_with fail
      refine S.mono ?_; rintro e w1 ⟨rfl, hb1⟩
      go_wp2_with fail
      go_ret
      exact ⟨rfl, fin.trans (hb1.mono fin.size)⟩
    · have hS : stepV ⟨4, a, b⟩ = .iface 128 (.agg #[.int .i64 a, .int .i64 b, .bool true]) := rfl
      rw [hS] at S
      have t_newStep := ta_readStep_newStep
      have t_clearStep := ta_readStep_clearStep
      have t_copyStep := ta_readStep_copyStep
      have t_readStep := ta_readStep_readStep
      have t_putStep := ta_readStep_putStep
      go_enter Tryz.func130, Tryz.ntmps130
      go_wp2_with fail
      refine S.mono ?_; rintro e w1 ⟨rfl, hb1⟩
      go_wp2_with fail
      go_ret
      exact ⟨rfl, fin.trans (hb1.mono fin.size)⟩
    · have hS : stepV ⟨5, a, b⟩ = .iface 117 (.agg #[.int .i64 a, .int .i64 b, .bool false]) := rfl
      rw [hS] at S
      have t_newStep := ta_putStep_newStep
      have t_clearStep := ta_putStep_clearStep
      have t_copyStep := ta_putStep_copyStep
      have t_readStep := ta_putStep_readStep
      have t_putStep := ta_putStep_putStep
      go_enter Tryz.func130, Tryz.ntmps130
      go_wp2_with fail
      refine S.mono ?_; rintro e w1 ⟨rfl, hb1⟩
      go_wp2_with fail
      go_ret
      exact ⟨rfl, fin.trans (hb1.mono fin.size)⟩
    · have hS : stepV ⟨6, a, b⟩ = .iface 117 (.agg #[.int .i64 a, .int .i64 b, .bool true]) := rfl
      rw [hS] at S
      have t_newStep := ta_putStep_newStep
      have t_clearStep := ta_putStep_clearStep
      have t_copyStep := ta_putStep_copyStep
      have t_readStep := ta_putStep_readStep
      have t_putStep := ta_putStep_putStep
      go_enter Tryz.func130, Tryz.ntmps130
      go_wp2_with fail
      refine S.mono ?_; rintro e w1 ⟨rfl, hb1⟩
      go_wp2_with fail
      go_ret
      exact ⟨rfl, fin.trans (hb1.mono fin.size)⟩
    · have hS : stepV ⟨7, a, b⟩ = .iface 129 (.agg #[.int .i64 a]) := rfl
      rw [hS] at S
      have t_newStep := ta_clearStep_newStep
      have t_clearStep := ta_clearStep_clearStep
      go_enter Tryz.func130, Tryz.ntmps130
      go_wp2_with fail
      refine S.mono ?_; rintro e w1 ⟨rfl, hb1⟩
      go_wp2_with fail
      go_ret
      exact ⟨rfl, fin.trans (hb1.mono fin.size)⟩
  · have hf : Hid (stepV ⟨k, a, b⟩ = .nilIface) := by unfold Hid stepV; simp only; rw [if_neg (by omega)]; rw [if_neg (by omega)]; rw [if_neg (by omega)]; rw [if_neg (by omega)]; rw [if_neg (by omega)]; rw [if_neg (by omega)]; rw [if_neg (by omega)]
    have hc : Hid (namedN k = 0) := by unfold Hid namedN; rw [if_neg (by omega), if_neg (by omega)]
    rw [hf.out] at S
    have t_newStep := ta_nil_newStep
    have t_clearStep := ta_nil_clearStep
    have t_copyStep := ta_nil_copyStep
    have t_readStep := ta_nil_readStep
    have t_putStep := ta_nil_putStep
    clear hk hf
    go_enter Tryz.func130, Tryz.ntmps130
    go_wp2_with fail
    refine S.mono ?_; rintro e w1 ⟨rfl, hb1⟩
    go_wp2_with fail
    go_ret
    exact ⟨ret_int hc.out.symm, fin.trans (hb1.mono fin.size)⟩

set_option maxHeartbeats 1000000 in
theorem rootNamed_any (w : World) (a n : Int) : Calls Tryz.prog 131 #[.int .i64 a, .int .i64 n] w fun e w' => e = .returned (.bool (rnB a n)) ∧ w = w' := by
  by_cases h0 : 0 ≤ a
  · by_cases hn : n ≤ 3
    · have hf : Hid (rnB a n = decide (a < n)) := by unfold Hid rnB; rw [Bool.eq_iff_iff, decide_eq_true_eq, decide_eq_true_eq]; omega
      have hm : min n 3 = n := by omega
      go_enter Tryz.func131, Tryz.ntmps131
      go_wp2_with fail
      go_ret
      exact ⟨ret_bool hf.out.symm, rfl⟩
    · have hf : Hid (rnB a n = decide (a < 3)) := by unfold Hid rnB; rw [Bool.eq_iff_iff, decide_eq_true_eq, decide_eq_true_eq]; omega
      have hm : min n 3 = 3 := by omega
      go_enter Tryz.func131, Tryz.ntmps131
      go_wp2_with fail
      go_ret
      exact ⟨ret_bool hf.out.symm, rfl⟩
  · have hf : Hid (rnB a n = false) := by unfold Hid rnB; rw [decide_eq_false_iff_not]; omega
    go_enter Tryz.func131, Tryz.ntmps131
    go_wp2_with fail
    go_ret
    exact ⟨ret_bool hf.out.symm, rfl⟩

set_option maxRecDepth 100000 in
set_option maxHeartbeats 1000000 in
theorem implOpValid_any (w : World) (o : Opv) (n : Int) : Calls Tryz.prog 86 #[opV o, .int .i64 n] w (RetB w (opB o n)) := by
  obtain ⟨k, a, b⟩ := o
  show Calls Tryz.prog 86 #[.agg #[.int .i64 k, .int .i64 a, .int .i64 b], .int .i64 n] w _
  have S := countNamed_any (w.alloc (.cells #[.int .i64 k, .int .i64 a, .int .i64 b] 40)) ⟨k, a, b⟩
  have X0 := Blk3.new w (.int .i64 k) (.int .i64 a) (.int .i64 b) 40
  have fin : Below w.heap.size w (w.alloc (.cells #[.int .i64 k, .int .i64 a, .int .i64 b] 40)) := (Below.refl _ _).alloc (Nat.le_refl _) _
  have RA := fun W => rootNamed_any W a n
  have RB := fun W => rootNamed_any W b n
  by_cases h1 : k = 1 ∨ k = 7
  · have hc : namedN k = 1 := by unfold namedN; rw [if_pos h1]
    simp only [hc] at S
    have hf0 := Lib.hid (opB_one (a := a) (b := b) (n := n) h1)
    clear h1 hc RB
    rcases hr : rnB a n
    · have hf : Hid (opB ⟨k, a, b⟩ n = false) := by unfold Hid; rw [hf0.out, hr]; rfl
      rw [hr] at RA; clear hr hf0
      go_enter Tryz.func86, Tryz.ntmps86
      go_wp2_with fail
      refine S.mono ?_; rintro e w1 ⟨rfl, hb1⟩
      have X1 := Blk3.below (by exact X0) hb1
      obtain ⟨p0, p1, p2, _⟩ := X1.cells
      have B1 := fin.trans (hb1.mono fin.size)
      go_wp2_with fail
      refine (RA _).mono ?_; rintro e w2 ⟨rfl, rfl⟩
      go_wp2_with fail
      go_ret
      exact ⟨ret_bool hf.out.symm, B1⟩
    · have hf : Hid (opB ⟨k, a, b⟩ n = (b == 0)) := by unfold Hid; rw [hf0.out, hr]; rfl
      rw [hr] at RA; clear hr hf0
      go_enter Tryz.func86, Tryz.ntmps86
      go_wp2_with fail
      refine S.mono ?_; rintro e w1 ⟨rfl, hb1⟩
      have X1 := Blk3.below (by exact X0) hb1
      obtain ⟨p0, p1, p2, _⟩ := X1.cells
      have B1 := fin.trans (hb1.mono fin.size)
      go_wp2_with fail
      refine (RA _).mono ?_; rintro e w2 ⟨rfl, rfl⟩
      go_wp2_with fail
      go_ret
      exact ⟨ret_bool hf.out.symm, B1⟩
  · by_cases h2 : 2 ≤ k ∧ k ≤ 6
    · have hc : namedN k = 2 := by unfold namedN; rw [if_neg h1, if_pos (by omega)]
      simp only [hc] at S
      have hf0 := Lib.hid (opB_two (a := a) (b := b) (n := n) h2)
      clear h1 h2 hc
      rcases hr : rnB a n
      · have hf : Hid (opB ⟨k, a, b⟩ n = false) := by unfold Hid; rw [hf0.out, hr]; rfl
        rw [hr] at RA; clear hr hf0 RB
        go_enter Tryz.func86, Tryz.ntmps86
        go_wp2_with fail
        refine S.mono ?_; rintro e w1 ⟨rfl, hb1⟩
        have X1 := Blk3.below (by exact X0) hb1
        obtain ⟨p0, p1, p2, _⟩ := X1.cells
        have B1 := fin.trans (hb1.mono fin.size)
        go_wp2_with fail
        refine (RA _).mono ?_; rintro e w2 ⟨rfl, rfl⟩
        go_wp2_with fail
        go_ret
        exact ⟨ret_bool hf.out.symm, B1⟩
      · have hf : Hid (opB ⟨k, a, b⟩ n = rnB b n) := by unfold Hid; rw [hf0.out, hr]; rfl
        rw [hr] at RA; clear hr hf0
        go_enter Tryz.func86, Tryz.ntmps86
        go_wp2_with fail
        refine S.mono ?_; rintro e w1 ⟨rfl, hb1⟩
        have X1 := Blk3.below (by exact X0) hb1
        obtain ⟨p0, p1, p2, _⟩ := X1.cells
        have B1 := fin.trans (hb1.mono fin.size)
        go_wp2_with fail
        refine (RA _).mono ?_; rintro e w2 ⟨rfl, rfl⟩
        go_wp2_with fail
        refine (RB _).mono ?_; rintro e w3 ⟨rfl, rfl⟩
        go_wp2_with fail
        go_ret
        exact ⟨ret_bool hf.out.symm, B1⟩
    · have hc : namedN k = 0 := by unfold namedN; rw [if_neg h1, if_neg (by omega)]
      simp only [hc] at S
      have hf := Lib.hid (opB_none (a := a) (b := b) (n := n) (k := k) (by omega))
      clear h1 h2 hc RA RB
      go_enter Tryz.func86, Tryz.ntmps86
      go_wp2_with fail
      refine S.mono ?_; rintro e w1 ⟨rfl, hb1⟩
      have B1 := fin.trans (hb1.mono fin.size)
      go_wp2_with fail
      go_ret
      exact ⟨ret_bool hf.out.symm, B1⟩
end Go.Proofs.YtfoimicbmkiigaaGreat
