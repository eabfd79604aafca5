/- Equality of programs with collectors. -/
import Derived.Test.YtdifplakkepnkaaBthM
import Derived.Test.YtdifplakkepnkaaExactP
import Derived.Test.YtdifplakkepnkaaGSms
import Derived.Laws.StructEq
namespace Go.Proofs.Ytdifplakkepnkaa
open Go.RowKit

/-- Two operations are held against each other. -/
theorem neqOp_run (W : World) (k a b k' a' b' : Int) : (binOp .neq 70 (.agg #[.int .i64 k, .int .i64 a, .int .i64 b]) (.agg #[.int .i64 k', .int .i64 a', .int .i64 b'])).run Try.prog W = .ok (.bool (!(decide (k = k') && decide (a = a') && decide (b = b')))) W := by
  have hf : (Try.prog.fieldsOf 70).toList.map (fun f => (f.name == "_", f.type, f.offset)) = [(false, 3, 0), (false, 3, 1), (false, 3, 2)] := by kernel_rfl
  have hu : Try.prog.underlying 70 = some (.struct (Try.prog.fieldsOf 70)) := by kernel_rfl
  have hp : Try.prog.stoodInHeld 70 = false := by kernel_rfl
  rw [run_neq_struct, run_equalIn_struct _ _ _ _ _ hu hp]
  generalize (Try.prog.fieldsOf 70).toList = L at hf
  rcases L with _ | ⟨f0, _ | ⟨f1, _ | ⟨f2, _ | ⟨f3, L⟩⟩⟩⟩ <;> simp at hf
  obtain ⟨⟨h0, e0, d0⟩, ⟨h1, e1, d1⟩, ⟨h2, e2, d2⟩⟩ := hf
  have hi := Try.underlying3
  simp only [Op.eqFields, ne_eq, h0, h1, h2, not_false_eq_true, if_true, e0, d0, e1, d1, e2, d2]
  by_cases q0 : k = k' <;> by_cases q1 : a = a' <;> by_cases q2 : b = b' <;> simp [go_sem, run_equalIn_int, hi, q0, q1, q2]
theorem neqOp_same (W : World) (x y : Opv) (h : x = y) : (binOp .neq 70 (.agg #[.int .i64 x.k, .int .i64 x.a, .int .i64 x.b]) (.agg #[.int .i64 y.k, .int .i64 y.a, .int .i64 y.b])).run Try.prog W = .ok (.bool false) W := by
  subst h; rw [neqOp_run]; simp
theorem neqOp_other (W : World) (x y : Opv) (h : ¬ x = y) : (binOp .neq 70 (.agg #[.int .i64 x.k, .int .i64 x.a, .int .i64 x.b]) (.agg #[.int .i64 y.k, .int .i64 y.a, .int .i64 y.b])).run Try.prog W = .ok (.bool true) W := by
  rw [neqOp_run]
  have : (decide (x.k = y.k) && decide (x.a = y.a) && decide (x.b = y.b)) = false := by
    rw [Bool.eq_false_iff]; intro h9; simp at h9; exact h (by cases x; cases y; simp_all)
  rw [this]; rfl
set_option maxRecDepth 100000 in
set_option maxHeartbeats 2000000 in
theorem implEqOps_any (w : World) (lo lo' : Nat) (A A' : Option Addr) (n c n' c' : Nat) (xs ys : List Opv) (h : ORow w lo (.slice A n c) xs) (hn : xs.length = n) (hm : n ≤ 9223372036854775807)
    (h' : ORow w lo' (.slice A' n' c') ys) (hn' : ys.length = n') (hm' : n' ≤ 9223372036854775807) :
    Calls Try.prog 39 #[.slice A n c, .slice A' n' c'] w fun e w' => e = .returned (.bool (decide (xs = ys))) ∧ ∃ nq, w' = w.drewN nq := by
  by_cases hne : n = n'
  · subst hne
    go_enter Try.func39, Try.ntmps39
    go_wp2
    go_loopw [5, 13] (fun _ i wr => (∃ k : Nat, k ≤ n ∧ i = .int .i64 k ∧ Hid (xs.take k = ys.take k)) ∧ ∃ nq, wr = w.drewN nq) (fun _ i _ => n - (intOf i).toNat)
    case atStart => exact ⟨⟨0, Nat.zero_le _, rfl, rfl⟩, 0, rfl⟩
    case round =>
      obtain ⟨⟨k, hk, rfl, ht⟩, nq, rfl⟩ := hrel
      by_cases hlt : k < n
      · obtain ⟨g, ⟨ok, oa, oq⟩, rfl, _, _, hx, o0, o1, o2⟩ := h.get (k := k) (by omega)
        obtain ⟨g', ⟨zk, za, zq⟩, rfl, _, _, hy, z0, z1, z2⟩ := h'.get (k := k) (by omega)
        simp only at o0 o1 o2 z0 z1 z2
        have hb1 : (k : Int) < (n : Int) := by omega
        by_cases hxy : (⟨ok, oa, oq⟩ : Opv) = ⟨zk, za, zq⟩
        · have Ht : Hid (xs.take (k + 1) = ys.take (k + 1)) := eq_takeO hx.out (hxy ▸ hy.out) ht.out
          have NE := fun W : World => neqOp_same W ⟨ok, oa, oq⟩ ⟨zk, za, zq⟩ hxy
          clear ht hx hy hxy
          go_wp2
          go_quiet (fail)
          go_wp2
          go_roundw
          case rel => exact ⟨⟨k + 1, by omega, by go_num, Ht⟩, _, by first | rfl | (rw [World.drewN_drewN])⟩
          case measure => simp [intOf]; omega
        · have NE := fun W : World => neqOp_other W ⟨ok, oa, oq⟩ ⟨zk, za, zq⟩ hxy
          have Hf : Hid (decide (xs = ys) = false) := by
            unfold Hid; simp only [decide_eq_false_iff_not]; rintro rfl
            have e := hx.out.symm.trans hy.out
            exact hxy (by simpa using e)
          clear ht hx hy hxy
          go_wp2
          go_quiet (fail)
          go_wp2
          go_ret
          exact ⟨ret_bool Hf.out.symm, _, by first | rfl | (rw [World.drewN_drewN])⟩
      · obtain rfl : k = n := by omega
        have Hf : Hid (decide (xs = ys) = true) := by
          have := ht.out; rw [List.take_of_length_le (by omega), List.take_of_length_le (by omega)] at this; unfold Hid; simpa using this
        go_wp2
        go_ret
        exact ⟨ret_bool Hf.out.symm, _, rfl⟩
  · have hne2 : ((n : Int) != (n' : Int)) = true := by simp; omega
    have Hf : Hid (decide (xs = ys) = false) := by
      unfold Hid; simp only [decide_eq_false_iff_not]; rintro rfl; omega
    go_enter Try.func39, Try.ntmps39
    go_wp2
    go_ret
    exact ⟨ret_bool Hf.out.symm, 0, rfl⟩

set_option maxRecDepth 100000 in
set_option maxHeartbeats 2000000 in
theorem l7SameOps_any (w : World) (lo lo' : Nat) (A A' : Option Addr) (n c n' c' : Nat) (xs ys : List Opv) (h : ORow w lo (.slice A n c) xs) (hn : xs.length = n) (hm : n ≤ 9223372036854775807)
    (h' : ORow w lo' (.slice A' n' c') ys) (hn' : ys.length = n') (hm' : n' ≤ 9223372036854775807) :
    Calls Try.prog 64 #[.slice A n c, .slice A' n' c'] w fun e w' => e = .returned (.bool (decide (xs = ys))) ∧ ∃ nq, w' = w.drewN nq := by
  by_cases hne : n = n'
  · subst hne
    go_enter Try.func64, Try.ntmps64
    go_wp2
    go_loopw [5] (fun i wr => (∃ k : Nat, k ≤ n ∧ i = .int .i64 k ∧ Hid (xs.take k = ys.take k)) ∧ ∃ nq, wr = w.drewN nq) (fun i _ => n - (intOf i).toNat)
    case atStart => exact ⟨⟨0, Nat.zero_le _, rfl, rfl⟩, 0, rfl⟩
    case round =>
      obtain ⟨⟨k, hk, rfl, ht⟩, nq, rfl⟩ := hrel
      by_cases hlt : k < n
      · obtain ⟨g, ⟨ok, oa, oq⟩, rfl, _, _, hx, o0, o1, o2⟩ := h.get (k := k) (by omega)
        obtain ⟨g', ⟨zk, za, zq⟩, rfl, _, _, hy, z0, z1, z2⟩ := h'.get (k := k) (by omega)
        simp only at o0 o1 o2 z0 z1 z2
        have hb1 : (k : Int) < (n : Int) := by omega
        by_cases hxy : (⟨ok, oa, oq⟩ : Opv) = ⟨zk, za, zq⟩
        · have Ht : Hid (xs.take (k + 1) = ys.take (k + 1)) := eq_takeO hx.out (hxy ▸ hy.out) ht.out
          have NE := fun W : World => neqOp_same W ⟨ok, oa, oq⟩ ⟨zk, za, zq⟩ hxy
          clear ht hx hy hxy
          go_wp2
          go_quiet (fail)
          go_wp2
          go_roundw
          case rel => exact ⟨⟨k + 1, by omega, by go_num, Ht⟩, _, by first | rfl | (rw [World.drewN_drewN])⟩
          case measure => simp [intOf]; omega
        · have NE := fun W : World => neqOp_other W ⟨ok, oa, oq⟩ ⟨zk, za, zq⟩ hxy
          have Hf : Hid (decide (xs = ys) = false) := by
            unfold Hid; simp only [decide_eq_false_iff_not]; rintro rfl
            have e := hx.out.symm.trans hy.out
            exact hxy (by simpa using e)
          clear ht hx hy hxy
          go_wp2
          go_quiet (fail)
          go_wp2
          go_ret
          exact ⟨ret_bool Hf.out.symm, _, by first | rfl | (rw [World.drewN_drewN])⟩
      · obtain rfl : k = n := by omega
        have Hf : Hid (decide (xs = ys) = true) := by
          have := ht.out; rw [List.take_of_length_le (by omega), List.take_of_length_le (by omega)] at this; unfold Hid; simpa using this
        go_wp2
        go_ret
        exact ⟨ret_bool Hf.out.symm, _, rfl⟩
  · have hne2 : ((n : Int) != (n' : Int)) = true := by simp; omega
    have Hf : Hid (decide (xs = ys) = false) := by
      unfold Hid; simp only [decide_eq_false_iff_not]; rintro rfl; omega
    go_enter Try.func64, Try.ntmps64
    go_wp2
    go_ret
    exact ⟨ret_bool Hf.out.symm, 0, rfl⟩

end Go.Proofs.Ytdifplakkepnkaa
