import Derived.Test.YtdifplakkepnkaaBthA
import Derived.Test.YtdifplakkepnkaaExB
import Derived.Test.YtdifplakkepnkaaGSms
import Derived.Laws.StructEq
import Derived.Test.YtdifplakkepnkaaIStos
import Derived.Test.YtdifplakkepnkaaStos
import Derived.Test.YtdifplakkepnkaaSDoH
import Derived.Test.YtdifplakkepnkaaDRunOps
/- Equality of programs with collectors. -/
namespace Go.Proofs.Ytdifplakkepnkaa
open Go.RowKit

/-- Two operations are held against each other. -/
theorem neqOp_run (W : World) (k a b k' a' b' : Int) : (binOp .neq 70 (.agg #[.int .i64 k, .int .i64 a, .int .i64 b]) (.agg #[.int .i64 k', .int .i64 a', .int .i64 b'])).run Try.prog W = .ok (.bool (!(decide (k = k') && decide (a = a') && decide (b = b')))) W := by
  have hf : (Try.prog.fieldsOf 70).toList.map (fun f => (f.name == "_", f.type, f.offset)) = [(false, 3, 0), (false, 3, 1), (false, 3, 2)] := by kernel_rfl
  have hu : Try.prog.underlying 70 = some (.struct (Try.prog.fieldsOf 70)) := by kernel_rfl
  have hp : Try.prog.stoodInHeld 70 = false := by kernel_rfl
  rw [run_neq_struct, run_equalIn_struct _ _ _ _ _ hu hp]
  generalize (Try.prog.fieldsOf 70).toList = L at hf
  rcases L with _ | ⟨f0, _ | ⟨f1, _ | ⟨f2, _ | ⟨f3, L⟩⟩⟩⟩ <;> simp at hf
  obtain ⟨⟨h0, e0, d0⟩, ⟨h1, e1, d1⟩, ⟨h2, e2, d2⟩⟩ := hf
  have hi := Try.underlying3
  simp only [Op.eqFields, ne_eq, h0, h1, h2, not_false_eq_true, if_true, e0, d0, e1, d1, e2, d2]
  by_cases q0 : k = k' <;> by_cases q1 : a = a' <;> by_cases q2 : b = b' <;> simp [go_sem, run_equalIn_int, hi, q0, q1, q2]
theorem neqOp_same (W : World) (x y : Opv) (h : x = y) : (binOp .neq 70 (.agg #[.int .i64 x.k, .int .i64 x.a, .int .i64 x.b]) (.agg #[.int .i64 y.k, .int .i64 y.a, .int .i64 y.b])).run Try.prog W = .ok (.bool false) W := by
  subst h; rw [neqOp_run]; simp
theorem neqOp_other (W : World) (x y : Opv) (h : ¬ x = y) : (binOp .neq 70 (.agg #[.int .i64 x.k, .int .i64 x.a, .int .i64 x.b]) (.agg #[.int .i64 y.k, .int .i64 y.a, .int .i64 y.b])).run Try.prog W = .ok (.bool true) W := by
  rw [neqOp_run]
  have : (decide (x.k = y.k) && decide (x.a = y.a) && decide (x.b = y.b)) = false := by
    rw [Bool.eq_false_iff]; intro h9; simp at h9; exact h (by cases x; cases y; simp_all)
  rw [this]; rfl
set_option maxRecDepth 100000 in
set_option maxHeartbeats 2000000 in
theorem implEqOps_any (w : World) (lo lo' : Nat) (A A' : Option Addr) (n c n' c' : Nat) (xs ys : List Opv) (h : ORow w lo (.slice A n c) xs) (hn : xs.length = n) (hm : n ≤ 9223372036854775807)
    (h' : ORow w lo' (.slice A' n' c') ys) (hn' : ys.length = n') (hm' : n' ≤ 9223372036854775807) :
    Calls Try.prog 39 #[.slice A n c, .slice A' n' c'] w fun e w' => e = .returned (.bool (decide (xs = ys))) ∧ ∃ nq, w' = w.drewN nq := by
  by_cases hne : n = n'
  · subst hne
    go_enter Try.func39, Try.ntmps39
    go_wp2
    go_loopw [5, 13] (fun _ i wr => (∃ k : Nat, k ≤ n ∧ i = .int .i64 k ∧ Hid (xs.take k = ys.take k)) ∧ ∃ nq, wr = w.drewN nq) (fun _ i _ => n - (intOf i).toNat)
    case atStart => exact ⟨⟨0, Nat.zero_le _, rfl, rfl⟩, 0, rfl⟩
    case round =>
      obtain ⟨⟨k, hk, rfl, ht⟩, nq, rfl⟩ := hrel
      by_cases hlt : k < n
      · obtain ⟨g, ⟨ok, oa, oq⟩, rfl, _, _, hx, o0, o1, o2⟩ := h.get (k := k) (by omega)
        obtain ⟨g', ⟨zk, za, zq⟩, rfl, _, _, hy, z0, z1, z2⟩ := h'.get (k := k) (by omega)
        simp only at o0 o1 o2 z0 z1 z2
        have hb1 : (k : Int) < (n : Int) := by omega
        by_cases hxy : (⟨ok, oa, oq⟩ : Opv) = ⟨zk, za, zq⟩
        · have Ht : Hid (xs.take (k + 1) = ys.take (k + 1)) := eq_takeO hx.out (hxy ▸ hy.out) ht.out
          have NE := fun W : World => neqOp_same W ⟨ok, oa, oq⟩ ⟨zk, za, zq⟩ hxy
          clear ht hx hy hxy
          go_wp2
          go_quiet (fail)
          go_wp2
          go_roundw
          case rel => exact ⟨⟨k + 1, by omega, by go_num, Ht⟩, _, by first | rfl | (rw [World.drewN_drewN])⟩
          case measure => simp [intOf]; omega
        · have NE := fun W : World => neqOp_other W ⟨ok, oa, oq⟩ ⟨zk, za, zq⟩ hxy
          have Hf : Hid (decide (xs = ys) = false) := by
            unfold Hid; simp only [decide_eq_false_iff_not]; rintro rfl
            have e := hx.out.symm.trans hy.out
            exact hxy (by simpa using e)
          clear ht hx hy hxy
          go_wp2
          go_quiet (fail)
          go_wp2
          go_ret
          exact ⟨ret_bool Hf.out.symm, _, by first | rfl | (rw [World.drewN_drewN])⟩
      · obtain rfl : k = n := by omega
        have Hf : Hid (decide (xs = ys) = true) := by
          have := ht.out; rw [List.take_of_length_le (by omega), List.take_of_length_le (by omega)] at this; unfold Hid; simpa using this
        go_wp2
        go_ret
        exact ⟨ret_bool Hf.out.symm, _, rfl⟩
  · have hne2 : ((n : Int) != (n' : Int)) = true := by simp; omega
    have Hf : Hid (decide (xs = ys) = false) := by
      unfold Hid; simp only [decide_eq_false_iff_not]; rintro rfl; omega
    go_enter Try.func39, Try.ntmps39
    go_wp2
    go_ret
    exact ⟨ret_bool Hf.out.symm, 0, rfl⟩

set_option maxRecDepth 100000 in
set_option maxHeartbeats 2000000 in
theorem l7SameOps_any (w : World) (lo lo' : Nat) (A A' : Option Addr) (n c n' c' : Nat) (xs ys : List Opv) (h : ORow w lo (.slice A n c) xs) (hn : xs.length = n) (hm : n ≤ 9223372036854775807)
    (h' : ORow w lo' (.slice A' n' c') ys) (hn' : ys.length = n') (hm' : n' ≤ 9223372036854775807) :
    Calls Try.prog 64 #[.slice A n c, .slice A' n' c'] w fun e w' => e = .returned (.bool (decide (xs = ys))) ∧ ∃ nq, w' = w.drewN nq := by
  by_cases hne : n = n'
  · subst hne
    go_enter Try.func64, Try.ntmps64
    go_wp2
    go_loopw [5] (fun i wr => (∃ k : Nat, k ≤ n ∧ i = .int .i64 k ∧ Hid (xs.take k = ys.take k)) ∧ ∃ nq, wr = w.drewN nq) (fun i _ => n - (intOf i).toNat)
    case atStart => exact ⟨⟨0, Nat.zero_le _, rfl, rfl⟩, 0, rfl⟩
    case round =>
      obtain ⟨⟨k, hk, rfl, ht⟩, nq, rfl⟩ := hrel
      by_cases hlt : k < n
      · obtain ⟨g, ⟨ok, oa, oq⟩, rfl, _, _, hx, o0, o1, o2⟩ := h.get (k := k) (by omega)
        obtain ⟨g', ⟨zk, za, zq⟩, rfl, _, _, hy, z0, z1, z2⟩ := h'.get (k := k) (by omega)
        simp only at o0 o1 o2 z0 z1 z2
        have hb1 : (k : Int) < (n : Int) := by omega
        by_cases hxy : (⟨ok, oa, oq⟩ : Opv) = ⟨zk, za, zq⟩
        · have Ht : Hid (xs.take (k + 1) = ys.take (k + 1)) := eq_takeO hx.out (hxy ▸ hy.out) ht.out
          have NE := fun W : World => neqOp_same W ⟨ok, oa, oq⟩ ⟨zk, za, zq⟩ hxy
          clear ht hx hy hxy
          go_wp2
          go_quiet (fail)
          go_wp2
          go_roundw
          case rel => exact ⟨⟨k + 1, by omega, by go_num, Ht⟩, _, by first | rfl | (rw [World.drewN_drewN])⟩
          case measure => simp [intOf]; omega
        · have NE := fun W : World => neqOp_other W ⟨ok, oa, oq⟩ ⟨zk, za, zq⟩ hxy
          have Hf : Hid (decide (xs = ys) = false) := by
            unfold Hid; simp only [decide_eq_false_iff_not]; rintro rfl
            have e := hx.out.symm.trans hy.out
            exact hxy (by simpa using e)
          clear ht hx hy hxy
          go_wp2
          go_quiet (fail)
          go_wp2
          go_ret
          exact ⟨ret_bool Hf.out.symm, _, by first | rfl | (rw [World.drewN_drewN])⟩
      · obtain rfl : k = n := by omega
        have Hf : Hid (decide (xs = ys) = true) := by
          have := ht.out; rw [List.take_of_length_le (by omega), List.take_of_length_le (by omega)] at this; unfold Hid; simpa using this
        go_wp2
        go_ret
        exact ⟨ret_bool Hf.out.symm, _, rfl⟩
  · have hne2 : ((n : Int) != (n' : Int)) = true := by simp; omega
    have Hf : Hid (decide (xs = ys) = false) := by
      unfold Hid; simp only [decide_eq_false_iff_not]; rintro rfl; omega
    go_enter Try.func64, Try.ntmps64
    go_wp2
    go_ret
    exact ⟨ret_bool Hf.out.symm, 0, rfl⟩

end Go.Proofs.Ytdifplakkepnkaa

/- BothSame of spec and of impl. -/
namespace Go.Proofs.Ytdifplakkepnkaa
open Go.RowKit

/-- Equal, field by field. -/
def sameBo (a b : Bp) : Bool := sameC a.C b.C && sameG a.G b.G && decide (a.os = b.os) && decide (a.i = b.i) && decide (a.z = b.z)
theorem sameBo_self (a : Bp) : sameBo a a = true := by unfold sameBo; simp [sameC_self, sameG_self]
set_option maxRecDepth 100000 in
set_option maxHeartbeats 4000000 in
theorem implBothSame_any (w : World) (lo lo' : Nat) (v v' : Value) (B B' : Bp) (h : Bv w lo v B) (h' : Bv w lo' v' B') : Calls Try.prog 11 #[v, v'] w (RetB w (sameBo B B')) := by
  obtain ⟨A0, n0, c0, A1, n1, c1, A2, n2, c2, A3, n3, c3, A4, n4, c4, A5, n5, c5, C, p, cc, a, os, i, z, rfl, rfl, hc, ho, ⟨l0, l1, l2, l3, l4, l5⟩, ⟨m0, m1, m2, m3, m4, m5⟩⟩ := h.open_
  obtain ⟨A0', n0', c0', A1', n1', c1', A2', n2', c2', A3', n3', c3', A4', n4', c4', A5', n5', c5', C', p', cc', a', os', i', z', rfl, rfl, hc', ho', ⟨l0', l1', l2', l3', l4', l5'⟩, ⟨m0', m1', m2', m3', m4', m5'⟩⟩ := h'.open_
  have X := (Blk10.new w (.slice A0 n0 c0) (.slice A1 n1 c1) (.slice A2 n2 c2) (.slice A3 n3 c3) (.int .i64 p) (.slice A4 n4 c4) (.int .i64 a) (.slice A5 n5 c5) (.int .i64 i) (.bool z) 34).alloc (.cells #[.slice A0' n0' c0', .slice A1' n1' c1', .slice A2' n2' c2', .slice A3' n3' c3', .int .i64 p', .slice A4' n4' c4', .int .i64 a', .slice A5' n5' c5', .int .i64 i', .bool z'] 34)
  have Y := Blk10.new_at (w := w.alloc (.cells #[.slice A0 n0 c0, .slice A1 n1 c1, .slice A2 n2 c2, .slice A3 n3 c3, .int .i64 p, .slice A4 n4 c4, .int .i64 a, .slice A5 n5 c5, .int .i64 i, .bool z] 34)) (b := w.heap.size + 1) (by simp) (.slice A0' n0' c0') (.slice A1' n1' c1') (.slice A2' n2' c2') (.slice A3' n3' c3') (.int .i64 p') (.slice A4' n4' c4') (.int .i64 a') (.slice A5' n5' c5') (.int .i64 i') (.bool z') 34
  have HC := (hc.alloc (.cells #[.slice A0 n0 c0, .slice A1 n1 c1, .slice A2 n2 c2, .slice A3 n3 c3, .int .i64 p, .slice A4 n4 c4, .int .i64 a, .slice A5 n5 c5, .int .i64 i, .bool z] 34)).alloc (.cells #[.slice A0' n0' c0', .slice A1' n1' c1', .slice A2' n2' c2', .slice A3' n3' c3', .int .i64 p', .slice A4' n4' c4', .int .i64 a', .slice A5' n5' c5', .int .i64 i', .bool z'] 34)
  have HC' := (hc'.alloc (.cells #[.slice A0 n0 c0, .slice A1 n1 c1, .slice A2 n2 c2, .slice A3 n3 c3, .int .i64 p, .slice A4 n4 c4, .int .i64 a, .slice A5 n5 c5, .int .i64 i, .bool z] 34)).alloc (.cells #[.slice A0' n0' c0', .slice A1' n1' c1', .slice A2' n2' c2', .slice A3' n3' c3', .int .i64 p', .slice A4' n4' c4', .int .i64 a', .slice A5' n5' c5', .int .i64 i', .bool z'] 34)
  have HO := (ho.alloc (.cells #[.slice A0 n0 c0, .slice A1 n1 c1, .slice A2 n2 c2, .slice A3 n3 c3, .int .i64 p, .slice A4 n4 c4, .int .i64 a, .slice A5 n5 c5, .int .i64 i, .bool z] 34)).alloc (.cells #[.slice A0' n0' c0', .slice A1' n1' c1', .slice A2' n2' c2', .slice A3' n3' c3', .int .i64 p', .slice A4' n4' c4', .int .i64 a', .slice A5' n5' c5', .int .i64 i', .bool z'] 34)
  have HO' := (ho'.alloc (.cells #[.slice A0 n0 c0, .slice A1 n1 c1, .slice A2 n2 c2, .slice A3 n3 c3, .int .i64 p, .slice A4 n4 c4, .int .i64 a, .slice A5 n5 c5, .int .i64 i, .bool z] 34)).alloc (.cells #[.slice A0' n0' c0', .slice A1' n1' c1', .slice A2' n2' c2', .slice A3' n3' c3', .int .i64 p', .slice A4' n4' c4', .int .i64 a', .slice A5' n5' c5', .int .i64 i', .bool z'] 34)
  have BB : Below w.heap.size w ((w.alloc (.cells #[.slice A0 n0 c0, .slice A1 n1 c1, .slice A2 n2 c2, .slice A3 n3 c3, .int .i64 p, .slice A4 n4 c4, .int .i64 a, .slice A5 n5 c5, .int .i64 i, .bool z] 34)).alloc (.cells #[.slice A0' n0' c0', .slice A1' n1' c1', .slice A2' n2' c2', .slice A3' n3' c3', .int .i64 p', .slice A4' n4' c4', .int .i64 a', .slice A5' n5' c5', .int .i64 i', .bool z'] 34)) := ((Below.refl _ _).alloc (Nat.le_refl _) _).alloc (by simp) _
  clear hc hc' ho ho' h h'
  generalize hW : (w.alloc (.cells #[.slice A0 n0 c0, .slice A1 n1 c1, .slice A2 n2 c2, .slice A3 n3 c3, .int .i64 p, .slice A4 n4 c4, .int .i64 a, .slice A5 n5 c5, .int .i64 i, .bool z] 34)).alloc (.cells #[.slice A0' n0' c0', .slice A1' n1' c1', .slice A2' n2' c2', .slice A3' n3' c3', .int .i64 p', .slice A4' n4' c4', .int .i64 a', .slice A5' n5' c5', .int .i64 i', .bool z'] 34) = W at X Y HC HC' HO HO' BB
  obtain ⟨⟨x0, x1, x2, x3, x4, x5, x6, x7, x8, x9⟩, -⟩ := X.cells
  obtain ⟨⟨y0, y1, y2, y3, y4, y5, y6, y7, y8, y9⟩, -⟩ := Y.cells
  have E1 := implStoreSame_any W lo lo' _ _ C C' HC.cv HC'.cv
  have E2 := fun W' (hb : Below W.heap.size W W') => implGcSame_any W' lo lo' _ _ ⟨p, cc, a⟩ ⟨p', cc', a'⟩ (HC.gv.below hb) (HC'.gv.below hb)
  have E3 := fun W' (hb : Below W.heap.size W W') => implEqOps_any W' lo lo' A5 A5' n5 c5 n5' c5' os os' (HO.below hb) l5.out m5 (HO'.below hb) l5'.out m5'
  clear HC HC' HO HO'
  rcases es : sameC C C'
  · rw [es] at E1
    have hf : Hid (sameBo ⟨C, ⟨p, cc, a⟩, os, i, z⟩ ⟨C', ⟨p', cc', a'⟩, os', i', z'⟩ = false) := by unfold Hid sameBo; dsimp only; rw [es]; simp
    clear es E2 E3
    go_enter Try.func11, Try.ntmps11
    go_wp2_with fail
    (try rw [hW])
    refine E1.mono ?_; rintro e w1 ⟨rfl, hb1⟩
    clear x0 x1 x2 x3 x4 x5 x6 x7 x8 x9 y0 y1 y2 y3 y4 y5 y6 y7 y8 y9 E1
    obtain ⟨⟨q0, q1, q2, q3, q4, q5, q6, q7, q8, q9⟩, -⟩ := (X.below hb1).cells
    obtain ⟨⟨r0, r1, r2, r3, r4, r5, r6, r7, r8, r9⟩, -⟩ := (Y.below hb1).cells
    go_wp2_with fail
    go_ret
    exact ⟨ret_bool hf.out.symm, BB.trans (hb1.mono BB.size)⟩
  rw [es] at E1
  rcases eg : sameG ⟨p, cc, a⟩ ⟨p', cc', a'⟩
  · simp only [eg] at E2
    have hf : Hid (sameBo ⟨C, ⟨p, cc, a⟩, os, i, z⟩ ⟨C', ⟨p', cc', a'⟩, os', i', z'⟩ = false) := by unfold Hid sameBo; dsimp only; rw [es, eg]; simp
    clear es eg E3
    go_enter Try.func11, Try.ntmps11
    go_wp2_with fail
    (try rw [hW])
    refine E1.mono ?_; rintro e w1 ⟨rfl, hb1⟩
    clear x0 x1 x2 x3 x4 x5 x6 x7 x8 x9 y0 y1 y2 y3 y4 y5 y6 y7 y8 y9 E1
    obtain ⟨⟨q0, q1, q2, q3, q4, q5, q6, q7, q8, q9⟩, -⟩ := (X.below hb1).cells
    obtain ⟨⟨r0, r1, r2, r3, r4, r5, r6, r7, r8, r9⟩, -⟩ := (Y.below hb1).cells
    go_wp2_with fail
    refine (E2 _ hb1).mono ?_; rintro e w2 ⟨rfl, hb2⟩
    have hB2 := hb1.trans (hb2.mono hb1.size)
    clear q0 q1 q2 q3 q4 q5 q6 q7 q8 q9 r0 r1 r2 r3 r4 r5 r6 r7 r8 r9
    obtain ⟨⟨q0, q1, q2, q3, q4, q5, q6, q7, q8, q9⟩, -⟩ := (X.below hB2).cells
    obtain ⟨⟨r0, r1, r2, r3, r4, r5, r6, r7, r8, r9⟩, -⟩ := (Y.below hB2).cells
    go_wp2_with fail
    go_ret
    exact ⟨ret_bool hf.out.symm, BB.trans (hB2.mono BB.size)⟩
  simp only [eg] at E2
  rcases eo : decide (os = os')
  · simp only [eo] at E3
    have hf : Hid (sameBo ⟨C, ⟨p, cc, a⟩, os, i, z⟩ ⟨C', ⟨p', cc', a'⟩, os', i', z'⟩ = false) := by unfold Hid sameBo; dsimp only; rw [es, eg, eo]; simp
    clear es eg eo
    go_enter Try.func11, Try.ntmps11
    go_wp2_with fail
    (try rw [hW])
    refine E1.mono ?_; rintro e w1 ⟨rfl, hb1⟩
    clear x0 x1 x2 x3 x4 x5 x6 x7 x8 x9 y0 y1 y2 y3 y4 y5 y6 y7 y8 y9 E1
    obtain ⟨⟨q0, q1, q2, q3, q4, q5, q6, q7, q8, q9⟩, -⟩ := (X.below hb1).cells
    obtain ⟨⟨r0, r1, r2, r3, r4, r5, r6, r7, r8, r9⟩, -⟩ := (Y.below hb1).cells
    go_wp2_with fail
    refine (E2 _ hb1).mono ?_; rintro e w2 ⟨rfl, hb2⟩
    have hB2 := hb1.trans (hb2.mono hb1.size)
    clear q0 q1 q2 q3 q4 q5 q6 q7 q8 q9 r0 r1 r2 r3 r4 r5 r6 r7 r8 r9
    obtain ⟨⟨q0, q1, q2, q3, q4, q5, q6, q7, q8, q9⟩, -⟩ := (X.below hB2).cells
    obtain ⟨⟨r0, r1, r2, r3, r4, r5, r6, r7, r8, r9⟩, -⟩ := (Y.below hB2).cells
    go_wp2_with fail
    refine (E3 _ hB2).mono ?_; rintro e w3 ⟨rfl, nq, rfl⟩
    have hB3 := below_drewN hB2 nq
    clear q0 q1 q2 q3 q4 q5 q6 q7 q8 q9 r0 r1 r2 r3 r4 r5 r6 r7 r8 r9
    obtain ⟨⟨q0, q1, q2, q3, q4, q5, q6, q7, q8, q9⟩, -⟩ := (X.below hB3).cells
    obtain ⟨⟨r0, r1, r2, r3, r4, r5, r6, r7, r8, r9⟩, -⟩ := (Y.below hB3).cells
    go_wp2_with fail
    go_ret
    exact ⟨ret_bool hf.out.symm, BB.trans (hB3.mono BB.size)⟩
  simp only [eo] at E3
  by_cases hi : i = i'
  · subst hi
    have hi2 : (i == i) = true := by simp
    have hf : Hid (sameBo ⟨C, ⟨p, cc, a⟩, os, i, z⟩ ⟨C', ⟨p', cc', a'⟩, os', i, z'⟩ = (z == z')) := by unfold Hid sameBo; dsimp only; rw [es, eg, eo]; cases z <;> cases z' <;> simp
    clear es eg eo
    go_enter Try.func11, Try.ntmps11
    go_wp2_with fail
    (try rw [hW])
    refine E1.mono ?_; rintro e w1 ⟨rfl, hb1⟩
    clear x0 x1 x2 x3 x4 x5 x6 x7 x8 x9 y0 y1 y2 y3 y4 y5 y6 y7 y8 y9 E1
    obtain ⟨⟨q0, q1, q2, q3, q4, q5, q6, q7, q8, q9⟩, -⟩ := (X.below hb1).cells
    obtain ⟨⟨r0, r1, r2, r3, r4, r5, r6, r7, r8, r9⟩, -⟩ := (Y.below hb1).cells
    go_wp2_with fail
    refine (E2 _ hb1).mono ?_; rintro e w2 ⟨rfl, hb2⟩
    have hB2 := hb1.trans (hb2.mono hb1.size)
    clear q0 q1 q2 q3 q4 q5 q6 q7 q8 q9 r0 r1 r2 r3 r4 r5 r6 r7 r8 r9
    obtain ⟨⟨q0, q1, q2, q3, q4, q5, q6, q7, q8, q9⟩, -⟩ := (X.below hB2).cells
    obtain ⟨⟨r0, r1, r2, r3, r4, r5, r6, r7, r8, r9⟩, -⟩ := (Y.below hB2).cells
    go_wp2_with fail
    refine (E3 _ hB2).mono ?_; rintro e w3 ⟨rfl, nq, rfl⟩
    have hB3 := below_drewN hB2 nq
    clear q0 q1 q2 q3 q4 q5 q6 q7 q8 q9 r0 r1 r2 r3 r4 r5 r6 r7 r8 r9
    obtain ⟨⟨q0, q1, q2, q3, q4, q5, q6, q7, q8, q9⟩, -⟩ := (X.below hB3).cells
    obtain ⟨⟨r0, r1, r2, r3, r4, r5, r6, r7, r8, r9⟩, -⟩ := (Y.below hB3).cells
    go_wp2_with fail
    go_ret
    exact ⟨ret_bool hf.out.symm, BB.trans (hB3.mono BB.size)⟩
  · have hi2 : (i == i') = false := by rw [beq_eq_false_iff_ne]; exact hi
    have hf : Hid (sameBo ⟨C, ⟨p, cc, a⟩, os, i, z⟩ ⟨C', ⟨p', cc', a'⟩, os', i', z'⟩ = false) := by unfold Hid sameBo; dsimp only; rw [es, eg, eo, decide_eq_false hi]; simp
    clear es eg eo
    go_enter Try.func11, Try.ntmps11
    go_wp2_with fail
    (try rw [hW])
    refine E1.mono ?_; rintro e w1 ⟨rfl, hb1⟩
    clear x0 x1 x2 x3 x4 x5 x6 x7 x8 x9 y0 y1 y2 y3 y4 y5 y6 y7 y8 y9 E1
    obtain ⟨⟨q0, q1, q2, q3, q4, q5, q6, q7, q8, q9⟩, -⟩ := (X.below hb1).cells
    obtain ⟨⟨r0, r1, r2, r3, r4, r5, r6, r7, r8, r9⟩, -⟩ := (Y.below hb1).cells
    go_wp2_with fail
    refine (E2 _ hb1).mono ?_; rintro e w2 ⟨rfl, hb2⟩
    have hB2 := hb1.trans (hb2.mono hb1.size)
    clear q0 q1 q2 q3 q4 q5 q6 q7 q8 q9 r0 r1 r2 r3 r4 r5 r6 r7 r8 r9
    obtain ⟨⟨q0, q1, q2, q3, q4, q5, q6, q7, q8, q9⟩, -⟩ := (X.below hB2).cells
    obtain ⟨⟨r0, r1, r2, r3, r4, r5, r6, r7, r8, r9⟩, -⟩ := (Y.below hB2).cells
    go_wp2_with fail
    refine (E3 _ hB2).mono ?_; rintro e w3 ⟨rfl, nq, rfl⟩
    have hB3 := below_drewN hB2 nq
    clear q0 q1 q2 q3 q4 q5 q6 q7 q8 q9 r0 r1 r2 r3 r4 r5 r6 r7 r8 r9
    obtain ⟨⟨q0, q1, q2, q3, q4, q5, q6, q7, q8, q9⟩, -⟩ := (X.below hB3).cells
    obtain ⟨⟨r0, r1, r2, r3, r4, r5, r6, r7, r8, r9⟩, -⟩ := (Y.below hB3).cells
    go_wp2_with fail
    go_ret
    exact ⟨ret_bool hf.out.symm, BB.trans (hB3.mono BB.size)⟩

set_option maxRecDepth 100000 in
set_option maxHeartbeats 4000000 in
theorem specBothSame_any (w : World) (lo lo' : Nat) (v v' : Value) (B B' : Bp) (h : Bv w lo v B) (h' : Bv w lo' v' B') : Calls Try.prog 29 #[v, v'] w (RetB w (sameBo B B')) := by
  obtain ⟨A0, n0, c0, A1, n1, c1, A2, n2, c2, A3, n3, c3, A4, n4, c4, A5, n5, c5, C, p, cc, a, os, i, z, rfl, rfl, hc, ho, ⟨l0, l1, l2, l3, l4, l5⟩, ⟨m0, m1, m2, m3, m4, m5⟩⟩ := h.open_
  obtain ⟨A0', n0', c0', A1', n1', c1', A2', n2', c2', A3', n3', c3', A4', n4', c4', A5', n5', c5', C', p', cc', a', os', i', z', rfl, rfl, hc', ho', ⟨l0', l1', l2', l3', l4', l5'⟩, ⟨m0', m1', m2', m3', m4', m5'⟩⟩ := h'.open_
  have X := (Blk10.new w (.slice A0 n0 c0) (.slice A1 n1 c1) (.slice A2 n2 c2) (.slice A3 n3 c3) (.int .i64 p) (.slice A4 n4 c4) (.int .i64 a) (.slice A5 n5 c5) (.int .i64 i) (.bool z) 34).alloc (.cells #[.slice A0' n0' c0', .slice A1' n1' c1', .slice A2' n2' c2', .slice A3' n3' c3', .int .i64 p', .slice A4' n4' c4', .int .i64 a', .slice A5' n5' c5', .int .i64 i', .bool z'] 34)
  have Y := Blk10.new_at (w := w.alloc (.cells #[.slice A0 n0 c0, .slice A1 n1 c1, .slice A2 n2 c2, .slice A3 n3 c3, .int .i64 p, .slice A4 n4 c4, .int .i64 a, .slice A5 n5 c5, .int .i64 i, .bool z] 34)) (b := w.heap.size + 1) (by simp) (.slice A0' n0' c0') (.slice A1' n1' c1') (.slice A2' n2' c2') (.slice A3' n3' c3') (.int .i64 p') (.slice A4' n4' c4') (.int .i64 a') (.slice A5' n5' c5') (.int .i64 i') (.bool z') 34
  have HC := (hc.alloc (.cells #[.slice A0 n0 c0, .slice A1 n1 c1, .slice A2 n2 c2, .slice A3 n3 c3, .int .i64 p, .slice A4 n4 c4, .int .i64 a, .slice A5 n5 c5, .int .i64 i, .bool z] 34)).alloc (.cells #[.slice A0' n0' c0', .slice A1' n1' c1', .slice A2' n2' c2', .slice A3' n3' c3', .int .i64 p', .slice A4' n4' c4', .int .i64 a', .slice A5' n5' c5', .int .i64 i', .bool z'] 34)
  have HC' := (hc'.alloc (.cells #[.slice A0 n0 c0, .slice A1 n1 c1, .slice A2 n2 c2, .slice A3 n3 c3, .int .i64 p, .slice A4 n4 c4, .int .i64 a, .slice A5 n5 c5, .int .i64 i, .bool z] 34)).alloc (.cells #[.slice A0' n0' c0', .slice A1' n1' c1', .slice A2' n2' c2', .slice A3' n3' c3', .int .i64 p', .slice A4' n4' c4', .int .i64 a', .slice A5' n5' c5', .int .i64 i', .bool z'] 34)
  have HO := (ho.alloc (.cells #[.slice A0 n0 c0, .slice A1 n1 c1, .slice A2 n2 c2, .slice A3 n3 c3, .int .i64 p, .slice A4 n4 c4, .int .i64 a, .slice A5 n5 c5, .int .i64 i, .bool z] 34)).alloc (.cells #[.slice A0' n0' c0', .slice A1' n1' c1', .slice A2' n2' c2', .slice A3' n3' c3', .int .i64 p', .slice A4' n4' c4', .int .i64 a', .slice A5' n5' c5', .int .i64 i', .bool z'] 34)
  have HO' := (ho'.alloc (.cells #[.slice A0 n0 c0, .slice A1 n1 c1, .slice A2 n2 c2, .slice A3 n3 c3, .int .i64 p, .slice A4 n4 c4, .int .i64 a, .slice A5 n5 c5, .int .i64 i, .bool z] 34)).alloc (.cells #[.slice A0' n0' c0', .slice A1' n1' c1', .slice A2' n2' c2', .slice A3' n3' c3', .int .i64 p', .slice A4' n4' c4', .int .i64 a', .slice A5' n5' c5', .int .i64 i', .bool z'] 34)
  have BB : Below w.heap.size w ((w.alloc (.cells #[.slice A0 n0 c0, .slice A1 n1 c1, .slice A2 n2 c2, .slice A3 n3 c3, .int .i64 p, .slice A4 n4 c4, .int .i64 a, .slice A5 n5 c5, .int .i64 i, .bool z] 34)).alloc (.cells #[.slice A0' n0' c0', .slice A1' n1' c1', .slice A2' n2' c2', .slice A3' n3' c3', .int .i64 p', .slice A4' n4' c4', .int .i64 a', .slice A5' n5' c5', .int .i64 i', .bool z'] 34)) := ((Below.refl _ _).alloc (Nat.le_refl _) _).alloc (by simp) _
  clear hc hc' ho ho' h h'
  generalize hW : (w.alloc (.cells #[.slice A0 n0 c0, .slice A1 n1 c1, .slice A2 n2 c2, .slice A3 n3 c3, .int .i64 p, .slice A4 n4 c4, .int .i64 a, .slice A5 n5 c5, .int .i64 i, .bool z] 34)).alloc (.cells #[.slice A0' n0' c0', .slice A1' n1' c1', .slice A2' n2' c2', .slice A3' n3' c3', .int .i64 p', .slice A4' n4' c4', .int .i64 a', .slice A5' n5' c5', .int .i64 i', .bool z'] 34) = W at X Y HC HC' HO HO' BB
  obtain ⟨⟨x0, x1, x2, x3, x4, x5, x6, x7, x8, x9⟩, -⟩ := X.cells
  obtain ⟨⟨y0, y1, y2, y3, y4, y5, y6, y7, y8, y9⟩, -⟩ := Y.cells
  have E1 := specStoreSame_any W lo lo' _ _ C C' HC.cv HC'.cv
  have E2 := fun W' (hb : Below W.heap.size W W') => specGcSame_any W' lo lo' _ _ ⟨p, cc, a⟩ ⟨p', cc', a'⟩ (HC.gv.below hb) (HC'.gv.below hb)
  have E3 := fun W' (hb : Below W.heap.size W W') => l7SameOps_any W' lo lo' A5 A5' n5 c5 n5' c5' os os' (HO.below hb) l5.out m5 (HO'.below hb) l5'.out m5'
  clear HC HC' HO HO'
  by_cases hi : i = i'
  · subst hi
    have hi2 : (i == i) = true := by simp
    by_cases hz : z = z'
    · subst hz
      have hz2 : (z == z) = true := by simp
      rcases es : sameC C C'
      · rw [es] at E1
        have hf : Hid (sameBo ⟨C, ⟨p, cc, a⟩, os, i, z⟩ ⟨C', ⟨p', cc', a'⟩, os', i, z⟩ = false) := by unfold Hid sameBo; dsimp only; rw [es]; simp
        clear es E2 E3
        go_enter Try.func29, Try.ntmps29
        go_wp2_with fail
        (try rw [hW])
        refine E1.mono ?_; rintro e w1 ⟨rfl, hb1⟩
        clear x0 x1 x2 x3 x4 x5 x6 x7 x8 x9 y0 y1 y2 y3 y4 y5 y6 y7 y8 y9 E1
        obtain ⟨⟨q0, q1, q2, q3, q4, q5, q6, q7, q8, q9⟩, -⟩ := (X.below hb1).cells
        obtain ⟨⟨r0, r1, r2, r3, r4, r5, r6, r7, r8, r9⟩, -⟩ := (Y.below hb1).cells
        go_wp2_with fail
        go_ret
        exact ⟨ret_bool hf.out.symm, BB.trans (hb1.mono BB.size)⟩
      rw [es] at E1
      rcases eg : sameG ⟨p, cc, a⟩ ⟨p', cc', a'⟩
      · simp only [eg] at E2
        have hf : Hid (sameBo ⟨C, ⟨p, cc, a⟩, os, i, z⟩ ⟨C', ⟨p', cc', a'⟩, os', i, z⟩ = false) := by unfold Hid sameBo; dsimp only; rw [es, eg]; simp
        clear es eg E3
        go_enter Try.func29, Try.ntmps29
        go_wp2_with fail
        (try rw [hW])
        refine E1.mono ?_; rintro e w1 ⟨rfl, hb1⟩
        clear x0 x1 x2 x3 x4 x5 x6 x7 x8 x9 y0 y1 y2 y3 y4 y5 y6 y7 y8 y9 E1
        obtain ⟨⟨q0, q1, q2, q3, q4, q5, q6, q7, q8, q9⟩, -⟩ := (X.below hb1).cells
        obtain ⟨⟨r0, r1, r2, r3, r4, r5, r6, r7, r8, r9⟩, -⟩ := (Y.below hb1).cells
        go_wp2_with fail
        refine (E2 _ hb1).mono ?_; rintro e w2 ⟨rfl, hb2⟩
        have hB2 := hb1.trans (hb2.mono hb1.size)
        clear q0 q1 q2 q3 q4 q5 q6 q7 q8 q9 r0 r1 r2 r3 r4 r5 r6 r7 r8 r9
        obtain ⟨⟨q0, q1, q2, q3, q4, q5, q6, q7, q8, q9⟩, -⟩ := (X.below hB2).cells
        obtain ⟨⟨r0, r1, r2, r3, r4, r5, r6, r7, r8, r9⟩, -⟩ := (Y.below hB2).cells
        go_wp2_with fail
        go_ret
        exact ⟨ret_bool hf.out.symm, BB.trans (hB2.mono BB.size)⟩
      simp only [eg] at E2
      have hf : Hid (sameBo ⟨C, ⟨p, cc, a⟩, os, i, z⟩ ⟨C', ⟨p', cc', a'⟩, os', i, z⟩ = decide (os = os')) := by unfold Hid sameBo; dsimp only; rw [es, eg]; simp
      clear es eg
      go_enter Try.func29, Try.ntmps29
      go_wp2_with fail
      (try rw [hW])
      refine E1.mono ?_; rintro e w1 ⟨rfl, hb1⟩
      clear x0 x1 x2 x3 x4 x5 x6 x7 x8 x9 y0 y1 y2 y3 y4 y5 y6 y7 y8 y9 E1
      obtain ⟨⟨q0, q1, q2, q3, q4, q5, q6, q7, q8, q9⟩, -⟩ := (X.below hb1).cells
      obtain ⟨⟨r0, r1, r2, r3, r4, r5, r6, r7, r8, r9⟩, -⟩ := (Y.below hb1).cells
      go_wp2_with fail
      refine (E2 _ hb1).mono ?_; rintro e w2 ⟨rfl, hb2⟩
      have hB2 := hb1.trans (hb2.mono hb1.size)
      clear q0 q1 q2 q3 q4 q5 q6 q7 q8 q9 r0 r1 r2 r3 r4 r5 r6 r7 r8 r9
      obtain ⟨⟨q0, q1, q2, q3, q4, q5, q6, q7, q8, q9⟩, -⟩ := (X.below hB2).cells
      obtain ⟨⟨r0, r1, r2, r3, r4, r5, r6, r7, r8, r9⟩, -⟩ := (Y.below hB2).cells
      go_wp2_with fail
      refine (E3 _ hB2).mono ?_; rintro e w3 ⟨rfl, nq, rfl⟩
      have hB3 := below_drewN hB2 nq
      clear q0 q1 q2 q3 q4 q5 q6 q7 q8 q9 r0 r1 r2 r3 r4 r5 r6 r7 r8 r9
      obtain ⟨⟨q0, q1, q2, q3, q4, q5, q6, q7, q8, q9⟩, -⟩ := (X.below hB3).cells
      obtain ⟨⟨r0, r1, r2, r3, r4, r5, r6, r7, r8, r9⟩, -⟩ := (Y.below hB3).cells
      go_wp2_with fail
      go_ret
      exact ⟨ret_bool hf.out.symm, BB.trans (hB3.mono BB.size)⟩
    · have hz2 : (z == z') = false := by rw [beq_eq_false_iff_ne]; exact hz
      have hf : Hid (sameBo ⟨C, ⟨p, cc, a⟩, os, i, z⟩ ⟨C', ⟨p', cc', a'⟩, os', i, z'⟩ = false) := by unfold Hid sameBo; dsimp only; rw [decide_eq_false hz]; simp
      clear E1 E2 E3
      go_enter Try.func29, Try.ntmps29
      go_wp2_with fail
      (try rw [hW])
      go_ret
      exact ⟨ret_bool hf.out.symm, BB⟩
  · have hi2 : (i == i') = false := by rw [beq_eq_false_iff_ne]; exact hi
    have hf : Hid (sameBo ⟨C, ⟨p, cc, a⟩, os, i, z⟩ ⟨C', ⟨p', cc', a'⟩, os', i', z'⟩ = false) := by unfold Hid sameBo; dsimp only; rw [decide_eq_false hi]; simp
    clear E1 E2 E3
    go_enter Try.func29, Try.ntmps29
    go_wp2_with fail
    (try rw [hW])
    go_ret
    exact ⟨ret_bool hf.out.symm, BB⟩

end Go.Proofs.Ytdifplakkepnkaa

/- ccOps of the laws; the draw of NewBoth. -/
namespace Go.Proofs.Ytdifplakkepnkaa
open Go.RowKit

/-- The store and the operations of a Both. -/
theorem Bv.parts {w : World} {lo : Nat} {v0 v1 v2 v3 p r a u i z : Value} {B : Bp} (h : Bv w lo (.agg #[v0, v1, v2, v3, p, r, a, u, i, z]) B) : Cv w lo (.agg #[v0, v1, v2, v3]) B.C ∧ ORow w lo u B.os := by
  obtain ⟨_, _, _, _, _, _, e, hc, ho, _⟩ := h
  cases e
  exact ⟨hc.cv, ho⟩
set_option maxRecDepth 100000 in
set_option maxHeartbeats 2000000 in
theorem ccOps_any (w : World) (lo lo' : Nat) (A A' : Option Addr) (n c n' c' : Nat) (xs ys : List Opv) (h : ORow w lo (.slice A n c) xs) (hn : xs.length = n) (hm : n ≤ 9223372036854775807)
    (h' : ORow w lo' (.slice A' n' c') ys) (hn' : ys.length = n') (hm' : n' ≤ 9223372036854775807) :
    Calls Try.prog 14 #[.slice A n c, .slice A' n' c'] w fun e w' => e = .returned (.bool (decide (xs = ys))) ∧ ∃ nq, w' = w.drewN nq := by
  by_cases hne : n = n'
  · subst hne
    go_enter Try.func14, Try.ntmps14
    go_wp2
    go_loopw [5] (fun i wr => (∃ k : Nat, k ≤ n ∧ i = .int .i64 k ∧ Hid (xs.take k = ys.take k)) ∧ ∃ nq, wr = w.drewN nq) (fun i _ => n - (intOf i).toNat)
    case atStart => exact ⟨⟨0, Nat.zero_le _, rfl, rfl⟩, 0, rfl⟩
    case round =>
      obtain ⟨⟨k, hk, rfl, ht⟩, nq, rfl⟩ := hrel
      by_cases hlt : k < n
      · obtain ⟨g, ⟨ok, oa, oq⟩, rfl, _, _, hx, o0, o1, o2⟩ := h.get (k := k) (by omega)
        obtain ⟨g', ⟨zk, za, zq⟩, rfl, _, _, hy, z0, z1, z2⟩ := h'.get (k := k) (by omega)
        simp only at o0 o1 o2 z0 z1 z2
        have hb1 : (k : Int) < (n : Int) := by omega
        by_cases hxy : (⟨ok, oa, oq⟩ : Opv) = ⟨zk, za, zq⟩
        · have Ht : Hid (xs.take (k + 1) = ys.take (k + 1)) := eq_takeO hx.out (hxy ▸ hy.out) ht.out
          have NE := fun W : World => neqOp_same W ⟨ok, oa, oq⟩ ⟨zk, za, zq⟩ hxy
          clear ht hx hy hxy
          go_wp2
          go_quiet (fail)
          go_wp2
          go_roundw
          case rel => exact ⟨⟨k + 1, by omega, by go_num, Ht⟩, _, by first | rfl | (rw [World.drewN_drewN])⟩
          case measure => simp [intOf]; omega
        · have NE := fun W : World => neqOp_other W ⟨ok, oa, oq⟩ ⟨zk, za, zq⟩ hxy
          have Hf : Hid (decide (xs = ys) = false) := by
            unfold Hid; simp only [decide_eq_false_iff_not]; rintro rfl
            have e := hx.out.symm.trans hy.out
            exact hxy (by simpa using e)
          clear ht hx hy hxy
          go_wp2
          go_quiet (fail)
          go_wp2
          go_ret
          exact ⟨ret_bool Hf.out.symm, _, by first | rfl | (rw [World.drewN_drewN])⟩
      · obtain rfl : k = n := by omega
        have Hf : Hid (decide (xs = ys) = true) := by
          have := ht.out; rw [List.take_of_length_le (by omega), List.take_of_length_le (by omega)] at this; unfold Hid; simpa using this
        go_wp2
        go_ret
        exact ⟨ret_bool Hf.out.symm, _, rfl⟩
  · have hne2 : ((n : Int) != (n' : Int)) = true := by simp; omega
    have Hf : Hid (decide (xs = ys) = false) := by
      unfold Hid; simp only [decide_eq_false_iff_not]; rintro rfl; omega
    go_enter Try.func14, Try.ntmps14
    go_wp2
    go_ret
    exact ⟨ret_bool Hf.out.symm, 0, rfl⟩

set_option maxRecDepth 100000 in
set_option maxHeartbeats 2000000 in
theorem drawNewBoth_any (w : World) (A : Option Addr) (n c : Nat) (h : Inp w A n c) : Calls Try.prog 8 #[.slice A n c] w (DrawnSOs w) := by
  have h0 := inp_alloc h (.cells #[.slice none 0 0, .slice none 0 0, .slice none 0 0, .slice none 0 0] 27)
  have Y0 := Blk4.new w (.slice none 0 0) (.slice none 0 0) (.slice none 0 0) (.slice none 0 0) 27
  have B0 : Below w.heap.size w (w.alloc (.cells #[.slice none 0 0, .slice none 0 0, .slice none 0 0, .slice none 0 0] 27)) := (Below.refl _ _).alloc (Nat.le_refl _) _
  go_enter Try.func8, Try.ntmps8
  go_wp2_with fail
  refine (drawRunOps_any _ _ _ _ h0).mono ?_; rintro e w1 ⟨v, C, os, LA, lc, rfl, HA, HU, hos, hb1⟩
  obtain ⟨A0, n0, c0, A1, n1, c1, A2, n2, c2, A3, n3, c3, rfl, -⟩ := HA.open_
  have s1 := hb1.size
  simp at s1
  have Y1 := Y0.below hb1
  obtain ⟨q0, q1, q2, q3, k0, k1, k2, k3⟩ := Y1.cells
  have YF := Y1.set4R (.slice A0 n0 c0) (.slice A1 n1 c1) (.slice A2 n2 c2) (.slice A3 n3 c3)
  have hlt : w.heap.size < (w.alloc (.cells #[.slice none 0 0, .slice none 0 0, .slice none 0 0, .slice none 0 0] 27)).heap.size := by simp
  have HF := (HA.set4O (HA.ownLt w.heap.size (.inl hlt)) (.slice A0 n0 c0) (.slice A1 n1 c1) (.slice A2 n2 c2) (.slice A3 n3 c3)).mono (lo' := w.heap.size) (by simp)
  have UF := ((((HU.lowSet (p := ⟨w.heap.size, 0, none⟩) hlt (.slice A0 n0 c0)).lowSet (p := ⟨w.heap.size, 1, none⟩) hlt (.slice A1 n1 c1)).lowSet (p := ⟨w.heap.size, 2, none⟩) hlt (.slice A2 n2 c2)).lowSet (p := ⟨w.heap.size, 3, none⟩) hlt (.slice A3 n3 c3)).mono (lo' := w.heap.size) (by simp)
  have FF := below_set4 (B0.trans (hb1.mono (by simp))) (Nat.le_refl w.heap.size) (.slice A0 n0 c0) (.slice A1 n1 c1) (.slice A2 n2 c2) (.slice A3 n3 c3)
  go_wp2_with fail
  generalize ((((w1.setCell ⟨w.heap.size, 0, none⟩ (.slice A0 n0 c0)).setCell ⟨w.heap.size, 1, none⟩ (.slice A1 n1 c1)).setCell ⟨w.heap.size, 2, none⟩ (.slice A2 n2 c2)).setCell ⟨w.heap.size, 3, none⟩ (.slice A3 n3 c3)) = WF at YF HF UF FF ⊢
  obtain ⟨v0, v1, v2, v3, -⟩ := YF.cells
  refine bodyPost_ret (v := .tuple #[.agg #[.slice A0 n0 c0, .slice A1 n1 c1, .slice A2 n2 c2, .slice A3 n3 c3], .slice LA os.length lc]) ?_ rfl ⟨_, C, os, LA, lc, rfl, HF, UF, hos, FF⟩
  simp [results, Try.results8, go_sem, v0, v1, v2, v3]
end Go.Proofs.Ytdifplakkepnkaa

