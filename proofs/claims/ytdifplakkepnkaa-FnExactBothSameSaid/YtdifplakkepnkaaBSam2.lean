/- BothSame of spec and of impl. -/
import Derived.Test.YtdifplakkepnkaaBSam
import Derived.Test.YtdifplakkepnkaaIStos
import Derived.Test.YtdifplakkepnkaaStos
namespace Go.Proofs.Ytdifplakkepnkaa
open Go.RowKit

/-- Equal, field by field. -/
def sameBo (a b : Bp) : Bool := sameC a.C b.C && sameG a.G b.G && decide (a.os = b.os) && decide (a.i = b.i) && decide (a.z = b.z)
theorem sameBo_self (a : Bp) : sameBo a a = true := by unfold sameBo; simp [sameC_self, sameG_self]
set_option maxRecDepth 100000 in
set_option maxHeartbeats 4000000 in
theorem implBothSame_any (w : World) (lo lo' : Nat) (v v' : Value) (B B' : Bp) (h : Bv w lo v B) (h' : Bv w lo' v' B') : Calls Try.prog 11 #[v, v'] w (RetB w (sameBo B B')) := by
  obtain ⟨A0, n0, c0, A1, n1, c1, A2, n2, c2, A3, n3, c3, A4, n4, c4, A5, n5, c5, C, p, cc, a, os, i, z, rfl, rfl, hc, ho, ⟨l0, l1, l2, l3, l4, l5⟩, ⟨m0, m1, m2, m3, m4, m5⟩⟩ := h.open_
  obtain ⟨A0', n0', c0', A1', n1', c1', A2', n2', c2', A3', n3', c3', A4', n4', c4', A5', n5', c5', C', p', cc', a', os', i', z', rfl, rfl, hc', ho', ⟨l0', l1', l2', l3', l4', l5'⟩, ⟨m0', m1', m2', m3', m4', m5'⟩⟩ := h'.open_
  have X := (Blk10.new w (.slice A0 n0 c0) (.slice A1 n1 c1) (.slice A2 n2 c2) (.slice A3 n3 c3) (.int .i64 p) (.slice A4 n4 c4) (.int .i64 a) (.slice A5 n5 c5) (.int .i64 i) (.bool z) 34).alloc (.cells #[.slice A0' n0' c0', .slice A1' n1' c1', .slice A2' n2' c2', .slice A3' n3' c3', .int .i64 p', .slice A4' n4' c4', .int .i64 a', .slice A5' n5' c5', .int .i64 i', .bool z'] 34)
  have Y := Blk10.new_at (w := w.alloc (.cells #[.slice A0 n0 c0, .slice A1 n1 c1, .slice A2 n2 c2, .slice A3 n3 c3, .int .i64 p, .slice A4 n4 c4, .int .i64 a, .slice A5 n5 c5, .int .i64 i, .bool z] 34)) (b := w.heap.size + 1) (by simp) (.slice A0' n0' c0') (.slice A1' n1' c1') (.slice A2' n2' c2') (.slice A3' n3' c3') (.int .i64 p') (.slice A4' n4' c4') (.int .i64 a') (.slice A5' n5' c5') (.int .i64 i') (.bool z') 34
  have HC := (hc.alloc (.cells #[.slice A0 n0 c0, .slice A1 n1 c1, .slice A2 n2 c2, .slice A3 n3 c3, .int .i64 p, .slice A4 n4 c4, .int .i64 a, .slice A5 n5 c5, .int .i64 i, .bool z] 34)).alloc (.cells #[.slice A0' n0' c0', .slice A1' n1' c1', .slice A2' n2' c2', .slice A3' n3' c3', .int .i64 p', .slice A4' n4' c4', .int .i64 a', .slice A5' n5' c5', .int .i64 i', .bool z'] 34)
  have HC' := (hc'.alloc (.cells #[.slice A0 n0 c0, .slice A1 n1 c1, .slice A2 n2 c2, .slice A3 n3 c3, .int .i64 p, .slice A4 n4 c4, .int .i64 a, .slice A5 n5 c5, .int .i64 i, .bool z] 34)).alloc (.cells #[.slice A0' n0' c0', .slice A1' n1' c1', .slice A2' n2' c2', .slice A3' n3' c3', .int .i64 p', .slice A4' n4' c4', .int .i64 a', .slice A5' n5' c5', .int .i64 i', .bool z'] 34)
  have HO := (ho.alloc (.cells #[.slice A0 n0 c0, .slice A1 n1 c1, .slice A2 n2 c2, .slice A3 n3 c3, .int .i64 p, .slice A4 n4 c4, .int .i64 a, .slice A5 n5 c5, .int .i64 i, .bool z] 34)).alloc (.cells #[.slice A0' n0' c0', .slice A1' n1' c1', .slice A2' n2' c2', .slice A3' n3' c3', .int .i64 p', .slice A4' n4' c4', .int .i64 a', .slice A5' n5' c5', .int .i64 i', .bool z'] 34)
  have HO' := (ho'.alloc (.cells #[.slice A0 n0 c0, .slice A1 n1 c1, .slice A2 n2 c2, .slice A3 n3 c3, .int .i64 p, .slice A4 n4 c4, .int .i64 a, .slice A5 n5 c5, .int .i64 i, .bool z] 34)).alloc (.cells #[.slice A0' n0' c0', .slice A1' n1' c1', .slice A2' n2' c2', .slice A3' n3' c3', .int .i64 p', .slice A4' n4' c4', .int .i64 a', .slice A5' n5' c5', .int .i64 i', .bool z'] 34)
  have BB : Below w.heap.size w ((w.alloc (.cells #[.slice A0 n0 c0, .slice A1 n1 c1, .slice A2 n2 c2, .slice A3 n3 c3, .int .i64 p, .slice A4 n4 c4, .int .i64 a, .slice A5 n5 c5, .int .i64 i, .bool z] 34)).alloc (.cells #[.slice A0' n0' c0', .slice A1' n1' c1', .slice A2' n2' c2', .slice A3' n3' c3', .int .i64 p', .slice A4' n4' c4', .int .i64 a', .slice A5' n5' c5', .int .i64 i', .bool z'] 34)) := ((Below.refl _ _).alloc (Nat.le_refl _) _).alloc (by simp) _
  clear hc hc' ho ho' h h'
  generalize hW : (w.alloc (.cells #[.slice A0 n0 c0, .slice A1 n1 c1, .slice A2 n2 c2, .slice A3 n3 c3, .int .i64 p, .slice A4 n4 c4, .int .i64 a, .slice A5 n5 c5, .int .i64 i, .bool z] 34)).alloc (.cells #[.slice A0' n0' c0', .slice A1' n1' c1', .slice A2' n2' c2', .slice A3' n3' c3', .int .i64 p', .slice A4' n4' c4', .int .i64 a', .slice A5' n5' c5', .int .i64 i', .bool z'] 34) = W at X Y HC HC' HO HO' BB
  obtain ⟨⟨x0, x1, x2, x3, x4, x5, x6, x7, x8, x9⟩, -⟩ := X.cells
  obtain ⟨⟨y0, y1, y2, y3, y4, y5, y6, y7, y8, y9⟩, -⟩ := Y.cells
  have E1 := implStoreSame_any W lo lo' _ _ C C' HC.cv HC'.cv
  have E2 := fun W' (hb : Below W.heap.size W W') => implGcSame_any W' lo lo' _ _ ⟨p, cc, a⟩ ⟨p', cc', a'⟩ (HC.gv.below hb) (HC'.gv.below hb)
  have E3 := fun W' (hb : Below W.heap.size W W') => implEqOps_any W' lo lo' A5 A5' n5 c5 n5' c5' os os' (HO.below hb) l5.out m5 (HO'.below hb) l5'.out m5'
  clear HC HC' HO HO'
  rcases es : sameC C C'
  · rw [es] at E1
    have hf : Hid (sameBo ⟨C, ⟨p, cc, a⟩, os, i, z⟩ ⟨C', ⟨p', cc', a'⟩, os', i', z'⟩ = false) := by unfold Hid sameBo; dsimp only; rw [es]; simp
    clear es E2 E3
    go_enter Try.func11, Try.ntmps11
    go_wp2_with fail
    (try rw [hW])
    refine E1.mono ?_; rintro e w1 ⟨rfl, hb1⟩
    clear x0 x1 x2 x3 x4 x5 x6 x7 x8 x9 y0 y1 y2 y3 y4 y5 y6 y7 y8 y9 E1
    obtain ⟨⟨q0, q1, q2, q3, q4, q5, q6, q7, q8, q9⟩, -⟩ := (X.below hb1).cells
    obtain ⟨⟨r0, r1, r2, r3, r4, r5, r6, r7, r8, r9⟩, -⟩ := (Y.below hb1).cells
    go_wp2_with fail
    go_ret
    exact ⟨ret_bool hf.out.symm, BB.trans (hb1.mono BB.size)⟩
  rw [es] at E1
  rcases eg : sameG ⟨p, cc, a⟩ ⟨p', cc', a'⟩
  · simp only [eg] at E2
    have hf : Hid (sameBo ⟨C, ⟨p, cc, a⟩, os, i, z⟩ ⟨C', ⟨p', cc', a'⟩, os', i', z'⟩ = false) := by unfold Hid sameBo; dsimp only; rw [es, eg]; simp
    clear es eg E3
    go_enter Try.func11, Try.ntmps11
    go_wp2_with fail
    (try rw [hW])
    refine E1.mono ?_; rintro e w1 ⟨rfl, hb1⟩
    clear x0 x1 x2 x3 x4 x5 x6 x7 x8 x9 y0 y1 y2 y3 y4 y5 y6 y7 y8 y9 E1
    obtain ⟨⟨q0, q1, q2, q3, q4, q5, q6, q7, q8, q9⟩, -⟩ := (X.below hb1).cells
    obtain ⟨⟨r0, r1, r2, r3, r4, r5, r6, r7, r8, r9⟩, -⟩ := (Y.below hb1).cells
    go_wp2_with fail
    refine (E2 _ hb1).mono ?_; rintro e w2 ⟨rfl, hb2⟩
    have hB2 := hb1.trans (hb2.mono hb1.size)
    clear q0 q1 q2 q3 q4 q5 q6 q7 q8 q9 r0 r1 r2 r3 r4 r5 r6 r7 r8 r9
    obtain ⟨⟨q0, q1, q2, q3, q4, q5, q6, q7, q8, q9⟩, -⟩ := (X.below hB2).cells
    obtain ⟨⟨r0, r1, r2, r3, r4, r5, r6, r7, r8, r9⟩, -⟩ := (Y.below hB2).cells
    go_wp2_with fail
    go_ret
    exact ⟨ret_bool hf.out.symm, BB.trans (hB2.mono BB.size)⟩
  simp only [eg] at E2
  rcases eo : decide (os = os')
  · simp only [eo] at E3
    have hf : Hid (sameBo ⟨C, ⟨p, cc, a⟩, os, i, z⟩ ⟨C', ⟨p', cc', a'⟩, os', i', z'⟩ = false) := by unfold Hid sameBo; dsimp only; rw [es, eg, eo]; simp
    clear es eg eo
    go_enter Try.func11, Try.ntmps11
    go_wp2_with fail
    (try rw [hW])
    refine E1.mono ?_; rintro e w1 ⟨rfl, hb1⟩
    clear x0 x1 x2 x3 x4 x5 x6 x7 x8 x9 y0 y1 y2 y3 y4 y5 y6 y7 y8 y9 E1
    obtain ⟨⟨q0, q1, q2, q3, q4, q5, q6, q7, q8, q9⟩, -⟩ := (X.below hb1).cells
    obtain ⟨⟨r0, r1, r2, r3, r4, r5, r6, r7, r8, r9⟩, -⟩ := (Y.below hb1).cells
    go_wp2_with fail
    refine (E2 _ hb1).mono ?_; rintro e w2 ⟨rfl, hb2⟩
    have hB2 := hb1.trans (hb2.mono hb1.size)
    clear q0 q1 q2 q3 q4 q5 q6 q7 q8 q9 r0 r1 r2 r3 r4 r5 r6 r7 r8 r9
    obtain ⟨⟨q0, q1, q2, q3, q4, q5, q6, q7, q8, q9⟩, -⟩ := (X.below hB2).cells
    obtain ⟨⟨r0, r1, r2, r3, r4, r5, r6, r7, r8, r9⟩, -⟩ := (Y.below hB2).cells
    go_wp2_with fail
    refine (E3 _ hB2).mono ?_; rintro e w3 ⟨rfl, nq, rfl⟩
    have hB3 := below_drewN hB2 nq
    clear q0 q1 q2 q3 q4 q5 q6 q7 q8 q9 r0 r1 r2 r3 r4 r5 r6 r7 r8 r9
    obtain ⟨⟨q0, q1, q2, q3, q4, q5, q6, q7, q8, q9⟩, -⟩ := (X.below hB3).cells
    obtain ⟨⟨r0, r1, r2, r3, r4, r5, r6, r7, r8, r9⟩, -⟩ := (Y.below hB3).cells
    go_wp2_with fail
    go_ret
    exact ⟨ret_bool hf.out.symm, BB.trans (hB3.mono BB.size)⟩
  simp only [eo] at E3
  by_cases hi : i = i'
  · subst hi
    have hi2 : (i == i) = true := by simp
    have hf : Hid (sameBo ⟨C, ⟨p, cc, a⟩, os, i, z⟩ ⟨C', ⟨p', cc', a'⟩, os', i, z'⟩ = (z == z')) := by unfold Hid sameBo; dsimp only; rw [es, eg, eo]; cases z <;> cases z' <;> simp
    clear es eg eo
    go_enter Try.func11, Try.ntmps11
    go_wp2_with fail
    (try rw [hW])
    refine E1.mono ?_; rintro e w1 ⟨rfl, hb1⟩
    clear x0 x1 x2 x3 x4 x5 x6 x7 x8 x9 y0 y1 y2 y3 y4 y5 y6 y7 y8 y9 E1
    obtain ⟨⟨q0, q1, q2, q3, q4, q5, q6, q7, q8, q9⟩, -⟩ := (X.below hb1).cells
    obtain ⟨⟨r0, r1, r2, r3, r4, r5, r6, r7, r8, r9⟩, -⟩ := (Y.below hb1).cells
    go_wp2_with fail
    refine (E2 _ hb1).mono ?_; rintro e w2 ⟨rfl, hb2⟩
    have hB2 := hb1.trans (hb2.mono hb1.size)
    clear q0 q1 q2 q3 q4 q5 q6 q7 q8 q9 r0 r1 r2 r3 r4 r5 r6 r7 r8 r9
    obtain ⟨⟨q0, q1, q2, q3, q4, q5, q6, q7, q8, q9⟩, -⟩ := (X.below hB2).cells
    obtain ⟨⟨r0, r1, r2, r3, r4, r5, r6, r7, r8, r9⟩, -⟩ := (Y.below hB2).cells
    go_wp2_with fail
    refine (E3 _ hB2).mono ?_; rintro e w3 ⟨rfl, nq, rfl⟩
    have hB3 := below_drewN hB2 nq
    clear q0 q1 q2 q3 q4 q5 q6 q7 q8 q9 r0 r1 r2 r3 r4 r5 r6 r7 r8 r9
    obtain ⟨⟨q0, q1, q2, q3, q4, q5, q6, q7, q8, q9⟩, -⟩ := (X.below hB3).cells
    obtain ⟨⟨r0, r1, r2, r3, r4, r5, r6, r7, r8, r9⟩, -⟩ := (Y.below hB3).cells
    go_wp2_with fail
    go_ret
    exact ⟨ret_bool hf.out.symm, BB.trans (hB3.mono BB.size)⟩
  · have hi2 : (i == i') = false := by rw [beq_eq_false_iff_ne]; exact hi
    have hf : Hid (sameBo ⟨C, ⟨p, cc, a⟩, os, i, z⟩ ⟨C', ⟨p', cc', a'⟩, os', i', z'⟩ = false) := by unfold Hid sameBo; dsimp only; rw [es, eg, eo, decide_eq_false hi]; simp
    clear es eg eo
    go_enter Try.func11, Try.ntmps11
    go_wp2_with fail
    (try rw [hW])
    refine E1.mono ?_; rintro e w1 ⟨rfl, hb1⟩
    clear x0 x1 x2 x3 x4 x5 x6 x7 x8 x9 y0 y1 y2 y3 y4 y5 y6 y7 y8 y9 E1
    obtain ⟨⟨q0, q1, q2, q3, q4, q5, q6, q7, q8, q9⟩, -⟩ := (X.below hb1).cells
    obtain ⟨⟨r0, r1, r2, r3, r4, r5, r6, r7, r8, r9⟩, -⟩ := (Y.below hb1).cells
    go_wp2_with fail
    refine (E2 _ hb1).mono ?_; rintro e w2 ⟨rfl, hb2⟩
    have hB2 := hb1.trans (hb2.mono hb1.size)
    clear q0 q1 q2 q3 q4 q5 q6 q7 q8 q9 r0 r1 r2 r3 r4 r5 r6 r7 r8 r9
    obtain ⟨⟨q0, q1, q2, q3, q4, q5, q6, q7, q8, q9⟩, -⟩ := (X.below hB2).cells
    obtain ⟨⟨r0, r1, r2, r3, r4, r5, r6, r7, r8, r9⟩, -⟩ := (Y.below hB2).cells
    go_wp2_with fail
    refine (E3 _ hB2).mono ?_; rintro e w3 ⟨rfl, nq, rfl⟩
    have hB3 := below_drewN hB2 nq
    clear q0 q1 q2 q3 q4 q5 q6 q7 q8 q9 r0 r1 r2 r3 r4 r5 r6 r7 r8 r9
    obtain ⟨⟨q0, q1, q2, q3, q4, q5, q6, q7, q8, q9⟩, -⟩ := (X.below hB3).cells
    obtain ⟨⟨r0, r1, r2, r3, r4, r5, r6, r7, r8, r9⟩, -⟩ := (Y.below hB3).cells
    go_wp2_with fail
    go_ret
    exact ⟨ret_bool hf.out.symm, BB.trans (hB3.mono BB.size)⟩

set_option maxRecDepth 100000 in
set_option maxHeartbeats 4000000 in
theorem specBothSame_any (w : World) (lo lo' : Nat) (v v' : Value) (B B' : Bp) (h : Bv w lo v B) (h' : Bv w lo' v' B') : Calls Try.prog 29 #[v, v'] w (RetB w (sameBo B B')) := by
  obtain ⟨A0, n0, c0, A1, n1, c1, A2, n2, c2, A3, n3, c3, A4, n4, c4, A5, n5, c5, C, p, cc, a, os, i, z, rfl, rfl, hc, ho, ⟨l0, l1, l2, l3, l4, l5⟩, ⟨m0, m1, m2, m3, m4, m5⟩⟩ := h.open_
  obtain ⟨A0', n0', c0', A1', n1', c1', A2', n2', c2', A3', n3', c3', A4', n4', c4', A5', n5', c5', C', p', cc', a', os', i', z', rfl, rfl, hc', ho', ⟨l0', l1', l2', l3', l4', l5'⟩, ⟨m0', m1', m2', m3', m4', m5'⟩⟩ := h'.open_
  have X := (Blk10.new w (.slice A0 n0 c0) (.slice A1 n1 c1) (.slice A2 n2 c2) (.slice A3 n3 c3) (.int .i64 p) (.slice A4 n4 c4) (.int .i64 a) (.slice A5 n5 c5) (.int .i64 i) (.bool z) 34).alloc (.cells #[.slice A0' n0' c0', .slice A1' n1' c1', .slice A2' n2' c2', .slice A3' n3' c3', .int .i64 p', .slice A4' n4' c4', .int .i64 a', .slice A5' n5' c5', .int .i64 i', .bool z'] 34)
  have Y := Blk10.new_at (w := w.alloc (.cells #[.slice A0 n0 c0, .slice A1 n1 c1, .slice A2 n2 c2, .slice A3 n3 c3, .int .i64 p, .slice A4 n4 c4, .int .i64 a, .slice A5 n5 c5, .int .i64 i, .bool z] 34)) (b := w.heap.size + 1) (by simp) (.slice A0' n0' c0') (.slice A1' n1' c1') (.slice A2' n2' c2') (.slice A3' n3' c3') (.int .i64 p') (.slice A4' n4' c4') (.int .i64 a') (.slice A5' n5' c5') (.int .i64 i') (.bool z') 34
  have HC := (hc.alloc (.cells #[.slice A0 n0 c0, .slice A1 n1 c1, .slice A2 n2 c2, .slice A3 n3 c3, .int .i64 p, .slice A4 n4 c4, .int .i64 a, .slice A5 n5 c5, .int .i64 i, .bool z] 34)).alloc (.cells #[.slice A0' n0' c0', .slice A1' n1' c1', .slice A2' n2' c2', .slice A3' n3' c3', .int .i64 p', .slice A4' n4' c4', .int .i64 a', .slice A5' n5' c5', .int .i64 i', .bool z'] 34)
  have HC' := (hc'.alloc (.cells #[.slice A0 n0 c0, .slice A1 n1 c1, .slice A2 n2 c2, .slice A3 n3 c3, .int .i64 p, .slice A4 n4 c4, .int .i64 a, .slice A5 n5 c5, .int .i64 i, .bool z] 34)).alloc (.cells #[.slice A0' n0' c0', .slice A1' n1' c1', .slice A2' n2' c2', .slice A3' n3' c3', .int .i64 p', .slice A4' n4' c4', .int .i64 a', .slice A5' n5' c5', .int .i64 i', .bool z'] 34)
  have HO := (ho.alloc (.cells #[.slice A0 n0 c0, .slice A1 n1 c1, .slice A2 n2 c2, .slice A3 n3 c3, .int .i64 p, .slice A4 n4 c4, .int .i64 a, .slice A5 n5 c5, .int .i64 i, .bool z] 34)).alloc (.cells #[.slice A0' n0' c0', .slice A1' n1' c1', .slice A2' n2' c2', .slice A3' n3' c3', .int .i64 p', .slice A4' n4' c4', .int .i64 a', .slice A5' n5' c5', .int .i64 i', .bool z'] 34)
  have HO' := (ho'.alloc (.cells #[.slice A0 n0 c0, .slice A1 n1 c1, .slice A2 n2 c2, .slice A3 n3 c3, .int .i64 p, .slice A4 n4 c4, .int .i64 a, .slice A5 n5 c5, .int .i64 i, .bool z] 34)).alloc (.cells #[.slice A0' n0' c0', .slice A1' n1' c1', .slice A2' n2' c2', .slice A3' n3' c3', .int .i64 p', .slice A4' n4' c4', .int .i64 a', .slice A5' n5' c5', .int .i64 i', .bool z'] 34)
  have BB : Below w.heap.size w ((w.alloc (.cells #[.slice A0 n0 c0, .slice A1 n1 c1, .slice A2 n2 c2, .slice A3 n3 c3, .int .i64 p, .slice A4 n4 c4, .int .i64 a, .slice A5 n5 c5, .int .i64 i, .bool z] 34)).alloc (.cells #[.slice A0' n0' c0', .slice A1' n1' c1', .slice A2' n2' c2', .slice A3' n3' c3', .int .i64 p', .slice A4' n4' c4', .int .i64 a', .slice A5' n5' c5', .int .i64 i', .bool z'] 34)) := ((Below.refl _ _).alloc (Nat.le_refl _) _).alloc (by simp) _
  clear hc hc' ho ho' h h'
  generalize hW : (w.alloc (.cells #[.slice A0 n0 c0, .slice A1 n1 c1, .slice A2 n2 c2, .slice A3 n3 c3, .int .i64 p, .slice A4 n4 c4, .int .i64 a, .slice A5 n5 c5, .int .i64 i, .bool z] 34)).alloc (.cells #[.slice A0' n0' c0', .slice A1' n1' c1', .slice A2' n2' c2', .slice A3' n3' c3', .int .i64 p', .slice A4' n4' c4', .int .i64 a', .slice A5' n5' c5', .int .i64 i', .bool z'] 34) = W at X Y HC HC' HO HO' BB
  obtain ⟨⟨x0, x1, x2, x3, x4, x5, x6, x7, x8, x9⟩, -⟩ := X.cells
  obtain ⟨⟨y0, y1, y2, y3, y4, y5, y6, y7, y8, y9⟩, -⟩ := Y.cells
  have E1 := specStoreSame_any W lo lo' _ _ C C' HC.cv HC'.cv
  have E2 := fun W' (hb : Below W.heap.size W W') => specGcSame_any W' lo lo' _ _ ⟨p, cc, a⟩ ⟨p', cc', a'⟩ (HC.gv.below hb) (HC'.gv.below hb)
  have E3 := fun W' (hb : Below W.heap.size W W') => l7SameOps_any W' lo lo' A5 A5' n5 c5 n5' c5' os os' (HO.below hb) l5.out m5 (HO'.below hb) l5'.out m5'
  clear HC HC' HO HO'
  by_cases hi : i = i'
  · subst hi
    have hi2 : (i == i) = true := by simp
    by_cases hz : z = z'
    · subst hz
      have hz2 : (z == z) = true := by simp
      rcases es : sameC C C'
      · rw [es] at E1
        have hf : Hid (sameBo ⟨C, ⟨p, cc, a⟩, os, i, z⟩ ⟨C', ⟨p', cc', a'⟩, os', i, z⟩ = false) := by unfold Hid sameBo; dsimp only; rw [es]; simp
        clear es E2 E3
        go_enter Try.func29, Try.ntmps29
        go_wp2_with fail
        (try rw [hW])
        refine E1.mono ?_; rintro e w1 ⟨rfl, hb1⟩
        clear x0 x1 x2 x3 x4 x5 x6 x7 x8 x9 y0 y1 y2 y3 y4 y5 y6 y7 y8 y9 E1
        obtain ⟨⟨q0, q1, q2, q3, q4, q5, q6, q7, q8, q9⟩, -⟩ := (X.below hb1).cells
        obtain ⟨⟨r0, r1, r2, r3, r4, r5, r6, r7, r8, r9⟩, -⟩ := (Y.below hb1).cells
        go_wp2_with fail
        go_ret
        exact ⟨ret_bool hf.out.symm, BB.trans (hb1.mono BB.size)⟩
      rw [es] at E1
      rcases eg : sameG ⟨p, cc, a⟩ ⟨p', cc', a'⟩
      · simp only [eg] at E2
        have hf : Hid (sameBo ⟨C, ⟨p, cc, a⟩, os, i, z⟩ ⟨C', ⟨p', cc', a'⟩, os', i, z⟩ = false) := by unfold Hid sameBo; dsimp only; rw [es, eg]; simp
        clear es eg E3
        go_enter Try.func29, Try.ntmps29
        go_wp2_with fail
        (try rw [hW])
        refine E1.mono ?_; rintro e w1 ⟨rfl, hb1⟩
        clear x0 x1 x2 x3 x4 x5 x6 x7 x8 x9 y0 y1 y2 y3 y4 y5 y6 y7 y8 y9 E1
        obtain ⟨⟨q0, q1, q2, q3, q4, q5, q6, q7, q8, q9⟩, -⟩ := (X.below hb1).cells
        obtain ⟨⟨r0, r1, r2, r3, r4, r5, r6, r7, r8, r9⟩, -⟩ := (Y.below hb1).cells
        go_wp2_with fail
        refine (E2 _ hb1).mono ?_; rintro e w2 ⟨rfl, hb2⟩
        have hB2 := hb1.trans (hb2.mono hb1.size)
        clear q0 q1 q2 q3 q4 q5 q6 q7 q8 q9 r0 r1 r2 r3 r4 r5 r6 r7 r8 r9
        obtain ⟨⟨q0, q1, q2, q3, q4, q5, q6, q7, q8, q9⟩, -⟩ := (X.below hB2).cells
        obtain ⟨⟨r0, r1, r2, r3, r4, r5, r6, r7, r8, r9⟩, -⟩ := (Y.below hB2).cells
        go_wp2_with fail
        go_ret
        exact ⟨ret_bool hf.out.symm, BB.trans (hB2.mono BB.size)⟩
      simp only [eg] at E2
      have hf : Hid (sameBo ⟨C, ⟨p, cc, a⟩, os, i, z⟩ ⟨C', ⟨p', cc', a'⟩, os', i, z⟩ = decide (os = os')) := by unfold Hid sameBo; dsimp only; rw [es, eg]; simp
      clear es eg
      go_enter Try.func29, Try.ntmps29
      go_wp2_with fail
      (try rw [hW])
      refine E1.mono ?_; rintro e w1 ⟨rfl, hb1⟩
      clear x0 x1 x2 x3 x4 x5 x6 x7 x8 x9 y0 y1 y2 y3 y4 y5 y6 y7 y8 y9 E1
      obtain ⟨⟨q0, q1, q2, q3, q4, q5, q6, q7, q8, q9⟩, -⟩ := (X.below hb1).cells
      obtain ⟨⟨r0, r1, r2, r3, r4, r5, r6, r7, r8, r9⟩, -⟩ := (Y.below hb1).cells
      go_wp2_with fail
      refine (E2 _ hb1).mono ?_; rintro e w2 ⟨rfl, hb2⟩
      have hB2 := hb1.trans (hb2.mono hb1.size)
      clear q0 q1 q2 q3 q4 q5 q6 q7 q8 q9 r0 r1 r2 r3 r4 r5 r6 r7 r8 r9
      obtain ⟨⟨q0, q1, q2, q3, q4, q5, q6, q7, q8, q9⟩, -⟩ := (X.below hB2).cells
      obtain ⟨⟨r0, r1, r2, r3, r4, r5, r6, r7, r8, r9⟩, -⟩ := (Y.below hB2).cells
      go_wp2_with fail
      refine (E3 _ hB2).mono ?_; rintro e w3 ⟨rfl, nq, rfl⟩
      have hB3 := below_drewN hB2 nq
      clear q0 q1 q2 q3 q4 q5 q6 q7 q8 q9 r0 r1 r2 r3 r4 r5 r6 r7 r8 r9
      obtain ⟨⟨q0, q1, q2, q3, q4, q5, q6, q7, q8, q9⟩, -⟩ := (X.below hB3).cells
      obtain ⟨⟨r0, r1, r2, r3, r4, r5, r6, r7, r8, r9⟩, -⟩ := (Y.below hB3).cells
      go_wp2_with fail
      go_ret
      exact ⟨ret_bool hf.out.symm, BB.trans (hB3.mono BB.size)⟩
    · have hz2 : (z == z') = false := by rw [beq_eq_false_iff_ne]; exact hz
      have hf : Hid (sameBo ⟨C, ⟨p, cc, a⟩, os, i, z⟩ ⟨C', ⟨p', cc', a'⟩, os', i, z'⟩ = false) := by unfold Hid sameBo; dsimp only; rw [decide_eq_false hz]; simp
      clear E1 E2 E3
      go_enter Try.func29, Try.ntmps29
      go_wp2_with fail
      (try rw [hW])
      go_ret
      exact ⟨ret_bool hf.out.symm, BB⟩
  · have hi2 : (i == i') = false := by rw [beq_eq_false_iff_ne]; exact hi
    have hf : Hid (sameBo ⟨C, ⟨p, cc, a⟩, os, i, z⟩ ⟨C', ⟨p', cc', a'⟩, os', i', z'⟩ = false) := by unfold Hid sameBo; dsimp only; rw [decide_eq_false hi]; simp
    clear E1 E2 E3
    go_enter Try.func29, Try.ntmps29
    go_wp2_with fail
    (try rw [hW])
    go_ret
    exact ⟨ret_bool hf.out.symm, BB⟩

end Go.Proofs.Ytdifplakkepnkaa
