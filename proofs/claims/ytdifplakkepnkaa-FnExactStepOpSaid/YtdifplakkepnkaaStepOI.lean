/- StepOp of impl. -/
import Derived.Test.YtdifplakkepnkaaStepOD
import Derived.Test.YtdifplakkepnkaaExB
import Derived.Test.YtdifplakkepnkaaIRunA
import Derived.StillTailTactics
namespace Go.Proofs.Ytdifplakkepnkaa
open Go.RowKit

set_option maxRecDepth 100000 in
set_option maxHeartbeats 6000000 in
theorem implStepOp_any (w : World) (lo : Nat) (v : Value) (B : Bp) (h : Bv w lo v B) (b : Bool) : Calls Try.prog 31 #[v, .bool b] w (OptBv w (stepOO B b)) := by
  obtain ⟨A0, n0, c0, A1, n1, c1, A2, n2, c2, A3, n3, c3, A4, n4, c4, A5, n5, c5, C, p, cc, a, os, i, z, rfl, rfl, hc, ho, ⟨l0, l1, l2, l3, l4, l5⟩, ⟨m0, m1, m2, m3, m4, m5⟩⟩ := h.open_
  have X := (Blk10.new w (.slice A0 n0 c0) (.slice A1 n1 c1) (.slice A2 n2 c2) (.slice A3 n3 c3) (.int .i64 p) (.slice A4 n4 c4) (.int .i64 a) (.slice A5 n5 c5) (.int .i64 i) (.bool z) 34).alloc (.cells #[.slice none 0 0, .slice none 0 0, .slice none 0 0, .slice none 0 0, .int .i64 0, .slice none 0 0, .int .i64 0, .slice none 0 0, .int .i64 0, .bool false] 34)
  have Y := Blk10.new_at (w := w.alloc (.cells #[.slice A0 n0 c0, .slice A1 n1 c1, .slice A2 n2 c2, .slice A3 n3 c3, .int .i64 p, .slice A4 n4 c4, .int .i64 a, .slice A5 n5 c5, .int .i64 i, .bool z] 34)) (b := w.heap.size + 1) (by simp) (.slice none 0 0) (.slice none 0 0) (.slice none 0 0) (.slice none 0 0) (.int .i64 0) (.slice none 0 0) (.int .i64 0) (.slice none 0 0) (.int .i64 0) (.bool false) 34
  have HB := (h.alloc (.cells #[.slice A0 n0 c0, .slice A1 n1 c1, .slice A2 n2 c2, .slice A3 n3 c3, .int .i64 p, .slice A4 n4 c4, .int .i64 a, .slice A5 n5 c5, .int .i64 i, .bool z] 34)).alloc (.cells #[.slice none 0 0, .slice none 0 0, .slice none 0 0, .slice none 0 0, .int .i64 0, .slice none 0 0, .int .i64 0, .slice none 0 0, .int .i64 0, .bool false] 34)
  have HC := (hc.alloc (.cells #[.slice A0 n0 c0, .slice A1 n1 c1, .slice A2 n2 c2, .slice A3 n3 c3, .int .i64 p, .slice A4 n4 c4, .int .i64 a, .slice A5 n5 c5, .int .i64 i, .bool z] 34)).alloc (.cells #[.slice none 0 0, .slice none 0 0, .slice none 0 0, .slice none 0 0, .int .i64 0, .slice none 0 0, .int .i64 0, .slice none 0 0, .int .i64 0, .bool false] 34)
  have HO := (ho.alloc (.cells #[.slice A0 n0 c0, .slice A1 n1 c1, .slice A2 n2 c2, .slice A3 n3 c3, .int .i64 p, .slice A4 n4 c4, .int .i64 a, .slice A5 n5 c5, .int .i64 i, .bool z] 34)).alloc (.cells #[.slice none 0 0, .slice none 0 0, .slice none 0 0, .slice none 0 0, .int .i64 0, .slice none 0 0, .int .i64 0, .slice none 0 0, .int .i64 0, .bool false] 34)
  have BB : Below w.heap.size w ((w.alloc (.cells #[.slice A0 n0 c0, .slice A1 n1 c1, .slice A2 n2 c2, .slice A3 n3 c3, .int .i64 p, .slice A4 n4 c4, .int .i64 a, .slice A5 n5 c5, .int .i64 i, .bool z] 34)).alloc (.cells #[.slice none 0 0, .slice none 0 0, .slice none 0 0, .slice none 0 0, .int .i64 0, .slice none 0 0, .int .i64 0, .slice none 0 0, .int .i64 0, .bool false] 34)) := ((Below.refl _ _).alloc (Nat.le_refl _) _).alloc (by simp) _
  have sz : w.heap.size + 2 ≤ ((w.alloc (.cells #[.slice A0 n0 c0, .slice A1 n1 c1, .slice A2 n2 c2, .slice A3 n3 c3, .int .i64 p, .slice A4 n4 c4, .int .i64 a, .slice A5 n5 c5, .int .i64 i, .bool z] 34)).alloc (.cells #[.slice none 0 0, .slice none 0 0, .slice none 0 0, .slice none 0 0, .int .i64 0, .slice none 0 0, .int .i64 0, .slice none 0 0, .int .i64 0, .bool false] 34)).heap.size := by simp
  clear hc ho h
  generalize hW : (w.alloc (.cells #[.slice A0 n0 c0, .slice A1 n1 c1, .slice A2 n2 c2, .slice A3 n3 c3, .int .i64 p, .slice A4 n4 c4, .int .i64 a, .slice A5 n5 c5, .int .i64 i, .bool z] 34)).alloc (.cells #[.slice none 0 0, .slice none 0 0, .slice none 0 0, .slice none 0 0, .int .i64 0, .slice none 0 0, .int .i64 0, .slice none 0 0, .int .i64 0, .bool false] 34) = W at X Y HB HC HO BB sz
  obtain ⟨⟨x0, x1, x2, x3, x4, x5, x6, x7, x8, x9⟩, -⟩ := X.cells
  have V := implBothValid_any _ lo _ _ HB
  rcases eb : bothB ⟨C, ⟨p, cc, a⟩, os, i, z⟩
  · rw [show stepOO ⟨C, ⟨p, cc, a⟩, os, i, z⟩ b = none by unfold stepOO; rw [eb]; rfl]
    rw [eb] at V
    clear eb HB HC HO
    go_enter Try.func31, Try.ntmps31
    go_wp2_with fail
    (try rw [hW])
    refine V.mono ?_; rintro e w1 ⟨rfl, hb1⟩
    have s1 := hb1.size
    obtain ⟨⟨y0, y1, y2, y3, y4, y5, y6, y7, y8, y9⟩, -⟩ := (X.below hb1).cells
    obtain ⟨⟨q0, q1, q2, q3, q4, q5, q6, q7, q8, q9⟩, ⟨k0, k1, k2, k3, k4, k5, k6, k7, k8, k9⟩⟩ := (Y.below hb1).cells
    have YF := (Y.below hb1).set10 (.slice none 0 0) (.slice none 0 0) (.slice none 0 0) (.slice none 0 0) (.int .i64 0) (.slice none 0 0) (.int .i64 0) (.slice none 0 0) (.int .i64 0) (.bool false)
    have FF := below_set10 (BB.trans (hb1.mono BB.size)) (c := w.heap.size + 1) (by omega) (.slice none 0 0) (.slice none 0 0) (.slice none 0 0) (.slice none 0 0) (.int .i64 0) (.slice none 0 0) (.int .i64 0) (.slice none 0 0) (.int .i64 0) (.bool false)
    clear x0 x1 x2 x3 x4 x5 x6 x7 x8 x9 V
    go_wp2_with fail
    generalize ((((((((((w1.setCell ⟨w.heap.size + 1, 0, none⟩ (.slice none 0 0)).setCell ⟨w.heap.size + 1, 1, none⟩ (.slice none 0 0)).setCell ⟨w.heap.size + 1, 2, none⟩ (.slice none 0 0)).setCell ⟨w.heap.size + 1, 3, none⟩ (.slice none 0 0)).setCell ⟨w.heap.size + 1, 4, none⟩ (.int .i64 0)).setCell ⟨w.heap.size + 1, 5, none⟩ (.slice none 0 0)).setCell ⟨w.heap.size + 1, 6, none⟩ (.int .i64 0)).setCell ⟨w.heap.size + 1, 7, none⟩ (.slice none 0 0)).setCell ⟨w.heap.size + 1, 8, none⟩ (.int .i64 0)).setCell ⟨w.heap.size + 1, 9, none⟩ (.bool false)) = WF at YF FF ⊢
    obtain ⟨⟨v0, v1, v2, v3, v4, v5, v6, v7, v8, v9⟩, -⟩ := YF.cells
    refine bodyPost_ret (v := .tuple #[.agg #[.slice none 0 0, .slice none 0 0, .slice none 0 0, .slice none 0 0, .int .i64 0, .slice none 0 0, .int .i64 0, .slice none 0 0, .int .i64 0, .bool false], .bool false]) ?_ rfl ⟨_, rfl, Bv.zero _ _, FF⟩
    simp [results, Try.results31, go_sem, v0, v1, v2, v3, v4, v5, v6, v7, v8, v9]
  rw [eb] at V
  cases z
  rotate_left
  · rw [show stepOO ⟨C, ⟨p, cc, a⟩, os, i, true⟩ b = none by unfold stepOO; rw [eb]; rfl]
    clear eb HB HC HO
    go_enter Try.func31, Try.ntmps31
    go_wp2_with fail
    (try rw [hW])
    refine V.mono ?_; rintro e w1 ⟨rfl, hb1⟩
    have s1 := hb1.size
    obtain ⟨⟨y0, y1, y2, y3, y4, y5, y6, y7, y8, y9⟩, -⟩ := (X.below hb1).cells
    obtain ⟨⟨q0, q1, q2, q3, q4, q5, q6, q7, q8, q9⟩, ⟨k0, k1, k2, k3, k4, k5, k6, k7, k8, k9⟩⟩ := (Y.below hb1).cells
    have YF := (Y.below hb1).set10 (.slice none 0 0) (.slice none 0 0) (.slice none 0 0) (.slice none 0 0) (.int .i64 0) (.slice none 0 0) (.int .i64 0) (.slice none 0 0) (.int .i64 0) (.bool false)
    have FF := below_set10 (BB.trans (hb1.mono BB.size)) (c := w.heap.size + 1) (by omega) (.slice none 0 0) (.slice none 0 0) (.slice none 0 0) (.slice none 0 0) (.int .i64 0) (.slice none 0 0) (.int .i64 0) (.slice none 0 0) (.int .i64 0) (.bool false)
    clear x0 x1 x2 x3 x4 x5 x6 x7 x8 x9 V
    go_wp2_with fail
    generalize ((((((((((w1.setCell ⟨w.heap.size + 1, 0, none⟩ (.slice none 0 0)).setCell ⟨w.heap.size + 1, 1, none⟩ (.slice none 0 0)).setCell ⟨w.heap.size + 1, 2, none⟩ (.slice none 0 0)).setCell ⟨w.heap.size + 1, 3, none⟩ (.slice none 0 0)).setCell ⟨w.heap.size + 1, 4, none⟩ (.int .i64 0)).setCell ⟨w.heap.size + 1, 5, none⟩ (.slice none 0 0)).setCell ⟨w.heap.size + 1, 6, none⟩ (.int .i64 0)).setCell ⟨w.heap.size + 1, 7, none⟩ (.slice none 0 0)).setCell ⟨w.heap.size + 1, 8, none⟩ (.int .i64 0)).setCell ⟨w.heap.size + 1, 9, none⟩ (.bool false)) = WF at YF FF ⊢
    obtain ⟨⟨v0, v1, v2, v3, v4, v5, v6, v7, v8, v9⟩, -⟩ := YF.cells
    refine bodyPost_ret (v := .tuple #[.agg #[.slice none 0 0, .slice none 0 0, .slice none 0 0, .slice none 0 0, .int .i64 0, .slice none 0 0, .int .i64 0, .slice none 0 0, .int .i64 0, .bool false], .bool false]) ?_ rfl ⟨_, rfl, Bv.zero _ _, FF⟩
    simp [results, Try.results31, go_sem, v0, v1, v2, v3, v4, v5, v6, v7, v8, v9]
  by_cases hi : i = (n5 : Int)
  · rw [show stepOO ⟨C, ⟨p, cc, a⟩, os, i, false⟩ b = none by unfold stepOO; rw [eb]; dsimp only; rw [l5.out, decide_eq_true hi]; rfl]
    have hi2 : (i == (n5 : Int)) = true := by rw [beq_iff_eq]; exact hi
    clear eb HB HC HO hi
    go_enter Try.func31, Try.ntmps31
    go_wp2_with fail
    (try rw [hW])
    refine V.mono ?_; rintro e w1 ⟨rfl, hb1⟩
    have s1 := hb1.size
    obtain ⟨⟨y0, y1, y2, y3, y4, y5, y6, y7, y8, y9⟩, -⟩ := (X.below hb1).cells
    obtain ⟨⟨q0, q1, q2, q3, q4, q5, q6, q7, q8, q9⟩, ⟨k0, k1, k2, k3, k4, k5, k6, k7, k8, k9⟩⟩ := (Y.below hb1).cells
    have YF := (Y.below hb1).set10 (.slice none 0 0) (.slice none 0 0) (.slice none 0 0) (.slice none 0 0) (.int .i64 0) (.slice none 0 0) (.int .i64 0) (.slice none 0 0) (.int .i64 0) (.bool false)
    have FF := below_set10 (BB.trans (hb1.mono BB.size)) (c := w.heap.size + 1) (by omega) (.slice none 0 0) (.slice none 0 0) (.slice none 0 0) (.slice none 0 0) (.int .i64 0) (.slice none 0 0) (.int .i64 0) (.slice none 0 0) (.int .i64 0) (.bool false)
    clear x0 x1 x2 x3 x4 x5 x6 x7 x8 x9 V
    go_wp2_with fail
    generalize ((((((((((w1.setCell ⟨w.heap.size + 1, 0, none⟩ (.slice none 0 0)).setCell ⟨w.heap.size + 1, 1, none⟩ (.slice none 0 0)).setCell ⟨w.heap.size + 1, 2, none⟩ (.slice none 0 0)).setCell ⟨w.heap.size + 1, 3, none⟩ (.slice none 0 0)).setCell ⟨w.heap.size + 1, 4, none⟩ (.int .i64 0)).setCell ⟨w.heap.size + 1, 5, none⟩ (.slice none 0 0)).setCell ⟨w.heap.size + 1, 6, none⟩ (.int .i64 0)).setCell ⟨w.heap.size + 1, 7, none⟩ (.slice none 0 0)).setCell ⟨w.heap.size + 1, 8, none⟩ (.int .i64 0)).setCell ⟨w.heap.size + 1, 9, none⟩ (.bool false)) = WF at YF FF ⊢
    obtain ⟨⟨v0, v1, v2, v3, v4, v5, v6, v7, v8, v9⟩, -⟩ := YF.cells
    refine bodyPost_ret (v := .tuple #[.agg #[.slice none 0 0, .slice none 0 0, .slice none 0 0, .slice none 0 0, .int .i64 0, .slice none 0 0, .int .i64 0, .slice none 0 0, .int .i64 0, .bool false], .bool false]) ?_ rfl ⟨_, rfl, Bv.zero _ _, FF⟩
    simp [results, Try.results31, go_sem, v0, v1, v2, v3, v4, v5, v6, v7, v8, v9]
  obtain ⟨hg, ⟨h12, hops⟩, hi0, hi1⟩ := bothB_iff.1 eb
  dsimp only at hg h12 hops hi0 hi1
  rw [l5.out] at h12 hi1
  obtain ⟨k, rfl⟩ : ∃ k : Nat, i = (k : Int) := ⟨i.toNat, by omega⟩
  have hk : k < n5 := by omega
  have hi2 : ((k : Int) == (n5 : Int)) = false := by rw [beq_eq_false_iff_ne]; exact hi
  obtain ⟨g5, ⟨ok, oa, oq⟩, rfl, _, hg5, hx, o0, o1, o2⟩ := HO.get (k := k) (by rw [l5.out]; exact hk)
  simp only at o0 o1 o2
  have hop := opsB_iff.1 hops _ (List.mem_of_getElem? hx.out)
  have hrb : runB C ⟨ok, oa, oq⟩ = true := runB_iff.2 ⟨(gcB_iff.1 hg).1, hop⟩
  have eAt : opAt ⟨C, ⟨p, cc, a⟩, os, (k : Int), false⟩ = ⟨ok, oa, oq⟩ := by unfold opAt; simp [hx.out]
  have hsome : stepOO ⟨C, ⟨p, cc, a⟩, os, (k : Int), false⟩ b = some (stepOB ⟨C, ⟨p, cc, a⟩, os, (k : Int), false⟩ b) := by
    unfold stepOO; rw [eb]; dsimp only; rw [l5.out, decide_eq_false hi]; rfl
  rw [hsome]
  unfold stepOB
  dsimp only
  rw [eAt]
  obtain ⟨z1, ⟨z2, z3⟩, z4, z5, z6⟩ := gcB_sizes hg
  have z7 := (stoB_parts (gcB_iff.1 hg).1).2.1
  dsimp only at z1
  obtain ⟨hok, ⟨ha0, ha1, ha2⟩, hq0, hq1, hq2⟩ := opB_iff.1 hop
  dsimp only at hok ha0 ha1 ha2
  have nb : C.h.l.length ≤ 1048576 ∧ C.h.r.length ≤ 1048576 ∧ C.h.t.length ≤ 1048576 ∧ C.c.length ≤ 1048576 ∧ cc.length ≤ 1048576 ∧ os.length ≤ 1048576 := by have := l5.out; refine ⟨by omega, by omega, by omega, by omega, by omega, by omega⟩
  obtain ⟨nb0, nb1, nb2, nb3, nb4, nb5⟩ := nb
  have hk63 : (k : Int) + 1 ≤ 13 := by omega
  have hkk0 : (0 : Int) ≤ (k : Int) := by omega
  have hkkn : (k : Int) < (n5 : Int) := by omega
  have hw : IntKind.i64.wrap ((k : Int) + 1) = (k : Int) + 1 := IntWalk.i64_in _ (by omega)
  obtain ⟨ja, rfl⟩ : ∃ ja : Nat, oa = (ja : Int) := ⟨oa.toNat, by omega⟩
  have hjt : ja < (runC C ⟨ok, (ja : Int), oq⟩).h.t.length := by rw [op_rootsP hrb]; omega
  have hja63 : ja < 3 := by omega
  clear hsome eAt hop hops hx hg eb hi hi0 hi1 h12 z1 z2 z3 z4 z5 z6 z7 hok ha0 ha1 ha2 hq0 hq1 hq2 hk
  have RT : Hid (ok = 1 → tgtX C ⟨ok, (ja : Int), oq⟩ = -1) := tgtX_new (C := C) (o := ⟨ok, (ja : Int), oq⟩)
  generalize hCn0 : runC C ⟨ok, (ja : Int), oq⟩ = Cn at hjt ⊢
  generalize hTn0 : tgtX C ⟨ok, (ja : Int), oq⟩ = tg at RT ⊢
  generalize hEn0 : runE C ⟨ok, (ja : Int), oq⟩ = en
  have hCn := Lib.hid hCn0
  have hTn := Lib.hid hTn0
  have hEn := Lib.hid hEn0
  have hRb := Lib.hid hrb
  clear hCn0 hTn0 hEn0 hrb
  by_cases he : en = 0
  rotate_left
  · rw [if_neg he]
    have he2 : (en != 0) = true := by simpa using he
    clear he RT
    go_enter Try.func31, Try.ntmps31
    go_wp2_with fail
    (try rw [hW])
    refine V.mono ?_; rintro e w1 ⟨rfl, hb1⟩
    have s1 := hb1.size
    have X1 := X.below hb1
    have Y1 := Y.below hb1
    have HB1 := HB.below hb1
    have HC1 := HC.below hb1
    have B1 := BB.trans (hb1.mono BB.size)
    have c0 := (hb1.cell (p := ⟨g5, k * 3, none⟩) hg5).trans o0
    have c1 := (hb1.cell (p := ⟨g5, k * 3 + 1, none⟩) hg5).trans o1
    have c2 := (hb1.cell (p := ⟨g5, k * 3 + 2, none⟩) hg5).trans o2
    obtain ⟨⟨y0, y1, y2, y3, y4, y5, y6, y7, y8, y9⟩, -⟩ := X1.cells
    have lx := X1.lt
    have ly := Y1.lt
    clear x0 x1 x2 x3 x4 x5 x6 x7 x8 x9 V o0 o1 o2 X Y HB HC HO
    have X2 := X1.alloc (.cells #[.int .i64 ok, .int .i64 (ja : Int), .int .i64 oq] 70)
    have Y2 := Y1.alloc (.cells #[.int .i64 ok, .int .i64 (ja : Int), .int .i64 oq] 70)
    have HB2 := HB1.alloc (.cells #[.int .i64 ok, .int .i64 (ja : Int), .int .i64 oq] 70)
    have HC2 := HC1.alloc (.cells #[.int .i64 ok, .int .i64 (ja : Int), .int .i64 oq] 70)
    have O2 := Blk3.new w1 (.int .i64 ok) (.int .i64 (ja : Int)) (.int .i64 oq) 70
    have B2 := B1.alloc (by omega) (.cells #[.int .i64 ok, .int .i64 (ja : Int), .int .i64 oq] 70)
    have R1 := implRunOp_any (w1.alloc (.cells #[.int .i64 ok, .int .i64 (ja : Int), .int .i64 oq] 70)) lo _ C HC2.cv ⟨ok, (ja : Int), oq⟩
    unfold OptCI at R1
    rw [hRb.out, hCn.out, hEn.out] at R1
    go_wp2_with fail
    refine R1.mono ?_; rintro e w2 ⟨v2, rfl, HS, hb2⟩
    obtain ⟨S0, t0, u0, S1, t1, u1, S2, t2, u2, S3, t3, u3, rfl, _, ⟨_, _, rS2, _⟩, ⟨_, _, lS2, _⟩, -⟩ := HS.open_
    obtain ⟨g2, rx, rfl, _, hg2, hrx, hrc, _⟩ := rS2.get (k := ja) hjt
    have rxe : Hid (rootA Cn (ja : Int) = rx) := by unfold Hid rootA; simp [List.getD, hrx.out]
    have hjt2 : (ja : Int) < (t2 : Int) := by have := lS2.out; omega
    have hj0 : (0 : Int) ≤ (ja : Int) := by omega
    have s2 := hb2.size
    simp at s2
    have X3 := (X2.below hb2).alloc (.cells #[.slice S0 t0 u0, .slice S1 t1 u1, .slice (some ⟨g2, 0, none⟩) t2 u2, .slice S3 t3 u3] 27)
    have Y3 := (Y2.below hb2).alloc (.cells #[.slice S0 t0 u0, .slice S1 t1 u1, .slice (some ⟨g2, 0, none⟩) t2 u2, .slice S3 t3 u3] 27)
    have O3 := (O2.below hb2).alloc (.cells #[.slice S0 t0 u0, .slice S1 t1 u1, .slice (some ⟨g2, 0, none⟩) t2 u2, .slice S3 t3 u3] 27)
    have HB3 := (HB2.below hb2).alloc (.cells #[.slice S0 t0 u0, .slice S1 t1 u1, .slice (some ⟨g2, 0, none⟩) t2 u2, .slice S3 t3 u3] 27)
    have HC3 := (HC2.below hb2).alloc (.cells #[.slice S0 t0 u0, .slice S1 t1 u1, .slice (some ⟨g2, 0, none⟩) t2 u2, .slice S3 t3 u3] 27)
    have HS3 := HS.alloc (.cells #[.slice S0 t0 u0, .slice S1 t1 u1, .slice (some ⟨g2, 0, none⟩) t2 u2, .slice S3 t3 u3] 27)
    have T3 := Blk4.new w2 (.slice S0 t0 u0) (.slice S1 t1 u1) (.slice (some ⟨g2, 0, none⟩) t2 u2) (.slice S3 t3 u3) 27
    have B3 := (B2.trans (hb2.mono B2.size)).alloc (by (have := B2.size; simp at this; omega)) (.cells #[.slice S0 t0 u0, .slice S1 t1 u1, .slice (some ⟨g2, 0, none⟩) t2 u2, .slice S3 t3 u3] 27)
    obtain ⟨⟨x0, x1, x2, x3, x4, x5, x6, x7, x8, x9⟩, -⟩ := (X2.below hb2).cells
    have lx2 := (X2.below hb2).lt
    have C1 := copyOfBoth_any (w2.alloc (.cells #[.slice S0 t0 u0, .slice S1 t1 u1, .slice (some ⟨g2, 0, none⟩) t2 u2, .slice S3 t3 u3] 27)) lo _ _ HB3 nb0 nb1 nb2 nb3 nb4 nb5
    clear R1 y0 y1 y2 y3 y4 y5 y6 y7 y8 y9 c0 c1 c2 X1 Y1 HB1 HC1 X2 Y2 HB2 HC2 lx ly
    go_wp2_with fail
    refine C1.mono ?_; rintro e w3 ⟨v3, rfl, HN, hb3⟩
    obtain ⟨D0, e0, d0, D1, e1, d1, D2, e2, d2, D3, e3, d3, D4, e4, d4, D5, e5, d5, rfl⟩ := HN.shape
    have s3 := hb3.size
    simp at s3
    have X4 := X3.below hb3
    have Y4 := Y3.below hb3
    have O4 := O3.below hb3
    have T4 := T3.below hb3
    have HC4 := HC3.below hb3
    have hrc3 := (hb3.cell (p := ⟨g2, ja, none⟩) (by simp; omega)).trans (cellA hrc (.cells #[.slice S0 t0 u0, .slice S1 t1 u1, .slice (some ⟨g2, 0, none⟩) t2 u2, .slice S3 t3 u3] 27))
    have lg3 : g2 < w3.heap.size := by omega
    have HB4 := HB3.below hb3
    have B4 := B3.trans (hb3.mono B3.size)
    have HM := (Bv.withStore HS3 HN (by simp; omega) hb3 ((k : Int) + 1) false).mono (lo' := w.heap.size + 2) (by simp; omega)
    clear C1 x0 x1 x2 x3 x4 x5 x6 x7 x8 x9 lx2 HB3 X3 Y3 O3 T3 HC3 HS3 HS rS2 HN O2 hrc HC4 hrx
    obtain ⟨⟨x0, x1, x2, x3, x4, x5, x6, x7, x8, x9⟩, -⟩ := X4.cells
    obtain ⟨⟨q0, q1, q2, q3, q4, q5, q6, q7, q8, q9⟩, ⟨k0, k1, k2, k3, k4, k5, k6, k7, k8, k9⟩⟩ := Y4.cells
    obtain ⟨p0, p1, p2, _⟩ := O4.cells
    obtain ⟨r0, r1, r2, r3, _⟩ := T4.cells
    have lx := X4.lt
    have ly := Y4.lt
    have lo4 := O4.lt
    have lt4 := T4.lt
    go_wp2_with fail
    have YF := (Y4.set10 (.slice S0 t0 u0) (.slice S1 t1 u1) (.slice (some ⟨g2, 0, none⟩) t2 u2) (.slice S3 t3 u3) (.int .i64 p) (.slice D4 e4 d4) (.int .i64 a) (.slice D5 e5 d5) (.int .i64 ((k : Int) + 1)) (.bool false)).alloc (.cells #[.slice S0 t0 u0, .slice S1 t1 u1, .slice (some ⟨g2, 0, none⟩) t2 u2, .slice S3 t3 u3, .int .i64 p, .slice D4 e4 d4, .int .i64 a, .slice D5 e5 d5, .int .i64 ((k : Int) + 1), .bool false] 34)
    have HF := (HM.low10 (c := w.heap.size + 1) (by omega) (.slice S0 t0 u0) (.slice S1 t1 u1) (.slice (some ⟨g2, 0, none⟩) t2 u2) (.slice S3 t3 u3) (.int .i64 p) (.slice D4 e4 d4) (.int .i64 a) (.slice D5 e5 d5) (.int .i64 ((k : Int) + 1)) (.bool false)).alloc (.cells #[.slice S0 t0 u0, .slice S1 t1 u1, .slice (some ⟨g2, 0, none⟩) t2 u2, .slice S3 t3 u3, .int .i64 p, .slice D4 e4 d4, .int .i64 a, .slice D5 e5 d5, .int .i64 ((k : Int) + 1), .bool false] 34)
    have FF := (below_set10 B4 (c := w.heap.size + 1) (by omega) (.slice S0 t0 u0) (.slice S1 t1 u1) (.slice (some ⟨g2, 0, none⟩) t2 u2) (.slice S3 t3 u3) (.int .i64 p) (.slice D4 e4 d4) (.int .i64 a) (.slice D5 e5 d5) (.int .i64 ((k : Int) + 1)) (.bool false)).alloc (by (try simp [World.setCell]); omega) (.cells #[.slice S0 t0 u0, .slice S1 t1 u1, .slice (some ⟨g2, 0, none⟩) t2 u2, .slice S3 t3 u3, .int .i64 p, .slice D4 e4 d4, .int .i64 a, .slice D5 e5 d5, .int .i64 ((k : Int) + 1), .bool false] 34)
    generalize (((((((((((w3.setCell ⟨w.heap.size + 1, 0, none⟩ (.slice S0 t0 u0)).setCell ⟨w.heap.size + 1, 1, none⟩ (.slice S1 t1 u1)).setCell ⟨w.heap.size + 1, 2, none⟩ (.slice (some ⟨g2, 0, none⟩) t2 u2)).setCell ⟨w.heap.size + 1, 3, none⟩ (.slice S3 t3 u3)).setCell ⟨w.heap.size + 1, 4, none⟩ (.int .i64 p)).setCell ⟨w.heap.size + 1, 5, none⟩ (.slice D4 e4 d4)).setCell ⟨w.heap.size + 1, 6, none⟩ (.int .i64 a)).setCell ⟨w.heap.size + 1, 7, none⟩ (.slice D5 e5 d5)).setCell ⟨w.heap.size + 1, 8, none⟩ (.int .i64 ((k : Int) + 1))).setCell ⟨w.heap.size + 1, 9, none⟩ (.bool false)).alloc (.cells #[.slice S0 t0 u0, .slice S1 t1 u1, .slice (some ⟨g2, 0, none⟩) t2 u2, .slice S3 t3 u3, .int .i64 p, .slice D4 e4 d4, .int .i64 a, .slice D5 e5 d5, .int .i64 ((k : Int) + 1), .bool false] 34)) = WF at YF HF FF ⊢
    obtain ⟨⟨v0, v1, v2, v3, v4, v5, v6, v7, v8, v9⟩, -⟩ := YF.cells
    refine bodyPost_ret (v := .tuple #[.agg #[.slice S0 t0 u0, .slice S1 t1 u1, .slice (some ⟨g2, 0, none⟩) t2 u2, .slice S3 t3 u3, .int .i64 p, .slice D4 e4 d4, .int .i64 a, .slice D5 e5 d5, .int .i64 ((k : Int) + 1), .bool false], .bool true]) ?_ rfl ⟨_, rfl, HF.mono (by omega), FF⟩
    simp [results, Try.results31, go_sem, v0, v1, v2, v3, v4, v5, v6, v7, v8, v9]
  rw [if_pos he]
  have he2 : (en != 0) = false := by rw [he]; rfl
  clear he
  by_cases hk9 : ok = 1
  · have hk1 : ok = 1 := hk9
    subst hk1
    have htg : tg = -1 := RT.out rfl
    subst htg
    have g2e : gc2 Cn (gc1 Cn ⟨p, cc, a⟩ ⟨1, (ja : Int), oq⟩) (-1) b = gc1 Cn ⟨p, cc, a⟩ ⟨1, (ja : Int), oq⟩ := by unfold gc2; rw [if_neg]; rintro ⟨_, h9⟩; exact h9 rfl
    rw [g2e]
    clear g2e RT hk9
    cases b
    · have KC := fun W lo vs vg h => implColorNew_any W lo vs vg Cn ⟨p, cc, a⟩ h (rootA Cn (ja : Int))
      unfold OptGv at KC
      have hG1 : gc1 Cn ⟨p, cc, a⟩ ⟨1, (ja : Int), oq⟩ = (colorO Cn ⟨p, cc, a⟩ (rootA Cn (ja : Int))).getD Gp.zero := by unfold gc1; rw [if_pos rfl]
      rw [hG1]
      clear hG1
      generalize (colorO Cn ⟨p, cc, a⟩ (rootA Cn (ja : Int))).getD Gp.zero = G1 at KC ⊢
      generalize (colorO Cn ⟨p, cc, a⟩ (rootA Cn (ja : Int))).isSome = kk at KC
      obtain ⟨p1, cc1, a1⟩ := G1
      go_enter Try.func31, Try.ntmps31
      go_wp2_with fail
      (try rw [hW])
      refine V.mono ?_; rintro e w1 ⟨rfl, hb1⟩
      have s1 := hb1.size
      have X1 := X.below hb1
      have Y1 := Y.below hb1
      have HB1 := HB.below hb1
      have HC1 := HC.below hb1
      have B1 := BB.trans (hb1.mono BB.size)
      have c0 := (hb1.cell (p := ⟨g5, k * 3, none⟩) hg5).trans o0
      have c1 := (hb1.cell (p := ⟨g5, k * 3 + 1, none⟩) hg5).trans o1
      have c2 := (hb1.cell (p := ⟨g5, k * 3 + 2, none⟩) hg5).trans o2
      obtain ⟨⟨y0, y1, y2, y3, y4, y5, y6, y7, y8, y9⟩, -⟩ := X1.cells
      have lx := X1.lt
      have ly := Y1.lt
      clear x0 x1 x2 x3 x4 x5 x6 x7 x8 x9 V o0 o1 o2 X Y HB HC HO
      have X2 := X1.alloc (.cells #[.int .i64 1, .int .i64 (ja : Int), .int .i64 oq] 70)
      have Y2 := Y1.alloc (.cells #[.int .i64 1, .int .i64 (ja : Int), .int .i64 oq] 70)
      have HB2 := HB1.alloc (.cells #[.int .i64 1, .int .i64 (ja : Int), .int .i64 oq] 70)
      have HC2 := HC1.alloc (.cells #[.int .i64 1, .int .i64 (ja : Int), .int .i64 oq] 70)
      have O2 := Blk3.new w1 (.int .i64 1) (.int .i64 (ja : Int)) (.int .i64 oq) 70
      have B2 := B1.alloc (by omega) (.cells #[.int .i64 1, .int .i64 (ja : Int), .int .i64 oq] 70)
      have R1 := implRunOp_any (w1.alloc (.cells #[.int .i64 1, .int .i64 (ja : Int), .int .i64 oq] 70)) lo _ C HC2.cv ⟨1, (ja : Int), oq⟩
      unfold OptCI at R1
      rw [hRb.out, hCn.out, hEn.out] at R1
      go_wp2_with fail
      refine R1.mono ?_; rintro e w2 ⟨v2, rfl, HS, hb2⟩
      obtain ⟨S0, t0, u0, S1, t1, u1, S2, t2, u2, S3, t3, u3, rfl, _, ⟨_, _, rS2, _⟩, ⟨_, _, lS2, _⟩, -⟩ := HS.open_
      obtain ⟨g2, rx, rfl, _, hg2, hrx, hrc, _⟩ := rS2.get (k := ja) hjt
      have rxe : Hid (rootA Cn (ja : Int) = rx) := by unfold Hid rootA; simp [List.getD, hrx.out]
      rw [rxe.out] at KC
      have hjt2 : (ja : Int) < (t2 : Int) := by have := lS2.out; omega
      have hj0 : (0 : Int) ≤ (ja : Int) := by omega
      have s2 := hb2.size
      simp at s2
      have X3 := (X2.below hb2).alloc (.cells #[.slice S0 t0 u0, .slice S1 t1 u1, .slice (some ⟨g2, 0, none⟩) t2 u2, .slice S3 t3 u3] 27)
      have Y3 := (Y2.below hb2).alloc (.cells #[.slice S0 t0 u0, .slice S1 t1 u1, .slice (some ⟨g2, 0, none⟩) t2 u2, .slice S3 t3 u3] 27)
      have O3 := (O2.below hb2).alloc (.cells #[.slice S0 t0 u0, .slice S1 t1 u1, .slice (some ⟨g2, 0, none⟩) t2 u2, .slice S3 t3 u3] 27)
      have HB3 := (HB2.below hb2).alloc (.cells #[.slice S0 t0 u0, .slice S1 t1 u1, .slice (some ⟨g2, 0, none⟩) t2 u2, .slice S3 t3 u3] 27)
      have HC3 := (HC2.below hb2).alloc (.cells #[.slice S0 t0 u0, .slice S1 t1 u1, .slice (some ⟨g2, 0, none⟩) t2 u2, .slice S3 t3 u3] 27)
      have HS3 := HS.alloc (.cells #[.slice S0 t0 u0, .slice S1 t1 u1, .slice (some ⟨g2, 0, none⟩) t2 u2, .slice S3 t3 u3] 27)
      have T3 := Blk4.new w2 (.slice S0 t0 u0) (.slice S1 t1 u1) (.slice (some ⟨g2, 0, none⟩) t2 u2) (.slice S3 t3 u3) 27
      have B3 := (B2.trans (hb2.mono B2.size)).alloc (by (have := B2.size; simp at this; omega)) (.cells #[.slice S0 t0 u0, .slice S1 t1 u1, .slice (some ⟨g2, 0, none⟩) t2 u2, .slice S3 t3 u3] 27)
      obtain ⟨⟨x0, x1, x2, x3, x4, x5, x6, x7, x8, x9⟩, -⟩ := (X2.below hb2).cells
      have lx2 := (X2.below hb2).lt
      have C1 := copyOfBoth_any (w2.alloc (.cells #[.slice S0 t0 u0, .slice S1 t1 u1, .slice (some ⟨g2, 0, none⟩) t2 u2, .slice S3 t3 u3] 27)) lo _ _ HB3 nb0 nb1 nb2 nb3 nb4 nb5
      clear R1 y0 y1 y2 y3 y4 y5 y6 y7 y8 y9 c0 c1 c2 X1 Y1 HB1 HC1 X2 Y2 HB2 HC2 lx ly
      go_wp2_with fail
      refine C1.mono ?_; rintro e w3 ⟨v3, rfl, HN, hb3⟩
      obtain ⟨D0, e0, d0, D1, e1, d1, D2, e2, d2, D3, e3, d3, D4, e4, d4, D5, e5, d5, rfl⟩ := HN.shape
      have s3 := hb3.size
      simp at s3
      have X4 := X3.below hb3
      have Y4 := Y3.below hb3
      have O4 := O3.below hb3
      have T4 := T3.below hb3
      have HC4 := HC3.below hb3
      have hrc3 := (hb3.cell (p := ⟨g2, ja, none⟩) (by simp; omega)).trans (cellA hrc (.cells #[.slice S0 t0 u0, .slice S1 t1 u1, .slice (some ⟨g2, 0, none⟩) t2 u2, .slice S3 t3 u3] 27))
      have lg3 : g2 < w3.heap.size := by omega
      have HB4 := HB3.below hb3
      have B4 := B3.trans (hb3.mono B3.size)
      have HM := (Bv.withStore HS3 HN (by simp; omega) hb3 ((k : Int) + 1) false).mono (lo' := w.heap.size + 2) (by simp; omega)
      clear C1 x0 x1 x2 x3 x4 x5 x6 x7 x8 x9 lx2 HB3 X3 Y3 O3 T3 HC3 HS3 HS rS2 HN O2 hrc HC4 hrx
      obtain ⟨⟨x0, x1, x2, x3, x4, x5, x6, x7, x8, x9⟩, -⟩ := X4.cells
      obtain ⟨⟨q0, q1, q2, q3, q4, q5, q6, q7, q8, q9⟩, ⟨k0, k1, k2, k3, k4, k5, k6, k7, k8, k9⟩⟩ := Y4.cells
      obtain ⟨p0, p1x, p2, _⟩ := O4.cells
      obtain ⟨r0, r1, r2, r3, _⟩ := T4.cells
      have lx := X4.lt
      have ly := Y4.lt
      have lo4 := O4.lt
      have lt4 := T4.lt
      go_wp2_with fail
      have CV5 := Blk10.new w3 (.slice S0 t0 u0) (.slice S1 t1 u1) (.slice (some ⟨g2, 0, none⟩) t2 u2) (.slice S3 t3 u3) (.int .i64 p) (.slice D4 e4 d4) (.int .i64 a) (.slice D5 e5 d5) (.int .i64 ((k : Int) + 1)) (.bool false) 34
      have X5 := X4.alloc (.cells #[.slice S0 t0 u0, .slice S1 t1 u1, .slice (some ⟨g2, 0, none⟩) t2 u2, .slice S3 t3 u3, .int .i64 p, .slice D4 e4 d4, .int .i64 a, .slice D5 e5 d5, .int .i64 ((k : Int) + 1), .bool false] 34)
      have Y5 := Y4.alloc (.cells #[.slice S0 t0 u0, .slice S1 t1 u1, .slice (some ⟨g2, 0, none⟩) t2 u2, .slice S3 t3 u3, .int .i64 p, .slice D4 e4 d4, .int .i64 a, .slice D5 e5 d5, .int .i64 ((k : Int) + 1), .bool false] 34)
      have O5 := O4.alloc (.cells #[.slice S0 t0 u0, .slice S1 t1 u1, .slice (some ⟨g2, 0, none⟩) t2 u2, .slice S3 t3 u3, .int .i64 p, .slice D4 e4 d4, .int .i64 a, .slice D5 e5 d5, .int .i64 ((k : Int) + 1), .bool false] 34)
      have HM5 := HM.alloc (.cells #[.slice S0 t0 u0, .slice S1 t1 u1, .slice (some ⟨g2, 0, none⟩) t2 u2, .slice S3 t3 u3, .int .i64 p, .slice D4 e4 d4, .int .i64 a, .slice D5 e5 d5, .int .i64 ((k : Int) + 1), .bool false] 34)
      have HB5 := HB4.alloc (.cells #[.slice S0 t0 u0, .slice S1 t1 u1, .slice (some ⟨g2, 0, none⟩) t2 u2, .slice S3 t3 u3, .int .i64 p, .slice D4 e4 d4, .int .i64 a, .slice D5 e5 d5, .int .i64 ((k : Int) + 1), .bool false] 34)
      have B5 := B4.alloc (by omega) (.cells #[.slice S0 t0 u0, .slice S1 t1 u1, .slice (some ⟨g2, 0, none⟩) t2 u2, .slice S3 t3 u3, .int .i64 p, .slice D4 e4 d4, .int .i64 a, .slice D5 e5 d5, .int .i64 ((k : Int) + 1), .bool false] 34)
      have s5 : w3.heap.size + 1 ≤ (w3.alloc (.cells #[.slice S0 t0 u0, .slice S1 t1 u1, .slice (some ⟨g2, 0, none⟩) t2 u2, .slice S3 t3 u3, .int .i64 p, .slice D4 e4 d4, .int .i64 a, .slice D5 e5 d5, .int .i64 ((k : Int) + 1), .bool false] 34)).heap.size := by simp
      have hrc5 := cellA hrc3 (.cells #[.slice S0 t0 u0, .slice S1 t1 u1, .slice (some ⟨g2, 0, none⟩) t2 u2, .slice S3 t3 u3, .int .i64 p, .slice D4 e4 d4, .int .i64 a, .slice D5 e5 d5, .int .i64 ((k : Int) + 1), .bool false] 34)
      clear X4 Y4 O4 HM HB4 B4 x0 x1 x2 x3 x4 x5 x6 x7 x8 x9 q0 q1 q2 q3 q4 q5 q6 q7 q8 q9 k0 k1 k2 k3 k4 k5 k6 k7 k8 k9 p0 p1x p2 r0 r1 r2 r3 lx ly lo4 lt4 T4
      generalize (w3.alloc (.cells #[.slice S0 t0 u0, .slice S1 t1 u1, .slice (some ⟨g2, 0, none⟩) t2 u2, .slice S3 t3 u3, .int .i64 p, .slice D4 e4 d4, .int .i64 a, .slice D5 e5 d5, .int .i64 ((k : Int) + 1), .bool false] 34)) = W5 at CV5 X5 Y5 O5 HM5 HB5 B5 s5 hrc5 ⊢
      obtain ⟨⟨x0, x1, x2, x3, x4, x5, x6, x7, x8, x9⟩, -⟩ := CV5.cells
      obtain ⟨o0, o1, o2, -⟩ := O5.cells
      refine wp_region_held_drew (S := fun w' => w'.cell? ⟨w3.heap.size, 0, none⟩ = some (.slice S0 t0 u0) ∧ w'.cell? ⟨w3.heap.size, 1, none⟩ = some (.slice S1 t1 u1) ∧ w'.cell? ⟨w3.heap.size, 2, none⟩ = some (.slice (some ⟨g2, 0, none⟩) t2 u2) ∧ w'.cell? ⟨w3.heap.size, 3, none⟩ = some (.slice S3 t3 u3) ∧ w'.cell? ⟨w1.heap.size, 1, none⟩ = some (.int .i64 (ja : Int)) ∧ w'.cell? ⟨g2, ja, none⟩ = some (.int .i64 rx)) (by kernel_rfl) ?_ (fun hHeld => ?_)
      · exact ⟨cellD x0, cellD x1, cellD x2, cellD x3, cellD o1, cellD hrc5⟩
      replace CV5 := CV5.drew
      replace X5 := X5.drew
      replace Y5 := Y5.drew
      replace O5 := Blk3.drewO O5
      replace HM5 := HM5.drew
      replace HB5 := HB5.drew
      replace B5 := B5.drew
      replace s5 : w3.heap.size + 1 ≤ W5.drew.heap.size := s5
      have xd4 := cellD x4
      have xd5 := cellD x5
      have xd6 := cellD x6
      have hrd := cellD hrc5
      clear x0 x1 x2 x3 x4 x5 x6 x7 x8 x9 o0 o1 o2 hrc5
      refine wpAnyH_take (i := 0) (oi := ?oin0) (v := ?vn0) ?hin0 (by kernel_rfl) (by kernel_rfl) (by kernel_rfl) ?hQn0 ?hyn0 (by assumption) ?_
      case hin0 => simp only [List.getElem?_toArray, List.getElem?_cons_zero]; rfl
      case hQn0 => exact fun _ _ _ h => h
      case hyn0 => refine Or.inl ⟨by rfl, ?_⟩; intro w9 hSw; (try dsimp only at hSw); go_simp; (try with_reducible rfl)
      try simp only [Act.put, List.setIfInBounds_toArray, List.set_cons_zero, List.set_cons_succ]
      refine wpAnyH_take (i := 1) (oi := ?oin1) (v := ?vn1) ?hin1 (by kernel_rfl) (by kernel_rfl) (by kernel_rfl) ?hQn1 ?hyn1 (by assumption) ?_
      case hin1 => simp only [List.getElem?_toArray, List.getElem?_cons_zero, List.getElem?_cons_succ]; rfl
      case hQn1 => exact fun _ _ _ h => h
      case hyn1 => refine Or.inl ⟨by rfl, ?_⟩; intro w9 hSw; (try dsimp only at hSw); go_simp; (try with_reducible rfl)
      try simp only [Act.put, List.setIfInBounds_toArray, List.set_cons_zero, List.set_cons_succ]
      refine wpAnyH_take (i := 2) (oi := ?oin2) (v := ?vn2) ?hin2 (by kernel_rfl) (by kernel_rfl) (by kernel_rfl) ?hQn2 ?hyn2 (by assumption) ?_
      case hin2 => simp only [List.getElem?_toArray, List.getElem?_cons_zero, List.getElem?_cons_succ]; rfl
      case hQn2 => exact fun _ _ _ h => h
      case hyn2 => refine Or.inl ⟨by rfl, ?_⟩; intro w9 hSw; (try dsimp only at hSw); go_simp; (try with_reducible rfl)
      try simp only [Act.put, List.setIfInBounds_toArray, List.set_cons_zero, List.set_cons_succ]
      refine wpAnyH_take (i := 4) (oi := ?oin4) (v := ?vn4) ?hin4 (by kernel_rfl) (by kernel_rfl) (by kernel_rfl) ?hQn4 ?hyn4 (by assumption) ?_
      case hin4 => simp only [List.getElem?_toArray, List.getElem?_cons_zero, List.getElem?_cons_succ]; rfl
      case hQn4 => exact fun _ _ _ h => h
      case hyn4 => refine Or.inl ⟨by rfl, ?_⟩; intro w9 hSw; (try dsimp only at hSw); go_simp; (try with_reducible rfl)
      try simp only [Act.put, List.setIfInBounds_toArray, List.set_cons_zero, List.set_cons_succ]
      refine wpAnyH_take (i := 5) (oi := ?oin5) (v := ?vn5) ?hin5 (by kernel_rfl) (by kernel_rfl) (by kernel_rfl) ?hQn5 ?hyn5 (by assumption) ?_
      case hin5 => simp only [List.getElem?_toArray, List.getElem?_cons_zero, List.getElem?_cons_succ]; rfl
      case hQn5 => exact fun _ _ _ h => h
      case hyn5 => refine Or.inl ⟨by rfl, ?_⟩; intro w9 hSw; (try dsimp only at hSw); go_simp; (try with_reducible rfl)
      try simp only [Act.put, List.setIfInBounds_toArray, List.set_cons_zero, List.set_cons_succ]
      refine wpAnyH_take (i := 6) (oi := ?oin6) (v := ?vn6) ?hin6 (by kernel_rfl) (by kernel_rfl) (by kernel_rfl) ?hQn6 ?hyn6 (by assumption) ?_
      case hin6 => simp only [List.getElem?_toArray, List.getElem?_cons_zero, List.getElem?_cons_succ]; rfl
      case hQn6 => exact fun _ _ _ h => h
      case hyn6 => refine Or.inl ⟨by rfl, ?_⟩; intro w9 hSw; (try dsimp only at hSw); go_simp; (try with_reducible rfl)
      try simp only [Act.put, List.setIfInBounds_toArray, List.set_cons_zero, List.set_cons_succ]
      refine wpAnyH_take (i := 7) (oi := ?oin7) (v := ?vn7) ?hin7 (by kernel_rfl) (by kernel_rfl) (by kernel_rfl) ?hQn7 ?hyn7 (by assumption) ?_
      case hin7 => simp only [List.getElem?_toArray, List.getElem?_cons_zero, List.getElem?_cons_succ]; rfl
      case hQn7 => exact fun _ _ _ h => h
      case hyn7 => refine Or.inl ⟨by rfl, ?_⟩; intro w9 hSw; (try dsimp only at hSw); go_simp; (try with_reducible rfl)
      try simp only [Act.put, List.setIfInBounds_toArray, List.set_cons_zero, List.set_cons_succ]
      refine wpAnyH_take (i := 8) (oi := ?oin8) (v := ?vn8) ?hin8 (by kernel_rfl) (by kernel_rfl) (by kernel_rfl) ?hQn8 ?hyn8 (by assumption) ?_
      case hin8 => simp only [List.getElem?_toArray, List.getElem?_cons_zero, List.getElem?_cons_succ]; rfl
      case hQn8 => exact fun _ _ _ h => h
      case hyn8 => refine Or.inl ⟨by rfl, ?_⟩; intro w9 hSw; (try dsimp only at hSw); go_simp; (try with_reducible rfl)
      try simp only [Act.put, List.setIfInBounds_toArray, List.set_cons_zero, List.set_cons_succ]
      refine wpAnyH_take (i := 9) (oi := ?oin9) (v := ?vn9) ?hin9 (by kernel_rfl) (by kernel_rfl) (by kernel_rfl) ?hQn9 ?hyn9 (by assumption) ?_
      case hin9 => simp only [List.getElem?_toArray, List.getElem?_cons_zero, List.getElem?_cons_succ]; rfl
      case hQn9 => exact fun _ _ _ h => h
      case hyn9 => refine Or.inl ⟨by rfl, ?_⟩; intro w9 hSw; (try dsimp only at hSw); go_simp; (try with_reducible rfl)
      try simp only [Act.put, List.setIfInBounds_toArray, List.set_cons_zero, List.set_cons_succ]
      refine wpAnyH_take (i := 10) (oi := ?oin10) (v := ?vn10) ?hin10 (by kernel_rfl) (by kernel_rfl) (by kernel_rfl) ?hQn10 ?hyn10 (by assumption) ?_
      case hin10 => simp only [List.getElem?_toArray, List.getElem?_cons_zero, List.getElem?_cons_succ]; rfl
      case hQn10 => exact fun _ _ _ h => h
      case hyn10 => refine Or.inl ⟨by rfl, ?_⟩; intro w9 hSw; (try dsimp only at hSw); go_simp; (try with_reducible rfl)
      try simp only [Act.put, List.setIfInBounds_toArray, List.set_cons_zero, List.set_cons_succ]
      refine wpAnyH_take (i := 11) (oi := ?oin11) (v := ?vn11) ?hin11 (by kernel_rfl) (by kernel_rfl) (by kernel_rfl) ?hQn11 ?hyn11 (by assumption) ?_
      case hin11 => simp only [List.getElem?_toArray, List.getElem?_cons_zero, List.getElem?_cons_succ]; rfl
      case hQn11 => exact fun _ _ _ h => h
      case hyn11 => refine Or.inl ⟨by rfl, ?_⟩; intro w9 hSw; (try dsimp only at hSw); go_simp; (try with_reducible rfl)
      try simp only [Act.put, List.setIfInBounds_toArray, List.set_cons_zero, List.set_cons_succ]
      refine wpAnyH_ready (rs := [3]) (by kernel_rfl) (by simp) ?_
      refine AllReadyH.cons (o := ?oon3) ?hon3 (fun K hK => ?_) AllReadyH.nil
      case hon3 => simp only [List.getElem?_toArray, List.getElem?_cons_zero, List.getElem?_cons_succ]; rfl
      go_simp
      refine hK.out _ _ ?hSn3 (fun hHeld3 => ?_)
      case hSn3 => exact hHeld
      clear hK K
      try simp only [Act.put, List.setIfInBounds_toArray, List.set_cons_zero, List.set_cons_succ]
      refine wpAnyH_ready (rs := [12]) (by kernel_rfl) (by simp) ?_
      refine AllReadyH.cons (o := ?oon12) ?hon12 (fun K hK => ?_) AllReadyH.nil
      case hon12 => simp only [List.getElem?_toArray, List.getElem?_cons_zero, List.getElem?_cons_succ]; rfl
      go_simp
      refine (KC _ _ _ _ HM5.cg).mono ?_; rintro e w5 ⟨vg, rfl, HG, hb5⟩
      obtain ⟨A9, n9, c9, hv9, -⟩ := HG.open_
      dsimp only at hv9
      subst hv9
      have hrc6 := (hb5.cell (p := ⟨g2, ja, none⟩) (Nat.lt_trans lg3 CV5.lt)).trans hrd
      have s6 := hb5.size
      have HMg := Bv.withGc HM5 HG (by omega) hb5
      have CV6 := CV5.below hb5
      have X6 := X5.below hb5
      have Y6 := Y5.below hb5
      have HM6 := HM5.below hb5
      have HB6 := HB5.below hb5
      have O6 := O5.below hb5
      have B6 := B5.trans (hb5.mono B5.size)
      replace HM6 := HMg
      clear HMg HG CV5 X5 Y5 O5 HM5 HB5 B5
      obtain ⟨⟨x0, x1, x2, x3, x4, x5, x6, x7, x8, x9⟩, ⟨f0, f1, f2, f3, f4, f5, f6, f7, f8, f9⟩⟩ := CV6.cells
      have CV7 := CV6.set46 (.int .i64 p1) (.slice A9 n9 c9) (.int .i64 a1)
      have X7 := X6.far3 (c := w3.heap.size) (by omega) (.int .i64 p1) (.slice A9 n9 c9) (.int .i64 a1)
      have Y7 := Y6.far3 (c := w3.heap.size) (by omega) (.int .i64 p1) (.slice A9 n9 c9) (.int .i64 a1)
      have O7 := ((O6.other (p := ⟨w3.heap.size, 4, none⟩) (by show w1.heap.size ≠ w3.heap.size; omega) (.int .i64 p1)).other (p := ⟨w3.heap.size, 5, none⟩) (by show w1.heap.size ≠ w3.heap.size; omega) (.slice A9 n9 c9)).other (p := ⟨w3.heap.size, 6, none⟩) (by show w1.heap.size ≠ w3.heap.size; omega) (.int .i64 a1)
      have HM7 := ((HM6.setT CV6 4 (.int .i64 p1)).setT (CV6.set4 (.int .i64 p1)) 5 (.slice A9 n9 c9)).setT ((CV6.set4 (.int .i64 p1)).set5 (.slice A9 n9 c9)) 6 (.int .i64 a1)
      have HB7 := ((HB6.setT CV6 4 (.int .i64 p1)).setT (CV6.set4 (.int .i64 p1)) 5 (.slice A9 n9 c9)).setT ((CV6.set4 (.int .i64 p1)).set5 (.slice A9 n9 c9)) 6 (.int .i64 a1)
      have B7 := below_set3b B6 (c := w3.heap.size) (by omega) (.int .i64 p1) (.slice A9 n9 c9) (.int .i64 a1)
      obtain ⟨⟨y0, y1, y2, y3, y4, y5, y6, y7, y8, y9⟩, -⟩ := X7.cells
      obtain ⟨⟨z0, z1, z2, z3, z4, z5, z6, z7, z8, z9⟩, -⟩ := CV7.cells
      obtain ⟨o0, o1, o2, -⟩ := O7.cells
      go_wp2_with fail
      refine hK.out _ _ ?hSn12 (fun hHeld12 => ?_)
      case hSn12 => exact ⟨x0, x1, x2, x3, (O6.cells).2.1, hrc6⟩
      clear hK K
      try simp only [Act.put, List.setIfInBounds_toArray, List.set_cons_zero, List.set_cons_succ]
      refine wpAnyH_take (i := 13) (oi := ?oin13) (v := ?vn13) ?hin13 (by kernel_rfl) (by kernel_rfl) (by kernel_rfl) ?hQn13 ?hyn13 (by assumption) ?_
      case hin13 => simp only [List.getElem?_toArray, List.getElem?_cons_zero, List.getElem?_cons_succ]; rfl
      case hQn13 => exact fun _ _ _ h => h
      case hyn13 => refine Or.inl ⟨by rfl, ?_⟩; intro w9 hSw; (try dsimp only at hSw); go_simp; (try with_reducible rfl)
      try simp only [Act.put, List.setIfInBounds_toArray, List.set_cons_zero, List.set_cons_succ]
      refine wpAnyH_take (i := 14) (oi := ?oin14) (v := ?vn14) ?hin14 (by kernel_rfl) (by kernel_rfl) (by kernel_rfl) ?hQn14 ?hyn14 (by assumption) ?_
      case hin14 => simp only [List.getElem?_toArray, List.getElem?_cons_zero, List.getElem?_cons_succ]; rfl
      case hQn14 => exact fun _ _ _ h => h
      case hyn14 => refine Or.inl ⟨by rfl, ?_⟩; intro w9 hSw; (try dsimp only at hSw); go_simp; (try with_reducible rfl)
      try simp only [Act.put, List.setIfInBounds_toArray, List.set_cons_zero, List.set_cons_succ]
      refine wpAnyH_take (i := 15) (oi := ?oin15) (v := ?vn15) ?hin15 (by kernel_rfl) (by kernel_rfl) (by kernel_rfl) ?hQn15 ?hyn15 (by assumption) ?_
      case hin15 => simp only [List.getElem?_toArray, List.getElem?_cons_zero, List.getElem?_cons_succ]; rfl
      case hQn15 => exact fun _ _ _ h => h
      case hyn15 => refine Or.inl ⟨by rfl, ?_⟩; intro w9 hSw; (try dsimp only at hSw); go_simp; (try with_reducible rfl)
      try simp only [Act.put, List.setIfInBounds_toArray, List.set_cons_zero, List.set_cons_succ]
      refine wpAnyH_take (i := 16) (oi := ?oin16) (v := ?vn16) ?hin16 (by kernel_rfl) (by kernel_rfl) (by kernel_rfl) ?hQn16 ?hyn16 (by assumption) ?_
      case hin16 => simp only [List.getElem?_toArray, List.getElem?_cons_zero, List.getElem?_cons_succ]; rfl
      case hQn16 => exact fun _ _ _ h => h
      case hyn16 => refine Or.inl ⟨by rfl, ?_⟩; intro w9 hSw; (try dsimp only at hSw); go_simp; (try with_reducible rfl)
      try simp only [Act.put, List.setIfInBounds_toArray, List.set_cons_zero, List.set_cons_succ]
      refine wpAnyH_ready (rs := [17]) (by kernel_rfl) (by simp) ?_
      refine AllReadyH.cons (o := ?oon17) ?hon17 (fun K hK => ?_) AllReadyH.nil
      case hon17 => simp only [List.getElem?_toArray, List.getElem?_cons_zero, List.getElem?_cons_succ]; rfl
      go_simp
      refine hK.out _ _ ?hSn17 (fun hHeld17 => ?_)
      case hSn17 => exact ⟨z0, z1, z2, z3, o1, (World.cell?_setCell_far _ _ _ _ (by show w3.heap.size ≠ g2; omega)).trans ((World.cell?_setCell_far _ _ _ _ (by show w3.heap.size ≠ g2; omega)).trans ((World.cell?_setCell_far _ _ _ _ (by show w3.heap.size ≠ g2; omega)).trans hrc6))⟩
      clear hK K
      try simp only [Act.put, List.setIfInBounds_toArray, List.set_cons_zero, List.set_cons_succ]
      refine wpAnyH_done (by kernel_rfl) ?_ _
      have TT := implTargetOf_any (((w5.setCell ⟨w3.heap.size, 4, none⟩ (.int .i64 p1)).setCell ⟨w3.heap.size, 5, none⟩ (.slice A9 n9 c9)).setCell ⟨w3.heap.size, 6, none⟩ (.int .i64 a1)) lo _ C HB7.cg.cv ⟨1, (ja : Int), oq⟩
      rw [hTn.out] at TT
      go_wp2_with fail
      refine TT.mono ?_; rintro e w6 ⟨rfl, hb6⟩
      have s7 := hb6.size
      have s8 := B7.size
      have CV8 := CV7.below hb6
      have X8 := X7.below hb6
      have Y8 := Y7.below hb6
      have HM8 := HM7.below hb6
      have HB8 := HB7.below hb6
      have B8 := B7.trans (hb6.mono B7.size)
      clear x0 x1 x2 x3 x4 x5 x6 x7 x8 x9 f0 f1 f2 f3 f4 f5 f6 f7 f8 f9 y0 y1 y2 y3 y4 y5 y6 y7 y8 y9 o0 o1 o2 TT CV6 X6 Y6 O6 HM6 HB6 CV7 X7 Y7 O7 HM7 HB7
      obtain ⟨⟨x0, x1, x2, x3, x4, x5, x6, x7, x8, x9⟩, -⟩ := CV8.cells
      obtain ⟨⟨q0, q1, q2, q3, q4, q5, q6, q7, q8, q9⟩, ⟨k0, k1, k2, k3, k4, k5, k6, k7, k8, k9⟩⟩ := Y8.cells
      have YF := Y8.set10 (.slice S0 t0 u0) (.slice S1 t1 u1) (.slice (some ⟨g2, 0, none⟩) t2 u2) (.slice S3 t3 u3) (.int .i64 p1) (.slice A9 n9 c9) (.int .i64 a1) (.slice D5 e5 d5) (.int .i64 ((k : Int) + 1)) (.bool false)
      have HF := HM8.low10 (c := w.heap.size + 1) (by omega) (.slice S0 t0 u0) (.slice S1 t1 u1) (.slice (some ⟨g2, 0, none⟩) t2 u2) (.slice S3 t3 u3) (.int .i64 p1) (.slice A9 n9 c9) (.int .i64 a1) (.slice D5 e5 d5) (.int .i64 ((k : Int) + 1)) (.bool false)
      have FF := below_set10 B8 (c := w.heap.size + 1) (by omega) (.slice S0 t0 u0) (.slice S1 t1 u1) (.slice (some ⟨g2, 0, none⟩) t2 u2) (.slice S3 t3 u3) (.int .i64 p1) (.slice A9 n9 c9) (.int .i64 a1) (.slice D5 e5 d5) (.int .i64 ((k : Int) + 1)) (.bool false)
      go_wp2_with fail
      generalize ((((((((((w6.setCell ⟨w.heap.size + 1, 0, none⟩ (.slice S0 t0 u0)).setCell ⟨w.heap.size + 1, 1, none⟩ (.slice S1 t1 u1)).setCell ⟨w.heap.size + 1, 2, none⟩ (.slice (some ⟨g2, 0, none⟩) t2 u2)).setCell ⟨w.heap.size + 1, 3, none⟩ (.slice S3 t3 u3)).setCell ⟨w.heap.size + 1, 4, none⟩ (.int .i64 p1)).setCell ⟨w.heap.size + 1, 5, none⟩ (.slice A9 n9 c9)).setCell ⟨w.heap.size + 1, 6, none⟩ (.int .i64 a1)).setCell ⟨w.heap.size + 1, 7, none⟩ (.slice D5 e5 d5)).setCell ⟨w.heap.size + 1, 8, none⟩ (.int .i64 ((k : Int) + 1))).setCell ⟨w.heap.size + 1, 9, none⟩ (.bool false)) = WF at YF HF FF ⊢
      obtain ⟨⟨v0, v1, v2, v3, v4, v5, v6, v7, v8, v9⟩, -⟩ := YF.cells
      refine bodyPost_ret (v := .tuple #[.agg #[.slice S0 t0 u0, .slice S1 t1 u1, .slice (some ⟨g2, 0, none⟩) t2 u2, .slice S3 t3 u3, .int .i64 p1, .slice A9 n9 c9, .int .i64 a1, .slice D5 e5 d5, .int .i64 ((k : Int) + 1), .bool false], .bool true]) ?_ rfl ⟨_, rfl, HF.mono (by omega), FF⟩
      simp [results, Try.results31, go_sem, v0, v1, v2, v3, v4, v5, v6, v7, v8, v9]
    · have KC := fun W lo vs vg h => implColorNew_any W lo vs vg Cn ⟨p, cc, a⟩ h (rootA Cn (ja : Int))
      unfold OptGv at KC
      have hG1 : gc1 Cn ⟨p, cc, a⟩ ⟨1, (ja : Int), oq⟩ = (colorO Cn ⟨p, cc, a⟩ (rootA Cn (ja : Int))).getD Gp.zero := by unfold gc1; rw [if_pos rfl]
      rw [hG1]
      clear hG1
      generalize (colorO Cn ⟨p, cc, a⟩ (rootA Cn (ja : Int))).getD Gp.zero = G1 at KC ⊢
      generalize (colorO Cn ⟨p, cc, a⟩ (rootA Cn (ja : Int))).isSome = kk at KC
      obtain ⟨p1, cc1, a1⟩ := G1
      go_enter Try.func31, Try.ntmps31
      go_wp2_with fail
      (try rw [hW])
      refine V.mono ?_; rintro e w1 ⟨rfl, hb1⟩
      have s1 := hb1.size
      have X1 := X.below hb1
      have Y1 := Y.below hb1
      have HB1 := HB.below hb1
      have HC1 := HC.below hb1
      have B1 := BB.trans (hb1.mono BB.size)
      have c0 := (hb1.cell (p := ⟨g5, k * 3, none⟩) hg5).trans o0
      have c1 := (hb1.cell (p := ⟨g5, k * 3 + 1, none⟩) hg5).trans o1
      have c2 := (hb1.cell (p := ⟨g5, k * 3 + 2, none⟩) hg5).trans o2
      obtain ⟨⟨y0, y1, y2, y3, y4, y5, y6, y7, y8, y9⟩, -⟩ := X1.cells
      have lx := X1.lt
      have ly := Y1.lt
      clear x0 x1 x2 x3 x4 x5 x6 x7 x8 x9 V o0 o1 o2 X Y HB HC HO
      have X2 := X1.alloc (.cells #[.int .i64 1, .int .i64 (ja : Int), .int .i64 oq] 70)
      have Y2 := Y1.alloc (.cells #[.int .i64 1, .int .i64 (ja : Int), .int .i64 oq] 70)
      have HB2 := HB1.alloc (.cells #[.int .i64 1, .int .i64 (ja : Int), .int .i64 oq] 70)
      have HC2 := HC1.alloc (.cells #[.int .i64 1, .int .i64 (ja : Int), .int .i64 oq] 70)
      have O2 := Blk3.new w1 (.int .i64 1) (.int .i64 (ja : Int)) (.int .i64 oq) 70
      have B2 := B1.alloc (by omega) (.cells #[.int .i64 1, .int .i64 (ja : Int), .int .i64 oq] 70)
      have R1 := implRunOp_any (w1.alloc (.cells #[.int .i64 1, .int .i64 (ja : Int), .int .i64 oq] 70)) lo _ C HC2.cv ⟨1, (ja : Int), oq⟩
      unfold OptCI at R1
      rw [hRb.out, hCn.out, hEn.out] at R1
      go_wp2_with fail
      refine R1.mono ?_; rintro e w2 ⟨v2, rfl, HS, hb2⟩
      obtain ⟨S0, t0, u0, S1, t1, u1, S2, t2, u2, S3, t3, u3, rfl, _, ⟨_, _, rS2, _⟩, ⟨_, _, lS2, _⟩, -⟩ := HS.open_
      obtain ⟨g2, rx, rfl, _, hg2, hrx, hrc, _⟩ := rS2.get (k := ja) hjt
      have rxe : Hid (rootA Cn (ja : Int) = rx) := by unfold Hid rootA; simp [List.getD, hrx.out]
      rw [rxe.out] at KC
      have hjt2 : (ja : Int) < (t2 : Int) := by have := lS2.out; omega
      have hj0 : (0 : Int) ≤ (ja : Int) := by omega
      have s2 := hb2.size
      simp at s2
      have X3 := (X2.below hb2).alloc (.cells #[.slice S0 t0 u0, .slice S1 t1 u1, .slice (some ⟨g2, 0, none⟩) t2 u2, .slice S3 t3 u3] 27)
      have Y3 := (Y2.below hb2).alloc (.cells #[.slice S0 t0 u0, .slice S1 t1 u1, .slice (some ⟨g2, 0, none⟩) t2 u2, .slice S3 t3 u3] 27)
      have O3 := (O2.below hb2).alloc (.cells #[.slice S0 t0 u0, .slice S1 t1 u1, .slice (some ⟨g2, 0, none⟩) t2 u2, .slice S3 t3 u3] 27)
      have HB3 := (HB2.below hb2).alloc (.cells #[.slice S0 t0 u0, .slice S1 t1 u1, .slice (some ⟨g2, 0, none⟩) t2 u2, .slice S3 t3 u3] 27)
      have HC3 := (HC2.below hb2).alloc (.cells #[.slice S0 t0 u0, .slice S1 t1 u1, .slice (some ⟨g2, 0, none⟩) t2 u2, .slice S3 t3 u3] 27)
      have HS3 := HS.alloc (.cells #[.slice S0 t0 u0, .slice S1 t1 u1, .slice (some ⟨g2, 0, none⟩) t2 u2, .slice S3 t3 u3] 27)
      have T3 := Blk4.new w2 (.slice S0 t0 u0) (.slice S1 t1 u1) (.slice (some ⟨g2, 0, none⟩) t2 u2) (.slice S3 t3 u3) 27
      have B3 := (B2.trans (hb2.mono B2.size)).alloc (by (have := B2.size; simp at this; omega)) (.cells #[.slice S0 t0 u0, .slice S1 t1 u1, .slice (some ⟨g2, 0, none⟩) t2 u2, .slice S3 t3 u3] 27)
      obtain ⟨⟨x0, x1, x2, x3, x4, x5, x6, x7, x8, x9⟩, -⟩ := (X2.below hb2).cells
      have lx2 := (X2.below hb2).lt
      have C1 := copyOfBoth_any (w2.alloc (.cells #[.slice S0 t0 u0, .slice S1 t1 u1, .slice (some ⟨g2, 0, none⟩) t2 u2, .slice S3 t3 u3] 27)) lo _ _ HB3 nb0 nb1 nb2 nb3 nb4 nb5
      clear R1 y0 y1 y2 y3 y4 y5 y6 y7 y8 y9 c0 c1 c2 X1 Y1 HB1 HC1 X2 Y2 HB2 HC2 lx ly
      go_wp2_with fail
      refine C1.mono ?_; rintro e w3 ⟨v3, rfl, HN, hb3⟩
      obtain ⟨D0, e0, d0, D1, e1, d1, D2, e2, d2, D3, e3, d3, D4, e4, d4, D5, e5, d5, rfl⟩ := HN.shape
      have s3 := hb3.size
      simp at s3
      have X4 := X3.below hb3
      have Y4 := Y3.below hb3
      have O4 := O3.below hb3
      have T4 := T3.below hb3
      have HC4 := HC3.below hb3
      have hrc3 := (hb3.cell (p := ⟨g2, ja, none⟩) (by simp; omega)).trans (cellA hrc (.cells #[.slice S0 t0 u0, .slice S1 t1 u1, .slice (some ⟨g2, 0, none⟩) t2 u2, .slice S3 t3 u3] 27))
      have lg3 : g2 < w3.heap.size := by omega
      have HB4 := HB3.below hb3
      have B4 := B3.trans (hb3.mono B3.size)
      have HM := (Bv.withStore HS3 HN (by simp; omega) hb3 ((k : Int) + 1) false).mono (lo' := w.heap.size + 2) (by simp; omega)
      clear C1 x0 x1 x2 x3 x4 x5 x6 x7 x8 x9 lx2 HB3 X3 Y3 O3 T3 HC3 HS3 HS rS2 HN O2 hrc HC4 hrx
      obtain ⟨⟨x0, x1, x2, x3, x4, x5, x6, x7, x8, x9⟩, -⟩ := X4.cells
      obtain ⟨⟨q0, q1, q2, q3, q4, q5, q6, q7, q8, q9⟩, ⟨k0, k1, k2, k3, k4, k5, k6, k7, k8, k9⟩⟩ := Y4.cells
      obtain ⟨p0, p1x, p2, _⟩ := O4.cells
      obtain ⟨r0, r1, r2, r3, _⟩ := T4.cells
      have lx := X4.lt
      have ly := Y4.lt
      have lo4 := O4.lt
      have lt4 := T4.lt
      go_wp2_with fail
      have CV5 := Blk10.new w3 (.slice S0 t0 u0) (.slice S1 t1 u1) (.slice (some ⟨g2, 0, none⟩) t2 u2) (.slice S3 t3 u3) (.int .i64 p) (.slice D4 e4 d4) (.int .i64 a) (.slice D5 e5 d5) (.int .i64 ((k : Int) + 1)) (.bool false) 34
      have X5 := X4.alloc (.cells #[.slice S0 t0 u0, .slice S1 t1 u1, .slice (some ⟨g2, 0, none⟩) t2 u2, .slice S3 t3 u3, .int .i64 p, .slice D4 e4 d4, .int .i64 a, .slice D5 e5 d5, .int .i64 ((k : Int) + 1), .bool false] 34)
      have Y5 := Y4.alloc (.cells #[.slice S0 t0 u0, .slice S1 t1 u1, .slice (some ⟨g2, 0, none⟩) t2 u2, .slice S3 t3 u3, .int .i64 p, .slice D4 e4 d4, .int .i64 a, .slice D5 e5 d5, .int .i64 ((k : Int) + 1), .bool false] 34)
      have O5 := O4.alloc (.cells #[.slice S0 t0 u0, .slice S1 t1 u1, .slice (some ⟨g2, 0, none⟩) t2 u2, .slice S3 t3 u3, .int .i64 p, .slice D4 e4 d4, .int .i64 a, .slice D5 e5 d5, .int .i64 ((k : Int) + 1), .bool false] 34)
      have HM5 := HM.alloc (.cells #[.slice S0 t0 u0, .slice S1 t1 u1, .slice (some ⟨g2, 0, none⟩) t2 u2, .slice S3 t3 u3, .int .i64 p, .slice D4 e4 d4, .int .i64 a, .slice D5 e5 d5, .int .i64 ((k : Int) + 1), .bool false] 34)
      have HB5 := HB4.alloc (.cells #[.slice S0 t0 u0, .slice S1 t1 u1, .slice (some ⟨g2, 0, none⟩) t2 u2, .slice S3 t3 u3, .int .i64 p, .slice D4 e4 d4, .int .i64 a, .slice D5 e5 d5, .int .i64 ((k : Int) + 1), .bool false] 34)
      have B5 := B4.alloc (by omega) (.cells #[.slice S0 t0 u0, .slice S1 t1 u1, .slice (some ⟨g2, 0, none⟩) t2 u2, .slice S3 t3 u3, .int .i64 p, .slice D4 e4 d4, .int .i64 a, .slice D5 e5 d5, .int .i64 ((k : Int) + 1), .bool false] 34)
      have s5 : w3.heap.size + 1 ≤ (w3.alloc (.cells #[.slice S0 t0 u0, .slice S1 t1 u1, .slice (some ⟨g2, 0, none⟩) t2 u2, .slice S3 t3 u3, .int .i64 p, .slice D4 e4 d4, .int .i64 a, .slice D5 e5 d5, .int .i64 ((k : Int) + 1), .bool false] 34)).heap.size := by simp
      have hrc5 := cellA hrc3 (.cells #[.slice S0 t0 u0, .slice S1 t1 u1, .slice (some ⟨g2, 0, none⟩) t2 u2, .slice S3 t3 u3, .int .i64 p, .slice D4 e4 d4, .int .i64 a, .slice D5 e5 d5, .int .i64 ((k : Int) + 1), .bool false] 34)
      clear X4 Y4 O4 HM HB4 B4 x0 x1 x2 x3 x4 x5 x6 x7 x8 x9 q0 q1 q2 q3 q4 q5 q6 q7 q8 q9 k0 k1 k2 k3 k4 k5 k6 k7 k8 k9 p0 p1x p2 r0 r1 r2 r3 lx ly lo4 lt4 T4
      generalize (w3.alloc (.cells #[.slice S0 t0 u0, .slice S1 t1 u1, .slice (some ⟨g2, 0, none⟩) t2 u2, .slice S3 t3 u3, .int .i64 p, .slice D4 e4 d4, .int .i64 a, .slice D5 e5 d5, .int .i64 ((k : Int) + 1), .bool false] 34)) = W5 at CV5 X5 Y5 O5 HM5 HB5 B5 s5 hrc5 ⊢
      obtain ⟨⟨x0, x1, x2, x3, x4, x5, x6, x7, x8, x9⟩, -⟩ := CV5.cells
      obtain ⟨o0, o1, o2, -⟩ := O5.cells
      refine wp_region_held_drew (S := fun w' => w'.cell? ⟨w3.heap.size, 0, none⟩ = some (.slice S0 t0 u0) ∧ w'.cell? ⟨w3.heap.size, 1, none⟩ = some (.slice S1 t1 u1) ∧ w'.cell? ⟨w3.heap.size, 2, none⟩ = some (.slice (some ⟨g2, 0, none⟩) t2 u2) ∧ w'.cell? ⟨w3.heap.size, 3, none⟩ = some (.slice S3 t3 u3) ∧ w'.cell? ⟨w1.heap.size, 1, none⟩ = some (.int .i64 (ja : Int)) ∧ w'.cell? ⟨g2, ja, none⟩ = some (.int .i64 rx)) (by kernel_rfl) ?_ (fun hHeld => ?_)
      · exact ⟨cellD x0, cellD x1, cellD x2, cellD x3, cellD o1, cellD hrc5⟩
      replace CV5 := CV5.drew
      replace X5 := X5.drew
      replace Y5 := Y5.drew
      replace O5 := Blk3.drewO O5
      replace HM5 := HM5.drew
      replace HB5 := HB5.drew
      replace B5 := B5.drew
      replace s5 : w3.heap.size + 1 ≤ W5.drew.heap.size := s5
      have xd4 := cellD x4
      have xd5 := cellD x5
      have xd6 := cellD x6
      have hrd := cellD hrc5
      clear x0 x1 x2 x3 x4 x5 x6 x7 x8 x9 o0 o1 o2 hrc5
      refine wpAnyH_take (i := 0) (oi := ?oim0) (v := ?vm0) ?him0 (by kernel_rfl) (by kernel_rfl) (by kernel_rfl) ?hQm0 ?hym0 (by assumption) ?_
      case him0 => simp only [List.getElem?_toArray, List.getElem?_cons_zero]; rfl
      case hQm0 => exact fun _ _ _ h => h
      case hym0 => refine Or.inl ⟨by rfl, ?_⟩; intro w9 hSw; (try dsimp only at hSw); go_simp; (try with_reducible rfl)
      try simp only [Act.put, List.setIfInBounds_toArray, List.set_cons_zero, List.set_cons_succ]
      refine wpAnyH_take (i := 1) (oi := ?oim1) (v := ?vm1) ?him1 (by kernel_rfl) (by kernel_rfl) (by kernel_rfl) ?hQm1 ?hym1 (by assumption) ?_
      case him1 => simp only [List.getElem?_toArray, List.getElem?_cons_zero, List.getElem?_cons_succ]; rfl
      case hQm1 => exact fun _ _ _ h => h
      case hym1 => refine Or.inl ⟨by rfl, ?_⟩; intro w9 hSw; (try dsimp only at hSw); go_simp; (try with_reducible rfl)
      try simp only [Act.put, List.setIfInBounds_toArray, List.set_cons_zero, List.set_cons_succ]
      refine wpAnyH_take (i := 2) (oi := ?oim2) (v := ?vm2) ?him2 (by kernel_rfl) (by kernel_rfl) (by kernel_rfl) ?hQm2 ?hym2 (by assumption) ?_
      case him2 => simp only [List.getElem?_toArray, List.getElem?_cons_zero, List.getElem?_cons_succ]; rfl
      case hQm2 => exact fun _ _ _ h => h
      case hym2 => refine Or.inl ⟨by rfl, ?_⟩; intro w9 hSw; (try dsimp only at hSw); go_simp; (try with_reducible rfl)
      try simp only [Act.put, List.setIfInBounds_toArray, List.set_cons_zero, List.set_cons_succ]
      refine wpAnyH_take (i := 4) (oi := ?oim4) (v := ?vm4) ?him4 (by kernel_rfl) (by kernel_rfl) (by kernel_rfl) ?hQm4 ?hym4 (by assumption) ?_
      case him4 => simp only [List.getElem?_toArray, List.getElem?_cons_zero, List.getElem?_cons_succ]; rfl
      case hQm4 => exact fun _ _ _ h => h
      case hym4 => refine Or.inl ⟨by rfl, ?_⟩; intro w9 hSw; (try dsimp only at hSw); go_simp; (try with_reducible rfl)
      try simp only [Act.put, List.setIfInBounds_toArray, List.set_cons_zero, List.set_cons_succ]
      refine wpAnyH_take (i := 5) (oi := ?oim5) (v := ?vm5) ?him5 (by kernel_rfl) (by kernel_rfl) (by kernel_rfl) ?hQm5 ?hym5 (by assumption) ?_
      case him5 => simp only [List.getElem?_toArray, List.getElem?_cons_zero, List.getElem?_cons_succ]; rfl
      case hQm5 => exact fun _ _ _ h => h
      case hym5 => refine Or.inl ⟨by rfl, ?_⟩; intro w9 hSw; (try dsimp only at hSw); go_simp; (try with_reducible rfl)
      try simp only [Act.put, List.setIfInBounds_toArray, List.set_cons_zero, List.set_cons_succ]
      refine wpAnyH_take (i := 6) (oi := ?oim6) (v := ?vm6) ?him6 (by kernel_rfl) (by kernel_rfl) (by kernel_rfl) ?hQm6 ?hym6 (by assumption) ?_
      case him6 => simp only [List.getElem?_toArray, List.getElem?_cons_zero, List.getElem?_cons_succ]; rfl
      case hQm6 => exact fun _ _ _ h => h
      case hym6 => refine Or.inl ⟨by rfl, ?_⟩; intro w9 hSw; (try dsimp only at hSw); go_simp; (try with_reducible rfl)
      try simp only [Act.put, List.setIfInBounds_toArray, List.set_cons_zero, List.set_cons_succ]
      refine wpAnyH_take (i := 7) (oi := ?oim7) (v := ?vm7) ?him7 (by kernel_rfl) (by kernel_rfl) (by kernel_rfl) ?hQm7 ?hym7 (by assumption) ?_
      case him7 => simp only [List.getElem?_toArray, List.getElem?_cons_zero, List.getElem?_cons_succ]; rfl
      case hQm7 => exact fun _ _ _ h => h
      case hym7 => refine Or.inl ⟨by rfl, ?_⟩; intro w9 hSw; (try dsimp only at hSw); go_simp; (try with_reducible rfl)
      try simp only [Act.put, List.setIfInBounds_toArray, List.set_cons_zero, List.set_cons_succ]
      refine wpAnyH_take (i := 8) (oi := ?oim8) (v := ?vm8) ?him8 (by kernel_rfl) (by kernel_rfl) (by kernel_rfl) ?hQm8 ?hym8 (by assumption) ?_
      case him8 => simp only [List.getElem?_toArray, List.getElem?_cons_zero, List.getElem?_cons_succ]; rfl
      case hQm8 => exact fun _ _ _ h => h
      case hym8 => refine Or.inl ⟨by rfl, ?_⟩; intro w9 hSw; (try dsimp only at hSw); go_simp; (try with_reducible rfl)
      try simp only [Act.put, List.setIfInBounds_toArray, List.set_cons_zero, List.set_cons_succ]
      refine wpAnyH_take (i := 9) (oi := ?oim9) (v := ?vm9) ?him9 (by kernel_rfl) (by kernel_rfl) (by kernel_rfl) ?hQm9 ?hym9 (by assumption) ?_
      case him9 => simp only [List.getElem?_toArray, List.getElem?_cons_zero, List.getElem?_cons_succ]; rfl
      case hQm9 => exact fun _ _ _ h => h
      case hym9 => refine Or.inl ⟨by rfl, ?_⟩; intro w9 hSw; (try dsimp only at hSw); go_simp; (try with_reducible rfl)
      try simp only [Act.put, List.setIfInBounds_toArray, List.set_cons_zero, List.set_cons_succ]
      refine wpAnyH_take (i := 10) (oi := ?oim10) (v := ?vm10) ?him10 (by kernel_rfl) (by kernel_rfl) (by kernel_rfl) ?hQm10 ?hym10 (by assumption) ?_
      case him10 => simp only [List.getElem?_toArray, List.getElem?_cons_zero, List.getElem?_cons_succ]; rfl
      case hQm10 => exact fun _ _ _ h => h
      case hym10 => refine Or.inl ⟨by rfl, ?_⟩; intro w9 hSw; (try dsimp only at hSw); go_simp; (try with_reducible rfl)
      try simp only [Act.put, List.setIfInBounds_toArray, List.set_cons_zero, List.set_cons_succ]
      refine wpAnyH_take (i := 11) (oi := ?oim11) (v := ?vm11) ?him11 (by kernel_rfl) (by kernel_rfl) (by kernel_rfl) ?hQm11 ?hym11 (by assumption) ?_
      case him11 => simp only [List.getElem?_toArray, List.getElem?_cons_zero, List.getElem?_cons_succ]; rfl
      case hQm11 => exact fun _ _ _ h => h
      case hym11 => refine Or.inl ⟨by rfl, ?_⟩; intro w9 hSw; (try dsimp only at hSw); go_simp; (try with_reducible rfl)
      try simp only [Act.put, List.setIfInBounds_toArray, List.set_cons_zero, List.set_cons_succ]
      refine wpAnyH_ready (rs := [3]) (by kernel_rfl) (by simp) ?_
      refine AllReadyH.cons (o := ?oom3) ?hom3 (fun K hK => ?_) AllReadyH.nil
      case hom3 => simp only [List.getElem?_toArray, List.getElem?_cons_zero, List.getElem?_cons_succ]; rfl
      go_simp
      refine hK.out _ _ ?hSm3 (fun hHeld3 => ?_)
      case hSm3 => exact hHeld
      clear hK K
      try simp only [Act.put, List.setIfInBounds_toArray, List.set_cons_zero, List.set_cons_succ]
      refine wpAnyH_ready (rs := [12]) (by kernel_rfl) (by simp) ?_
      refine AllReadyH.cons (o := ?oom12) ?hom12 (fun K hK => ?_) AllReadyH.nil
      case hom12 => simp only [List.getElem?_toArray, List.getElem?_cons_zero, List.getElem?_cons_succ]; rfl
      go_simp
      refine (KC _ _ _ _ HM5.cg).mono ?_; rintro e w5 ⟨vg, rfl, HG, hb5⟩
      obtain ⟨A9, n9, c9, hv9, -⟩ := HG.open_
      dsimp only at hv9
      subst hv9
      have hrc6 := (hb5.cell (p := ⟨g2, ja, none⟩) (Nat.lt_trans lg3 CV5.lt)).trans hrd
      have s6 := hb5.size
      have HMg := Bv.withGc HM5 HG (by omega) hb5
      have CV6 := CV5.below hb5
      have X6 := X5.below hb5
      have Y6 := Y5.below hb5
      have HM6 := HM5.below hb5
      have HB6 := HB5.below hb5
      have O6 := O5.below hb5
      have B6 := B5.trans (hb5.mono B5.size)
      replace HM6 := HMg
      clear HMg HG CV5 X5 Y5 O5 HM5 HB5 B5
      obtain ⟨⟨x0, x1, x2, x3, x4, x5, x6, x7, x8, x9⟩, ⟨f0, f1, f2, f3, f4, f5, f6, f7, f8, f9⟩⟩ := CV6.cells
      have CV7 := CV6.set46 (.int .i64 p1) (.slice A9 n9 c9) (.int .i64 a1)
      have X7 := X6.far3 (c := w3.heap.size) (by omega) (.int .i64 p1) (.slice A9 n9 c9) (.int .i64 a1)
      have Y7 := Y6.far3 (c := w3.heap.size) (by omega) (.int .i64 p1) (.slice A9 n9 c9) (.int .i64 a1)
      have O7 := ((O6.other (p := ⟨w3.heap.size, 4, none⟩) (by show w1.heap.size ≠ w3.heap.size; omega) (.int .i64 p1)).other (p := ⟨w3.heap.size, 5, none⟩) (by show w1.heap.size ≠ w3.heap.size; omega) (.slice A9 n9 c9)).other (p := ⟨w3.heap.size, 6, none⟩) (by show w1.heap.size ≠ w3.heap.size; omega) (.int .i64 a1)
      have HM7 := ((HM6.setT CV6 4 (.int .i64 p1)).setT (CV6.set4 (.int .i64 p1)) 5 (.slice A9 n9 c9)).setT ((CV6.set4 (.int .i64 p1)).set5 (.slice A9 n9 c9)) 6 (.int .i64 a1)
      have HB7 := ((HB6.setT CV6 4 (.int .i64 p1)).setT (CV6.set4 (.int .i64 p1)) 5 (.slice A9 n9 c9)).setT ((CV6.set4 (.int .i64 p1)).set5 (.slice A9 n9 c9)) 6 (.int .i64 a1)
      have B7 := below_set3b B6 (c := w3.heap.size) (by omega) (.int .i64 p1) (.slice A9 n9 c9) (.int .i64 a1)
      obtain ⟨⟨y0, y1, y2, y3, y4, y5, y6, y7, y8, y9⟩, -⟩ := X7.cells
      obtain ⟨⟨z0, z1, z2, z3, z4, z5, z6, z7, z8, z9⟩, -⟩ := CV7.cells
      obtain ⟨o0, o1, o2, -⟩ := O7.cells
      go_wp2_with fail
      refine hK.out _ _ ?hSm12 (fun hHeld12 => ?_)
      case hSm12 => exact ⟨x0, x1, x2, x3, (O6.cells).2.1, hrc6⟩
      clear hK K
      try simp only [Act.put, List.setIfInBounds_toArray, List.set_cons_zero, List.set_cons_succ]
      refine wpAnyH_take (i := 13) (oi := ?oim13) (v := ?vm13) ?him13 (by kernel_rfl) (by kernel_rfl) (by kernel_rfl) ?hQm13 ?hym13 (by assumption) ?_
      case him13 => simp only [List.getElem?_toArray, List.getElem?_cons_zero, List.getElem?_cons_succ]; rfl
      case hQm13 => exact fun _ _ _ h => h
      case hym13 => refine Or.inl ⟨by rfl, ?_⟩; intro w9 hSw; (try dsimp only at hSw); go_simp; (try with_reducible rfl)
      try simp only [Act.put, List.setIfInBounds_toArray, List.set_cons_zero, List.set_cons_succ]
      refine wpAnyH_take (i := 14) (oi := ?oim14) (v := ?vm14) ?him14 (by kernel_rfl) (by kernel_rfl) (by kernel_rfl) ?hQm14 ?hym14 (by assumption) ?_
      case him14 => simp only [List.getElem?_toArray, List.getElem?_cons_zero, List.getElem?_cons_succ]; rfl
      case hQm14 => exact fun _ _ _ h => h
      case hym14 => refine Or.inl ⟨by rfl, ?_⟩; intro w9 hSw; (try dsimp only at hSw); go_simp; (try with_reducible rfl)
      try simp only [Act.put, List.setIfInBounds_toArray, List.set_cons_zero, List.set_cons_succ]
      refine wpAnyH_take (i := 15) (oi := ?oim15) (v := ?vm15) ?him15 (by kernel_rfl) (by kernel_rfl) (by kernel_rfl) ?hQm15 ?hym15 (by assumption) ?_
      case him15 => simp only [List.getElem?_toArray, List.getElem?_cons_zero, List.getElem?_cons_succ]; rfl
      case hQm15 => exact fun _ _ _ h => h
      case hym15 => refine Or.inl ⟨by rfl, ?_⟩; intro w9 hSw; (try dsimp only at hSw); go_simp; (try with_reducible rfl)
      try simp only [Act.put, List.setIfInBounds_toArray, List.set_cons_zero, List.set_cons_succ]
      refine wpAnyH_take (i := 16) (oi := ?oim16) (v := ?vm16) ?him16 (by kernel_rfl) (by kernel_rfl) (by kernel_rfl) ?hQm16 ?hym16 (by assumption) ?_
      case him16 => simp only [List.getElem?_toArray, List.getElem?_cons_zero, List.getElem?_cons_succ]; rfl
      case hQm16 => exact fun _ _ _ h => h
      case hym16 => refine Or.inl ⟨by rfl, ?_⟩; intro w9 hSw; (try dsimp only at hSw); go_simp; (try with_reducible rfl)
      try simp only [Act.put, List.setIfInBounds_toArray, List.set_cons_zero, List.set_cons_succ]
      refine wpAnyH_ready (rs := [17]) (by kernel_rfl) (by simp) ?_
      refine AllReadyH.cons (o := ?oom17) ?hom17 (fun K hK => ?_) AllReadyH.nil
      case hom17 => simp only [List.getElem?_toArray, List.getElem?_cons_zero, List.getElem?_cons_succ]; rfl
      go_simp
      refine hK.out _ _ ?hSm17 (fun hHeld17 => ?_)
      case hSm17 => exact ⟨z0, z1, z2, z3, o1, (World.cell?_setCell_far _ _ _ _ (by show w3.heap.size ≠ g2; omega)).trans ((World.cell?_setCell_far _ _ _ _ (by show w3.heap.size ≠ g2; omega)).trans ((World.cell?_setCell_far _ _ _ _ (by show w3.heap.size ≠ g2; omega)).trans hrc6))⟩
      clear hK K
      try simp only [Act.put, List.setIfInBounds_toArray, List.set_cons_zero, List.set_cons_succ]
      refine wpAnyH_done (by kernel_rfl) ?_ _
      have TT := implTargetOf_any (((w5.setCell ⟨w3.heap.size, 4, none⟩ (.int .i64 p1)).setCell ⟨w3.heap.size, 5, none⟩ (.slice A9 n9 c9)).setCell ⟨w3.heap.size, 6, none⟩ (.int .i64 a1)) lo _ C HB7.cg.cv ⟨1, (ja : Int), oq⟩
      rw [hTn.out] at TT
      go_wp2_with fail
      refine TT.mono ?_; rintro e w6 ⟨rfl, hb6⟩
      have s7 := hb6.size
      have s8 := B7.size
      have CV8 := CV7.below hb6
      have X8 := X7.below hb6
      have Y8 := Y7.below hb6
      have HM8 := HM7.below hb6
      have HB8 := HB7.below hb6
      have B8 := B7.trans (hb6.mono B7.size)
      clear x0 x1 x2 x3 x4 x5 x6 x7 x8 x9 f0 f1 f2 f3 f4 f5 f6 f7 f8 f9 y0 y1 y2 y3 y4 y5 y6 y7 y8 y9 o0 o1 o2 TT CV6 X6 Y6 O6 HM6 HB6 CV7 X7 Y7 O7 HM7 HB7
      obtain ⟨⟨x0, x1, x2, x3, x4, x5, x6, x7, x8, x9⟩, -⟩ := CV8.cells
      obtain ⟨⟨q0, q1, q2, q3, q4, q5, q6, q7, q8, q9⟩, ⟨k0, k1, k2, k3, k4, k5, k6, k7, k8, k9⟩⟩ := Y8.cells
      have YF := Y8.set10 (.slice S0 t0 u0) (.slice S1 t1 u1) (.slice (some ⟨g2, 0, none⟩) t2 u2) (.slice S3 t3 u3) (.int .i64 p1) (.slice A9 n9 c9) (.int .i64 a1) (.slice D5 e5 d5) (.int .i64 ((k : Int) + 1)) (.bool false)
      have HF := HM8.low10 (c := w.heap.size + 1) (by omega) (.slice S0 t0 u0) (.slice S1 t1 u1) (.slice (some ⟨g2, 0, none⟩) t2 u2) (.slice S3 t3 u3) (.int .i64 p1) (.slice A9 n9 c9) (.int .i64 a1) (.slice D5 e5 d5) (.int .i64 ((k : Int) + 1)) (.bool false)
      have FF := below_set10 B8 (c := w.heap.size + 1) (by omega) (.slice S0 t0 u0) (.slice S1 t1 u1) (.slice (some ⟨g2, 0, none⟩) t2 u2) (.slice S3 t3 u3) (.int .i64 p1) (.slice A9 n9 c9) (.int .i64 a1) (.slice D5 e5 d5) (.int .i64 ((k : Int) + 1)) (.bool false)
      go_wp2_with fail
      generalize ((((((((((w6.setCell ⟨w.heap.size + 1, 0, none⟩ (.slice S0 t0 u0)).setCell ⟨w.heap.size + 1, 1, none⟩ (.slice S1 t1 u1)).setCell ⟨w.heap.size + 1, 2, none⟩ (.slice (some ⟨g2, 0, none⟩) t2 u2)).setCell ⟨w.heap.size + 1, 3, none⟩ (.slice S3 t3 u3)).setCell ⟨w.heap.size + 1, 4, none⟩ (.int .i64 p1)).setCell ⟨w.heap.size + 1, 5, none⟩ (.slice A9 n9 c9)).setCell ⟨w.heap.size + 1, 6, none⟩ (.int .i64 a1)).setCell ⟨w.heap.size + 1, 7, none⟩ (.slice D5 e5 d5)).setCell ⟨w.heap.size + 1, 8, none⟩ (.int .i64 ((k : Int) + 1))).setCell ⟨w.heap.size + 1, 9, none⟩ (.bool false)) = WF at YF HF FF ⊢
      obtain ⟨⟨v0, v1, v2, v3, v4, v5, v6, v7, v8, v9⟩, -⟩ := YF.cells
      refine bodyPost_ret (v := .tuple #[.agg #[.slice S0 t0 u0, .slice S1 t1 u1, .slice (some ⟨g2, 0, none⟩) t2 u2, .slice S3 t3 u3, .int .i64 p1, .slice A9 n9 c9, .int .i64 a1, .slice D5 e5 d5, .int .i64 ((k : Int) + 1), .bool false], .bool true]) ?_ rfl ⟨_, rfl, HF.mono (by omega), FF⟩
      simp [results, Try.results31, go_sem, v0, v1, v2, v3, v4, v5, v6, v7, v8, v9]
  have hk1 : (ok == 1) = false := by rw [beq_eq_false_iff_ne]; exact hk9
  have g1e : gc1 Cn ⟨p, cc, a⟩ ⟨ok, (ja : Int), oq⟩ = ⟨p, cc, a⟩ := by unfold gc1; rw [if_neg hk9]
  rw [g1e]
  clear g1e hk9 RT
  cases b
  · have g2e : gc2 Cn ⟨p, cc, a⟩ tg false = ⟨p, cc, a⟩ := by unfold gc2; rw [if_neg]; rintro ⟨h8, h9⟩; cases h8
    rw [g2e]
    clear g2e
    go_enter Try.func31, Try.ntmps31
    go_wp2_with fail
    (try rw [hW])
    refine V.mono ?_; rintro e w1 ⟨rfl, hb1⟩
    have s1 := hb1.size
    have X1 := X.below hb1
    have Y1 := Y.below hb1
    have HB1 := HB.below hb1
    have HC1 := HC.below hb1
    have B1 := BB.trans (hb1.mono BB.size)
    have c0 := (hb1.cell (p := ⟨g5, k * 3, none⟩) hg5).trans o0
    have c1 := (hb1.cell (p := ⟨g5, k * 3 + 1, none⟩) hg5).trans o1
    have c2 := (hb1.cell (p := ⟨g5, k * 3 + 2, none⟩) hg5).trans o2
    obtain ⟨⟨y0, y1, y2, y3, y4, y5, y6, y7, y8, y9⟩, -⟩ := X1.cells
    have lx := X1.lt
    have ly := Y1.lt
    clear x0 x1 x2 x3 x4 x5 x6 x7 x8 x9 V o0 o1 o2 X Y HB HC HO
    have X2 := X1.alloc (.cells #[.int .i64 ok, .int .i64 (ja : Int), .int .i64 oq] 70)
    have Y2 := Y1.alloc (.cells #[.int .i64 ok, .int .i64 (ja : Int), .int .i64 oq] 70)
    have HB2 := HB1.alloc (.cells #[.int .i64 ok, .int .i64 (ja : Int), .int .i64 oq] 70)
    have HC2 := HC1.alloc (.cells #[.int .i64 ok, .int .i64 (ja : Int), .int .i64 oq] 70)
    have O2 := Blk3.new w1 (.int .i64 ok) (.int .i64 (ja : Int)) (.int .i64 oq) 70
    have B2 := B1.alloc (by omega) (.cells #[.int .i64 ok, .int .i64 (ja : Int), .int .i64 oq] 70)
    have R1 := implRunOp_any (w1.alloc (.cells #[.int .i64 ok, .int .i64 (ja : Int), .int .i64 oq] 70)) lo _ C HC2.cv ⟨ok, (ja : Int), oq⟩
    unfold OptCI at R1
    rw [hRb.out, hCn.out, hEn.out] at R1
    go_wp2_with fail
    refine R1.mono ?_; rintro e w2 ⟨v2, rfl, HS, hb2⟩
    obtain ⟨S0, t0, u0, S1, t1, u1, S2, t2, u2, S3, t3, u3, rfl, _, ⟨_, _, rS2, _⟩, ⟨_, _, lS2, _⟩, -⟩ := HS.open_
    obtain ⟨g2, rx, rfl, _, hg2, hrx, hrc, _⟩ := rS2.get (k := ja) hjt
    have rxe : Hid (rootA Cn (ja : Int) = rx) := by unfold Hid rootA; simp [List.getD, hrx.out]
    have hjt2 : (ja : Int) < (t2 : Int) := by have := lS2.out; omega
    have hj0 : (0 : Int) ≤ (ja : Int) := by omega
    have s2 := hb2.size
    simp at s2
    have X3 := (X2.below hb2).alloc (.cells #[.slice S0 t0 u0, .slice S1 t1 u1, .slice (some ⟨g2, 0, none⟩) t2 u2, .slice S3 t3 u3] 27)
    have Y3 := (Y2.below hb2).alloc (.cells #[.slice S0 t0 u0, .slice S1 t1 u1, .slice (some ⟨g2, 0, none⟩) t2 u2, .slice S3 t3 u3] 27)
    have O3 := (O2.below hb2).alloc (.cells #[.slice S0 t0 u0, .slice S1 t1 u1, .slice (some ⟨g2, 0, none⟩) t2 u2, .slice S3 t3 u3] 27)
    have HB3 := (HB2.below hb2).alloc (.cells #[.slice S0 t0 u0, .slice S1 t1 u1, .slice (some ⟨g2, 0, none⟩) t2 u2, .slice S3 t3 u3] 27)
    have HC3 := (HC2.below hb2).alloc (.cells #[.slice S0 t0 u0, .slice S1 t1 u1, .slice (some ⟨g2, 0, none⟩) t2 u2, .slice S3 t3 u3] 27)
    have HS3 := HS.alloc (.cells #[.slice S0 t0 u0, .slice S1 t1 u1, .slice (some ⟨g2, 0, none⟩) t2 u2, .slice S3 t3 u3] 27)
    have T3 := Blk4.new w2 (.slice S0 t0 u0) (.slice S1 t1 u1) (.slice (some ⟨g2, 0, none⟩) t2 u2) (.slice S3 t3 u3) 27
    have B3 := (B2.trans (hb2.mono B2.size)).alloc (by (have := B2.size; simp at this; omega)) (.cells #[.slice S0 t0 u0, .slice S1 t1 u1, .slice (some ⟨g2, 0, none⟩) t2 u2, .slice S3 t3 u3] 27)
    obtain ⟨⟨x0, x1, x2, x3, x4, x5, x6, x7, x8, x9⟩, -⟩ := (X2.below hb2).cells
    have lx2 := (X2.below hb2).lt
    have C1 := copyOfBoth_any (w2.alloc (.cells #[.slice S0 t0 u0, .slice S1 t1 u1, .slice (some ⟨g2, 0, none⟩) t2 u2, .slice S3 t3 u3] 27)) lo _ _ HB3 nb0 nb1 nb2 nb3 nb4 nb5
    clear R1 y0 y1 y2 y3 y4 y5 y6 y7 y8 y9 c0 c1 c2 X1 Y1 HB1 HC1 X2 Y2 HB2 HC2 lx ly
    go_wp2_with fail
    refine C1.mono ?_; rintro e w3 ⟨v3, rfl, HN, hb3⟩
    obtain ⟨D0, e0, d0, D1, e1, d1, D2, e2, d2, D3, e3, d3, D4, e4, d4, D5, e5, d5, rfl⟩ := HN.shape
    have s3 := hb3.size
    simp at s3
    have X4 := X3.below hb3
    have Y4 := Y3.below hb3
    have O4 := O3.below hb3
    have T4 := T3.below hb3
    have HC4 := HC3.below hb3
    have hrc3 := (hb3.cell (p := ⟨g2, ja, none⟩) (by simp; omega)).trans (cellA hrc (.cells #[.slice S0 t0 u0, .slice S1 t1 u1, .slice (some ⟨g2, 0, none⟩) t2 u2, .slice S3 t3 u3] 27))
    have lg3 : g2 < w3.heap.size := by omega
    have HB4 := HB3.below hb3
    have B4 := B3.trans (hb3.mono B3.size)
    have HM := (Bv.withStore HS3 HN (by simp; omega) hb3 ((k : Int) + 1) false).mono (lo' := w.heap.size + 2) (by simp; omega)
    clear C1 x0 x1 x2 x3 x4 x5 x6 x7 x8 x9 lx2 HB3 X3 Y3 O3 T3 HC3 HS3 HS rS2 HN O2 hrc HC4 hrx
    obtain ⟨⟨x0, x1, x2, x3, x4, x5, x6, x7, x8, x9⟩, -⟩ := X4.cells
    obtain ⟨⟨q0, q1, q2, q3, q4, q5, q6, q7, q8, q9⟩, ⟨k0, k1, k2, k3, k4, k5, k6, k7, k8, k9⟩⟩ := Y4.cells
    obtain ⟨p0, p1, p2, _⟩ := O4.cells
    obtain ⟨r0, r1, r2, r3, _⟩ := T4.cells
    have lx := X4.lt
    have ly := Y4.lt
    have lo4 := O4.lt
    have lt4 := T4.lt
    go_wp2_with fail
    have CV5 := Blk10.new w3 (.slice S0 t0 u0) (.slice S1 t1 u1) (.slice (some ⟨g2, 0, none⟩) t2 u2) (.slice S3 t3 u3) (.int .i64 p) (.slice D4 e4 d4) (.int .i64 a) (.slice D5 e5 d5) (.int .i64 ((k : Int) + 1)) (.bool false) 34
    have X5 := X4.alloc (.cells #[.slice S0 t0 u0, .slice S1 t1 u1, .slice (some ⟨g2, 0, none⟩) t2 u2, .slice S3 t3 u3, .int .i64 p, .slice D4 e4 d4, .int .i64 a, .slice D5 e5 d5, .int .i64 ((k : Int) + 1), .bool false] 34)
    have Y5 := Y4.alloc (.cells #[.slice S0 t0 u0, .slice S1 t1 u1, .slice (some ⟨g2, 0, none⟩) t2 u2, .slice S3 t3 u3, .int .i64 p, .slice D4 e4 d4, .int .i64 a, .slice D5 e5 d5, .int .i64 ((k : Int) + 1), .bool false] 34)
    have O5 := O4.alloc (.cells #[.slice S0 t0 u0, .slice S1 t1 u1, .slice (some ⟨g2, 0, none⟩) t2 u2, .slice S3 t3 u3, .int .i64 p, .slice D4 e4 d4, .int .i64 a, .slice D5 e5 d5, .int .i64 ((k : Int) + 1), .bool false] 34)
    have HM5 := HM.alloc (.cells #[.slice S0 t0 u0, .slice S1 t1 u1, .slice (some ⟨g2, 0, none⟩) t2 u2, .slice S3 t3 u3, .int .i64 p, .slice D4 e4 d4, .int .i64 a, .slice D5 e5 d5, .int .i64 ((k : Int) + 1), .bool false] 34)
    have HB5 := HB4.alloc (.cells #[.slice S0 t0 u0, .slice S1 t1 u1, .slice (some ⟨g2, 0, none⟩) t2 u2, .slice S3 t3 u3, .int .i64 p, .slice D4 e4 d4, .int .i64 a, .slice D5 e5 d5, .int .i64 ((k : Int) + 1), .bool false] 34)
    have B5 := B4.alloc (by omega) (.cells #[.slice S0 t0 u0, .slice S1 t1 u1, .slice (some ⟨g2, 0, none⟩) t2 u2, .slice S3 t3 u3, .int .i64 p, .slice D4 e4 d4, .int .i64 a, .slice D5 e5 d5, .int .i64 ((k : Int) + 1), .bool false] 34)
    have s5 : w3.heap.size + 1 ≤ (w3.alloc (.cells #[.slice S0 t0 u0, .slice S1 t1 u1, .slice (some ⟨g2, 0, none⟩) t2 u2, .slice S3 t3 u3, .int .i64 p, .slice D4 e4 d4, .int .i64 a, .slice D5 e5 d5, .int .i64 ((k : Int) + 1), .bool false] 34)).heap.size := by simp
    clear X4 Y4 O4 HM HB4 B4 x0 x1 x2 x3 x4 x5 x6 x7 x8 x9 q0 q1 q2 q3 q4 q5 q6 q7 q8 q9 k0 k1 k2 k3 k4 k5 k6 k7 k8 k9 p0 p1 p2 r0 r1 r2 r3 lx ly lo4 lt4 T4
    obtain ⟨⟨y0, y1, y2, y3, y4, y5, y6, y7, y8, y9⟩, -⟩ := X5.cells
    obtain ⟨o0, o1, o2, -⟩ := O5.cells
    have lx := X5.lt
    have TT := implTargetOf_any (w3.alloc (.cells #[.slice S0 t0 u0, .slice S1 t1 u1, .slice (some ⟨g2, 0, none⟩) t2 u2, .slice S3 t3 u3, .int .i64 p, .slice D4 e4 d4, .int .i64 a, .slice D5 e5 d5, .int .i64 ((k : Int) + 1), .bool false] 34)) lo _ C HB5.cg.cv ⟨ok, (ja : Int), oq⟩
    rw [hTn.out] at TT
    refine TT.mono ?_; rintro e w6 ⟨rfl, hb6⟩
    have s7 := hb6.size
    have CV8 := CV5.below hb6
    have X8 := X5.below hb6
    have Y8 := Y5.below hb6
    have HM8 := HM5.below hb6
    have HB8 := HB5.below hb6
    have O8 := O5.below hb6
    have B8 := B5.trans (hb6.mono B5.size)
    clear y0 y1 y2 y3 y4 y5 y6 y7 y8 y9 o0 o1 o2 TT CV5 X5 Y5 O5 HM5 HB5 lx
    obtain ⟨⟨x0, x1, x2, x3, x4, x5, x6, x7, x8, x9⟩, ⟨f0, f1, f2, f3, f4, f5, f6, f7, f8, f9⟩⟩ := CV8.cells
    obtain ⟨⟨q0, q1, q2, q3, q4, q5, q6, q7, q8, q9⟩, ⟨k0, k1, k2, k3, k4, k5, k6, k7, k8, k9⟩⟩ := Y8.cells
    have YF := Y8.set10 (.slice S0 t0 u0) (.slice S1 t1 u1) (.slice (some ⟨g2, 0, none⟩) t2 u2) (.slice S3 t3 u3) (.int .i64 p) (.slice D4 e4 d4) (.int .i64 a) (.slice D5 e5 d5) (.int .i64 ((k : Int) + 1)) (.bool false)
    have HF := HM8.low10 (c := w.heap.size + 1) (by omega) (.slice S0 t0 u0) (.slice S1 t1 u1) (.slice (some ⟨g2, 0, none⟩) t2 u2) (.slice S3 t3 u3) (.int .i64 p) (.slice D4 e4 d4) (.int .i64 a) (.slice D5 e5 d5) (.int .i64 ((k : Int) + 1)) (.bool false)
    have FF := below_set10 B8 (c := w.heap.size + 1) (by omega) (.slice S0 t0 u0) (.slice S1 t1 u1) (.slice (some ⟨g2, 0, none⟩) t2 u2) (.slice S3 t3 u3) (.int .i64 p) (.slice D4 e4 d4) (.int .i64 a) (.slice D5 e5 d5) (.int .i64 ((k : Int) + 1)) (.bool false)
    go_wp2_with fail
    generalize ((((((((((w6.setCell ⟨w.heap.size + 1, 0, none⟩ (.slice S0 t0 u0)).setCell ⟨w.heap.size + 1, 1, none⟩ (.slice S1 t1 u1)).setCell ⟨w.heap.size + 1, 2, none⟩ (.slice (some ⟨g2, 0, none⟩) t2 u2)).setCell ⟨w.heap.size + 1, 3, none⟩ (.slice S3 t3 u3)).setCell ⟨w.heap.size + 1, 4, none⟩ (.int .i64 p)).setCell ⟨w.heap.size + 1, 5, none⟩ (.slice D4 e4 d4)).setCell ⟨w.heap.size + 1, 6, none⟩ (.int .i64 a)).setCell ⟨w.heap.size + 1, 7, none⟩ (.slice D5 e5 d5)).setCell ⟨w.heap.size + 1, 8, none⟩ (.int .i64 ((k : Int) + 1))).setCell ⟨w.heap.size + 1, 9, none⟩ (.bool false)) = WF at YF HF FF ⊢
    obtain ⟨⟨v0, v1, v2, v3, v4, v5, v6, v7, v8, v9⟩, -⟩ := YF.cells
    refine bodyPost_ret (v := .tuple #[.agg #[.slice S0 t0 u0, .slice S1 t1 u1, .slice (some ⟨g2, 0, none⟩) t2 u2, .slice S3 t3 u3, .int .i64 p, .slice D4 e4 d4, .int .i64 a, .slice D5 e5 d5, .int .i64 ((k : Int) + 1), .bool false], .bool true]) ?_ rfl ⟨_, rfl, HF.mono (by omega), FF⟩
    simp [results, Try.results31, go_sem, v0, v1, v2, v3, v4, v5, v6, v7, v8, v9]
  by_cases htg : tg = -1
  · subst htg
    have g2e : gc2 Cn ⟨p, cc, a⟩ (-1) true = ⟨p, cc, a⟩ := by unfold gc2; rw [if_neg]; rintro ⟨h8, h9⟩; exact h9 rfl
    rw [g2e]
    clear g2e
    go_enter Try.func31, Try.ntmps31
    go_wp2_with fail
    (try rw [hW])
    refine V.mono ?_; rintro e w1 ⟨rfl, hb1⟩
    have s1 := hb1.size
    have X1 := X.below hb1
    have Y1 := Y.below hb1
    have HB1 := HB.below hb1
    have HC1 := HC.below hb1
    have B1 := BB.trans (hb1.mono BB.size)
    have c0 := (hb1.cell (p := ⟨g5, k * 3, none⟩) hg5).trans o0
    have c1 := (hb1.cell (p := ⟨g5, k * 3 + 1, none⟩) hg5).trans o1
    have c2 := (hb1.cell (p := ⟨g5, k * 3 + 2, none⟩) hg5).trans o2
    obtain ⟨⟨y0, y1, y2, y3, y4, y5, y6, y7, y8, y9⟩, -⟩ := X1.cells
    have lx := X1.lt
    have ly := Y1.lt
    clear x0 x1 x2 x3 x4 x5 x6 x7 x8 x9 V o0 o1 o2 X Y HB HC HO
    have X2 := X1.alloc (.cells #[.int .i64 ok, .int .i64 (ja : Int), .int .i64 oq] 70)
    have Y2 := Y1.alloc (.cells #[.int .i64 ok, .int .i64 (ja : Int), .int .i64 oq] 70)
    have HB2 := HB1.alloc (.cells #[.int .i64 ok, .int .i64 (ja : Int), .int .i64 oq] 70)
    have HC2 := HC1.alloc (.cells #[.int .i64 ok, .int .i64 (ja : Int), .int .i64 oq] 70)
    have O2 := Blk3.new w1 (.int .i64 ok) (.int .i64 (ja : Int)) (.int .i64 oq) 70
    have B2 := B1.alloc (by omega) (.cells #[.int .i64 ok, .int .i64 (ja : Int), .int .i64 oq] 70)
    have R1 := implRunOp_any (w1.alloc (.cells #[.int .i64 ok, .int .i64 (ja : Int), .int .i64 oq] 70)) lo _ C HC2.cv ⟨ok, (ja : Int), oq⟩
    unfold OptCI at R1
    rw [hRb.out, hCn.out, hEn.out] at R1
    go_wp2_with fail
    refine R1.mono ?_; rintro e w2 ⟨v2, rfl, HS, hb2⟩
    obtain ⟨S0, t0, u0, S1, t1, u1, S2, t2, u2, S3, t3, u3, rfl, _, ⟨_, _, rS2, _⟩, ⟨_, _, lS2, _⟩, -⟩ := HS.open_
    obtain ⟨g2, rx, rfl, _, hg2, hrx, hrc, _⟩ := rS2.get (k := ja) hjt
    have rxe : Hid (rootA Cn (ja : Int) = rx) := by unfold Hid rootA; simp [List.getD, hrx.out]
    have hjt2 : (ja : Int) < (t2 : Int) := by have := lS2.out; omega
    have hj0 : (0 : Int) ≤ (ja : Int) := by omega
    have s2 := hb2.size
    simp at s2
    have X3 := (X2.below hb2).alloc (.cells #[.slice S0 t0 u0, .slice S1 t1 u1, .slice (some ⟨g2, 0, none⟩) t2 u2, .slice S3 t3 u3] 27)
    have Y3 := (Y2.below hb2).alloc (.cells #[.slice S0 t0 u0, .slice S1 t1 u1, .slice (some ⟨g2, 0, none⟩) t2 u2, .slice S3 t3 u3] 27)
    have O3 := (O2.below hb2).alloc (.cells #[.slice S0 t0 u0, .slice S1 t1 u1, .slice (some ⟨g2, 0, none⟩) t2 u2, .slice S3 t3 u3] 27)
    have HB3 := (HB2.below hb2).alloc (.cells #[.slice S0 t0 u0, .slice S1 t1 u1, .slice (some ⟨g2, 0, none⟩) t2 u2, .slice S3 t3 u3] 27)
    have HC3 := (HC2.below hb2).alloc (.cells #[.slice S0 t0 u0, .slice S1 t1 u1, .slice (some ⟨g2, 0, none⟩) t2 u2, .slice S3 t3 u3] 27)
    have HS3 := HS.alloc (.cells #[.slice S0 t0 u0, .slice S1 t1 u1, .slice (some ⟨g2, 0, none⟩) t2 u2, .slice S3 t3 u3] 27)
    have T3 := Blk4.new w2 (.slice S0 t0 u0) (.slice S1 t1 u1) (.slice (some ⟨g2, 0, none⟩) t2 u2) (.slice S3 t3 u3) 27
    have B3 := (B2.trans (hb2.mono B2.size)).alloc (by (have := B2.size; simp at this; omega)) (.cells #[.slice S0 t0 u0, .slice S1 t1 u1, .slice (some ⟨g2, 0, none⟩) t2 u2, .slice S3 t3 u3] 27)
    obtain ⟨⟨x0, x1, x2, x3, x4, x5, x6, x7, x8, x9⟩, -⟩ := (X2.below hb2).cells
    have lx2 := (X2.below hb2).lt
    have C1 := copyOfBoth_any (w2.alloc (.cells #[.slice S0 t0 u0, .slice S1 t1 u1, .slice (some ⟨g2, 0, none⟩) t2 u2, .slice S3 t3 u3] 27)) lo _ _ HB3 nb0 nb1 nb2 nb3 nb4 nb5
    clear R1 y0 y1 y2 y3 y4 y5 y6 y7 y8 y9 c0 c1 c2 X1 Y1 HB1 HC1 X2 Y2 HB2 HC2 lx ly
    go_wp2_with fail
    refine C1.mono ?_; rintro e w3 ⟨v3, rfl, HN, hb3⟩
    obtain ⟨D0, e0, d0, D1, e1, d1, D2, e2, d2, D3, e3, d3, D4, e4, d4, D5, e5, d5, rfl⟩ := HN.shape
    have s3 := hb3.size
    simp at s3
    have X4 := X3.below hb3
    have Y4 := Y3.below hb3
    have O4 := O3.below hb3
    have T4 := T3.below hb3
    have HC4 := HC3.below hb3
    have hrc3 := (hb3.cell (p := ⟨g2, ja, none⟩) (by simp; omega)).trans (cellA hrc (.cells #[.slice S0 t0 u0, .slice S1 t1 u1, .slice (some ⟨g2, 0, none⟩) t2 u2, .slice S3 t3 u3] 27))
    have lg3 : g2 < w3.heap.size := by omega
    have HB4 := HB3.below hb3
    have B4 := B3.trans (hb3.mono B3.size)
    have HM := (Bv.withStore HS3 HN (by simp; omega) hb3 ((k : Int) + 1) false).mono (lo' := w.heap.size + 2) (by simp; omega)
    clear C1 x0 x1 x2 x3 x4 x5 x6 x7 x8 x9 lx2 HB3 X3 Y3 O3 T3 HC3 HS3 HS rS2 HN O2 hrc HC4 hrx
    obtain ⟨⟨x0, x1, x2, x3, x4, x5, x6, x7, x8, x9⟩, -⟩ := X4.cells
    obtain ⟨⟨q0, q1, q2, q3, q4, q5, q6, q7, q8, q9⟩, ⟨k0, k1, k2, k3, k4, k5, k6, k7, k8, k9⟩⟩ := Y4.cells
    obtain ⟨p0, p1, p2, _⟩ := O4.cells
    obtain ⟨r0, r1, r2, r3, _⟩ := T4.cells
    have lx := X4.lt
    have ly := Y4.lt
    have lo4 := O4.lt
    have lt4 := T4.lt
    go_wp2_with fail
    have CV5 := Blk10.new w3 (.slice S0 t0 u0) (.slice S1 t1 u1) (.slice (some ⟨g2, 0, none⟩) t2 u2) (.slice S3 t3 u3) (.int .i64 p) (.slice D4 e4 d4) (.int .i64 a) (.slice D5 e5 d5) (.int .i64 ((k : Int) + 1)) (.bool false) 34
    have X5 := X4.alloc (.cells #[.slice S0 t0 u0, .slice S1 t1 u1, .slice (some ⟨g2, 0, none⟩) t2 u2, .slice S3 t3 u3, .int .i64 p, .slice D4 e4 d4, .int .i64 a, .slice D5 e5 d5, .int .i64 ((k : Int) + 1), .bool false] 34)
    have Y5 := Y4.alloc (.cells #[.slice S0 t0 u0, .slice S1 t1 u1, .slice (some ⟨g2, 0, none⟩) t2 u2, .slice S3 t3 u3, .int .i64 p, .slice D4 e4 d4, .int .i64 a, .slice D5 e5 d5, .int .i64 ((k : Int) + 1), .bool false] 34)
    have O5 := O4.alloc (.cells #[.slice S0 t0 u0, .slice S1 t1 u1, .slice (some ⟨g2, 0, none⟩) t2 u2, .slice S3 t3 u3, .int .i64 p, .slice D4 e4 d4, .int .i64 a, .slice D5 e5 d5, .int .i64 ((k : Int) + 1), .bool false] 34)
    have HM5 := HM.alloc (.cells #[.slice S0 t0 u0, .slice S1 t1 u1, .slice (some ⟨g2, 0, none⟩) t2 u2, .slice S3 t3 u3, .int .i64 p, .slice D4 e4 d4, .int .i64 a, .slice D5 e5 d5, .int .i64 ((k : Int) + 1), .bool false] 34)
    have HB5 := HB4.alloc (.cells #[.slice S0 t0 u0, .slice S1 t1 u1, .slice (some ⟨g2, 0, none⟩) t2 u2, .slice S3 t3 u3, .int .i64 p, .slice D4 e4 d4, .int .i64 a, .slice D5 e5 d5, .int .i64 ((k : Int) + 1), .bool false] 34)
    have B5 := B4.alloc (by omega) (.cells #[.slice S0 t0 u0, .slice S1 t1 u1, .slice (some ⟨g2, 0, none⟩) t2 u2, .slice S3 t3 u3, .int .i64 p, .slice D4 e4 d4, .int .i64 a, .slice D5 e5 d5, .int .i64 ((k : Int) + 1), .bool false] 34)
    have s5 : w3.heap.size + 1 ≤ (w3.alloc (.cells #[.slice S0 t0 u0, .slice S1 t1 u1, .slice (some ⟨g2, 0, none⟩) t2 u2, .slice S3 t3 u3, .int .i64 p, .slice D4 e4 d4, .int .i64 a, .slice D5 e5 d5, .int .i64 ((k : Int) + 1), .bool false] 34)).heap.size := by simp
    clear X4 Y4 O4 HM HB4 B4 x0 x1 x2 x3 x4 x5 x6 x7 x8 x9 q0 q1 q2 q3 q4 q5 q6 q7 q8 q9 k0 k1 k2 k3 k4 k5 k6 k7 k8 k9 p0 p1 p2 r0 r1 r2 r3 lx ly lo4 lt4 T4
    obtain ⟨⟨y0, y1, y2, y3, y4, y5, y6, y7, y8, y9⟩, -⟩ := X5.cells
    obtain ⟨o0, o1, o2, -⟩ := O5.cells
    have lx := X5.lt
    have TT := implTargetOf_any (w3.alloc (.cells #[.slice S0 t0 u0, .slice S1 t1 u1, .slice (some ⟨g2, 0, none⟩) t2 u2, .slice S3 t3 u3, .int .i64 p, .slice D4 e4 d4, .int .i64 a, .slice D5 e5 d5, .int .i64 ((k : Int) + 1), .bool false] 34)) lo _ C HB5.cg.cv ⟨ok, (ja : Int), oq⟩
    rw [hTn.out] at TT
    refine TT.mono ?_; rintro e w6 ⟨rfl, hb6⟩
    have s7 := hb6.size
    have CV8 := CV5.below hb6
    have X8 := X5.below hb6
    have Y8 := Y5.below hb6
    have HM8 := HM5.below hb6
    have HB8 := HB5.below hb6
    have O8 := O5.below hb6
    have B8 := B5.trans (hb6.mono B5.size)
    clear y0 y1 y2 y3 y4 y5 y6 y7 y8 y9 o0 o1 o2 TT CV5 X5 Y5 O5 HM5 HB5 lx
    obtain ⟨⟨x0, x1, x2, x3, x4, x5, x6, x7, x8, x9⟩, ⟨f0, f1, f2, f3, f4, f5, f6, f7, f8, f9⟩⟩ := CV8.cells
    obtain ⟨⟨q0, q1, q2, q3, q4, q5, q6, q7, q8, q9⟩, ⟨k0, k1, k2, k3, k4, k5, k6, k7, k8, k9⟩⟩ := Y8.cells
    have YF := Y8.set10 (.slice S0 t0 u0) (.slice S1 t1 u1) (.slice (some ⟨g2, 0, none⟩) t2 u2) (.slice S3 t3 u3) (.int .i64 p) (.slice D4 e4 d4) (.int .i64 a) (.slice D5 e5 d5) (.int .i64 ((k : Int) + 1)) (.bool false)
    have HF := HM8.low10 (c := w.heap.size + 1) (by omega) (.slice S0 t0 u0) (.slice S1 t1 u1) (.slice (some ⟨g2, 0, none⟩) t2 u2) (.slice S3 t3 u3) (.int .i64 p) (.slice D4 e4 d4) (.int .i64 a) (.slice D5 e5 d5) (.int .i64 ((k : Int) + 1)) (.bool false)
    have FF := below_set10 B8 (c := w.heap.size + 1) (by omega) (.slice S0 t0 u0) (.slice S1 t1 u1) (.slice (some ⟨g2, 0, none⟩) t2 u2) (.slice S3 t3 u3) (.int .i64 p) (.slice D4 e4 d4) (.int .i64 a) (.slice D5 e5 d5) (.int .i64 ((k : Int) + 1)) (.bool false)
    go_wp2_with fail
    generalize ((((((((((w6.setCell ⟨w.heap.size + 1, 0, none⟩ (.slice S0 t0 u0)).setCell ⟨w.heap.size + 1, 1, none⟩ (.slice S1 t1 u1)).setCell ⟨w.heap.size + 1, 2, none⟩ (.slice (some ⟨g2, 0, none⟩) t2 u2)).setCell ⟨w.heap.size + 1, 3, none⟩ (.slice S3 t3 u3)).setCell ⟨w.heap.size + 1, 4, none⟩ (.int .i64 p)).setCell ⟨w.heap.size + 1, 5, none⟩ (.slice D4 e4 d4)).setCell ⟨w.heap.size + 1, 6, none⟩ (.int .i64 a)).setCell ⟨w.heap.size + 1, 7, none⟩ (.slice D5 e5 d5)).setCell ⟨w.heap.size + 1, 8, none⟩ (.int .i64 ((k : Int) + 1))).setCell ⟨w.heap.size + 1, 9, none⟩ (.bool false)) = WF at YF HF FF ⊢
    obtain ⟨⟨v0, v1, v2, v3, v4, v5, v6, v7, v8, v9⟩, -⟩ := YF.cells
    refine bodyPost_ret (v := .tuple #[.agg #[.slice S0 t0 u0, .slice S1 t1 u1, .slice (some ⟨g2, 0, none⟩) t2 u2, .slice S3 t3 u3, .int .i64 p, .slice D4 e4 d4, .int .i64 a, .slice D5 e5 d5, .int .i64 ((k : Int) + 1), .bool false], .bool true]) ?_ rfl ⟨_, rfl, HF.mono (by omega), FF⟩
    simp [results, Try.results31, go_sem, v0, v1, v2, v3, v4, v5, v6, v7, v8, v9]
  · have ht2 : (tg != -1) = true := by simpa using htg
    have g2e : gc2 Cn ⟨p, cc, a⟩ tg true = (shadeGO Cn ⟨p, cc, a⟩ tg).getD Gp.zero := by unfold gc2; rw [if_pos ⟨rfl, htg⟩]
    rw [g2e]
    clear g2e htg
    have KC := fun W lo vs vg h => implShadeGc_any W lo vs vg Cn ⟨p, cc, a⟩ h tg
    unfold OptGv at KC
    generalize (shadeGO Cn ⟨p, cc, a⟩ tg).getD Gp.zero = G1 at KC ⊢
    generalize (shadeGO Cn ⟨p, cc, a⟩ tg).isSome = kk at KC
    obtain ⟨p1, cc1, a1⟩ := G1
    go_enter Try.func31, Try.ntmps31
    go_wp2_with fail
    (try rw [hW])
    refine V.mono ?_; rintro e w1 ⟨rfl, hb1⟩
    have s1 := hb1.size
    have X1 := X.below hb1
    have Y1 := Y.below hb1
    have HB1 := HB.below hb1
    have HC1 := HC.below hb1
    have B1 := BB.trans (hb1.mono BB.size)
    have c0 := (hb1.cell (p := ⟨g5, k * 3, none⟩) hg5).trans o0
    have c1 := (hb1.cell (p := ⟨g5, k * 3 + 1, none⟩) hg5).trans o1
    have c2 := (hb1.cell (p := ⟨g5, k * 3 + 2, none⟩) hg5).trans o2
    obtain ⟨⟨y0, y1, y2, y3, y4, y5, y6, y7, y8, y9⟩, -⟩ := X1.cells
    have lx := X1.lt
    have ly := Y1.lt
    clear x0 x1 x2 x3 x4 x5 x6 x7 x8 x9 V o0 o1 o2 X Y HB HC HO
    have X2 := X1.alloc (.cells #[.int .i64 ok, .int .i64 (ja : Int), .int .i64 oq] 70)
    have Y2 := Y1.alloc (.cells #[.int .i64 ok, .int .i64 (ja : Int), .int .i64 oq] 70)
    have HB2 := HB1.alloc (.cells #[.int .i64 ok, .int .i64 (ja : Int), .int .i64 oq] 70)
    have HC2 := HC1.alloc (.cells #[.int .i64 ok, .int .i64 (ja : Int), .int .i64 oq] 70)
    have O2 := Blk3.new w1 (.int .i64 ok) (.int .i64 (ja : Int)) (.int .i64 oq) 70
    have B2 := B1.alloc (by omega) (.cells #[.int .i64 ok, .int .i64 (ja : Int), .int .i64 oq] 70)
    have R1 := implRunOp_any (w1.alloc (.cells #[.int .i64 ok, .int .i64 (ja : Int), .int .i64 oq] 70)) lo _ C HC2.cv ⟨ok, (ja : Int), oq⟩
    unfold OptCI at R1
    rw [hRb.out, hCn.out, hEn.out] at R1
    go_wp2_with fail
    refine R1.mono ?_; rintro e w2 ⟨v2, rfl, HS, hb2⟩
    obtain ⟨S0, t0, u0, S1, t1, u1, S2, t2, u2, S3, t3, u3, rfl, _, ⟨_, _, rS2, _⟩, ⟨_, _, lS2, _⟩, -⟩ := HS.open_
    obtain ⟨g2, rx, rfl, _, hg2, hrx, hrc, _⟩ := rS2.get (k := ja) hjt
    have rxe : Hid (rootA Cn (ja : Int) = rx) := by unfold Hid rootA; simp [List.getD, hrx.out]
    have hjt2 : (ja : Int) < (t2 : Int) := by have := lS2.out; omega
    have hj0 : (0 : Int) ≤ (ja : Int) := by omega
    have s2 := hb2.size
    simp at s2
    have X3 := (X2.below hb2).alloc (.cells #[.slice S0 t0 u0, .slice S1 t1 u1, .slice (some ⟨g2, 0, none⟩) t2 u2, .slice S3 t3 u3] 27)
    have Y3 := (Y2.below hb2).alloc (.cells #[.slice S0 t0 u0, .slice S1 t1 u1, .slice (some ⟨g2, 0, none⟩) t2 u2, .slice S3 t3 u3] 27)
    have O3 := (O2.below hb2).alloc (.cells #[.slice S0 t0 u0, .slice S1 t1 u1, .slice (some ⟨g2, 0, none⟩) t2 u2, .slice S3 t3 u3] 27)
    have HB3 := (HB2.below hb2).alloc (.cells #[.slice S0 t0 u0, .slice S1 t1 u1, .slice (some ⟨g2, 0, none⟩) t2 u2, .slice S3 t3 u3] 27)
    have HC3 := (HC2.below hb2).alloc (.cells #[.slice S0 t0 u0, .slice S1 t1 u1, .slice (some ⟨g2, 0, none⟩) t2 u2, .slice S3 t3 u3] 27)
    have HS3 := HS.alloc (.cells #[.slice S0 t0 u0, .slice S1 t1 u1, .slice (some ⟨g2, 0, none⟩) t2 u2, .slice S3 t3 u3] 27)
    have T3 := Blk4.new w2 (.slice S0 t0 u0) (.slice S1 t1 u1) (.slice (some ⟨g2, 0, none⟩) t2 u2) (.slice S3 t3 u3) 27
    have B3 := (B2.trans (hb2.mono B2.size)).alloc (by (have := B2.size; simp at this; omega)) (.cells #[.slice S0 t0 u0, .slice S1 t1 u1, .slice (some ⟨g2, 0, none⟩) t2 u2, .slice S3 t3 u3] 27)
    obtain ⟨⟨x0, x1, x2, x3, x4, x5, x6, x7, x8, x9⟩, -⟩ := (X2.below hb2).cells
    have lx2 := (X2.below hb2).lt
    have C1 := copyOfBoth_any (w2.alloc (.cells #[.slice S0 t0 u0, .slice S1 t1 u1, .slice (some ⟨g2, 0, none⟩) t2 u2, .slice S3 t3 u3] 27)) lo _ _ HB3 nb0 nb1 nb2 nb3 nb4 nb5
    clear R1 y0 y1 y2 y3 y4 y5 y6 y7 y8 y9 c0 c1 c2 X1 Y1 HB1 HC1 X2 Y2 HB2 HC2 lx ly
    go_wp2_with fail
    refine C1.mono ?_; rintro e w3 ⟨v3, rfl, HN, hb3⟩
    obtain ⟨D0, e0, d0, D1, e1, d1, D2, e2, d2, D3, e3, d3, D4, e4, d4, D5, e5, d5, rfl⟩ := HN.shape
    have s3 := hb3.size
    simp at s3
    have X4 := X3.below hb3
    have Y4 := Y3.below hb3
    have O4 := O3.below hb3
    have T4 := T3.below hb3
    have HC4 := HC3.below hb3
    have hrc3 := (hb3.cell (p := ⟨g2, ja, none⟩) (by simp; omega)).trans (cellA hrc (.cells #[.slice S0 t0 u0, .slice S1 t1 u1, .slice (some ⟨g2, 0, none⟩) t2 u2, .slice S3 t3 u3] 27))
    have lg3 : g2 < w3.heap.size := by omega
    have HB4 := HB3.below hb3
    have B4 := B3.trans (hb3.mono B3.size)
    have HM := (Bv.withStore HS3 HN (by simp; omega) hb3 ((k : Int) + 1) false).mono (lo' := w.heap.size + 2) (by simp; omega)
    clear C1 x0 x1 x2 x3 x4 x5 x6 x7 x8 x9 lx2 HB3 X3 Y3 O3 T3 HC3 HS3 HS rS2 HN O2 hrc HC4 hrx
    obtain ⟨⟨x0, x1, x2, x3, x4, x5, x6, x7, x8, x9⟩, -⟩ := X4.cells
    obtain ⟨⟨q0, q1, q2, q3, q4, q5, q6, q7, q8, q9⟩, ⟨k0, k1, k2, k3, k4, k5, k6, k7, k8, k9⟩⟩ := Y4.cells
    obtain ⟨p0, p1, p2, _⟩ := O4.cells
    obtain ⟨r0, r1, r2, r3, _⟩ := T4.cells
    have lx := X4.lt
    have ly := Y4.lt
    have lo4 := O4.lt
    have lt4 := T4.lt
    go_wp2_with fail
    have CV5 := Blk10.new w3 (.slice S0 t0 u0) (.slice S1 t1 u1) (.slice (some ⟨g2, 0, none⟩) t2 u2) (.slice S3 t3 u3) (.int .i64 p) (.slice D4 e4 d4) (.int .i64 a) (.slice D5 e5 d5) (.int .i64 ((k : Int) + 1)) (.bool false) 34
    have X5 := X4.alloc (.cells #[.slice S0 t0 u0, .slice S1 t1 u1, .slice (some ⟨g2, 0, none⟩) t2 u2, .slice S3 t3 u3, .int .i64 p, .slice D4 e4 d4, .int .i64 a, .slice D5 e5 d5, .int .i64 ((k : Int) + 1), .bool false] 34)
    have Y5 := Y4.alloc (.cells #[.slice S0 t0 u0, .slice S1 t1 u1, .slice (some ⟨g2, 0, none⟩) t2 u2, .slice S3 t3 u3, .int .i64 p, .slice D4 e4 d4, .int .i64 a, .slice D5 e5 d5, .int .i64 ((k : Int) + 1), .bool false] 34)
    have O5 := O4.alloc (.cells #[.slice S0 t0 u0, .slice S1 t1 u1, .slice (some ⟨g2, 0, none⟩) t2 u2, .slice S3 t3 u3, .int .i64 p, .slice D4 e4 d4, .int .i64 a, .slice D5 e5 d5, .int .i64 ((k : Int) + 1), .bool false] 34)
    have HM5 := HM.alloc (.cells #[.slice S0 t0 u0, .slice S1 t1 u1, .slice (some ⟨g2, 0, none⟩) t2 u2, .slice S3 t3 u3, .int .i64 p, .slice D4 e4 d4, .int .i64 a, .slice D5 e5 d5, .int .i64 ((k : Int) + 1), .bool false] 34)
    have HB5 := HB4.alloc (.cells #[.slice S0 t0 u0, .slice S1 t1 u1, .slice (some ⟨g2, 0, none⟩) t2 u2, .slice S3 t3 u3, .int .i64 p, .slice D4 e4 d4, .int .i64 a, .slice D5 e5 d5, .int .i64 ((k : Int) + 1), .bool false] 34)
    have B5 := B4.alloc (by omega) (.cells #[.slice S0 t0 u0, .slice S1 t1 u1, .slice (some ⟨g2, 0, none⟩) t2 u2, .slice S3 t3 u3, .int .i64 p, .slice D4 e4 d4, .int .i64 a, .slice D5 e5 d5, .int .i64 ((k : Int) + 1), .bool false] 34)
    have s5 : w3.heap.size + 1 ≤ (w3.alloc (.cells #[.slice S0 t0 u0, .slice S1 t1 u1, .slice (some ⟨g2, 0, none⟩) t2 u2, .slice S3 t3 u3, .int .i64 p, .slice D4 e4 d4, .int .i64 a, .slice D5 e5 d5, .int .i64 ((k : Int) + 1), .bool false] 34)).heap.size := by simp
    clear X4 Y4 O4 HM HB4 B4 x0 x1 x2 x3 x4 x5 x6 x7 x8 x9 q0 q1 q2 q3 q4 q5 q6 q7 q8 q9 k0 k1 k2 k3 k4 k5 k6 k7 k8 k9 p0 p1 p2 r0 r1 r2 r3 lx ly lo4 lt4 T4
    obtain ⟨⟨y0, y1, y2, y3, y4, y5, y6, y7, y8, y9⟩, -⟩ := X5.cells
    obtain ⟨o0, o1, o2, -⟩ := O5.cells
    have lx := X5.lt
    have TT := implTargetOf_any (w3.alloc (.cells #[.slice S0 t0 u0, .slice S1 t1 u1, .slice (some ⟨g2, 0, none⟩) t2 u2, .slice S3 t3 u3, .int .i64 p, .slice D4 e4 d4, .int .i64 a, .slice D5 e5 d5, .int .i64 ((k : Int) + 1), .bool false] 34)) lo _ C HB5.cg.cv ⟨ok, (ja : Int), oq⟩
    rw [hTn.out] at TT
    refine TT.mono ?_; rintro e w6 ⟨rfl, hb6⟩
    have s7 := hb6.size
    have CV8 := CV5.below hb6
    have X8 := X5.below hb6
    have Y8 := Y5.below hb6
    have HM8 := HM5.below hb6
    have HB8 := HB5.below hb6
    have O8 := O5.below hb6
    have B8 := B5.trans (hb6.mono B5.size)
    clear y0 y1 y2 y3 y4 y5 y6 y7 y8 y9 o0 o1 o2 TT CV5 X5 Y5 O5 HM5 HB5 lx
    obtain ⟨⟨x0, x1, x2, x3, x4, x5, x6, x7, x8, x9⟩, ⟨f0, f1, f2, f3, f4, f5, f6, f7, f8, f9⟩⟩ := CV8.cells
    obtain ⟨⟨q0, q1, q2, q3, q4, q5, q6, q7, q8, q9⟩, ⟨k0, k1, k2, k3, k4, k5, k6, k7, k8, k9⟩⟩ := Y8.cells
    have K1 := KC w6 _ _ _ HM8.cg
    go_wp2_with fail
    refine K1.mono ?_; rintro e w7 ⟨vg, rfl, HG, hb7⟩
    obtain ⟨A9, n9, c9, hv9, -⟩ := HG.open_
    dsimp only at hv9
    subst hv9
    have s8 := hb7.size
    have s9 := B8.size
    have HMg := Bv.withGc HM8 HG (by omega) hb7
    have CV9 := CV8.below hb7
    have X9 := X8.below hb7
    have Y9 := Y8.below hb7
    have HM9 := HM8.below hb7
    have HB9 := HB8.below hb7
    have O9 := O8.below hb7
    have B9 := B8.trans (hb7.mono B8.size)
    replace HM9 := HMg
    clear HMg HG K1 CV8 X8 Y8 O8 HM8 HB8 x0 x1 x2 x3 x4 x5 x6 x7 x8 x9 f0 f1 f2 f3 f4 f5 f6 f7 f8 f9 q0 q1 q2 q3 q4 q5 q6 q7 q8 q9 k0 k1 k2 k3 k4 k5 k6 k7 k8 k9
    obtain ⟨⟨x0, x1, x2, x3, x4, x5, x6, x7, x8, x9⟩, ⟨f0, f1, f2, f3, f4, f5, f6, f7, f8, f9⟩⟩ := CV9.cells
    have CV10 := CV9.set46 (.int .i64 p1) (.slice A9 n9 c9) (.int .i64 a1)
    have X10 := X9.far3 (c := w3.heap.size) (by omega) (.int .i64 p1) (.slice A9 n9 c9) (.int .i64 a1)
    have Y10 := Y9.far3 (c := w3.heap.size) (by omega) (.int .i64 p1) (.slice A9 n9 c9) (.int .i64 a1)
    have O10 := ((O9.other (p := ⟨w3.heap.size, 4, none⟩) (by show w1.heap.size ≠ w3.heap.size; omega) (.int .i64 p1)).other (p := ⟨w3.heap.size, 5, none⟩) (by show w1.heap.size ≠ w3.heap.size; omega) (.slice A9 n9 c9)).other (p := ⟨w3.heap.size, 6, none⟩) (by show w1.heap.size ≠ w3.heap.size; omega) (.int .i64 a1)
    have HM10 := ((HM9.setT CV9 4 (.int .i64 p1)).setT (CV9.set4 (.int .i64 p1)) 5 (.slice A9 n9 c9)).setT ((CV9.set4 (.int .i64 p1)).set5 (.slice A9 n9 c9)) 6 (.int .i64 a1)
    have HB10 := ((HB9.setT CV9 4 (.int .i64 p1)).setT (CV9.set4 (.int .i64 p1)) 5 (.slice A9 n9 c9)).setT ((CV9.set4 (.int .i64 p1)).set5 (.slice A9 n9 c9)) 6 (.int .i64 a1)
    have B10 := below_set3b B9 (c := w3.heap.size) (by omega) (.int .i64 p1) (.slice A9 n9 c9) (.int .i64 a1)
    obtain ⟨⟨y0, y1, y2, y3, y4, y5, y6, y7, y8, y9⟩, -⟩ := CV10.cells
    obtain ⟨⟨q0, q1, q2, q3, q4, q5, q6, q7, q8, q9⟩, ⟨k0, k1, k2, k3, k4, k5, k6, k7, k8, k9⟩⟩ := Y10.cells
    have YF := Y10.set10 (.slice S0 t0 u0) (.slice S1 t1 u1) (.slice (some ⟨g2, 0, none⟩) t2 u2) (.slice S3 t3 u3) (.int .i64 p1) (.slice A9 n9 c9) (.int .i64 a1) (.slice D5 e5 d5) (.int .i64 ((k : Int) + 1)) (.bool false)
    have HF := HM10.low10 (c := w.heap.size + 1) (by omega) (.slice S0 t0 u0) (.slice S1 t1 u1) (.slice (some ⟨g2, 0, none⟩) t2 u2) (.slice S3 t3 u3) (.int .i64 p1) (.slice A9 n9 c9) (.int .i64 a1) (.slice D5 e5 d5) (.int .i64 ((k : Int) + 1)) (.bool false)
    have FF := below_set10 B10 (c := w.heap.size + 1) (by omega) (.slice S0 t0 u0) (.slice S1 t1 u1) (.slice (some ⟨g2, 0, none⟩) t2 u2) (.slice S3 t3 u3) (.int .i64 p1) (.slice A9 n9 c9) (.int .i64 a1) (.slice D5 e5 d5) (.int .i64 ((k : Int) + 1)) (.bool false)
    go_wp2_with fail
    generalize (((((((((((((w7.setCell ⟨w3.heap.size, 4, none⟩ (.int .i64 p1)).setCell ⟨w3.heap.size, 5, none⟩ (.slice A9 n9 c9)).setCell ⟨w3.heap.size, 6, none⟩ (.int .i64 a1)).setCell ⟨w.heap.size + 1, 0, none⟩ (.slice S0 t0 u0)).setCell ⟨w.heap.size + 1, 1, none⟩ (.slice S1 t1 u1)).setCell ⟨w.heap.size + 1, 2, none⟩ (.slice (some ⟨g2, 0, none⟩) t2 u2)).setCell ⟨w.heap.size + 1, 3, none⟩ (.slice S3 t3 u3)).setCell ⟨w.heap.size + 1, 4, none⟩ (.int .i64 p1)).setCell ⟨w.heap.size + 1, 5, none⟩ (.slice A9 n9 c9)).setCell ⟨w.heap.size + 1, 6, none⟩ (.int .i64 a1)).setCell ⟨w.heap.size + 1, 7, none⟩ (.slice D5 e5 d5)).setCell ⟨w.heap.size + 1, 8, none⟩ (.int .i64 ((k : Int) + 1))).setCell ⟨w.heap.size + 1, 9, none⟩ (.bool false)) = WF at YF HF FF ⊢
    obtain ⟨⟨v0, v1, v2, v3, v4, v5, v6, v7, v8, v9⟩, -⟩ := YF.cells
    refine bodyPost_ret (v := .tuple #[.agg #[.slice S0 t0 u0, .slice S1 t1 u1, .slice (some ⟨g2, 0, none⟩) t2 u2, .slice S3 t3 u3, .int .i64 p1, .slice A9 n9 c9, .int .i64 a1, .slice D5 e5 d5, .int .i64 ((k : Int) + 1), .bool false], .bool true]) ?_ rfl ⟨_, rfl, HF.mono (by omega), FF⟩
    simp [results, Try.results31, go_sem, v0, v1, v2, v3, v4, v5, v6, v7, v8, v9]

end Go.Proofs.Ytdifplakkepnkaa
