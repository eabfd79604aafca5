/- StepOp of spec: an operation. -/
import Derived.Test.YtdifplakkepnkaaStepOD
import Derived.Test.YtdifplakkepnkaaExB
import Derived.Test.YtdifplakkepnkaaSRunA
import Derived.Test.YtdifplakkepnkaaGColS
import Derived.Deep.RegionHeld3
import Derived.OrdersHeld
namespace Go.Proofs.Ytdifplakkepnkaa
open Go.RowKit

set_option maxRecDepth 100000 in
set_option maxHeartbeats 6000000 in
theorem l7Op_any (w : World) (lo : Nat) (v : Value) (B : Bp) (h : Bv w lo v B) (eb : bothB B = true) (hz : B.z = false) (hi : B.i ≠ B.os.length) (b : Bool) : Calls Try.prog 65 #[v, .bool b] w (NewBv w (stepOB B b)) := by
  obtain ⟨A0, n0, c0, A1, n1, c1, A2, n2, c2, A3, n3, c3, A4, n4, c4, A5, n5, c5, C, p, cc, a, os, i, z, rfl, rfl, hc, ho, ⟨l0, l1, l2, l3, l4, l5⟩, ⟨m0, m1, m2, m3, m4, m5⟩⟩ := h.open_
  have X := (Blk10.new w (.slice A0 n0 c0) (.slice A1 n1 c1) (.slice A2 n2 c2) (.slice A3 n3 c3) (.int .i64 p) (.slice A4 n4 c4) (.int .i64 a) (.slice A5 n5 c5) (.int .i64 i) (.bool z) 34).alloc (.cells #[.slice none 0 0, .slice none 0 0, .slice none 0 0, .slice none 0 0, .int .i64 0, .slice none 0 0, .int .i64 0, .slice none 0 0, .int .i64 0, .bool false] 34)
  have Y := Blk10.new_at (w := w.alloc (.cells #[.slice A0 n0 c0, .slice A1 n1 c1, .slice A2 n2 c2, .slice A3 n3 c3, .int .i64 p, .slice A4 n4 c4, .int .i64 a, .slice A5 n5 c5, .int .i64 i, .bool z] 34)) (b := w.heap.size + 1) (by simp) (.slice none 0 0) (.slice none 0 0) (.slice none 0 0) (.slice none 0 0) (.int .i64 0) (.slice none 0 0) (.int .i64 0) (.slice none 0 0) (.int .i64 0) (.bool false) 34
  have HB := (h.alloc (.cells #[.slice A0 n0 c0, .slice A1 n1 c1, .slice A2 n2 c2, .slice A3 n3 c3, .int .i64 p, .slice A4 n4 c4, .int .i64 a, .slice A5 n5 c5, .int .i64 i, .bool z] 34)).alloc (.cells #[.slice none 0 0, .slice none 0 0, .slice none 0 0, .slice none 0 0, .int .i64 0, .slice none 0 0, .int .i64 0, .slice none 0 0, .int .i64 0, .bool false] 34)
  have HC := (hc.alloc (.cells #[.slice A0 n0 c0, .slice A1 n1 c1, .slice A2 n2 c2, .slice A3 n3 c3, .int .i64 p, .slice A4 n4 c4, .int .i64 a, .slice A5 n5 c5, .int .i64 i, .bool z] 34)).alloc (.cells #[.slice none 0 0, .slice none 0 0, .slice none 0 0, .slice none 0 0, .int .i64 0, .slice none 0 0, .int .i64 0, .slice none 0 0, .int .i64 0, .bool false] 34)
  have HO := (ho.alloc (.cells #[.slice A0 n0 c0, .slice A1 n1 c1, .slice A2 n2 c2, .slice A3 n3 c3, .int .i64 p, .slice A4 n4 c4, .int .i64 a, .slice A5 n5 c5, .int .i64 i, .bool z] 34)).alloc (.cells #[.slice none 0 0, .slice none 0 0, .slice none 0 0, .slice none 0 0, .int .i64 0, .slice none 0 0, .int .i64 0, .slice none 0 0, .int .i64 0, .bool false] 34)
  have BB : Below w.heap.size w ((w.alloc (.cells #[.slice A0 n0 c0, .slice A1 n1 c1, .slice A2 n2 c2, .slice A3 n3 c3, .int .i64 p, .slice A4 n4 c4, .int .i64 a, .slice A5 n5 c5, .int .i64 i, .bool z] 34)).alloc (.cells #[.slice none 0 0, .slice none 0 0, .slice none 0 0, .slice none 0 0, .int .i64 0, .slice none 0 0, .int .i64 0, .slice none 0 0, .int .i64 0, .bool false] 34)) := ((Below.refl _ _).alloc (Nat.le_refl _) _).alloc (by simp) _
  have sz : w.heap.size + 2 ≤ ((w.alloc (.cells #[.slice A0 n0 c0, .slice A1 n1 c1, .slice A2 n2 c2, .slice A3 n3 c3, .int .i64 p, .slice A4 n4 c4, .int .i64 a, .slice A5 n5 c5, .int .i64 i, .bool z] 34)).alloc (.cells #[.slice none 0 0, .slice none 0 0, .slice none 0 0, .slice none 0 0, .int .i64 0, .slice none 0 0, .int .i64 0, .slice none 0 0, .int .i64 0, .bool false] 34)).heap.size := by simp
  clear hc ho h
  generalize hW : (w.alloc (.cells #[.slice A0 n0 c0, .slice A1 n1 c1, .slice A2 n2 c2, .slice A3 n3 c3, .int .i64 p, .slice A4 n4 c4, .int .i64 a, .slice A5 n5 c5, .int .i64 i, .bool z] 34)).alloc (.cells #[.slice none 0 0, .slice none 0 0, .slice none 0 0, .slice none 0 0, .int .i64 0, .slice none 0 0, .int .i64 0, .slice none 0 0, .int .i64 0, .bool false] 34) = W at X Y HB HC HO BB sz
  obtain ⟨⟨x0, x1, x2, x3, x4, x5, x6, x7, x8, x9⟩, -⟩ := X.cells
  obtain ⟨hg, ⟨h12, hops⟩, hi0, hi1⟩ := bothB_iff.1 eb
  dsimp only at hg h12 hops hi0 hi1 hz hi
  subst hz
  rw [l5.out] at h12 hi1 hi
  obtain ⟨k, rfl⟩ : ∃ k : Nat, i = (k : Int) := ⟨i.toNat, by omega⟩
  have hk : k < n5 := by omega
  obtain ⟨g5, ⟨ok, oa, oq⟩, rfl, _, hg5, hx, o0, o1, o2⟩ := HO.get (k := k) (by rw [l5.out]; exact hk)
  simp only at o0 o1 o2
  have hop := opsB_iff.1 hops _ (List.mem_of_getElem? hx.out)
  have hrb : runB C ⟨ok, oa, oq⟩ = true := runB_iff.2 ⟨(gcB_iff.1 hg).1, hop⟩
  have eAt : opAt ⟨C, ⟨p, cc, a⟩, os, (k : Int), false⟩ = ⟨ok, oa, oq⟩ := by unfold opAt; simp [hx.out]
  unfold stepOB
  dsimp only
  rw [eAt]
  obtain ⟨hok, ⟨ha0, ha1, ha2⟩, hq0, hq1, hq2⟩ := opB_iff.1 hop
  dsimp only at hok ha0 ha1 ha2
  have hk63 : (k : Int) + 1 ≤ 13 := by omega
  have hkk0 : (0 : Int) ≤ (k : Int) := by omega
  have hkkn : (k : Int) < (n5 : Int) := by omega
  have hw : IntKind.i64.wrap ((k : Int) + 1) = (k : Int) + 1 := IntWalk.i64_in _ (by omega)
  obtain ⟨ja, rfl⟩ : ∃ ja : Nat, oa = (ja : Int) := ⟨oa.toNat, by omega⟩
  have hjt : ja < (runC C ⟨ok, (ja : Int), oq⟩).h.t.length := by rw [op_rootsP hrb]; omega
  have hja63 : ja < 3 := by omega
  have b5 : os.length ≤ 1048576 := by have := l5.out; omega
  have CP := fun W lo v h => l7Copy_any W lo v ⟨C, ⟨p, cc, a⟩, os, (k : Int), false⟩ h hg b5
  have hrs : Hid (runE C ⟨ok, (ja : Int), oq⟩ ≠ 0 → runC C ⟨ok, (ja : Int), oq⟩ = C) := fun h => run_same hrb h
  clear eAt hop hops hx hg eb hi hi0 hi1 h12 hok ha0 ha1 ha2 hq0 hq1 hq2 hk b5
  have RT : Hid (ok = 1 → tgtX C ⟨ok, (ja : Int), oq⟩ = -1) := tgtX_new (C := C) (o := ⟨ok, (ja : Int), oq⟩)
  generalize hCn0 : runC C ⟨ok, (ja : Int), oq⟩ = Cn at hjt hrs ⊢
  generalize hTn0 : tgtX C ⟨ok, (ja : Int), oq⟩ = tg at RT ⊢
  generalize hEn0 : runE C ⟨ok, (ja : Int), oq⟩ = en at hrs ⊢
  have hCn := Lib.hid hCn0
  have hTn := Lib.hid hTn0
  have hEn := Lib.hid hEn0
  have hRb := Lib.hid hrb
  clear hCn0 hTn0 hEn0 hrb
  by_cases he : en = 0
  rotate_left
  · rw [if_neg he, hrs.out he]
    have he2 : (en != 0) = true := by simpa using he
    clear he RT hrs
    go_enter Try.func65, Try.ntmps65
    go_wp2_with fail
    (try rw [hW])
    refine (CP _ lo _ HB).mono ?_; rintro e w1 ⟨v1, rfl, HN, hb1⟩
    obtain ⟨D0, e0, d0, D1, e1, d1, D2, e2, d2, D3, e3, d3, D4, e4, d4, D5, e5, d5, rfl⟩ := HN.shape
    have s1 := hb1.size
    have HN1 : Bv w1 W.heap.size (.agg #[.slice D0 e0 d0, .slice D1 e1 d1, .slice D2 e2 d2, .slice D3 e3 d3, .int .i64 p, .slice D4 e4 d4, .int .i64 a, .slice D5 e5 d5, .int .i64 ((k : Int) + 1), .bool false]) ⟨C, ⟨p, cc, a⟩, os, (k : Int) + 1, false⟩ := by
      obtain ⟨_, _, _, _, _, _, e, hc, ho, _⟩ := HN
      cases e
      exact Bv.mk0 hc ho _ _
    have c0 := (hb1.cell (p := ⟨g5, k * 3, none⟩) hg5).trans o0
    have c1 := (hb1.cell (p := ⟨g5, k * 3 + 1, none⟩) hg5).trans o1
    have c2 := (hb1.cell (p := ⟨g5, k * 3 + 2, none⟩) hg5).trans o2
    have lg1 : g5 < w1.heap.size := by omega
    have CV2 := (Blk10.new w1 (.slice D0 e0 d0) (.slice D1 e1 d1) (.slice D2 e2 d2) (.slice D3 e3 d3) (.int .i64 p) (.slice D4 e4 d4) (.int .i64 a) (.slice D5 e5 d5) (.int .i64 ((k : Int) + 1)) (.bool false) 34).alloc (.cells #[.int .i64 ok, .int .i64 (ja : Int), .int .i64 oq] 70)
    have X2 := ((X.below hb1).alloc (.cells #[.slice D0 e0 d0, .slice D1 e1 d1, .slice D2 e2 d2, .slice D3 e3 d3, .int .i64 p, .slice D4 e4 d4, .int .i64 a, .slice D5 e5 d5, .int .i64 ((k : Int) + 1), .bool false] 34)).alloc (.cells #[.int .i64 ok, .int .i64 (ja : Int), .int .i64 oq] 70)
    have Y2 := ((Y.below hb1).alloc (.cells #[.slice D0 e0 d0, .slice D1 e1 d1, .slice D2 e2 d2, .slice D3 e3 d3, .int .i64 p, .slice D4 e4 d4, .int .i64 a, .slice D5 e5 d5, .int .i64 ((k : Int) + 1), .bool false] 34)).alloc (.cells #[.int .i64 ok, .int .i64 (ja : Int), .int .i64 oq] 70)
    have HB2 := ((HB.below hb1).alloc (.cells #[.slice D0 e0 d0, .slice D1 e1 d1, .slice D2 e2 d2, .slice D3 e3 d3, .int .i64 p, .slice D4 e4 d4, .int .i64 a, .slice D5 e5 d5, .int .i64 ((k : Int) + 1), .bool false] 34)).alloc (.cells #[.int .i64 ok, .int .i64 (ja : Int), .int .i64 oq] 70)
    have HN2 := (HN1.alloc (.cells #[.slice D0 e0 d0, .slice D1 e1 d1, .slice D2 e2 d2, .slice D3 e3 d3, .int .i64 p, .slice D4 e4 d4, .int .i64 a, .slice D5 e5 d5, .int .i64 ((k : Int) + 1), .bool false] 34)).alloc (.cells #[.int .i64 ok, .int .i64 (ja : Int), .int .i64 oq] 70)
    have O2 := Blk3.new_at (w := w1.alloc (.cells #[.slice D0 e0 d0, .slice D1 e1 d1, .slice D2 e2 d2, .slice D3 e3 d3, .int .i64 p, .slice D4 e4 d4, .int .i64 a, .slice D5 e5 d5, .int .i64 ((k : Int) + 1), .bool false] 34)) (b := w1.heap.size + 1) (by simp) (.int .i64 ok) (.int .i64 (ja : Int)) (.int .i64 oq) 70
    have B2 := ((BB.trans (hb1.mono BB.size)).alloc (by omega) (.cells #[.slice D0 e0 d0, .slice D1 e1 d1, .slice D2 e2 d2, .slice D3 e3 d3, .int .i64 p, .slice D4 e4 d4, .int .i64 a, .slice D5 e5 d5, .int .i64 ((k : Int) + 1), .bool false] 34)).alloc (by (try simp); omega) (.cells #[.int .i64 ok, .int .i64 (ja : Int), .int .i64 oq] 70)
    obtain ⟨⟨y0, y1, y2, y3, y4, y5, y6, y7, y8, y9⟩, -⟩ := (X.below hb1).cells
    have lx := (X.below hb1).lt
    have ly := (Y.below hb1).lt
    have s2 : w1.heap.size + 2 ≤ ((w1.alloc (.cells #[.slice D0 e0 d0, .slice D1 e1 d1, .slice D2 e2 d2, .slice D3 e3 d3, .int .i64 p, .slice D4 e4 d4, .int .i64 a, .slice D5 e5 d5, .int .i64 ((k : Int) + 1), .bool false] 34)).alloc (.cells #[.int .i64 ok, .int .i64 (ja : Int), .int .i64 oq] 70)).heap.size := by simp
    have TT := specTargetOf_any ((w1.alloc (.cells #[.slice D0 e0 d0, .slice D1 e1 d1, .slice D2 e2 d2, .slice D3 e3 d3, .int .i64 p, .slice D4 e4 d4, .int .i64 a, .slice D5 e5 d5, .int .i64 ((k : Int) + 1), .bool false] 34)).alloc (.cells #[.int .i64 ok, .int .i64 (ja : Int), .int .i64 oq] 70)) lo _ C HB2.cg.cv ⟨ok, (ja : Int), oq⟩
    rw [hTn.out] at TT
    clear x0 x1 x2 x3 x4 x5 x6 x7 x8 x9 X Y HB HC HO o0 o1 o2 CP
    go_wp2_with fail
    refine TT.mono ?_; rintro e w2 ⟨rfl, hb2⟩
    have s3 := hb2.size
    have X3 := X2.below hb2
    have Y3 := Y2.below hb2
    have CV3 := CV2.below hb2
    have O3 := O2.below hb2
    have HB3 := HB2.below hb2
    have HN3 := HN2.below hb2
    have B3 := B2.trans (hb2.mono B2.size)
    have R1 := specRunOp_any w2 lo _ C HB3.cg.cv ⟨ok, (ja : Int), oq⟩
    unfold OptCI at R1
    rw [hRb.out, hCn.out, hEn.out] at R1
    clear TT X2 Y2 CV2 O2 HB2 HN2 y0 y1 y2 y3 y4 y5 y6 y7 y8 y9 c0 c1 c2 lx ly
    obtain ⟨⟨x0, x1, x2, x3, x4, x5, x6, x7, x8, x9⟩, -⟩ := X3.cells
    obtain ⟨o0, o1, o2, -⟩ := O3.cells
    go_wp2_with fail
    refine R1.mono ?_; rintro e w3 ⟨v3, rfl, HS, hb3⟩
    obtain ⟨S0, t0, u0, S1, t1, u1, S2, t2, u2, S3, t3, u3, rfl, _, ⟨_, _, rS2, _⟩, ⟨_, _, lS2, _⟩, -⟩ := HS.open_
    obtain ⟨g2, rx, rfl, _, hg2, hrx, hrc, _⟩ := rS2.get (k := ja) hjt
    have rxe : Hid (rootA Cn (ja : Int) = rx) := by unfold Hid rootA; simp [List.getD, hrx.out]
    have hjt2 : (ja : Int) < (t2 : Int) := by have := lS2.out; omega
    have hj0 : (0 : Int) ≤ (ja : Int) := by omega
    have s4 := hb3.size
    have X4 := X3.below hb3
    have Y4 := Y3.below hb3
    have CV4 := CV3.below hb3
    have O4 := O3.below hb3
    have HB4 := HB3.below hb3
    have HN4 := HN3.below hb3
    have B4 := B3.trans (hb3.mono B3.size)
    have HMo := Bv.withStore' HN3 HS (by omega) hb3 ((k : Int) + 1) false
    clear R1 X3 Y3 CV3 O3 HB3 HN3 x0 x1 x2 x3 x4 x5 x6 x7 x8 x9 o0 o1 o2 rS2 hrx
    obtain ⟨⟨x0, x1, x2, x3, x4, x5, x6, x7, x8, x9⟩, ⟨f0, f1, f2, f3, f4, f5, f6, f7, f8, f9⟩⟩ := CV4.cells
    obtain ⟨⟨q0, q1, q2, q3, q4, q5, q6, q7, q8, q9⟩, ⟨k0, k1, k2, k3, k4, k5, k6, k7, k8, k9⟩⟩ := Y4.cells
    obtain ⟨o0, o1, o2, -⟩ := O4.cells
    have lx := X4.lt
    have ly := Y4.lt
    have lc := CV4.lt
    have lo4 := O4.lt
    go_wp2_with fail
    have YF := (Y4.set10 (.slice D0 e0 d0) (.slice D1 e1 d1) (.slice D2 e2 d2) (.slice D3 e3 d3) (.int .i64 p) (.slice D4 e4 d4) (.int .i64 a) (.slice D5 e5 d5) (.int .i64 ((k : Int) + 1)) (.bool false)).alloc (.cells #[.slice S0 t0 u0, .slice S1 t1 u1, .slice (some ⟨g2, 0, none⟩) t2 u2, .slice S3 t3 u3] 27)
    have HF := (HN4.low10 (c := w.heap.size + 1) (by omega) (.slice D0 e0 d0) (.slice D1 e1 d1) (.slice D2 e2 d2) (.slice D3 e3 d3) (.int .i64 p) (.slice D4 e4 d4) (.int .i64 a) (.slice D5 e5 d5) (.int .i64 ((k : Int) + 1)) (.bool false)).alloc (.cells #[.slice S0 t0 u0, .slice S1 t1 u1, .slice (some ⟨g2, 0, none⟩) t2 u2, .slice S3 t3 u3] 27)
    have FF := (below_set10 B4 (c := w.heap.size + 1) (by omega) (.slice D0 e0 d0) (.slice D1 e1 d1) (.slice D2 e2 d2) (.slice D3 e3 d3) (.int .i64 p) (.slice D4 e4 d4) (.int .i64 a) (.slice D5 e5 d5) (.int .i64 ((k : Int) + 1)) (.bool false)).alloc (by (try simp [World.setCell]); omega) (.cells #[.slice S0 t0 u0, .slice S1 t1 u1, .slice (some ⟨g2, 0, none⟩) t2 u2, .slice S3 t3 u3] 27)
    generalize (((((((((((w3.setCell ⟨w.heap.size + 1, 0, none⟩ (.slice D0 e0 d0)).setCell ⟨w.heap.size + 1, 1, none⟩ (.slice D1 e1 d1)).setCell ⟨w.heap.size + 1, 2, none⟩ (.slice D2 e2 d2)).setCell ⟨w.heap.size + 1, 3, none⟩ (.slice D3 e3 d3)).setCell ⟨w.heap.size + 1, 4, none⟩ (.int .i64 p)).setCell ⟨w.heap.size + 1, 5, none⟩ (.slice D4 e4 d4)).setCell ⟨w.heap.size + 1, 6, none⟩ (.int .i64 a)).setCell ⟨w.heap.size + 1, 7, none⟩ (.slice D5 e5 d5)).setCell ⟨w.heap.size + 1, 8, none⟩ (.int .i64 ((k : Int) + 1))).setCell ⟨w.heap.size + 1, 9, none⟩ (.bool false)).alloc (.cells #[.slice S0 t0 u0, .slice S1 t1 u1, .slice (some ⟨g2, 0, none⟩) t2 u2, .slice S3 t3 u3] 27)) = WF at YF HF FF ⊢
    obtain ⟨⟨v0, v1, v2, v3, v4, v5, v6, v7, v8, v9⟩, -⟩ := YF.cells
    refine bodyPost_ret (v := .agg #[.slice D0 e0 d0, .slice D1 e1 d1, .slice D2 e2 d2, .slice D3 e3 d3, .int .i64 p, .slice D4 e4 d4, .int .i64 a, .slice D5 e5 d5, .int .i64 ((k : Int) + 1), .bool false]) ?_ rfl ⟨_, rfl, HF.mono (by omega), FF⟩
    simp [results, Try.results65, go_sem, v0, v1, v2, v3, v4, v5, v6, v7, v8, v9]
  rw [if_pos he]
  have he2 : (en != 0) = false := by rw [he]; rfl
  clear he hrs
  by_cases hk9 : ok = 1
  · have hk1 : ok = 1 := hk9
    subst hk1
    have htg : tg = -1 := RT.out rfl
    subst htg
    have g2e : gc2 Cn (gc1 Cn ⟨p, cc, a⟩ ⟨1, (ja : Int), oq⟩) (-1) b = gc1 Cn ⟨p, cc, a⟩ ⟨1, (ja : Int), oq⟩ := by unfold gc2; rw [if_neg]; rintro ⟨_, h9⟩; exact h9 rfl
    rw [g2e]
    clear g2e RT hk9
    cases b
    · have KC := fun W lo vs vg h => optG_of (specColorNew_any W lo vs vg Cn ⟨p, cc, a⟩ h (rootA Cn (ja : Int)))
      have hG1 : gc1 Cn ⟨p, cc, a⟩ ⟨1, (ja : Int), oq⟩ = (colorO Cn ⟨p, cc, a⟩ (rootA Cn (ja : Int))).getD Gp.zero := by unfold gc1; rw [if_pos rfl]
      rw [hG1]
      clear hG1
      generalize (colorO Cn ⟨p, cc, a⟩ (rootA Cn (ja : Int))).getD Gp.zero = G1 at KC ⊢
      generalize (colorO Cn ⟨p, cc, a⟩ (rootA Cn (ja : Int))).isSome = kk at KC
      obtain ⟨p1, cc1, a1⟩ := G1
      go_enter Try.func65, Try.ntmps65
      go_wp2_with fail
      (try rw [hW])
      refine (CP _ lo _ HB).mono ?_; rintro e w1 ⟨v1, rfl, HN, hb1⟩
      obtain ⟨D0, e0, d0, D1, e1, d1, D2, e2, d2, D3, e3, d3, D4, e4, d4, D5, e5, d5, rfl⟩ := HN.shape
      have s1 := hb1.size
      have HN1 : Bv w1 W.heap.size (.agg #[.slice D0 e0 d0, .slice D1 e1 d1, .slice D2 e2 d2, .slice D3 e3 d3, .int .i64 p, .slice D4 e4 d4, .int .i64 a, .slice D5 e5 d5, .int .i64 ((k : Int) + 1), .bool false]) ⟨C, ⟨p, cc, a⟩, os, (k : Int) + 1, false⟩ := by
        obtain ⟨_, _, _, _, _, _, e, hc, ho, _⟩ := HN
        cases e
        exact Bv.mk0 hc ho _ _
      have c0 := (hb1.cell (p := ⟨g5, k * 3, none⟩) hg5).trans o0
      have c1 := (hb1.cell (p := ⟨g5, k * 3 + 1, none⟩) hg5).trans o1
      have c2 := (hb1.cell (p := ⟨g5, k * 3 + 2, none⟩) hg5).trans o2
      have lg1 : g5 < w1.heap.size := by omega
      have CV2 := (Blk10.new w1 (.slice D0 e0 d0) (.slice D1 e1 d1) (.slice D2 e2 d2) (.slice D3 e3 d3) (.int .i64 p) (.slice D4 e4 d4) (.int .i64 a) (.slice D5 e5 d5) (.int .i64 ((k : Int) + 1)) (.bool false) 34).alloc (.cells #[.int .i64 1, .int .i64 (ja : Int), .int .i64 oq] 70)
      have X2 := ((X.below hb1).alloc (.cells #[.slice D0 e0 d0, .slice D1 e1 d1, .slice D2 e2 d2, .slice D3 e3 d3, .int .i64 p, .slice D4 e4 d4, .int .i64 a, .slice D5 e5 d5, .int .i64 ((k : Int) + 1), .bool false] 34)).alloc (.cells #[.int .i64 1, .int .i64 (ja : Int), .int .i64 oq] 70)
      have Y2 := ((Y.below hb1).alloc (.cells #[.slice D0 e0 d0, .slice D1 e1 d1, .slice D2 e2 d2, .slice D3 e3 d3, .int .i64 p, .slice D4 e4 d4, .int .i64 a, .slice D5 e5 d5, .int .i64 ((k : Int) + 1), .bool false] 34)).alloc (.cells #[.int .i64 1, .int .i64 (ja : Int), .int .i64 oq] 70)
      have HB2 := ((HB.below hb1).alloc (.cells #[.slice D0 e0 d0, .slice D1 e1 d1, .slice D2 e2 d2, .slice D3 e3 d3, .int .i64 p, .slice D4 e4 d4, .int .i64 a, .slice D5 e5 d5, .int .i64 ((k : Int) + 1), .bool false] 34)).alloc (.cells #[.int .i64 1, .int .i64 (ja : Int), .int .i64 oq] 70)
      have HN2 := (HN1.alloc (.cells #[.slice D0 e0 d0, .slice D1 e1 d1, .slice D2 e2 d2, .slice D3 e3 d3, .int .i64 p, .slice D4 e4 d4, .int .i64 a, .slice D5 e5 d5, .int .i64 ((k : Int) + 1), .bool false] 34)).alloc (.cells #[.int .i64 1, .int .i64 (ja : Int), .int .i64 oq] 70)
      have O2 := Blk3.new_at (w := w1.alloc (.cells #[.slice D0 e0 d0, .slice D1 e1 d1, .slice D2 e2 d2, .slice D3 e3 d3, .int .i64 p, .slice D4 e4 d4, .int .i64 a, .slice D5 e5 d5, .int .i64 ((k : Int) + 1), .bool false] 34)) (b := w1.heap.size + 1) (by simp) (.int .i64 1) (.int .i64 (ja : Int)) (.int .i64 oq) 70
      have B2 := ((BB.trans (hb1.mono BB.size)).alloc (by omega) (.cells #[.slice D0 e0 d0, .slice D1 e1 d1, .slice D2 e2 d2, .slice D3 e3 d3, .int .i64 p, .slice D4 e4 d4, .int .i64 a, .slice D5 e5 d5, .int .i64 ((k : Int) + 1), .bool false] 34)).alloc (by (try simp); omega) (.cells #[.int .i64 1, .int .i64 (ja : Int), .int .i64 oq] 70)
      obtain ⟨⟨y0, y1, y2, y3, y4, y5, y6, y7, y8, y9⟩, -⟩ := (X.below hb1).cells
      have lx := (X.below hb1).lt
      have ly := (Y.below hb1).lt
      have s2 : w1.heap.size + 2 ≤ ((w1.alloc (.cells #[.slice D0 e0 d0, .slice D1 e1 d1, .slice D2 e2 d2, .slice D3 e3 d3, .int .i64 p, .slice D4 e4 d4, .int .i64 a, .slice D5 e5 d5, .int .i64 ((k : Int) + 1), .bool false] 34)).alloc (.cells #[.int .i64 1, .int .i64 (ja : Int), .int .i64 oq] 70)).heap.size := by simp
      have TT := specTargetOf_any ((w1.alloc (.cells #[.slice D0 e0 d0, .slice D1 e1 d1, .slice D2 e2 d2, .slice D3 e3 d3, .int .i64 p, .slice D4 e4 d4, .int .i64 a, .slice D5 e5 d5, .int .i64 ((k : Int) + 1), .bool false] 34)).alloc (.cells #[.int .i64 1, .int .i64 (ja : Int), .int .i64 oq] 70)) lo _ C HB2.cg.cv ⟨1, (ja : Int), oq⟩
      rw [hTn.out] at TT
      clear x0 x1 x2 x3 x4 x5 x6 x7 x8 x9 X Y HB HC HO o0 o1 o2 CP
      go_wp2_with fail
      refine TT.mono ?_; rintro e w2 ⟨rfl, hb2⟩
      have s3 := hb2.size
      have X3 := X2.below hb2
      have Y3 := Y2.below hb2
      have CV3 := CV2.below hb2
      have O3 := O2.below hb2
      have HB3 := HB2.below hb2
      have HN3 := HN2.below hb2
      have B3 := B2.trans (hb2.mono B2.size)
      have R1 := specRunOp_any w2 lo _ C HB3.cg.cv ⟨1, (ja : Int), oq⟩
      unfold OptCI at R1
      rw [hRb.out, hCn.out, hEn.out] at R1
      clear TT X2 Y2 CV2 O2 HB2 HN2 y0 y1 y2 y3 y4 y5 y6 y7 y8 y9 c0 c1 c2 lx ly
      obtain ⟨⟨x0, x1, x2, x3, x4, x5, x6, x7, x8, x9⟩, -⟩ := X3.cells
      obtain ⟨o0, o1, o2, -⟩ := O3.cells
      go_wp2_with fail
      refine R1.mono ?_; rintro e w3 ⟨v3, rfl, HS, hb3⟩
      obtain ⟨S0, t0, u0, S1, t1, u1, S2, t2, u2, S3, t3, u3, rfl, _, ⟨_, _, rS2, _⟩, ⟨_, _, lS2, _⟩, -⟩ := HS.open_
      obtain ⟨g2, rx, rfl, _, hg2, hrx, hrc, _⟩ := rS2.get (k := ja) hjt
      have rxe : Hid (rootA Cn (ja : Int) = rx) := by unfold Hid rootA; simp [List.getD, hrx.out]
      rw [rxe.out] at KC
      have hjt2 : (ja : Int) < (t2 : Int) := by have := lS2.out; omega
      have hj0 : (0 : Int) ≤ (ja : Int) := by omega
      have s4 := hb3.size
      have X4 := X3.below hb3
      have Y4 := Y3.below hb3
      have CV4 := CV3.below hb3
      have O4 := O3.below hb3
      have HB4 := HB3.below hb3
      have HN4 := HN3.below hb3
      have B4 := B3.trans (hb3.mono B3.size)
      have HMo := Bv.withStore' HN3 HS (by omega) hb3 ((k : Int) + 1) false
      have rS9 := rS2
      clear R1 X3 Y3 CV3 O3 HB3 HN3 x0 x1 x2 x3 x4 x5 x6 x7 x8 x9 o0 o1 o2 rS2 hrx
      obtain ⟨⟨x0, x1, x2, x3, x4, x5, x6, x7, x8, x9⟩, ⟨f0, f1, f2, f3, f4, f5, f6, f7, f8, f9⟩⟩ := CV4.cells
      obtain ⟨⟨q0, q1, q2, q3, q4, q5, q6, q7, q8, q9⟩, ⟨k0, k1, k2, k3, k4, k5, k6, k7, k8, k9⟩⟩ := Y4.cells
      obtain ⟨o0, o1, o2, -⟩ := O4.cells
      have lx := X4.lt
      have ly := Y4.lt
      have lc := CV4.lt
      have lo4 := O4.lt
      go_wp2_with fail
      have CV5 := (CV4.set03 (.slice S0 t0 u0) (.slice S1 t1 u1) (.slice (some ⟨g2, 0, none⟩) t2 u2) (.slice S3 t3 u3)).alloc (.cells #[.slice S0 t0 u0, .slice S1 t1 u1, .slice (some ⟨g2, 0, none⟩) t2 u2, .slice S3 t3 u3] 27)
      have X5 := (X4.far4 (c := w1.heap.size) (by omega) (.slice S0 t0 u0) (.slice S1 t1 u1) (.slice (some ⟨g2, 0, none⟩) t2 u2) (.slice S3 t3 u3)).alloc (.cells #[.slice S0 t0 u0, .slice S1 t1 u1, .slice (some ⟨g2, 0, none⟩) t2 u2, .slice S3 t3 u3] 27)
      have Y5 := (Y4.far4 (c := w1.heap.size) (by omega) (.slice S0 t0 u0) (.slice S1 t1 u1) (.slice (some ⟨g2, 0, none⟩) t2 u2) (.slice S3 t3 u3)).alloc (.cells #[.slice S0 t0 u0, .slice S1 t1 u1, .slice (some ⟨g2, 0, none⟩) t2 u2, .slice S3 t3 u3] 27)
      have O5 := (Blk3.far4O O4 (c := w1.heap.size) (by omega) (.slice S0 t0 u0) (.slice S1 t1 u1) (.slice (some ⟨g2, 0, none⟩) t2 u2) (.slice S3 t3 u3)).alloc (.cells #[.slice S0 t0 u0, .slice S1 t1 u1, .slice (some ⟨g2, 0, none⟩) t2 u2, .slice S3 t3 u3] 27)
      have HM5 := ((((HMo.setT CV4 0 (.slice S0 t0 u0)).setT (CV4.set0 (.slice S0 t0 u0)) 1 (.slice S1 t1 u1)).setT ((CV4.set0 (.slice S0 t0 u0)).set1 (.slice S1 t1 u1)) 2 (.slice (some ⟨g2, 0, none⟩) t2 u2)).setT (((CV4.set0 (.slice S0 t0 u0)).set1 (.slice S1 t1 u1)).set2 (.slice (some ⟨g2, 0, none⟩) t2 u2)) 3 (.slice S3 t3 u3)).alloc (.cells #[.slice S0 t0 u0, .slice S1 t1 u1, .slice (some ⟨g2, 0, none⟩) t2 u2, .slice S3 t3 u3] 27)
      have B5 := (below_set4b B4 (c := w1.heap.size) (by omega) (.slice S0 t0 u0) (.slice S1 t1 u1) (.slice (some ⟨g2, 0, none⟩) t2 u2) (.slice S3 t3 u3)).alloc (by (try simp [World.setCell]); omega) (.cells #[.slice S0 t0 u0, .slice S1 t1 u1, .slice (some ⟨g2, 0, none⟩) t2 u2, .slice S3 t3 u3] 27)
      have T5 := Blk4.new_at (w := ((((w3.setCell ⟨w1.heap.size, 0, none⟩ (.slice S0 t0 u0)).setCell ⟨w1.heap.size, 1, none⟩ (.slice S1 t1 u1)).setCell ⟨w1.heap.size, 2, none⟩ (.slice (some ⟨g2, 0, none⟩) t2 u2)).setCell ⟨w1.heap.size, 3, none⟩ (.slice S3 t3 u3))) (b := w3.heap.size) (by simp [World.setCell]) (.slice S0 t0 u0) (.slice S1 t1 u1) (.slice (some ⟨g2, 0, none⟩) t2 u2) (.slice S3 t3 u3) 27
      have hne2 : w1.heap.size ≠ g2 := fun e => rowTy rS9 CV4 (by rw [e]; rfl)
      have hrc5 := cellA ((World.cell?_setCell_far _ ⟨w1.heap.size, 3, none⟩ _ (.slice S3 t3 u3) hne2).trans ((World.cell?_setCell_far _ ⟨w1.heap.size, 2, none⟩ _ (.slice (some ⟨g2, 0, none⟩) t2 u2) hne2).trans ((World.cell?_setCell_far _ ⟨w1.heap.size, 1, none⟩ _ (.slice S1 t1 u1) hne2).trans ((World.cell?_setCell_far _ ⟨w1.heap.size, 0, none⟩ _ (.slice S0 t0 u0) hne2).trans hrc)))) (.cells #[.slice S0 t0 u0, .slice S1 t1 u1, .slice (some ⟨g2, 0, none⟩) t2 u2, .slice S3 t3 u3] 27)
      have s5 : w3.heap.size + 1 ≤ (((((w3.setCell ⟨w1.heap.size, 0, none⟩ (.slice S0 t0 u0)).setCell ⟨w1.heap.size, 1, none⟩ (.slice S1 t1 u1)).setCell ⟨w1.heap.size, 2, none⟩ (.slice (some ⟨g2, 0, none⟩) t2 u2)).setCell ⟨w1.heap.size, 3, none⟩ (.slice S3 t3 u3)).alloc (.cells #[.slice S0 t0 u0, .slice S1 t1 u1, .slice (some ⟨g2, 0, none⟩) t2 u2, .slice S3 t3 u3] 27)).heap.size := by simp [World.setCell]
      clear CV4 X4 Y4 O4 HMo HN4 HB4 B4 x0 x1 x2 x3 x4 x5 x6 x7 x8 x9 f0 f1 f2 f3 f4 f5 f6 f7 f8 f9 q0 q1 q2 q3 q4 q5 q6 q7 q8 q9 k0 k1 k2 k3 k4 k5 k6 k7 k8 k9 o0 o1 o2 lx ly lc lo4 hrc HS
      generalize (((((w3.setCell ⟨w1.heap.size, 0, none⟩ (.slice S0 t0 u0)).setCell ⟨w1.heap.size, 1, none⟩ (.slice S1 t1 u1)).setCell ⟨w1.heap.size, 2, none⟩ (.slice (some ⟨g2, 0, none⟩) t2 u2)).setCell ⟨w1.heap.size, 3, none⟩ (.slice S3 t3 u3)).alloc (.cells #[.slice S0 t0 u0, .slice S1 t1 u1, .slice (some ⟨g2, 0, none⟩) t2 u2, .slice S3 t3 u3] 27)) = W5 at CV5 X5 Y5 O5 HM5 B5 T5 s5 hrc5 ⊢
      have HG5 : CGv W5 _ (.agg #[.slice S0 t0 u0, .slice S1 t1 u1, .slice (some ⟨g2, 0, none⟩) t2 u2, .slice S3 t3 u3]) (.agg #[.int .i64 p, .slice D4 e4 d4, .int .i64 a]) Cn ⟨p, cc, a⟩ := HM5.cg
      have lg5 : g2 < W5.heap.size := by omega
      have SO : ∀ w' : World, Below W5.heap.size W5 w' → w'.cell? ⟨w3.heap.size, 0, none⟩ = some (.slice S0 t0 u0) ∧ w'.cell? ⟨w3.heap.size, 1, none⟩ = some (.slice S1 t1 u1) ∧ w'.cell? ⟨w3.heap.size, 2, none⟩ = some (.slice (some ⟨g2, 0, none⟩) t2 u2) ∧ w'.cell? ⟨w3.heap.size, 3, none⟩ = some (.slice S3 t3 u3) ∧ w'.cell? ⟨w1.heap.size, 4, none⟩ = some (.int .i64 p) ∧ w'.cell? ⟨w1.heap.size, 5, none⟩ = some (.slice D4 e4 d4) ∧ w'.cell? ⟨w1.heap.size, 6, none⟩ = some (.int .i64 a) ∧ w'.cell? ⟨w1.heap.size + 1, 1, none⟩ = some (.int .i64 (ja : Int)) ∧ w'.cell? ⟨g2, ja, none⟩ = some (.int .i64 rx) := fun w' hb => ⟨(T5.below hb).cells.1, (T5.below hb).cells.2.1, (T5.below hb).cells.2.2.1, (T5.below hb).cells.2.2.2.1, (CV5.below hb).cells.1.2.2.2.2.1, (CV5.below hb).cells.1.2.2.2.2.2.1, (CV5.below hb).cells.1.2.2.2.2.2.2.1, (O5.below hb).cells.2.1, (hb.cell (p := ⟨g2, ja, none⟩) lg5).trans hrc5⟩
      obtain ⟨t0', t1', t2', t3', -⟩ := T5.cells
      obtain ⟨⟨x0, x1, x2, x3, x4, x5, x6, x7, x8, x9⟩, -⟩ := CV5.cells
      obtain ⟨o0, o1, o2, -⟩ := O5.cells
      go_cut [11, 12] from 15 (fun pp e1 w' => GotG W5 ⟨p1, cc1, a1⟩ kk pp e1 w')
      case first =>
        go_region_held3 (fun w' => w'.cell? ⟨w3.heap.size, 0, none⟩ = some (.slice S0 t0 u0) ∧ w'.cell? ⟨w3.heap.size, 1, none⟩ = some (.slice S1 t1 u1) ∧ w'.cell? ⟨w3.heap.size, 2, none⟩ = some (.slice (some ⟨g2, 0, none⟩) t2 u2) ∧ w'.cell? ⟨w3.heap.size, 3, none⟩ = some (.slice S3 t3 u3) ∧ w'.cell? ⟨w1.heap.size, 4, none⟩ = some (.int .i64 p) ∧ w'.cell? ⟨w1.heap.size, 5, none⟩ = some (.slice D4 e4 d4) ∧ w'.cell? ⟨w1.heap.size, 6, none⟩ = some (.int .i64 a) ∧ w'.cell? ⟨w1.heap.size + 1, 1, none⟩ = some (.int .i64 (ja : Int)) ∧ w'.cell? ⟨g2, ja, none⟩ = some (.int .i64 rx))
          (((try dsimp only); (refine SO _ ?_); (repeat (with_reducible (first | exact Below.refl _ _ | exact hB3 | refine B_dr ?_ | refine B_al ?_ _ | refine B_set ?_ ?_ _ _)))))
          (first
            | (go_at_call 93; (refine Calls.mono (KC _ W.heap.size _ _ ?_) ?_); (· repeat (with_reducible (first | exact HG5 | refine CGv.alloc ?_ _ | refine CGv.drew ?_))); rintro e u9 ⟨A8, n8, c8, rfl, rG, lG, hbz⟩; (have hB3 : Below W5.heap.size W5 u9 := (by refine B_th ?_ hbz; repeat (with_reducible (first | exact Below.refl _ _ | refine B_dr ?_ | refine B_al ?_ _ | refine B_set ?_ ?_ _ _)))); (try ((refine (fun (ZZ : Blk3 u9 W5.heap.size (.int .i64 0) (.slice none 0 0) (.int .i64 0) 32) => ?_) ?_); rotate_left; (· ((repeat (with_reducible (first | exact Blk3.new _ _ _ _ _ | refine Blk3.alloc ?_ _ | refine Blk3.drewG ?_ | refine Blk3.below ?_ hbz))); done)); (obtain ⟨zc0, zc1, zc2, zf0, zf1, zf2⟩ := ZZ.cells)))))
        all_goals
          (try rename_i hHeld); (try clear hHeld)
          go_wp2_with fail
          go_meet
          case rel => first | exact got_setG (G := ⟨p1, cc1, a1⟩) ZZ rG lG (Nat.le_refl _) (by (try simp at hbz); first | (simp; done) | (simp; omega) | omega) hB3 | exact got_newG (G := ⟨p1, cc1, a1⟩) rG lG (by first | exact Nat.le_refl _ | (simp; done) | (simp; omega) | omega) hB3
      case rest =>
        obtain ⟨bG, A9, n9, c9, rfl, rfl, G6, RG, q9, hbo, hbl, hb6⟩ := hcut
        obtain ⟨w6, rfl⟩ : ∃ w6, w6 = wc := ⟨_, rfl⟩
        dsimp only at RG q9 G6
        have s6 := hb6.size
        have CV6 := CV5.below hb6
        have Y6 := Y5.below hb6
        have HM6 := Bv.withGc (p' := p1) (a' := a1) (cc' := cc1) (r' := .slice A9 n9 c9) HM5 ⟨_, rfl, RG⟩ (by omega) hb6
        have B6 := B5.trans (hb6.mono B5.size)
        clear HG5 CV5 X5 Y5 O5 HM5 B5 T5 hrc5 x0 x1 x2 x3 x4 x5 x6 x7 x8 x9 o0 o1 o2 t0' t1' t2' t3' SO KC
        obtain ⟨zc0, zc1, zc2, -⟩ := G6.cells
        obtain ⟨⟨x0, x1, x2, x3, x4, x5, x6, x7, x8, x9⟩, ⟨f0, f1, f2, f3, f4, f5, f6, f7, f8, f9⟩⟩ := CV6.cells
        obtain ⟨⟨q0, q1, q2, q3, q4, q5, q6, q7, q8, q9⟩, ⟨k0, k1, k2, k3, k4, k5, k6, k7, k8, k9⟩⟩ := Y6.cells
        have CV7 := CV6.set46 (.int .i64 p1) (.slice A9 n9 c9) (.int .i64 a1)
        have Y7 := Y6.far3 (c := w1.heap.size) (by omega) (.int .i64 p1) (.slice A9 n9 c9) (.int .i64 a1)
        have HM7 := ((HM6.setT CV6 4 (.int .i64 p1)).setT (CV6.set4 (.int .i64 p1)) 5 (.slice A9 n9 c9)).setT ((CV6.set4 (.int .i64 p1)).set5 (.slice A9 n9 c9)) 6 (.int .i64 a1)
        have B7 := below_set3b B6 (c := w1.heap.size) (by omega) (.int .i64 p1) (.slice A9 n9 c9) (.int .i64 a1)
        obtain ⟨⟨y0, y1, y2, y3, y4, y5, y6, y7, y8, y9⟩, -⟩ := CV7.cells
        obtain ⟨⟨z0, z1, z2, z3, z4, z5, z6, z7, z8, z9⟩, ⟨zk0, zk1, zk2, zk3, zk4, zk5, zk6, zk7, zk8, zk9⟩⟩ := Y7.cells
        have lc := CV6.lt
        have ly := Y6.lt
        go_wp2_with fail
        have YF := (Y7.set10 (.slice S0 t0 u0) (.slice S1 t1 u1) (.slice (some ⟨g2, 0, none⟩) t2 u2) (.slice S3 t3 u3) (.int .i64 p1) (.slice A9 n9 c9) (.int .i64 a1) (.slice D5 e5 d5) (.int .i64 ((k : Int) + 1)) (.bool false))
        have HF := (HM7.low10 (c := w.heap.size + 1) (by omega) (.slice S0 t0 u0) (.slice S1 t1 u1) (.slice (some ⟨g2, 0, none⟩) t2 u2) (.slice S3 t3 u3) (.int .i64 p1) (.slice A9 n9 c9) (.int .i64 a1) (.slice D5 e5 d5) (.int .i64 ((k : Int) + 1)) (.bool false))
        have FF := (below_set10 B7 (c := w.heap.size + 1) (by omega) (.slice S0 t0 u0) (.slice S1 t1 u1) (.slice (some ⟨g2, 0, none⟩) t2 u2) (.slice S3 t3 u3) (.int .i64 p1) (.slice A9 n9 c9) (.int .i64 a1) (.slice D5 e5 d5) (.int .i64 ((k : Int) + 1)) (.bool false))
        generalize ((((((((((((((w6.setCell ⟨w1.heap.size, 4, none⟩ (.int .i64 p1)).setCell ⟨w1.heap.size, 5, none⟩ (.slice A9 n9 c9)).setCell ⟨w1.heap.size, 6, none⟩ (.int .i64 a1)).setCell ⟨w.heap.size + 1, 0, none⟩ (.slice S0 t0 u0)).setCell ⟨w.heap.size + 1, 1, none⟩ (.slice S1 t1 u1)).setCell ⟨w.heap.size + 1, 2, none⟩ (.slice (some ⟨g2, 0, none⟩) t2 u2)).setCell ⟨w.heap.size + 1, 3, none⟩ (.slice S3 t3 u3)).setCell ⟨w.heap.size + 1, 4, none⟩ (.int .i64 p1)).setCell ⟨w.heap.size + 1, 5, none⟩ (.slice A9 n9 c9)).setCell ⟨w.heap.size + 1, 6, none⟩ (.int .i64 a1)).setCell ⟨w.heap.size + 1, 7, none⟩ (.slice D5 e5 d5)).setCell ⟨w.heap.size + 1, 8, none⟩ (.int .i64 ((k : Int) + 1))).setCell ⟨w.heap.size + 1, 9, none⟩ (.bool false))) = WF at YF HF FF ⊢
        obtain ⟨⟨v0, v1, v2, v3, v4, v5, v6, v7, v8, v9⟩, -⟩ := YF.cells
        refine bodyPost_ret (v := .agg #[.slice S0 t0 u0, .slice S1 t1 u1, .slice (some ⟨g2, 0, none⟩) t2 u2, .slice S3 t3 u3, .int .i64 p1, .slice A9 n9 c9, .int .i64 a1, .slice D5 e5 d5, .int .i64 ((k : Int) + 1), .bool false]) ?_ rfl ⟨_, rfl, HF.mono (by omega), FF⟩
        simp [results, Try.results65, go_sem, v0, v1, v2, v3, v4, v5, v6, v7, v8, v9]
    · have KC := fun W lo vs vg h => optG_of (specColorNew_any W lo vs vg Cn ⟨p, cc, a⟩ h (rootA Cn (ja : Int)))
      have hG1 : gc1 Cn ⟨p, cc, a⟩ ⟨1, (ja : Int), oq⟩ = (colorO Cn ⟨p, cc, a⟩ (rootA Cn (ja : Int))).getD Gp.zero := by unfold gc1; rw [if_pos rfl]
      rw [hG1]
      clear hG1
      generalize (colorO Cn ⟨p, cc, a⟩ (rootA Cn (ja : Int))).getD Gp.zero = G1 at KC ⊢
      generalize (colorO Cn ⟨p, cc, a⟩ (rootA Cn (ja : Int))).isSome = kk at KC
      obtain ⟨p1, cc1, a1⟩ := G1
      go_enter Try.func65, Try.ntmps65
      go_wp2_with fail
      (try rw [hW])
      refine (CP _ lo _ HB).mono ?_; rintro e w1 ⟨v1, rfl, HN, hb1⟩
      obtain ⟨D0, e0, d0, D1, e1, d1, D2, e2, d2, D3, e3, d3, D4, e4, d4, D5, e5, d5, rfl⟩ := HN.shape
      have s1 := hb1.size
      have HN1 : Bv w1 W.heap.size (.agg #[.slice D0 e0 d0, .slice D1 e1 d1, .slice D2 e2 d2, .slice D3 e3 d3, .int .i64 p, .slice D4 e4 d4, .int .i64 a, .slice D5 e5 d5, .int .i64 ((k : Int) + 1), .bool false]) ⟨C, ⟨p, cc, a⟩, os, (k : Int) + 1, false⟩ := by
        obtain ⟨_, _, _, _, _, _, e, hc, ho, _⟩ := HN
        cases e
        exact Bv.mk0 hc ho _ _
      have c0 := (hb1.cell (p := ⟨g5, k * 3, none⟩) hg5).trans o0
      have c1 := (hb1.cell (p := ⟨g5, k * 3 + 1, none⟩) hg5).trans o1
      have c2 := (hb1.cell (p := ⟨g5, k * 3 + 2, none⟩) hg5).trans o2
      have lg1 : g5 < w1.heap.size := by omega
      have CV2 := (Blk10.new w1 (.slice D0 e0 d0) (.slice D1 e1 d1) (.slice D2 e2 d2) (.slice D3 e3 d3) (.int .i64 p) (.slice D4 e4 d4) (.int .i64 a) (.slice D5 e5 d5) (.int .i64 ((k : Int) + 1)) (.bool false) 34).alloc (.cells #[.int .i64 1, .int .i64 (ja : Int), .int .i64 oq] 70)
      have X2 := ((X.below hb1).alloc (.cells #[.slice D0 e0 d0, .slice D1 e1 d1, .slice D2 e2 d2, .slice D3 e3 d3, .int .i64 p, .slice D4 e4 d4, .int .i64 a, .slice D5 e5 d5, .int .i64 ((k : Int) + 1), .bool false] 34)).alloc (.cells #[.int .i64 1, .int .i64 (ja : Int), .int .i64 oq] 70)
      have Y2 := ((Y.below hb1).alloc (.cells #[.slice D0 e0 d0, .slice D1 e1 d1, .slice D2 e2 d2, .slice D3 e3 d3, .int .i64 p, .slice D4 e4 d4, .int .i64 a, .slice D5 e5 d5, .int .i64 ((k : Int) + 1), .bool false] 34)).alloc (.cells #[.int .i64 1, .int .i64 (ja : Int), .int .i64 oq] 70)
      have HB2 := ((HB.below hb1).alloc (.cells #[.slice D0 e0 d0, .slice D1 e1 d1, .slice D2 e2 d2, .slice D3 e3 d3, .int .i64 p, .slice D4 e4 d4, .int .i64 a, .slice D5 e5 d5, .int .i64 ((k : Int) + 1), .bool false] 34)).alloc (.cells #[.int .i64 1, .int .i64 (ja : Int), .int .i64 oq] 70)
      have HN2 := (HN1.alloc (.cells #[.slice D0 e0 d0, .slice D1 e1 d1, .slice D2 e2 d2, .slice D3 e3 d3, .int .i64 p, .slice D4 e4 d4, .int .i64 a, .slice D5 e5 d5, .int .i64 ((k : Int) + 1), .bool false] 34)).alloc (.cells #[.int .i64 1, .int .i64 (ja : Int), .int .i64 oq] 70)
      have O2 := Blk3.new_at (w := w1.alloc (.cells #[.slice D0 e0 d0, .slice D1 e1 d1, .slice D2 e2 d2, .slice D3 e3 d3, .int .i64 p, .slice D4 e4 d4, .int .i64 a, .slice D5 e5 d5, .int .i64 ((k : Int) + 1), .bool false] 34)) (b := w1.heap.size + 1) (by simp) (.int .i64 1) (.int .i64 (ja : Int)) (.int .i64 oq) 70
      have B2 := ((BB.trans (hb1.mono BB.size)).alloc (by omega) (.cells #[.slice D0 e0 d0, .slice D1 e1 d1, .slice D2 e2 d2, .slice D3 e3 d3, .int .i64 p, .slice D4 e4 d4, .int .i64 a, .slice D5 e5 d5, .int .i64 ((k : Int) + 1), .bool false] 34)).alloc (by (try simp); omega) (.cells #[.int .i64 1, .int .i64 (ja : Int), .int .i64 oq] 70)
      obtain ⟨⟨y0, y1, y2, y3, y4, y5, y6, y7, y8, y9⟩, -⟩ := (X.below hb1).cells
      have lx := (X.below hb1).lt
      have ly := (Y.below hb1).lt
      have s2 : w1.heap.size + 2 ≤ ((w1.alloc (.cells #[.slice D0 e0 d0, .slice D1 e1 d1, .slice D2 e2 d2, .slice D3 e3 d3, .int .i64 p, .slice D4 e4 d4, .int .i64 a, .slice D5 e5 d5, .int .i64 ((k : Int) + 1), .bool false] 34)).alloc (.cells #[.int .i64 1, .int .i64 (ja : Int), .int .i64 oq] 70)).heap.size := by simp
      have TT := specTargetOf_any ((w1.alloc (.cells #[.slice D0 e0 d0, .slice D1 e1 d1, .slice D2 e2 d2, .slice D3 e3 d3, .int .i64 p, .slice D4 e4 d4, .int .i64 a, .slice D5 e5 d5, .int .i64 ((k : Int) + 1), .bool false] 34)).alloc (.cells #[.int .i64 1, .int .i64 (ja : Int), .int .i64 oq] 70)) lo _ C HB2.cg.cv ⟨1, (ja : Int), oq⟩
      rw [hTn.out] at TT
      clear x0 x1 x2 x3 x4 x5 x6 x7 x8 x9 X Y HB HC HO o0 o1 o2 CP
      go_wp2_with fail
      refine TT.mono ?_; rintro e w2 ⟨rfl, hb2⟩
      have s3 := hb2.size
      have X3 := X2.below hb2
      have Y3 := Y2.below hb2
      have CV3 := CV2.below hb2
      have O3 := O2.below hb2
      have HB3 := HB2.below hb2
      have HN3 := HN2.below hb2
      have B3 := B2.trans (hb2.mono B2.size)
      have R1 := specRunOp_any w2 lo _ C HB3.cg.cv ⟨1, (ja : Int), oq⟩
      unfold OptCI at R1
      rw [hRb.out, hCn.out, hEn.out] at R1
      clear TT X2 Y2 CV2 O2 HB2 HN2 y0 y1 y2 y3 y4 y5 y6 y7 y8 y9 c0 c1 c2 lx ly
      obtain ⟨⟨x0, x1, x2, x3, x4, x5, x6, x7, x8, x9⟩, -⟩ := X3.cells
      obtain ⟨o0, o1, o2, -⟩ := O3.cells
      go_wp2_with fail
      refine R1.mono ?_; rintro e w3 ⟨v3, rfl, HS, hb3⟩
      obtain ⟨S0, t0, u0, S1, t1, u1, S2, t2, u2, S3, t3, u3, rfl, _, ⟨_, _, rS2, _⟩, ⟨_, _, lS2, _⟩, -⟩ := HS.open_
      obtain ⟨g2, rx, rfl, _, hg2, hrx, hrc, _⟩ := rS2.get (k := ja) hjt
      have rxe : Hid (rootA Cn (ja : Int) = rx) := by unfold Hid rootA; simp [List.getD, hrx.out]
      rw [rxe.out] at KC
      have hjt2 : (ja : Int) < (t2 : Int) := by have := lS2.out; omega
      have hj0 : (0 : Int) ≤ (ja : Int) := by omega
      have s4 := hb3.size
      have X4 := X3.below hb3
      have Y4 := Y3.below hb3
      have CV4 := CV3.below hb3
      have O4 := O3.below hb3
      have HB4 := HB3.below hb3
      have HN4 := HN3.below hb3
      have B4 := B3.trans (hb3.mono B3.size)
      have HMo := Bv.withStore' HN3 HS (by omega) hb3 ((k : Int) + 1) false
      have rS9 := rS2
      clear R1 X3 Y3 CV3 O3 HB3 HN3 x0 x1 x2 x3 x4 x5 x6 x7 x8 x9 o0 o1 o2 rS2 hrx
      obtain ⟨⟨x0, x1, x2, x3, x4, x5, x6, x7, x8, x9⟩, ⟨f0, f1, f2, f3, f4, f5, f6, f7, f8, f9⟩⟩ := CV4.cells
      obtain ⟨⟨q0, q1, q2, q3, q4, q5, q6, q7, q8, q9⟩, ⟨k0, k1, k2, k3, k4, k5, k6, k7, k8, k9⟩⟩ := Y4.cells
      obtain ⟨o0, o1, o2, -⟩ := O4.cells
      have lx := X4.lt
      have ly := Y4.lt
      have lc := CV4.lt
      have lo4 := O4.lt
      go_wp2_with fail
      have CV5 := (CV4.set03 (.slice S0 t0 u0) (.slice S1 t1 u1) (.slice (some ⟨g2, 0, none⟩) t2 u2) (.slice S3 t3 u3)).alloc (.cells #[.slice S0 t0 u0, .slice S1 t1 u1, .slice (some ⟨g2, 0, none⟩) t2 u2, .slice S3 t3 u3] 27)
      have X5 := (X4.far4 (c := w1.heap.size) (by omega) (.slice S0 t0 u0) (.slice S1 t1 u1) (.slice (some ⟨g2, 0, none⟩) t2 u2) (.slice S3 t3 u3)).alloc (.cells #[.slice S0 t0 u0, .slice S1 t1 u1, .slice (some ⟨g2, 0, none⟩) t2 u2, .slice S3 t3 u3] 27)
      have Y5 := (Y4.far4 (c := w1.heap.size) (by omega) (.slice S0 t0 u0) (.slice S1 t1 u1) (.slice (some ⟨g2, 0, none⟩) t2 u2) (.slice S3 t3 u3)).alloc (.cells #[.slice S0 t0 u0, .slice S1 t1 u1, .slice (some ⟨g2, 0, none⟩) t2 u2, .slice S3 t3 u3] 27)
      have O5 := (Blk3.far4O O4 (c := w1.heap.size) (by omega) (.slice S0 t0 u0) (.slice S1 t1 u1) (.slice (some ⟨g2, 0, none⟩) t2 u2) (.slice S3 t3 u3)).alloc (.cells #[.slice S0 t0 u0, .slice S1 t1 u1, .slice (some ⟨g2, 0, none⟩) t2 u2, .slice S3 t3 u3] 27)
      have HM5 := ((((HMo.setT CV4 0 (.slice S0 t0 u0)).setT (CV4.set0 (.slice S0 t0 u0)) 1 (.slice S1 t1 u1)).setT ((CV4.set0 (.slice S0 t0 u0)).set1 (.slice S1 t1 u1)) 2 (.slice (some ⟨g2, 0, none⟩) t2 u2)).setT (((CV4.set0 (.slice S0 t0 u0)).set1 (.slice S1 t1 u1)).set2 (.slice (some ⟨g2, 0, none⟩) t2 u2)) 3 (.slice S3 t3 u3)).alloc (.cells #[.slice S0 t0 u0, .slice S1 t1 u1, .slice (some ⟨g2, 0, none⟩) t2 u2, .slice S3 t3 u3] 27)
      have B5 := (below_set4b B4 (c := w1.heap.size) (by omega) (.slice S0 t0 u0) (.slice S1 t1 u1) (.slice (some ⟨g2, 0, none⟩) t2 u2) (.slice S3 t3 u3)).alloc (by (try simp [World.setCell]); omega) (.cells #[.slice S0 t0 u0, .slice S1 t1 u1, .slice (some ⟨g2, 0, none⟩) t2 u2, .slice S3 t3 u3] 27)
      have T5 := Blk4.new_at (w := ((((w3.setCell ⟨w1.heap.size, 0, none⟩ (.slice S0 t0 u0)).setCell ⟨w1.heap.size, 1, none⟩ (.slice S1 t1 u1)).setCell ⟨w1.heap.size, 2, none⟩ (.slice (some ⟨g2, 0, none⟩) t2 u2)).setCell ⟨w1.heap.size, 3, none⟩ (.slice S3 t3 u3))) (b := w3.heap.size) (by simp [World.setCell]) (.slice S0 t0 u0) (.slice S1 t1 u1) (.slice (some ⟨g2, 0, none⟩) t2 u2) (.slice S3 t3 u3) 27
      have hne2 : w1.heap.size ≠ g2 := fun e => rowTy rS9 CV4 (by rw [e]; rfl)
      have hrc5 := cellA ((World.cell?_setCell_far _ ⟨w1.heap.size, 3, none⟩ _ (.slice S3 t3 u3) hne2).trans ((World.cell?_setCell_far _ ⟨w1.heap.size, 2, none⟩ _ (.slice (some ⟨g2, 0, none⟩) t2 u2) hne2).trans ((World.cell?_setCell_far _ ⟨w1.heap.size, 1, none⟩ _ (.slice S1 t1 u1) hne2).trans ((World.cell?_setCell_far _ ⟨w1.heap.size, 0, none⟩ _ (.slice S0 t0 u0) hne2).trans hrc)))) (.cells #[.slice S0 t0 u0, .slice S1 t1 u1, .slice (some ⟨g2, 0, none⟩) t2 u2, .slice S3 t3 u3] 27)
      have s5 : w3.heap.size + 1 ≤ (((((w3.setCell ⟨w1.heap.size, 0, none⟩ (.slice S0 t0 u0)).setCell ⟨w1.heap.size, 1, none⟩ (.slice S1 t1 u1)).setCell ⟨w1.heap.size, 2, none⟩ (.slice (some ⟨g2, 0, none⟩) t2 u2)).setCell ⟨w1.heap.size, 3, none⟩ (.slice S3 t3 u3)).alloc (.cells #[.slice S0 t0 u0, .slice S1 t1 u1, .slice (some ⟨g2, 0, none⟩) t2 u2, .slice S3 t3 u3] 27)).heap.size := by simp [World.setCell]
      clear CV4 X4 Y4 O4 HMo HN4 HB4 B4 x0 x1 x2 x3 x4 x5 x6 x7 x8 x9 f0 f1 f2 f3 f4 f5 f6 f7 f8 f9 q0 q1 q2 q3 q4 q5 q6 q7 q8 q9 k0 k1 k2 k3 k4 k5 k6 k7 k8 k9 o0 o1 o2 lx ly lc lo4 hrc HS
      generalize (((((w3.setCell ⟨w1.heap.size, 0, none⟩ (.slice S0 t0 u0)).setCell ⟨w1.heap.size, 1, none⟩ (.slice S1 t1 u1)).setCell ⟨w1.heap.size, 2, none⟩ (.slice (some ⟨g2, 0, none⟩) t2 u2)).setCell ⟨w1.heap.size, 3, none⟩ (.slice S3 t3 u3)).alloc (.cells #[.slice S0 t0 u0, .slice S1 t1 u1, .slice (some ⟨g2, 0, none⟩) t2 u2, .slice S3 t3 u3] 27)) = W5 at CV5 X5 Y5 O5 HM5 B5 T5 s5 hrc5 ⊢
      have HG5 : CGv W5 _ (.agg #[.slice S0 t0 u0, .slice S1 t1 u1, .slice (some ⟨g2, 0, none⟩) t2 u2, .slice S3 t3 u3]) (.agg #[.int .i64 p, .slice D4 e4 d4, .int .i64 a]) Cn ⟨p, cc, a⟩ := HM5.cg
      have lg5 : g2 < W5.heap.size := by omega
      have SO : ∀ w' : World, Below W5.heap.size W5 w' → w'.cell? ⟨w3.heap.size, 0, none⟩ = some (.slice S0 t0 u0) ∧ w'.cell? ⟨w3.heap.size, 1, none⟩ = some (.slice S1 t1 u1) ∧ w'.cell? ⟨w3.heap.size, 2, none⟩ = some (.slice (some ⟨g2, 0, none⟩) t2 u2) ∧ w'.cell? ⟨w3.heap.size, 3, none⟩ = some (.slice S3 t3 u3) ∧ w'.cell? ⟨w1.heap.size, 4, none⟩ = some (.int .i64 p) ∧ w'.cell? ⟨w1.heap.size, 5, none⟩ = some (.slice D4 e4 d4) ∧ w'.cell? ⟨w1.heap.size, 6, none⟩ = some (.int .i64 a) ∧ w'.cell? ⟨w1.heap.size + 1, 1, none⟩ = some (.int .i64 (ja : Int)) ∧ w'.cell? ⟨g2, ja, none⟩ = some (.int .i64 rx) := fun w' hb => ⟨(T5.below hb).cells.1, (T5.below hb).cells.2.1, (T5.below hb).cells.2.2.1, (T5.below hb).cells.2.2.2.1, (CV5.below hb).cells.1.2.2.2.2.1, (CV5.below hb).cells.1.2.2.2.2.2.1, (CV5.below hb).cells.1.2.2.2.2.2.2.1, (O5.below hb).cells.2.1, (hb.cell (p := ⟨g2, ja, none⟩) lg5).trans hrc5⟩
      obtain ⟨t0', t1', t2', t3', -⟩ := T5.cells
      obtain ⟨⟨x0, x1, x2, x3, x4, x5, x6, x7, x8, x9⟩, -⟩ := CV5.cells
      obtain ⟨o0, o1, o2, -⟩ := O5.cells
      go_cut [11, 12] from 15 (fun pp e1 w' => GotG W5 ⟨p1, cc1, a1⟩ kk pp e1 w')
      case first =>
        go_region_held3 (fun w' => w'.cell? ⟨w3.heap.size, 0, none⟩ = some (.slice S0 t0 u0) ∧ w'.cell? ⟨w3.heap.size, 1, none⟩ = some (.slice S1 t1 u1) ∧ w'.cell? ⟨w3.heap.size, 2, none⟩ = some (.slice (some ⟨g2, 0, none⟩) t2 u2) ∧ w'.cell? ⟨w3.heap.size, 3, none⟩ = some (.slice S3 t3 u3) ∧ w'.cell? ⟨w1.heap.size, 4, none⟩ = some (.int .i64 p) ∧ w'.cell? ⟨w1.heap.size, 5, none⟩ = some (.slice D4 e4 d4) ∧ w'.cell? ⟨w1.heap.size, 6, none⟩ = some (.int .i64 a) ∧ w'.cell? ⟨w1.heap.size + 1, 1, none⟩ = some (.int .i64 (ja : Int)) ∧ w'.cell? ⟨g2, ja, none⟩ = some (.int .i64 rx))
          (((try dsimp only); (refine SO _ ?_); (repeat (with_reducible (first | exact Below.refl _ _ | exact hB3 | refine B_dr ?_ | refine B_al ?_ _ | refine B_set ?_ ?_ _ _)))))
          (first
            | (go_at_call 93; (refine Calls.mono (KC _ W.heap.size _ _ ?_) ?_); (· repeat (with_reducible (first | exact HG5 | refine CGv.alloc ?_ _ | refine CGv.drew ?_))); rintro e u9 ⟨A8, n8, c8, rfl, rG, lG, hbz⟩; (have hB3 : Below W5.heap.size W5 u9 := (by refine B_th ?_ hbz; repeat (with_reducible (first | exact Below.refl _ _ | refine B_dr ?_ | refine B_al ?_ _ | refine B_set ?_ ?_ _ _)))); (try ((refine (fun (ZZ : Blk3 u9 W5.heap.size (.int .i64 0) (.slice none 0 0) (.int .i64 0) 32) => ?_) ?_); rotate_left; (· ((repeat (with_reducible (first | exact Blk3.new _ _ _ _ _ | refine Blk3.alloc ?_ _ | refine Blk3.drewG ?_ | refine Blk3.below ?_ hbz))); done)); (obtain ⟨zc0, zc1, zc2, zf0, zf1, zf2⟩ := ZZ.cells)))))
        all_goals
          (try rename_i hHeld); (try clear hHeld)
          go_wp2_with fail
          go_meet
          case rel => first | exact got_setG (G := ⟨p1, cc1, a1⟩) ZZ rG lG (Nat.le_refl _) (by (try simp at hbz); first | (simp; done) | (simp; omega) | omega) hB3 | exact got_newG (G := ⟨p1, cc1, a1⟩) rG lG (by first | exact Nat.le_refl _ | (simp; done) | (simp; omega) | omega) hB3
      case rest =>
        obtain ⟨bG, A9, n9, c9, rfl, rfl, G6, RG, q9, hbo, hbl, hb6⟩ := hcut
        obtain ⟨w6, rfl⟩ : ∃ w6, w6 = wc := ⟨_, rfl⟩
        dsimp only at RG q9 G6
        have s6 := hb6.size
        have CV6 := CV5.below hb6
        have Y6 := Y5.below hb6
        have HM6 := Bv.withGc (p' := p1) (a' := a1) (cc' := cc1) (r' := .slice A9 n9 c9) HM5 ⟨_, rfl, RG⟩ (by omega) hb6
        have B6 := B5.trans (hb6.mono B5.size)
        clear HG5 CV5 X5 Y5 O5 HM5 B5 T5 hrc5 x0 x1 x2 x3 x4 x5 x6 x7 x8 x9 o0 o1 o2 t0' t1' t2' t3' SO KC
        obtain ⟨zc0, zc1, zc2, -⟩ := G6.cells
        obtain ⟨⟨x0, x1, x2, x3, x4, x5, x6, x7, x8, x9⟩, ⟨f0, f1, f2, f3, f4, f5, f6, f7, f8, f9⟩⟩ := CV6.cells
        obtain ⟨⟨q0, q1, q2, q3, q4, q5, q6, q7, q8, q9⟩, ⟨k0, k1, k2, k3, k4, k5, k6, k7, k8, k9⟩⟩ := Y6.cells
        have CV7 := CV6.set46 (.int .i64 p1) (.slice A9 n9 c9) (.int .i64 a1)
        have Y7 := Y6.far3 (c := w1.heap.size) (by omega) (.int .i64 p1) (.slice A9 n9 c9) (.int .i64 a1)
        have HM7 := ((HM6.setT CV6 4 (.int .i64 p1)).setT (CV6.set4 (.int .i64 p1)) 5 (.slice A9 n9 c9)).setT ((CV6.set4 (.int .i64 p1)).set5 (.slice A9 n9 c9)) 6 (.int .i64 a1)
        have B7 := below_set3b B6 (c := w1.heap.size) (by omega) (.int .i64 p1) (.slice A9 n9 c9) (.int .i64 a1)
        obtain ⟨⟨y0, y1, y2, y3, y4, y5, y6, y7, y8, y9⟩, -⟩ := CV7.cells
        obtain ⟨⟨z0, z1, z2, z3, z4, z5, z6, z7, z8, z9⟩, ⟨zk0, zk1, zk2, zk3, zk4, zk5, zk6, zk7, zk8, zk9⟩⟩ := Y7.cells
        have lc := CV6.lt
        have ly := Y6.lt
        go_wp2_with fail
        have YF := (Y7.set10 (.slice S0 t0 u0) (.slice S1 t1 u1) (.slice (some ⟨g2, 0, none⟩) t2 u2) (.slice S3 t3 u3) (.int .i64 p1) (.slice A9 n9 c9) (.int .i64 a1) (.slice D5 e5 d5) (.int .i64 ((k : Int) + 1)) (.bool false))
        have HF := (HM7.low10 (c := w.heap.size + 1) (by omega) (.slice S0 t0 u0) (.slice S1 t1 u1) (.slice (some ⟨g2, 0, none⟩) t2 u2) (.slice S3 t3 u3) (.int .i64 p1) (.slice A9 n9 c9) (.int .i64 a1) (.slice D5 e5 d5) (.int .i64 ((k : Int) + 1)) (.bool false))
        have FF := (below_set10 B7 (c := w.heap.size + 1) (by omega) (.slice S0 t0 u0) (.slice S1 t1 u1) (.slice (some ⟨g2, 0, none⟩) t2 u2) (.slice S3 t3 u3) (.int .i64 p1) (.slice A9 n9 c9) (.int .i64 a1) (.slice D5 e5 d5) (.int .i64 ((k : Int) + 1)) (.bool false))
        generalize ((((((((((((((w6.setCell ⟨w1.heap.size, 4, none⟩ (.int .i64 p1)).setCell ⟨w1.heap.size, 5, none⟩ (.slice A9 n9 c9)).setCell ⟨w1.heap.size, 6, none⟩ (.int .i64 a1)).setCell ⟨w.heap.size + 1, 0, none⟩ (.slice S0 t0 u0)).setCell ⟨w.heap.size + 1, 1, none⟩ (.slice S1 t1 u1)).setCell ⟨w.heap.size + 1, 2, none⟩ (.slice (some ⟨g2, 0, none⟩) t2 u2)).setCell ⟨w.heap.size + 1, 3, none⟩ (.slice S3 t3 u3)).setCell ⟨w.heap.size + 1, 4, none⟩ (.int .i64 p1)).setCell ⟨w.heap.size + 1, 5, none⟩ (.slice A9 n9 c9)).setCell ⟨w.heap.size + 1, 6, none⟩ (.int .i64 a1)).setCell ⟨w.heap.size + 1, 7, none⟩ (.slice D5 e5 d5)).setCell ⟨w.heap.size + 1, 8, none⟩ (.int .i64 ((k : Int) + 1))).setCell ⟨w.heap.size + 1, 9, none⟩ (.bool false))) = WF at YF HF FF ⊢
        obtain ⟨⟨v0, v1, v2, v3, v4, v5, v6, v7, v8, v9⟩, -⟩ := YF.cells
        refine bodyPost_ret (v := .agg #[.slice S0 t0 u0, .slice S1 t1 u1, .slice (some ⟨g2, 0, none⟩) t2 u2, .slice S3 t3 u3, .int .i64 p1, .slice A9 n9 c9, .int .i64 a1, .slice D5 e5 d5, .int .i64 ((k : Int) + 1), .bool false]) ?_ rfl ⟨_, rfl, HF.mono (by omega), FF⟩
        simp [results, Try.results65, go_sem, v0, v1, v2, v3, v4, v5, v6, v7, v8, v9]
  have hk1 : (ok == 1) = false := by rw [beq_eq_false_iff_ne]; exact hk9
  have g1e : gc1 Cn ⟨p, cc, a⟩ ⟨ok, (ja : Int), oq⟩ = ⟨p, cc, a⟩ := by unfold gc1; rw [if_neg hk9]
  rw [g1e]
  clear g1e hk9 RT
  cases b
  · have g2e : gc2 Cn ⟨p, cc, a⟩ tg false = ⟨p, cc, a⟩ := by unfold gc2; rw [if_neg]; rintro ⟨h8, h9⟩; cases h8
    rw [g2e]
    clear g2e
    go_enter Try.func65, Try.ntmps65
    go_wp2_with fail
    (try rw [hW])
    refine (CP _ lo _ HB).mono ?_; rintro e w1 ⟨v1, rfl, HN, hb1⟩
    obtain ⟨D0, e0, d0, D1, e1, d1, D2, e2, d2, D3, e3, d3, D4, e4, d4, D5, e5, d5, rfl⟩ := HN.shape
    have s1 := hb1.size
    have HN1 : Bv w1 W.heap.size (.agg #[.slice D0 e0 d0, .slice D1 e1 d1, .slice D2 e2 d2, .slice D3 e3 d3, .int .i64 p, .slice D4 e4 d4, .int .i64 a, .slice D5 e5 d5, .int .i64 ((k : Int) + 1), .bool false]) ⟨C, ⟨p, cc, a⟩, os, (k : Int) + 1, false⟩ := by
      obtain ⟨_, _, _, _, _, _, e, hc, ho, _⟩ := HN
      cases e
      exact Bv.mk0 hc ho _ _
    have c0 := (hb1.cell (p := ⟨g5, k * 3, none⟩) hg5).trans o0
    have c1 := (hb1.cell (p := ⟨g5, k * 3 + 1, none⟩) hg5).trans o1
    have c2 := (hb1.cell (p := ⟨g5, k * 3 + 2, none⟩) hg5).trans o2
    have lg1 : g5 < w1.heap.size := by omega
    have CV2 := (Blk10.new w1 (.slice D0 e0 d0) (.slice D1 e1 d1) (.slice D2 e2 d2) (.slice D3 e3 d3) (.int .i64 p) (.slice D4 e4 d4) (.int .i64 a) (.slice D5 e5 d5) (.int .i64 ((k : Int) + 1)) (.bool false) 34).alloc (.cells #[.int .i64 ok, .int .i64 (ja : Int), .int .i64 oq] 70)
    have X2 := ((X.below hb1).alloc (.cells #[.slice D0 e0 d0, .slice D1 e1 d1, .slice D2 e2 d2, .slice D3 e3 d3, .int .i64 p, .slice D4 e4 d4, .int .i64 a, .slice D5 e5 d5, .int .i64 ((k : Int) + 1), .bool false] 34)).alloc (.cells #[.int .i64 ok, .int .i64 (ja : Int), .int .i64 oq] 70)
    have Y2 := ((Y.below hb1).alloc (.cells #[.slice D0 e0 d0, .slice D1 e1 d1, .slice D2 e2 d2, .slice D3 e3 d3, .int .i64 p, .slice D4 e4 d4, .int .i64 a, .slice D5 e5 d5, .int .i64 ((k : Int) + 1), .bool false] 34)).alloc (.cells #[.int .i64 ok, .int .i64 (ja : Int), .int .i64 oq] 70)
    have HB2 := ((HB.below hb1).alloc (.cells #[.slice D0 e0 d0, .slice D1 e1 d1, .slice D2 e2 d2, .slice D3 e3 d3, .int .i64 p, .slice D4 e4 d4, .int .i64 a, .slice D5 e5 d5, .int .i64 ((k : Int) + 1), .bool false] 34)).alloc (.cells #[.int .i64 ok, .int .i64 (ja : Int), .int .i64 oq] 70)
    have HN2 := (HN1.alloc (.cells #[.slice D0 e0 d0, .slice D1 e1 d1, .slice D2 e2 d2, .slice D3 e3 d3, .int .i64 p, .slice D4 e4 d4, .int .i64 a, .slice D5 e5 d5, .int .i64 ((k : Int) + 1), .bool false] 34)).alloc (.cells #[.int .i64 ok, .int .i64 (ja : Int), .int .i64 oq] 70)
    have O2 := Blk3.new_at (w := w1.alloc (.cells #[.slice D0 e0 d0, .slice D1 e1 d1, .slice D2 e2 d2, .slice D3 e3 d3, .int .i64 p, .slice D4 e4 d4, .int .i64 a, .slice D5 e5 d5, .int .i64 ((k : Int) + 1), .bool false] 34)) (b := w1.heap.size + 1) (by simp) (.int .i64 ok) (.int .i64 (ja : Int)) (.int .i64 oq) 70
    have B2 := ((BB.trans (hb1.mono BB.size)).alloc (by omega) (.cells #[.slice D0 e0 d0, .slice D1 e1 d1, .slice D2 e2 d2, .slice D3 e3 d3, .int .i64 p, .slice D4 e4 d4, .int .i64 a, .slice D5 e5 d5, .int .i64 ((k : Int) + 1), .bool false] 34)).alloc (by (try simp); omega) (.cells #[.int .i64 ok, .int .i64 (ja : Int), .int .i64 oq] 70)
    obtain ⟨⟨y0, y1, y2, y3, y4, y5, y6, y7, y8, y9⟩, -⟩ := (X.below hb1).cells
    have lx := (X.below hb1).lt
    have ly := (Y.below hb1).lt
    have s2 : w1.heap.size + 2 ≤ ((w1.alloc (.cells #[.slice D0 e0 d0, .slice D1 e1 d1, .slice D2 e2 d2, .slice D3 e3 d3, .int .i64 p, .slice D4 e4 d4, .int .i64 a, .slice D5 e5 d5, .int .i64 ((k : Int) + 1), .bool false] 34)).alloc (.cells #[.int .i64 ok, .int .i64 (ja : Int), .int .i64 oq] 70)).heap.size := by simp
    have TT := specTargetOf_any ((w1.alloc (.cells #[.slice D0 e0 d0, .slice D1 e1 d1, .slice D2 e2 d2, .slice D3 e3 d3, .int .i64 p, .slice D4 e4 d4, .int .i64 a, .slice D5 e5 d5, .int .i64 ((k : Int) + 1), .bool false] 34)).alloc (.cells #[.int .i64 ok, .int .i64 (ja : Int), .int .i64 oq] 70)) lo _ C HB2.cg.cv ⟨ok, (ja : Int), oq⟩
    rw [hTn.out] at TT
    clear x0 x1 x2 x3 x4 x5 x6 x7 x8 x9 X Y HB HC HO o0 o1 o2 CP
    go_wp2_with fail
    refine TT.mono ?_; rintro e w2 ⟨rfl, hb2⟩
    have s3 := hb2.size
    have X3 := X2.below hb2
    have Y3 := Y2.below hb2
    have CV3 := CV2.below hb2
    have O3 := O2.below hb2
    have HB3 := HB2.below hb2
    have HN3 := HN2.below hb2
    have B3 := B2.trans (hb2.mono B2.size)
    have R1 := specRunOp_any w2 lo _ C HB3.cg.cv ⟨ok, (ja : Int), oq⟩
    unfold OptCI at R1
    rw [hRb.out, hCn.out, hEn.out] at R1
    clear TT X2 Y2 CV2 O2 HB2 HN2 y0 y1 y2 y3 y4 y5 y6 y7 y8 y9 c0 c1 c2 lx ly
    obtain ⟨⟨x0, x1, x2, x3, x4, x5, x6, x7, x8, x9⟩, -⟩ := X3.cells
    obtain ⟨o0, o1, o2, -⟩ := O3.cells
    go_wp2_with fail
    refine R1.mono ?_; rintro e w3 ⟨v3, rfl, HS, hb3⟩
    obtain ⟨S0, t0, u0, S1, t1, u1, S2, t2, u2, S3, t3, u3, rfl, _, ⟨_, _, rS2, _⟩, ⟨_, _, lS2, _⟩, -⟩ := HS.open_
    obtain ⟨g2, rx, rfl, _, hg2, hrx, hrc, _⟩ := rS2.get (k := ja) hjt
    have rxe : Hid (rootA Cn (ja : Int) = rx) := by unfold Hid rootA; simp [List.getD, hrx.out]
    have hjt2 : (ja : Int) < (t2 : Int) := by have := lS2.out; omega
    have hj0 : (0 : Int) ≤ (ja : Int) := by omega
    have s4 := hb3.size
    have X4 := X3.below hb3
    have Y4 := Y3.below hb3
    have CV4 := CV3.below hb3
    have O4 := O3.below hb3
    have HB4 := HB3.below hb3
    have HN4 := HN3.below hb3
    have B4 := B3.trans (hb3.mono B3.size)
    have HMo := Bv.withStore' HN3 HS (by omega) hb3 ((k : Int) + 1) false
    have rS9 := rS2
    clear R1 X3 Y3 CV3 O3 HB3 HN3 x0 x1 x2 x3 x4 x5 x6 x7 x8 x9 o0 o1 o2 rS2 hrx
    obtain ⟨⟨x0, x1, x2, x3, x4, x5, x6, x7, x8, x9⟩, ⟨f0, f1, f2, f3, f4, f5, f6, f7, f8, f9⟩⟩ := CV4.cells
    obtain ⟨⟨q0, q1, q2, q3, q4, q5, q6, q7, q8, q9⟩, ⟨k0, k1, k2, k3, k4, k5, k6, k7, k8, k9⟩⟩ := Y4.cells
    obtain ⟨o0, o1, o2, -⟩ := O4.cells
    have lx := X4.lt
    have ly := Y4.lt
    have lc := CV4.lt
    have lo4 := O4.lt
    go_wp2_with fail
    have Y9 := Y4.far4 (c := w1.heap.size) (by omega) (.slice S0 t0 u0) (.slice S1 t1 u1) (.slice (some ⟨g2, 0, none⟩) t2 u2) (.slice S3 t3 u3)
    have HM9 := (((HMo.setT CV4 0 (.slice S0 t0 u0)).setT (CV4.set0 (.slice S0 t0 u0)) 1 (.slice S1 t1 u1)).setT ((CV4.set0 (.slice S0 t0 u0)).set1 (.slice S1 t1 u1)) 2 (.slice (some ⟨g2, 0, none⟩) t2 u2)).setT (((CV4.set0 (.slice S0 t0 u0)).set1 (.slice S1 t1 u1)).set2 (.slice (some ⟨g2, 0, none⟩) t2 u2)) 3 (.slice S3 t3 u3)
    have B9 := below_set4b B4 (c := w1.heap.size) (by omega) (.slice S0 t0 u0) (.slice S1 t1 u1) (.slice (some ⟨g2, 0, none⟩) t2 u2) (.slice S3 t3 u3)
    have YF := (Y9.set10 (.slice S0 t0 u0) (.slice S1 t1 u1) (.slice (some ⟨g2, 0, none⟩) t2 u2) (.slice S3 t3 u3) (.int .i64 p) (.slice D4 e4 d4) (.int .i64 a) (.slice D5 e5 d5) (.int .i64 ((k : Int) + 1)) (.bool false)).alloc (.cells #[.slice S0 t0 u0, .slice S1 t1 u1, .slice (some ⟨g2, 0, none⟩) t2 u2, .slice S3 t3 u3] 27)
    have HF := (HM9.low10 (c := w.heap.size + 1) (by omega) (.slice S0 t0 u0) (.slice S1 t1 u1) (.slice (some ⟨g2, 0, none⟩) t2 u2) (.slice S3 t3 u3) (.int .i64 p) (.slice D4 e4 d4) (.int .i64 a) (.slice D5 e5 d5) (.int .i64 ((k : Int) + 1)) (.bool false)).alloc (.cells #[.slice S0 t0 u0, .slice S1 t1 u1, .slice (some ⟨g2, 0, none⟩) t2 u2, .slice S3 t3 u3] 27)
    have FF := (below_set10 B9 (c := w.heap.size + 1) (by omega) (.slice S0 t0 u0) (.slice S1 t1 u1) (.slice (some ⟨g2, 0, none⟩) t2 u2) (.slice S3 t3 u3) (.int .i64 p) (.slice D4 e4 d4) (.int .i64 a) (.slice D5 e5 d5) (.int .i64 ((k : Int) + 1)) (.bool false)).alloc (by (try simp [World.setCell]); omega) (.cells #[.slice S0 t0 u0, .slice S1 t1 u1, .slice (some ⟨g2, 0, none⟩) t2 u2, .slice S3 t3 u3] 27)
    generalize (((((((((((((((w3.setCell ⟨w1.heap.size, 0, none⟩ (.slice S0 t0 u0)).setCell ⟨w1.heap.size, 1, none⟩ (.slice S1 t1 u1)).setCell ⟨w1.heap.size, 2, none⟩ (.slice (some ⟨g2, 0, none⟩) t2 u2)).setCell ⟨w1.heap.size, 3, none⟩ (.slice S3 t3 u3)).setCell ⟨w.heap.size + 1, 0, none⟩ (.slice S0 t0 u0)).setCell ⟨w.heap.size + 1, 1, none⟩ (.slice S1 t1 u1)).setCell ⟨w.heap.size + 1, 2, none⟩ (.slice (some ⟨g2, 0, none⟩) t2 u2)).setCell ⟨w.heap.size + 1, 3, none⟩ (.slice S3 t3 u3)).setCell ⟨w.heap.size + 1, 4, none⟩ (.int .i64 p)).setCell ⟨w.heap.size + 1, 5, none⟩ (.slice D4 e4 d4)).setCell ⟨w.heap.size + 1, 6, none⟩ (.int .i64 a)).setCell ⟨w.heap.size + 1, 7, none⟩ (.slice D5 e5 d5)).setCell ⟨w.heap.size + 1, 8, none⟩ (.int .i64 ((k : Int) + 1))).setCell ⟨w.heap.size + 1, 9, none⟩ (.bool false)).alloc (.cells #[.slice S0 t0 u0, .slice S1 t1 u1, .slice (some ⟨g2, 0, none⟩) t2 u2, .slice S3 t3 u3] 27)) = WF at YF HF FF ⊢
    obtain ⟨⟨v0, v1, v2, v3, v4, v5, v6, v7, v8, v9⟩, -⟩ := YF.cells
    refine bodyPost_ret (v := .agg #[.slice S0 t0 u0, .slice S1 t1 u1, .slice (some ⟨g2, 0, none⟩) t2 u2, .slice S3 t3 u3, .int .i64 p, .slice D4 e4 d4, .int .i64 a, .slice D5 e5 d5, .int .i64 ((k : Int) + 1), .bool false]) ?_ rfl ⟨_, rfl, HF.mono (by omega), FF⟩
    simp [results, Try.results65, go_sem, v0, v1, v2, v3, v4, v5, v6, v7, v8, v9]
  by_cases htg : tg = -1
  · subst htg
    have g2e : gc2 Cn ⟨p, cc, a⟩ (-1) true = ⟨p, cc, a⟩ := by unfold gc2; rw [if_neg]; rintro ⟨h8, h9⟩; exact h9 rfl
    rw [g2e]
    clear g2e
    go_enter Try.func65, Try.ntmps65
    go_wp2_with fail
    (try rw [hW])
    refine (CP _ lo _ HB).mono ?_; rintro e w1 ⟨v1, rfl, HN, hb1⟩
    obtain ⟨D0, e0, d0, D1, e1, d1, D2, e2, d2, D3, e3, d3, D4, e4, d4, D5, e5, d5, rfl⟩ := HN.shape
    have s1 := hb1.size
    have HN1 : Bv w1 W.heap.size (.agg #[.slice D0 e0 d0, .slice D1 e1 d1, .slice D2 e2 d2, .slice D3 e3 d3, .int .i64 p, .slice D4 e4 d4, .int .i64 a, .slice D5 e5 d5, .int .i64 ((k : Int) + 1), .bool false]) ⟨C, ⟨p, cc, a⟩, os, (k : Int) + 1, false⟩ := by
      obtain ⟨_, _, _, _, _, _, e, hc, ho, _⟩ := HN
      cases e
      exact Bv.mk0 hc ho _ _
    have c0 := (hb1.cell (p := ⟨g5, k * 3, none⟩) hg5).trans o0
    have c1 := (hb1.cell (p := ⟨g5, k * 3 + 1, none⟩) hg5).trans o1
    have c2 := (hb1.cell (p := ⟨g5, k * 3 + 2, none⟩) hg5).trans o2
    have lg1 : g5 < w1.heap.size := by omega
    have CV2 := (Blk10.new w1 (.slice D0 e0 d0) (.slice D1 e1 d1) (.slice D2 e2 d2) (.slice D3 e3 d3) (.int .i64 p) (.slice D4 e4 d4) (.int .i64 a) (.slice D5 e5 d5) (.int .i64 ((k : Int) + 1)) (.bool false) 34).alloc (.cells #[.int .i64 ok, .int .i64 (ja : Int), .int .i64 oq] 70)
    have X2 := ((X.below hb1).alloc (.cells #[.slice D0 e0 d0, .slice D1 e1 d1, .slice D2 e2 d2, .slice D3 e3 d3, .int .i64 p, .slice D4 e4 d4, .int .i64 a, .slice D5 e5 d5, .int .i64 ((k : Int) + 1), .bool false] 34)).alloc (.cells #[.int .i64 ok, .int .i64 (ja : Int), .int .i64 oq] 70)
    have Y2 := ((Y.below hb1).alloc (.cells #[.slice D0 e0 d0, .slice D1 e1 d1, .slice D2 e2 d2, .slice D3 e3 d3, .int .i64 p, .slice D4 e4 d4, .int .i64 a, .slice D5 e5 d5, .int .i64 ((k : Int) + 1), .bool false] 34)).alloc (.cells #[.int .i64 ok, .int .i64 (ja : Int), .int .i64 oq] 70)
    have HB2 := ((HB.below hb1).alloc (.cells #[.slice D0 e0 d0, .slice D1 e1 d1, .slice D2 e2 d2, .slice D3 e3 d3, .int .i64 p, .slice D4 e4 d4, .int .i64 a, .slice D5 e5 d5, .int .i64 ((k : Int) + 1), .bool false] 34)).alloc (.cells #[.int .i64 ok, .int .i64 (ja : Int), .int .i64 oq] 70)
    have HN2 := (HN1.alloc (.cells #[.slice D0 e0 d0, .slice D1 e1 d1, .slice D2 e2 d2, .slice D3 e3 d3, .int .i64 p, .slice D4 e4 d4, .int .i64 a, .slice D5 e5 d5, .int .i64 ((k : Int) + 1), .bool false] 34)).alloc (.cells #[.int .i64 ok, .int .i64 (ja : Int), .int .i64 oq] 70)
    have O2 := Blk3.new_at (w := w1.alloc (.cells #[.slice D0 e0 d0, .slice D1 e1 d1, .slice D2 e2 d2, .slice D3 e3 d3, .int .i64 p, .slice D4 e4 d4, .int .i64 a, .slice D5 e5 d5, .int .i64 ((k : Int) + 1), .bool false] 34)) (b := w1.heap.size + 1) (by simp) (.int .i64 ok) (.int .i64 (ja : Int)) (.int .i64 oq) 70
    have B2 := ((BB.trans (hb1.mono BB.size)).alloc (by omega) (.cells #[.slice D0 e0 d0, .slice D1 e1 d1, .slice D2 e2 d2, .slice D3 e3 d3, .int .i64 p, .slice D4 e4 d4, .int .i64 a, .slice D5 e5 d5, .int .i64 ((k : Int) + 1), .bool false] 34)).alloc (by (try simp); omega) (.cells #[.int .i64 ok, .int .i64 (ja : Int), .int .i64 oq] 70)
    obtain ⟨⟨y0, y1, y2, y3, y4, y5, y6, y7, y8, y9⟩, -⟩ := (X.below hb1).cells
    have lx := (X.below hb1).lt
    have ly := (Y.below hb1).lt
    have s2 : w1.heap.size + 2 ≤ ((w1.alloc (.cells #[.slice D0 e0 d0, .slice D1 e1 d1, .slice D2 e2 d2, .slice D3 e3 d3, .int .i64 p, .slice D4 e4 d4, .int .i64 a, .slice D5 e5 d5, .int .i64 ((k : Int) + 1), .bool false] 34)).alloc (.cells #[.int .i64 ok, .int .i64 (ja : Int), .int .i64 oq] 70)).heap.size := by simp
    have TT := specTargetOf_any ((w1.alloc (.cells #[.slice D0 e0 d0, .slice D1 e1 d1, .slice D2 e2 d2, .slice D3 e3 d3, .int .i64 p, .slice D4 e4 d4, .int .i64 a, .slice D5 e5 d5, .int .i64 ((k : Int) + 1), .bool false] 34)).alloc (.cells #[.int .i64 ok, .int .i64 (ja : Int), .int .i64 oq] 70)) lo _ C HB2.cg.cv ⟨ok, (ja : Int), oq⟩
    rw [hTn.out] at TT
    clear x0 x1 x2 x3 x4 x5 x6 x7 x8 x9 X Y HB HC HO o0 o1 o2 CP
    go_wp2_with fail
    refine TT.mono ?_; rintro e w2 ⟨rfl, hb2⟩
    have s3 := hb2.size
    have X3 := X2.below hb2
    have Y3 := Y2.below hb2
    have CV3 := CV2.below hb2
    have O3 := O2.below hb2
    have HB3 := HB2.below hb2
    have HN3 := HN2.below hb2
    have B3 := B2.trans (hb2.mono B2.size)
    have R1 := specRunOp_any w2 lo _ C HB3.cg.cv ⟨ok, (ja : Int), oq⟩
    unfold OptCI at R1
    rw [hRb.out, hCn.out, hEn.out] at R1
    clear TT X2 Y2 CV2 O2 HB2 HN2 y0 y1 y2 y3 y4 y5 y6 y7 y8 y9 c0 c1 c2 lx ly
    obtain ⟨⟨x0, x1, x2, x3, x4, x5, x6, x7, x8, x9⟩, -⟩ := X3.cells
    obtain ⟨o0, o1, o2, -⟩ := O3.cells
    go_wp2_with fail
    refine R1.mono ?_; rintro e w3 ⟨v3, rfl, HS, hb3⟩
    obtain ⟨S0, t0, u0, S1, t1, u1, S2, t2, u2, S3, t3, u3, rfl, _, ⟨_, _, rS2, _⟩, ⟨_, _, lS2, _⟩, -⟩ := HS.open_
    obtain ⟨g2, rx, rfl, _, hg2, hrx, hrc, _⟩ := rS2.get (k := ja) hjt
    have rxe : Hid (rootA Cn (ja : Int) = rx) := by unfold Hid rootA; simp [List.getD, hrx.out]
    have hjt2 : (ja : Int) < (t2 : Int) := by have := lS2.out; omega
    have hj0 : (0 : Int) ≤ (ja : Int) := by omega
    have s4 := hb3.size
    have X4 := X3.below hb3
    have Y4 := Y3.below hb3
    have CV4 := CV3.below hb3
    have O4 := O3.below hb3
    have HB4 := HB3.below hb3
    have HN4 := HN3.below hb3
    have B4 := B3.trans (hb3.mono B3.size)
    have HMo := Bv.withStore' HN3 HS (by omega) hb3 ((k : Int) + 1) false
    have rS9 := rS2
    clear R1 X3 Y3 CV3 O3 HB3 HN3 x0 x1 x2 x3 x4 x5 x6 x7 x8 x9 o0 o1 o2 rS2 hrx
    obtain ⟨⟨x0, x1, x2, x3, x4, x5, x6, x7, x8, x9⟩, ⟨f0, f1, f2, f3, f4, f5, f6, f7, f8, f9⟩⟩ := CV4.cells
    obtain ⟨⟨q0, q1, q2, q3, q4, q5, q6, q7, q8, q9⟩, ⟨k0, k1, k2, k3, k4, k5, k6, k7, k8, k9⟩⟩ := Y4.cells
    obtain ⟨o0, o1, o2, -⟩ := O4.cells
    have lx := X4.lt
    have ly := Y4.lt
    have lc := CV4.lt
    have lo4 := O4.lt
    go_wp2_with fail
    have Y9 := Y4.far4 (c := w1.heap.size) (by omega) (.slice S0 t0 u0) (.slice S1 t1 u1) (.slice (some ⟨g2, 0, none⟩) t2 u2) (.slice S3 t3 u3)
    have HM9 := (((HMo.setT CV4 0 (.slice S0 t0 u0)).setT (CV4.set0 (.slice S0 t0 u0)) 1 (.slice S1 t1 u1)).setT ((CV4.set0 (.slice S0 t0 u0)).set1 (.slice S1 t1 u1)) 2 (.slice (some ⟨g2, 0, none⟩) t2 u2)).setT (((CV4.set0 (.slice S0 t0 u0)).set1 (.slice S1 t1 u1)).set2 (.slice (some ⟨g2, 0, none⟩) t2 u2)) 3 (.slice S3 t3 u3)
    have B9 := below_set4b B4 (c := w1.heap.size) (by omega) (.slice S0 t0 u0) (.slice S1 t1 u1) (.slice (some ⟨g2, 0, none⟩) t2 u2) (.slice S3 t3 u3)
    have YF := (Y9.set10 (.slice S0 t0 u0) (.slice S1 t1 u1) (.slice (some ⟨g2, 0, none⟩) t2 u2) (.slice S3 t3 u3) (.int .i64 p) (.slice D4 e4 d4) (.int .i64 a) (.slice D5 e5 d5) (.int .i64 ((k : Int) + 1)) (.bool false)).alloc (.cells #[.slice S0 t0 u0, .slice S1 t1 u1, .slice (some ⟨g2, 0, none⟩) t2 u2, .slice S3 t3 u3] 27)
    have HF := (HM9.low10 (c := w.heap.size + 1) (by omega) (.slice S0 t0 u0) (.slice S1 t1 u1) (.slice (some ⟨g2, 0, none⟩) t2 u2) (.slice S3 t3 u3) (.int .i64 p) (.slice D4 e4 d4) (.int .i64 a) (.slice D5 e5 d5) (.int .i64 ((k : Int) + 1)) (.bool false)).alloc (.cells #[.slice S0 t0 u0, .slice S1 t1 u1, .slice (some ⟨g2, 0, none⟩) t2 u2, .slice S3 t3 u3] 27)
    have FF := (below_set10 B9 (c := w.heap.size + 1) (by omega) (.slice S0 t0 u0) (.slice S1 t1 u1) (.slice (some ⟨g2, 0, none⟩) t2 u2) (.slice S3 t3 u3) (.int .i64 p) (.slice D4 e4 d4) (.int .i64 a) (.slice D5 e5 d5) (.int .i64 ((k : Int) + 1)) (.bool false)).alloc (by (try simp [World.setCell]); omega) (.cells #[.slice S0 t0 u0, .slice S1 t1 u1, .slice (some ⟨g2, 0, none⟩) t2 u2, .slice S3 t3 u3] 27)
    generalize (((((((((((((((w3.setCell ⟨w1.heap.size, 0, none⟩ (.slice S0 t0 u0)).setCell ⟨w1.heap.size, 1, none⟩ (.slice S1 t1 u1)).setCell ⟨w1.heap.size, 2, none⟩ (.slice (some ⟨g2, 0, none⟩) t2 u2)).setCell ⟨w1.heap.size, 3, none⟩ (.slice S3 t3 u3)).setCell ⟨w.heap.size + 1, 0, none⟩ (.slice S0 t0 u0)).setCell ⟨w.heap.size + 1, 1, none⟩ (.slice S1 t1 u1)).setCell ⟨w.heap.size + 1, 2, none⟩ (.slice (some ⟨g2, 0, none⟩) t2 u2)).setCell ⟨w.heap.size + 1, 3, none⟩ (.slice S3 t3 u3)).setCell ⟨w.heap.size + 1, 4, none⟩ (.int .i64 p)).setCell ⟨w.heap.size + 1, 5, none⟩ (.slice D4 e4 d4)).setCell ⟨w.heap.size + 1, 6, none⟩ (.int .i64 a)).setCell ⟨w.heap.size + 1, 7, none⟩ (.slice D5 e5 d5)).setCell ⟨w.heap.size + 1, 8, none⟩ (.int .i64 ((k : Int) + 1))).setCell ⟨w.heap.size + 1, 9, none⟩ (.bool false)).alloc (.cells #[.slice S0 t0 u0, .slice S1 t1 u1, .slice (some ⟨g2, 0, none⟩) t2 u2, .slice S3 t3 u3] 27)) = WF at YF HF FF ⊢
    obtain ⟨⟨v0, v1, v2, v3, v4, v5, v6, v7, v8, v9⟩, -⟩ := YF.cells
    refine bodyPost_ret (v := .agg #[.slice S0 t0 u0, .slice S1 t1 u1, .slice (some ⟨g2, 0, none⟩) t2 u2, .slice S3 t3 u3, .int .i64 p, .slice D4 e4 d4, .int .i64 a, .slice D5 e5 d5, .int .i64 ((k : Int) + 1), .bool false]) ?_ rfl ⟨_, rfl, HF.mono (by omega), FF⟩
    simp [results, Try.results65, go_sem, v0, v1, v2, v3, v4, v5, v6, v7, v8, v9]
  · have ht2 : (tg != -1) = true := by simpa using htg
    have g2e : gc2 Cn ⟨p, cc, a⟩ tg true = (shadeGO Cn ⟨p, cc, a⟩ tg).getD Gp.zero := by unfold gc2; rw [if_pos ⟨rfl, htg⟩]
    rw [g2e]
    clear g2e htg
    have KC := fun W lo vs vg h => specShadeGc_any W lo vs vg Cn ⟨p, cc, a⟩ h tg
    unfold OptGv at KC
    generalize (shadeGO Cn ⟨p, cc, a⟩ tg).getD Gp.zero = G1 at KC ⊢
    generalize (shadeGO Cn ⟨p, cc, a⟩ tg).isSome = kk at KC
    obtain ⟨p1, cc1, a1⟩ := G1
    go_enter Try.func65, Try.ntmps65
    go_wp2_with fail
    (try rw [hW])
    refine (CP _ lo _ HB).mono ?_; rintro e w1 ⟨v1, rfl, HN, hb1⟩
    obtain ⟨D0, e0, d0, D1, e1, d1, D2, e2, d2, D3, e3, d3, D4, e4, d4, D5, e5, d5, rfl⟩ := HN.shape
    have s1 := hb1.size
    have HN1 : Bv w1 W.heap.size (.agg #[.slice D0 e0 d0, .slice D1 e1 d1, .slice D2 e2 d2, .slice D3 e3 d3, .int .i64 p, .slice D4 e4 d4, .int .i64 a, .slice D5 e5 d5, .int .i64 ((k : Int) + 1), .bool false]) ⟨C, ⟨p, cc, a⟩, os, (k : Int) + 1, false⟩ := by
      obtain ⟨_, _, _, _, _, _, e, hc, ho, _⟩ := HN
      cases e
      exact Bv.mk0 hc ho _ _
    have c0 := (hb1.cell (p := ⟨g5, k * 3, none⟩) hg5).trans o0
    have c1 := (hb1.cell (p := ⟨g5, k * 3 + 1, none⟩) hg5).trans o1
    have c2 := (hb1.cell (p := ⟨g5, k * 3 + 2, none⟩) hg5).trans o2
    have lg1 : g5 < w1.heap.size := by omega
    have CV2 := (Blk10.new w1 (.slice D0 e0 d0) (.slice D1 e1 d1) (.slice D2 e2 d2) (.slice D3 e3 d3) (.int .i64 p) (.slice D4 e4 d4) (.int .i64 a) (.slice D5 e5 d5) (.int .i64 ((k : Int) + 1)) (.bool false) 34).alloc (.cells #[.int .i64 ok, .int .i64 (ja : Int), .int .i64 oq] 70)
    have X2 := ((X.below hb1).alloc (.cells #[.slice D0 e0 d0, .slice D1 e1 d1, .slice D2 e2 d2, .slice D3 e3 d3, .int .i64 p, .slice D4 e4 d4, .int .i64 a, .slice D5 e5 d5, .int .i64 ((k : Int) + 1), .bool false] 34)).alloc (.cells #[.int .i64 ok, .int .i64 (ja : Int), .int .i64 oq] 70)
    have Y2 := ((Y.below hb1).alloc (.cells #[.slice D0 e0 d0, .slice D1 e1 d1, .slice D2 e2 d2, .slice D3 e3 d3, .int .i64 p, .slice D4 e4 d4, .int .i64 a, .slice D5 e5 d5, .int .i64 ((k : Int) + 1), .bool false] 34)).alloc (.cells #[.int .i64 ok, .int .i64 (ja : Int), .int .i64 oq] 70)
    have HB2 := ((HB.below hb1).alloc (.cells #[.slice D0 e0 d0, .slice D1 e1 d1, .slice D2 e2 d2, .slice D3 e3 d3, .int .i64 p, .slice D4 e4 d4, .int .i64 a, .slice D5 e5 d5, .int .i64 ((k : Int) + 1), .bool false] 34)).alloc (.cells #[.int .i64 ok, .int .i64 (ja : Int), .int .i64 oq] 70)
    have HN2 := (HN1.alloc (.cells #[.slice D0 e0 d0, .slice D1 e1 d1, .slice D2 e2 d2, .slice D3 e3 d3, .int .i64 p, .slice D4 e4 d4, .int .i64 a, .slice D5 e5 d5, .int .i64 ((k : Int) + 1), .bool false] 34)).alloc (.cells #[.int .i64 ok, .int .i64 (ja : Int), .int .i64 oq] 70)
    have O2 := Blk3.new_at (w := w1.alloc (.cells #[.slice D0 e0 d0, .slice D1 e1 d1, .slice D2 e2 d2, .slice D3 e3 d3, .int .i64 p, .slice D4 e4 d4, .int .i64 a, .slice D5 e5 d5, .int .i64 ((k : Int) + 1), .bool false] 34)) (b := w1.heap.size + 1) (by simp) (.int .i64 ok) (.int .i64 (ja : Int)) (.int .i64 oq) 70
    have B2 := ((BB.trans (hb1.mono BB.size)).alloc (by omega) (.cells #[.slice D0 e0 d0, .slice D1 e1 d1, .slice D2 e2 d2, .slice D3 e3 d3, .int .i64 p, .slice D4 e4 d4, .int .i64 a, .slice D5 e5 d5, .int .i64 ((k : Int) + 1), .bool false] 34)).alloc (by (try simp); omega) (.cells #[.int .i64 ok, .int .i64 (ja : Int), .int .i64 oq] 70)
    obtain ⟨⟨y0, y1, y2, y3, y4, y5, y6, y7, y8, y9⟩, -⟩ := (X.below hb1).cells
    have lx := (X.below hb1).lt
    have ly := (Y.below hb1).lt
    have s2 : w1.heap.size + 2 ≤ ((w1.alloc (.cells #[.slice D0 e0 d0, .slice D1 e1 d1, .slice D2 e2 d2, .slice D3 e3 d3, .int .i64 p, .slice D4 e4 d4, .int .i64 a, .slice D5 e5 d5, .int .i64 ((k : Int) + 1), .bool false] 34)).alloc (.cells #[.int .i64 ok, .int .i64 (ja : Int), .int .i64 oq] 70)).heap.size := by simp
    have TT := specTargetOf_any ((w1.alloc (.cells #[.slice D0 e0 d0, .slice D1 e1 d1, .slice D2 e2 d2, .slice D3 e3 d3, .int .i64 p, .slice D4 e4 d4, .int .i64 a, .slice D5 e5 d5, .int .i64 ((k : Int) + 1), .bool false] 34)).alloc (.cells #[.int .i64 ok, .int .i64 (ja : Int), .int .i64 oq] 70)) lo _ C HB2.cg.cv ⟨ok, (ja : Int), oq⟩
    rw [hTn.out] at TT
    clear x0 x1 x2 x3 x4 x5 x6 x7 x8 x9 X Y HB HC HO o0 o1 o2 CP
    go_wp2_with fail
    refine TT.mono ?_; rintro e w2 ⟨rfl, hb2⟩
    have s3 := hb2.size
    have X3 := X2.below hb2
    have Y3 := Y2.below hb2
    have CV3 := CV2.below hb2
    have O3 := O2.below hb2
    have HB3 := HB2.below hb2
    have HN3 := HN2.below hb2
    have B3 := B2.trans (hb2.mono B2.size)
    have R1 := specRunOp_any w2 lo _ C HB3.cg.cv ⟨ok, (ja : Int), oq⟩
    unfold OptCI at R1
    rw [hRb.out, hCn.out, hEn.out] at R1
    clear TT X2 Y2 CV2 O2 HB2 HN2 y0 y1 y2 y3 y4 y5 y6 y7 y8 y9 c0 c1 c2 lx ly
    obtain ⟨⟨x0, x1, x2, x3, x4, x5, x6, x7, x8, x9⟩, -⟩ := X3.cells
    obtain ⟨o0, o1, o2, -⟩ := O3.cells
    go_wp2_with fail
    refine R1.mono ?_; rintro e w3 ⟨v3, rfl, HS, hb3⟩
    obtain ⟨S0, t0, u0, S1, t1, u1, S2, t2, u2, S3, t3, u3, rfl, _, ⟨_, _, rS2, _⟩, ⟨_, _, lS2, _⟩, -⟩ := HS.open_
    obtain ⟨g2, rx, rfl, _, hg2, hrx, hrc, _⟩ := rS2.get (k := ja) hjt
    have rxe : Hid (rootA Cn (ja : Int) = rx) := by unfold Hid rootA; simp [List.getD, hrx.out]
    have hjt2 : (ja : Int) < (t2 : Int) := by have := lS2.out; omega
    have hj0 : (0 : Int) ≤ (ja : Int) := by omega
    have s4 := hb3.size
    have X4 := X3.below hb3
    have Y4 := Y3.below hb3
    have CV4 := CV3.below hb3
    have O4 := O3.below hb3
    have HB4 := HB3.below hb3
    have HN4 := HN3.below hb3
    have B4 := B3.trans (hb3.mono B3.size)
    have HMo := Bv.withStore' HN3 HS (by omega) hb3 ((k : Int) + 1) false
    have rS9 := rS2
    clear R1 X3 Y3 CV3 O3 HB3 HN3 x0 x1 x2 x3 x4 x5 x6 x7 x8 x9 o0 o1 o2 rS2 hrx
    obtain ⟨⟨x0, x1, x2, x3, x4, x5, x6, x7, x8, x9⟩, ⟨f0, f1, f2, f3, f4, f5, f6, f7, f8, f9⟩⟩ := CV4.cells
    obtain ⟨⟨q0, q1, q2, q3, q4, q5, q6, q7, q8, q9⟩, ⟨k0, k1, k2, k3, k4, k5, k6, k7, k8, k9⟩⟩ := Y4.cells
    obtain ⟨o0, o1, o2, -⟩ := O4.cells
    have lx := X4.lt
    have ly := Y4.lt
    have lc := CV4.lt
    have lo4 := O4.lt
    go_wp2_with fail
    have CV5 := (CV4.set03 (.slice S0 t0 u0) (.slice S1 t1 u1) (.slice (some ⟨g2, 0, none⟩) t2 u2) (.slice S3 t3 u3)).alloc (.cells #[.slice S0 t0 u0, .slice S1 t1 u1, .slice (some ⟨g2, 0, none⟩) t2 u2, .slice S3 t3 u3] 27)
    have X5 := (X4.far4 (c := w1.heap.size) (by omega) (.slice S0 t0 u0) (.slice S1 t1 u1) (.slice (some ⟨g2, 0, none⟩) t2 u2) (.slice S3 t3 u3)).alloc (.cells #[.slice S0 t0 u0, .slice S1 t1 u1, .slice (some ⟨g2, 0, none⟩) t2 u2, .slice S3 t3 u3] 27)
    have Y5 := (Y4.far4 (c := w1.heap.size) (by omega) (.slice S0 t0 u0) (.slice S1 t1 u1) (.slice (some ⟨g2, 0, none⟩) t2 u2) (.slice S3 t3 u3)).alloc (.cells #[.slice S0 t0 u0, .slice S1 t1 u1, .slice (some ⟨g2, 0, none⟩) t2 u2, .slice S3 t3 u3] 27)
    have O5 := (Blk3.far4O O4 (c := w1.heap.size) (by omega) (.slice S0 t0 u0) (.slice S1 t1 u1) (.slice (some ⟨g2, 0, none⟩) t2 u2) (.slice S3 t3 u3)).alloc (.cells #[.slice S0 t0 u0, .slice S1 t1 u1, .slice (some ⟨g2, 0, none⟩) t2 u2, .slice S3 t3 u3] 27)
    have HM5 := ((((HMo.setT CV4 0 (.slice S0 t0 u0)).setT (CV4.set0 (.slice S0 t0 u0)) 1 (.slice S1 t1 u1)).setT ((CV4.set0 (.slice S0 t0 u0)).set1 (.slice S1 t1 u1)) 2 (.slice (some ⟨g2, 0, none⟩) t2 u2)).setT (((CV4.set0 (.slice S0 t0 u0)).set1 (.slice S1 t1 u1)).set2 (.slice (some ⟨g2, 0, none⟩) t2 u2)) 3 (.slice S3 t3 u3)).alloc (.cells #[.slice S0 t0 u0, .slice S1 t1 u1, .slice (some ⟨g2, 0, none⟩) t2 u2, .slice S3 t3 u3] 27)
    have B5 := (below_set4b B4 (c := w1.heap.size) (by omega) (.slice S0 t0 u0) (.slice S1 t1 u1) (.slice (some ⟨g2, 0, none⟩) t2 u2) (.slice S3 t3 u3)).alloc (by (try simp [World.setCell]); omega) (.cells #[.slice S0 t0 u0, .slice S1 t1 u1, .slice (some ⟨g2, 0, none⟩) t2 u2, .slice S3 t3 u3] 27)
    have T5 := Blk4.new_at (w := ((((w3.setCell ⟨w1.heap.size, 0, none⟩ (.slice S0 t0 u0)).setCell ⟨w1.heap.size, 1, none⟩ (.slice S1 t1 u1)).setCell ⟨w1.heap.size, 2, none⟩ (.slice (some ⟨g2, 0, none⟩) t2 u2)).setCell ⟨w1.heap.size, 3, none⟩ (.slice S3 t3 u3))) (b := w3.heap.size) (by simp [World.setCell]) (.slice S0 t0 u0) (.slice S1 t1 u1) (.slice (some ⟨g2, 0, none⟩) t2 u2) (.slice S3 t3 u3) 27
    have hne2 : w1.heap.size ≠ g2 := fun e => rowTy rS9 CV4 (by rw [e]; rfl)
    have hrc5 := cellA ((World.cell?_setCell_far _ ⟨w1.heap.size, 3, none⟩ _ (.slice S3 t3 u3) hne2).trans ((World.cell?_setCell_far _ ⟨w1.heap.size, 2, none⟩ _ (.slice (some ⟨g2, 0, none⟩) t2 u2) hne2).trans ((World.cell?_setCell_far _ ⟨w1.heap.size, 1, none⟩ _ (.slice S1 t1 u1) hne2).trans ((World.cell?_setCell_far _ ⟨w1.heap.size, 0, none⟩ _ (.slice S0 t0 u0) hne2).trans hrc)))) (.cells #[.slice S0 t0 u0, .slice S1 t1 u1, .slice (some ⟨g2, 0, none⟩) t2 u2, .slice S3 t3 u3] 27)
    have s5 : w3.heap.size + 1 ≤ (((((w3.setCell ⟨w1.heap.size, 0, none⟩ (.slice S0 t0 u0)).setCell ⟨w1.heap.size, 1, none⟩ (.slice S1 t1 u1)).setCell ⟨w1.heap.size, 2, none⟩ (.slice (some ⟨g2, 0, none⟩) t2 u2)).setCell ⟨w1.heap.size, 3, none⟩ (.slice S3 t3 u3)).alloc (.cells #[.slice S0 t0 u0, .slice S1 t1 u1, .slice (some ⟨g2, 0, none⟩) t2 u2, .slice S3 t3 u3] 27)).heap.size := by simp [World.setCell]
    clear CV4 X4 Y4 O4 HMo HN4 HB4 B4 x0 x1 x2 x3 x4 x5 x6 x7 x8 x9 f0 f1 f2 f3 f4 f5 f6 f7 f8 f9 q0 q1 q2 q3 q4 q5 q6 q7 q8 q9 k0 k1 k2 k3 k4 k5 k6 k7 k8 k9 o0 o1 o2 lx ly lc lo4 hrc HS
    generalize (((((w3.setCell ⟨w1.heap.size, 0, none⟩ (.slice S0 t0 u0)).setCell ⟨w1.heap.size, 1, none⟩ (.slice S1 t1 u1)).setCell ⟨w1.heap.size, 2, none⟩ (.slice (some ⟨g2, 0, none⟩) t2 u2)).setCell ⟨w1.heap.size, 3, none⟩ (.slice S3 t3 u3)).alloc (.cells #[.slice S0 t0 u0, .slice S1 t1 u1, .slice (some ⟨g2, 0, none⟩) t2 u2, .slice S3 t3 u3] 27)) = W5 at CV5 X5 Y5 O5 HM5 B5 T5 s5 hrc5 ⊢
    refine (KC _ _ _ _ HM5.cg).mono ?_; rintro e w6 ⟨vg, rfl, HG, hb6⟩
    obtain ⟨A9, n9, c9, hv9, -⟩ := HG.open_
    dsimp only at hv9
    subst hv9
    have s6 := hb6.size
    have CV6 := CV5.below hb6
    have Y6 := Y5.below hb6
    have HM6 := Bv.withGc HM5 HG (by omega) hb6
    have B6 := B5.trans (hb6.mono B5.size)
    clear CV5 X5 Y5 O5 HM5 B5 T5 hrc5 KC
    obtain ⟨⟨x0, x1, x2, x3, x4, x5, x6, x7, x8, x9⟩, ⟨f0, f1, f2, f3, f4, f5, f6, f7, f8, f9⟩⟩ := CV6.cells
    obtain ⟨⟨q0, q1, q2, q3, q4, q5, q6, q7, q8, q9⟩, ⟨k0, k1, k2, k3, k4, k5, k6, k7, k8, k9⟩⟩ := Y6.cells
    have CV7 := CV6.set46 (.int .i64 p1) (.slice A9 n9 c9) (.int .i64 a1)
    have Y7 := Y6.far3 (c := w1.heap.size) (by omega) (.int .i64 p1) (.slice A9 n9 c9) (.int .i64 a1)
    have HM7 := ((HM6.setT CV6 4 (.int .i64 p1)).setT (CV6.set4 (.int .i64 p1)) 5 (.slice A9 n9 c9)).setT ((CV6.set4 (.int .i64 p1)).set5 (.slice A9 n9 c9)) 6 (.int .i64 a1)
    have B7 := below_set3b B6 (c := w1.heap.size) (by omega) (.int .i64 p1) (.slice A9 n9 c9) (.int .i64 a1)
    obtain ⟨⟨y0, y1, y2, y3, y4, y5, y6, y7, y8, y9⟩, -⟩ := CV7.cells
    obtain ⟨⟨z0, z1, z2, z3, z4, z5, z6, z7, z8, z9⟩, ⟨zk0, zk1, zk2, zk3, zk4, zk5, zk6, zk7, zk8, zk9⟩⟩ := Y7.cells
    have lc := CV6.lt
    have ly := Y6.lt
    go_wp2_with fail
    have YF := (Y7.set10 (.slice S0 t0 u0) (.slice S1 t1 u1) (.slice (some ⟨g2, 0, none⟩) t2 u2) (.slice S3 t3 u3) (.int .i64 p1) (.slice A9 n9 c9) (.int .i64 a1) (.slice D5 e5 d5) (.int .i64 ((k : Int) + 1)) (.bool false)).alloc (.cells #[.int .i64 p1, .slice A9 n9 c9, .int .i64 a1] 32)
    have HF := (HM7.low10 (c := w.heap.size + 1) (by omega) (.slice S0 t0 u0) (.slice S1 t1 u1) (.slice (some ⟨g2, 0, none⟩) t2 u2) (.slice S3 t3 u3) (.int .i64 p1) (.slice A9 n9 c9) (.int .i64 a1) (.slice D5 e5 d5) (.int .i64 ((k : Int) + 1)) (.bool false)).alloc (.cells #[.int .i64 p1, .slice A9 n9 c9, .int .i64 a1] 32)
    have FF := (below_set10 B7 (c := w.heap.size + 1) (by omega) (.slice S0 t0 u0) (.slice S1 t1 u1) (.slice (some ⟨g2, 0, none⟩) t2 u2) (.slice S3 t3 u3) (.int .i64 p1) (.slice A9 n9 c9) (.int .i64 a1) (.slice D5 e5 d5) (.int .i64 ((k : Int) + 1)) (.bool false)).alloc (by (try simp [World.setCell]); omega) (.cells #[.int .i64 p1, .slice A9 n9 c9, .int .i64 a1] 32)
    generalize ((((((((((((((w6.setCell ⟨w1.heap.size, 4, none⟩ (.int .i64 p1)).setCell ⟨w1.heap.size, 5, none⟩ (.slice A9 n9 c9)).setCell ⟨w1.heap.size, 6, none⟩ (.int .i64 a1)).setCell ⟨w.heap.size + 1, 0, none⟩ (.slice S0 t0 u0)).setCell ⟨w.heap.size + 1, 1, none⟩ (.slice S1 t1 u1)).setCell ⟨w.heap.size + 1, 2, none⟩ (.slice (some ⟨g2, 0, none⟩) t2 u2)).setCell ⟨w.heap.size + 1, 3, none⟩ (.slice S3 t3 u3)).setCell ⟨w.heap.size + 1, 4, none⟩ (.int .i64 p1)).setCell ⟨w.heap.size + 1, 5, none⟩ (.slice A9 n9 c9)).setCell ⟨w.heap.size + 1, 6, none⟩ (.int .i64 a1)).setCell ⟨w.heap.size + 1, 7, none⟩ (.slice D5 e5 d5)).setCell ⟨w.heap.size + 1, 8, none⟩ (.int .i64 ((k : Int) + 1))).setCell ⟨w.heap.size + 1, 9, none⟩ (.bool false)).alloc (.cells #[.int .i64 p1, .slice A9 n9 c9, .int .i64 a1] 32)) = WF at YF HF FF ⊢
    obtain ⟨⟨v0, v1, v2, v3, v4, v5, v6, v7, v8, v9⟩, -⟩ := YF.cells
    refine bodyPost_ret (v := .agg #[.slice S0 t0 u0, .slice S1 t1 u1, .slice (some ⟨g2, 0, none⟩) t2 u2, .slice S3 t3 u3, .int .i64 p1, .slice A9 n9 c9, .int .i64 a1, .slice D5 e5 d5, .int .i64 ((k : Int) + 1), .bool false]) ?_ rfl ⟨_, rfl, HF.mono (by omega), FF⟩
    simp [results, Try.results65, go_sem, v0, v1, v2, v3, v4, v5, v6, v7, v8, v9]

end Go.Proofs.Ytdifplakkepnkaa
