/- NewBoth of impl and of spec. -/
import Derived.Test.YtdifplakkepnkaaBVal
import Derived.Test.YtdifplakkepnkaaCopyB
import Derived.Test.YtdifplakkepnkaaGSms
import Derived.Test.YtdifplakkepnkaaExactT
namespace Go.Proofs.Ytdifplakkepnkaa
open Go.RowKit

theorem cvB_rep {C : Cp} (h : stoB C = true) : gcB C ⟨0, List.replicate C.h.l.length 0, 0⟩ = true := by
  rw [gcB_iff]
  refine ⟨h, ?_, ?_⟩
  · have h1 := (stoB_parts h).1
    unfold cvB
    simp only [h1, List.length_replicate, decide_true, Bool.true_and, List.all_eq_true]
    intro x hx
    rw [List.eq_of_mem_replicate hx]; rfl
  · rw [phB_iff]; exact .inl ⟨.inl rfl, rfl⟩
def newBo (C : Cp) (os : List Opv) : Option Bp := if bothB ⟨C, (newG C).getD Gp.zero, os, 0, false⟩ = true then some ⟨C, (newG C).getD Gp.zero, os, 0, false⟩ else none
theorem newBo_sto {C : Cp} {os : List Opv} (h : stoB C = false) : newBo C os = none := by
  unfold newBo
  rw [if_neg]
  intro h9
  have := (gcB_iff.1 (bothB_iff.1 h9).1).1
  dsimp only at this
  rw [h] at this; cases this
theorem newBo_ops {C : Cp} {os : List Opv} (h : (decide (os.length ≤ 12) && opsB C.h.t.length os) = false) : newBo C os = none := by
  unfold newBo
  rw [if_neg]
  intro h9
  have := (bothB_iff.1 h9).2.1
  dsimp only at this
  rw [decide_eq_true this.1, this.2] at h; cases h
theorem newBo_some {C : Cp} {os : List Opv} (h : stoB C = true) (ho : (decide (os.length ≤ 12) && opsB C.h.t.length os) = true) : newBo C os = some ⟨C, ⟨0, List.replicate C.h.l.length 0, 0⟩, os, 0, false⟩ := by
  have e : (newG C).getD Gp.zero = ⟨0, List.replicate C.h.l.length 0, 0⟩ := by unfold newG; rw [if_pos h]; rfl
  unfold newBo
  rw [e, if_pos]
  rw [bothB_iff]
  simp only [Bool.and_eq_true, decide_eq_true_eq] at ho
  exact ⟨cvB_rep h, ho, by simp, by simp⟩
theorem newBo_short (C : Cp) (os : List Opv) : let B := (newBo C os).getD Bp.zero; B.C.h.l.length ≤ 1048576 ∧ B.C.h.r.length ≤ 1048576 ∧ B.C.h.t.length ≤ 1048576 ∧ B.C.c.length ≤ 1048576 ∧ B.G.c.length ≤ 1048576 ∧ B.os.length ≤ 1048576 := by
  intro B
  show ((newBo C os).getD Bp.zero).C.h.l.length ≤ 1048576 ∧ _
  unfold B newBo
  split
  · rename_i h
    obtain ⟨h1, h2, _⟩ := bothB_iff.1 h
    obtain ⟨h3, _⟩ := gcB_iff.1 h1
    obtain ⟨q1, ⟨q2, q3⟩, q4, q5, q6⟩ := gcB_sizes h1
    obtain ⟨_, q7, _⟩ := stoB_parts h3
    have := hvB_len (stoB_parts h3).1
    have q9 := h2.1
    simp only [Option.getD_some] at *
    refine ⟨by omega, by omega, by omega, by omega, by omega, by omega⟩
  · simp [Bp.zero, Cp.zero, Hp.zero, Gp.zero]
set_option maxRecDepth 100000 in
set_option maxHeartbeats 4000000 in
theorem implNewBoth_any (w : World) (lo lo2 : Nat) (v u : Value) (C : Cp) (os : List Opv) (hv : Cv w lo v C) (hu : ORow w lo2 u os) : Calls Try.prog 9 #[v, u] w (OptBv w (newBo C os)) := by
  obtain ⟨A0, n0, c0, A1, n1, c1, A2, n2, c2, A3, n3, c3, rfl, hh, ⟨r0, r1, r2, r3⟩, ⟨l0, l1, l2, l3⟩, ⟨m0, m1, m2, m3⟩, -⟩ := hv.open_
  obtain ⟨A5, c5, rfl, -⟩ := hu.form
  obtain ⟨n5, l5⟩ : ∃ n5, Hid (os.length = n5) := ⟨_, rfl⟩
  rw [l5.out] at hu ⊢
  have X := (Blk4.new w (.slice A0 n0 c0) (.slice A1 n1 c1) (.slice A2 n2 c2) (.slice A3 n3 c3) 27).alloc (.cells #[.slice none 0 0, .slice none 0 0, .slice none 0 0, .slice none 0 0, .int .i64 0, .slice none 0 0, .int .i64 0, .slice none 0 0, .int .i64 0, .bool false] 34)
  have Y := Blk10.new_at (w := w.alloc (.cells #[.slice A0 n0 c0, .slice A1 n1 c1, .slice A2 n2 c2, .slice A3 n3 c3] 27)) (b := w.heap.size + 1) (by simp) (.slice none 0 0) (.slice none 0 0) (.slice none 0 0) (.slice none 0 0) (.int .i64 0) (.slice none 0 0) (.int .i64 0) (.slice none 0 0) (.int .i64 0) (.bool false) 34
  have HV := ((Cv.mono hv (Nat.zero_le lo)).alloc (.cells #[.slice A0 n0 c0, .slice A1 n1 c1, .slice A2 n2 c2, .slice A3 n3 c3] 27)).alloc (.cells #[.slice none 0 0, .slice none 0 0, .slice none 0 0, .slice none 0 0, .int .i64 0, .slice none 0 0, .int .i64 0, .slice none 0 0, .int .i64 0, .bool false] 34)
  have HU := ((ORow.mono hu (Nat.zero_le lo2)).alloc (.cells #[.slice A0 n0 c0, .slice A1 n1 c1, .slice A2 n2 c2, .slice A3 n3 c3] 27)).alloc (.cells #[.slice none 0 0, .slice none 0 0, .slice none 0 0, .slice none 0 0, .int .i64 0, .slice none 0 0, .int .i64 0, .slice none 0 0, .int .i64 0, .bool false] 34)
  have BB : Below w.heap.size w ((w.alloc (.cells #[.slice A0 n0 c0, .slice A1 n1 c1, .slice A2 n2 c2, .slice A3 n3 c3] 27)).alloc (.cells #[.slice none 0 0, .slice none 0 0, .slice none 0 0, .slice none 0 0, .int .i64 0, .slice none 0 0, .int .i64 0, .slice none 0 0, .int .i64 0, .bool false] 34)) := ((Below.refl _ _).alloc (Nat.le_refl _) _).alloc (by simp) _
  have sz : w.heap.size + 2 ≤ ((w.alloc (.cells #[.slice A0 n0 c0, .slice A1 n1 c1, .slice A2 n2 c2, .slice A3 n3 c3] 27)).alloc (.cells #[.slice none 0 0, .slice none 0 0, .slice none 0 0, .slice none 0 0, .int .i64 0, .slice none 0 0, .int .i64 0, .slice none 0 0, .int .i64 0, .bool false] 34)).heap.size := by simp
  generalize hW : (w.alloc (.cells #[.slice A0 n0 c0, .slice A1 n1 c1, .slice A2 n2 c2, .slice A3 n3 c3] 27)).alloc (.cells #[.slice none 0 0, .slice none 0 0, .slice none 0 0, .slice none 0 0, .int .i64 0, .slice none 0 0, .int .i64 0, .slice none 0 0, .int .i64 0, .bool false] 34) = W at X Y HV HU BB sz
  clear hv hu hh r0 r1 r2 r3
  have V1 := implNewGc_any W 0 _ C HV
  obtain ⟨x0, x1, x2, x3, _⟩ := X.cells
  have hd : newBo C os = if bothB ⟨C, (newG C).getD Gp.zero, os, 0, false⟩ = true then some ⟨C, (newG C).getD Gp.zero, os, 0, false⟩ else none := rfl
  unfold OptGv at V1
  generalize (newG C).getD Gp.zero = G0 at V1 hd
  generalize (newG C).isSome = k0 at V1
  obtain ⟨gp, gcc, ga⟩ := G0
  rcases eb : bothB ⟨C, ⟨gp, gcc, ga⟩, os, 0, false⟩
  · rw [hd, eb]
    simp only [Bool.false_eq_true, if_false]
    clear hd
    go_enter Try.func9, Try.ntmps9
    go_wp2_with fail
    (try rw [hW])
    refine V1.mono ?_; rintro e w1 ⟨vg, rfl, HG, hb1⟩
    obtain ⟨A4, n4, c4, hv9, RG, l4, -⟩ := HG.open_
    dsimp only at hv9 RG l4
    subst hv9
    have s1 := hb1.size
    have CG := CGv.mk (G := ⟨gp, gcc, ga⟩) HV HG (Nat.zero_le _) hb1
    have HB := ((Bv.mk0 CG (HU.below hb1) 0 false).alloc (.cells #[.int .i64 gp, .slice A4 n4 c4, .int .i64 ga] 32)).alloc (.cells #[.slice A0 n0 c0, .slice A1 n1 c1, .slice A2 n2 c2, .slice A3 n3 c3, .int .i64 gp, .slice A4 n4 c4, .int .i64 ga, .slice A5 n5 c5, .int .i64 0, .bool false] 34)
    have X1 := ((X.below hb1).alloc (.cells #[.int .i64 gp, .slice A4 n4 c4, .int .i64 ga] 32)).alloc (.cells #[.slice A0 n0 c0, .slice A1 n1 c1, .slice A2 n2 c2, .slice A3 n3 c3, .int .i64 gp, .slice A4 n4 c4, .int .i64 ga, .slice A5 n5 c5, .int .i64 0, .bool false] 34)
    have Y1 := ((Y.below hb1).alloc (.cells #[.int .i64 gp, .slice A4 n4 c4, .int .i64 ga] 32)).alloc (.cells #[.slice A0 n0 c0, .slice A1 n1 c1, .slice A2 n2 c2, .slice A3 n3 c3, .int .i64 gp, .slice A4 n4 c4, .int .i64 ga, .slice A5 n5 c5, .int .i64 0, .bool false] 34)
    have Z1 := Blk10.new_at (w := w1.alloc (.cells #[.int .i64 gp, .slice A4 n4 c4, .int .i64 ga] 32)) (b := w1.heap.size + 1) (by simp) (.slice A0 n0 c0) (.slice A1 n1 c1) (.slice A2 n2 c2) (.slice A3 n3 c3) (.int .i64 gp) (.slice A4 n4 c4) (.int .i64 ga) (.slice A5 n5 c5) (.int .i64 0) (.bool false) 34
    have B1 : Below w.heap.size w ((w1.alloc (.cells #[.int .i64 gp, .slice A4 n4 c4, .int .i64 ga] 32)).alloc (.cells #[.slice A0 n0 c0, .slice A1 n1 c1, .slice A2 n2 c2, .slice A3 n3 c3, .int .i64 gp, .slice A4 n4 c4, .int .i64 ga, .slice A5 n5 c5, .int .i64 0, .bool false] 34)) := ((BB.trans (hb1.mono BB.size)).alloc (by omega) _).alloc (by simp; omega) _
    obtain ⟨y0, y1, y2, y3, _⟩ := (X.below hb1).cells
    have lx := (X.below hb1).lt
    have ly := (Y.below hb1).lt
    have V2 := implBothValid_any _ 0 _ _ HB
    rw [eb] at V2
    clear x0 x1 x2 x3 V1
    go_wp2_with fail
    refine V2.mono ?_; rintro e w2 ⟨rfl, hb2⟩
    have s2 := hb2.size
    simp at s2
    have Y2 := Y1.below hb2
    have Z2 := Z1.below hb2
    have B2 := B1.trans (hb2.mono B1.size)
    clear V2 y0 y1 y2 y3 Y1 Z1 X1
    obtain ⟨⟨q0, q1, q2, q3, q4, q5, q6, q7, q8, q9⟩, ⟨k0, k1, k2, k3, k4, k5, k6, k7, k8, k9⟩⟩ := Y2.cells
    have YF := Y2.set10 (.slice none 0 0) (.slice none 0 0) (.slice none 0 0) (.slice none 0 0) (.int .i64 0) (.slice none 0 0) (.int .i64 0) (.slice none 0 0) (.int .i64 0) (.bool false)
    have FF := below_set10 B2 (c := w.heap.size + 1) (by omega) (.slice none 0 0) (.slice none 0 0) (.slice none 0 0) (.slice none 0 0) (.int .i64 0) (.slice none 0 0) (.int .i64 0) (.slice none 0 0) (.int .i64 0) (.bool false)
    go_wp2_with fail
    generalize ((((((((((w2.setCell ⟨w.heap.size + 1, 0, none⟩ (.slice none 0 0)).setCell ⟨w.heap.size + 1, 1, none⟩ (.slice none 0 0)).setCell ⟨w.heap.size + 1, 2, none⟩ (.slice none 0 0)).setCell ⟨w.heap.size + 1, 3, none⟩ (.slice none 0 0)).setCell ⟨w.heap.size + 1, 4, none⟩ (.int .i64 0)).setCell ⟨w.heap.size + 1, 5, none⟩ (.slice none 0 0)).setCell ⟨w.heap.size + 1, 6, none⟩ (.int .i64 0)).setCell ⟨w.heap.size + 1, 7, none⟩ (.slice none 0 0)).setCell ⟨w.heap.size + 1, 8, none⟩ (.int .i64 0)).setCell ⟨w.heap.size + 1, 9, none⟩ (.bool false)) = WF at YF FF ⊢
    obtain ⟨⟨v0, v1, v2, v3, v4, v5, v6, v7, v8, v9⟩, -⟩ := YF.cells
    refine bodyPost_ret (v := .tuple #[.agg #[.slice none 0 0, .slice none 0 0, .slice none 0 0, .slice none 0 0, .int .i64 0, .slice none 0 0, .int .i64 0, .slice none 0 0, .int .i64 0, .bool false], .bool false]) ?_ rfl ⟨_, rfl, Bv.zero _ _, FF⟩
    simp [results, Try.results9, go_sem, v0, v1, v2, v3, v4, v5, v6, v7, v8, v9]
  · rw [hd, eb]
    simp only [if_true]
    clear hd
    go_enter Try.func9, Try.ntmps9
    go_wp2_with fail
    (try rw [hW])
    refine V1.mono ?_; rintro e w1 ⟨vg, rfl, HG, hb1⟩
    obtain ⟨A4, n4, c4, hv9, RG, l4, -⟩ := HG.open_
    dsimp only at hv9 RG l4
    subst hv9
    have s1 := hb1.size
    have CG := CGv.mk (G := ⟨gp, gcc, ga⟩) HV HG (Nat.zero_le _) hb1
    have HB := ((Bv.mk0 CG (HU.below hb1) 0 false).alloc (.cells #[.int .i64 gp, .slice A4 n4 c4, .int .i64 ga] 32)).alloc (.cells #[.slice A0 n0 c0, .slice A1 n1 c1, .slice A2 n2 c2, .slice A3 n3 c3, .int .i64 gp, .slice A4 n4 c4, .int .i64 ga, .slice A5 n5 c5, .int .i64 0, .bool false] 34)
    have X1 := ((X.below hb1).alloc (.cells #[.int .i64 gp, .slice A4 n4 c4, .int .i64 ga] 32)).alloc (.cells #[.slice A0 n0 c0, .slice A1 n1 c1, .slice A2 n2 c2, .slice A3 n3 c3, .int .i64 gp, .slice A4 n4 c4, .int .i64 ga, .slice A5 n5 c5, .int .i64 0, .bool false] 34)
    have Y1 := ((Y.below hb1).alloc (.cells #[.int .i64 gp, .slice A4 n4 c4, .int .i64 ga] 32)).alloc (.cells #[.slice A0 n0 c0, .slice A1 n1 c1, .slice A2 n2 c2, .slice A3 n3 c3, .int .i64 gp, .slice A4 n4 c4, .int .i64 ga, .slice A5 n5 c5, .int .i64 0, .bool false] 34)
    have Z1 := Blk10.new_at (w := w1.alloc (.cells #[.int .i64 gp, .slice A4 n4 c4, .int .i64 ga] 32)) (b := w1.heap.size + 1) (by simp) (.slice A0 n0 c0) (.slice A1 n1 c1) (.slice A2 n2 c2) (.slice A3 n3 c3) (.int .i64 gp) (.slice A4 n4 c4) (.int .i64 ga) (.slice A5 n5 c5) (.int .i64 0) (.bool false) 34
    have B1 : Below w.heap.size w ((w1.alloc (.cells #[.int .i64 gp, .slice A4 n4 c4, .int .i64 ga] 32)).alloc (.cells #[.slice A0 n0 c0, .slice A1 n1 c1, .slice A2 n2 c2, .slice A3 n3 c3, .int .i64 gp, .slice A4 n4 c4, .int .i64 ga, .slice A5 n5 c5, .int .i64 0, .bool false] 34)) := ((BB.trans (hb1.mono BB.size)).alloc (by omega) _).alloc (by simp; omega) _
    obtain ⟨y0, y1, y2, y3, _⟩ := (X.below hb1).cells
    have lx := (X.below hb1).lt
    have ly := (Y.below hb1).lt
    have V2 := implBothValid_any _ 0 _ _ HB
    rw [eb] at V2
    clear x0 x1 x2 x3 V1
    go_wp2_with fail
    refine V2.mono ?_; rintro e w2 ⟨rfl, hb2⟩
    have s2 := hb2.size
    simp at s2
    have Y2 := Y1.below hb2
    have Z2 := Z1.below hb2
    have B2 := B1.trans (hb2.mono B1.size)
    clear V2 y0 y1 y2 y3 Y1 Z1 X1
    obtain ⟨hg1, ⟨ho1, _⟩, _⟩ := bothB_iff.1 eb
    dsimp only at hg1 ho1
    obtain ⟨q1, ⟨q2, q3⟩, q4, q5, q6⟩ := gcB_sizes hg1
    have q8 := (stoB_parts (gcB_iff.1 hg1).1).2.1
    dsimp only at q1
    have C1 := copyOfBoth_any w2 0 _ _ (HB.below hb2) (by dsimp only; omega) (by dsimp only; omega) (by dsimp only; omega) (by dsimp only; omega) (by dsimp only; omega) (by dsimp only; omega)
    clear q1 q2 q3 q4 q5 q6 q8 hg1 ho1 eb
    obtain ⟨⟨x0, x1, x2, x3, x4, x5, x6, x7, x8, x9⟩, -⟩ := Z2.cells
    go_wp2_with fail
    refine C1.mono ?_; rintro e w3 ⟨vr, rfl, HR, hb3⟩
    have s3 := hb3.size
    obtain ⟨D0, e0, d0, D1, e1, d1, D2, e2, d2, D3, e3, d3, D4, e4, d4, D5, e5, d5, rfl⟩ := HR.shape
    have Y3 := Y2.below hb3
    obtain ⟨⟨q0, q1, q2, q3, q4, q5, q6, q7, q8, q9⟩, ⟨k0, k1, k2, k3, k4, k5, k6, k7, k8, k9⟩⟩ := Y3.cells
    have YF := Y3.set10 (.slice D0 e0 d0) (.slice D1 e1 d1) (.slice D2 e2 d2) (.slice D3 e3 d3) (.int .i64 gp) (.slice D4 e4 d4) (.int .i64 ga) (.slice D5 e5 d5) (.int .i64 0) (.bool false)
    obtain ⟨HF, FF⟩ := both_done (w := w) (b := w.heap.size + 1) HR (by omega) (by omega) (B2.trans (hb3.mono B2.size)) (.slice D0 e0 d0) (.slice D1 e1 d1) (.slice D2 e2 d2) (.slice D3 e3 d3) (.int .i64 gp) (.slice D4 e4 d4) (.int .i64 ga) (.slice D5 e5 d5) (.int .i64 0) (.bool false)
    clear x0 x1 x2 x3 x4 x5 x6 x7 x8 x9 C1
    go_wp2_with fail
    generalize ((((((((((w3.setCell ⟨w.heap.size + 1, 0, none⟩ (.slice D0 e0 d0)).setCell ⟨w.heap.size + 1, 1, none⟩ (.slice D1 e1 d1)).setCell ⟨w.heap.size + 1, 2, none⟩ (.slice D2 e2 d2)).setCell ⟨w.heap.size + 1, 3, none⟩ (.slice D3 e3 d3)).setCell ⟨w.heap.size + 1, 4, none⟩ (.int .i64 gp)).setCell ⟨w.heap.size + 1, 5, none⟩ (.slice D4 e4 d4)).setCell ⟨w.heap.size + 1, 6, none⟩ (.int .i64 ga)).setCell ⟨w.heap.size + 1, 7, none⟩ (.slice D5 e5 d5)).setCell ⟨w.heap.size + 1, 8, none⟩ (.int .i64 0)).setCell ⟨w.heap.size + 1, 9, none⟩ (.bool false)) = WF at YF HF FF ⊢
    obtain ⟨⟨v0, v1, v2, v3, v4, v5, v6, v7, v8, v9⟩, -⟩ := YF.cells
    refine bodyPost_ret (v := .tuple #[.agg #[.slice D0 e0 d0, .slice D1 e1 d1, .slice D2 e2 d2, .slice D3 e3 d3, .int .i64 gp, .slice D4 e4 d4, .int .i64 ga, .slice D5 e5 d5, .int .i64 0, .bool false], .bool true]) ?_ rfl ⟨_, rfl, HF, FF⟩
    simp [results, Try.results9, go_sem, v0, v1, v2, v3, v4, v5, v6, v7, v8, v9]

set_option maxRecDepth 100000 in
set_option maxHeartbeats 4000000 in
theorem specNewBoth_any (w : World) (lo lo2 : Nat) (v u : Value) (C : Cp) (os : List Opv) (hv : Cv w lo v C) (hu : ORow w lo2 u os) : Calls Try.prog 10 #[v, u] w (OptBv w (newBo C os)) := by
  obtain ⟨A0, n0, c0, A1, n1, c1, A2, n2, c2, A3, n3, c3, rfl, hh, ⟨r0, r1, r2, r3⟩, ⟨l0, l1, l2, l3⟩, ⟨m0, m1, m2, m3⟩, -⟩ := hv.open_
  obtain ⟨A5, c5, rfl, h5c, h5m⟩ := hu.form
  obtain ⟨n5, l5⟩ : ∃ n5, Hid (os.length = n5) := ⟨_, rfl⟩
  have m5 : n5 ≤ 9223372036854775807 := by have := l5.out; unfold maxLen at h5m; omega
  rw [l5.out] at hu ⊢
  clear h5c h5m
  have X := (Blk4.new w (.slice A0 n0 c0) (.slice A1 n1 c1) (.slice A2 n2 c2) (.slice A3 n3 c3) 27).alloc (.cells #[.slice none 0 0, .slice none 0 0, .slice none 0 0, .slice none 0 0, .int .i64 0, .slice none 0 0, .int .i64 0, .slice none 0 0, .int .i64 0, .bool false] 34)
  have Y := Blk10.new_at (w := w.alloc (.cells #[.slice A0 n0 c0, .slice A1 n1 c1, .slice A2 n2 c2, .slice A3 n3 c3] 27)) (b := w.heap.size + 1) (by simp) (.slice none 0 0) (.slice none 0 0) (.slice none 0 0) (.slice none 0 0) (.int .i64 0) (.slice none 0 0) (.int .i64 0) (.slice none 0 0) (.int .i64 0) (.bool false) 34
  have HV := ((Cv.mono hv (Nat.zero_le lo)).alloc (.cells #[.slice A0 n0 c0, .slice A1 n1 c1, .slice A2 n2 c2, .slice A3 n3 c3] 27)).alloc (.cells #[.slice none 0 0, .slice none 0 0, .slice none 0 0, .slice none 0 0, .int .i64 0, .slice none 0 0, .int .i64 0, .slice none 0 0, .int .i64 0, .bool false] 34)
  have HU := ((ORow.mono hu (Nat.zero_le lo2)).alloc (.cells #[.slice A0 n0 c0, .slice A1 n1 c1, .slice A2 n2 c2, .slice A3 n3 c3] 27)).alloc (.cells #[.slice none 0 0, .slice none 0 0, .slice none 0 0, .slice none 0 0, .int .i64 0, .slice none 0 0, .int .i64 0, .slice none 0 0, .int .i64 0, .bool false] 34)
  have BB : Below w.heap.size w ((w.alloc (.cells #[.slice A0 n0 c0, .slice A1 n1 c1, .slice A2 n2 c2, .slice A3 n3 c3] 27)).alloc (.cells #[.slice none 0 0, .slice none 0 0, .slice none 0 0, .slice none 0 0, .int .i64 0, .slice none 0 0, .int .i64 0, .slice none 0 0, .int .i64 0, .bool false] 34)) := ((Below.refl _ _).alloc (Nat.le_refl _) _).alloc (by simp) _
  have sz : w.heap.size + 2 ≤ ((w.alloc (.cells #[.slice A0 n0 c0, .slice A1 n1 c1, .slice A2 n2 c2, .slice A3 n3 c3] 27)).alloc (.cells #[.slice none 0 0, .slice none 0 0, .slice none 0 0, .slice none 0 0, .int .i64 0, .slice none 0 0, .int .i64 0, .slice none 0 0, .int .i64 0, .bool false] 34)).heap.size := by simp
  generalize hW : (w.alloc (.cells #[.slice A0 n0 c0, .slice A1 n1 c1, .slice A2 n2 c2, .slice A3 n3 c3] 27)).alloc (.cells #[.slice none 0 0, .slice none 0 0, .slice none 0 0, .slice none 0 0, .int .i64 0, .slice none 0 0, .int .i64 0, .slice none 0 0, .int .i64 0, .bool false] 34) = W at X Y HV HU BB sz
  clear hv hu hh r0 r1 r2 r3
  have V1 := specNewGc_any W 0 _ C HV
  obtain ⟨x0, x1, x2, x3, _⟩ := X.cells
  unfold OptGv at V1
  have V2 := fun w1 (h9 : ORow w1 0 (.slice A5 n5 c5) os) => l7Ops_any w1 0 A5 n5 c5 os h9 l5 m5 (n2 : Int)
  have hne : w.heap.size ≠ w.heap.size + 1 := by omega
  rcases es : stoB C
  · rw [newBo_sto es]
    have hg0 : newG C = none := by unfold newG; rw [es]; simp
    rw [hg0] at V1
    simp only [Option.isSome_none, Option.getD_none] at V1
    unfold Gp.zero at V1
    clear es V2
    go_enter Try.func10, Try.ntmps10
    go_wp2_with fail
    (try rw [hW])
    refine V1.mono ?_; rintro e w1 ⟨vg, rfl, HG, hb1⟩
    obtain ⟨A4, n4, c4, hv9, RG, l4, -⟩ := HG.open_
    dsimp only at hv9 RG l4
    subst hv9
    have s1 := hb1.size
    have X1 := (X.below hb1).alloc (.cells #[.int .i64 0, .slice A4 n4 c4, .int .i64 0] 32)
    have Y1 := (Y.below hb1).alloc (.cells #[.int .i64 0, .slice A4 n4 c4, .int .i64 0] 32)
    have Z1 := Blk3.new w1 (.int .i64 0) (.slice A4 n4 c4) (.int .i64 0) 32
    have U1 := (HU.below hb1).alloc (.cells #[.int .i64 0, .slice A4 n4 c4, .int .i64 0] 32)
    have HV1 := (HV.below hb1).alloc (.cells #[.int .i64 0, .slice A4 n4 c4, .int .i64 0] 32)
    have HG1 := HG.alloc (.cells #[.int .i64 0, .slice A4 n4 c4, .int .i64 0] 32)
    have B1 : Below w.heap.size w (w1.alloc (.cells #[.int .i64 0, .slice A4 n4 c4, .int .i64 0] 32)) := (BB.trans (hb1.mono BB.size)).alloc (by omega) _
    obtain ⟨y0, y1, y2, y3, _⟩ := (X.below hb1).cells
    have lx := (X.below hb1).lt
    have ly := (Y.below hb1).lt
    obtain ⟨⟨q0, q1, q2, q3, q4, q5, q6, q7, q8, q9⟩, ⟨k0, k1, k2, k3, k4, k5, k6, k7, k8, k9⟩⟩ := (Y.below hb1).cells
    clear x0 x1 x2 x3 V1
    go_wp2_with fail
    have YF := ((Y.below hb1).set10 (.slice none 0 0) (.slice none 0 0) (.slice none 0 0) (.slice none 0 0) (.int .i64 0) (.slice none 0 0) (.int .i64 0) (.slice none 0 0) (.int .i64 0) (.bool false)).alloc (.cells #[.int .i64 0, .slice A4 n4 c4, .int .i64 0] 32)
    have FF := (below_set10 (BB.trans (hb1.mono BB.size)) (c := w.heap.size + 1) (by omega) (.slice none 0 0) (.slice none 0 0) (.slice none 0 0) (.slice none 0 0) (.int .i64 0) (.slice none 0 0) (.int .i64 0) (.slice none 0 0) (.int .i64 0) (.bool false)).alloc (by (try simp [World.setCell]); omega) (.cells #[.int .i64 0, .slice A4 n4 c4, .int .i64 0] 32)
    generalize (((((((((((w1.setCell ⟨w.heap.size + 1, 0, none⟩ (.slice none 0 0)).setCell ⟨w.heap.size + 1, 1, none⟩ (.slice none 0 0)).setCell ⟨w.heap.size + 1, 2, none⟩ (.slice none 0 0)).setCell ⟨w.heap.size + 1, 3, none⟩ (.slice none 0 0)).setCell ⟨w.heap.size + 1, 4, none⟩ (.int .i64 0)).setCell ⟨w.heap.size + 1, 5, none⟩ (.slice none 0 0)).setCell ⟨w.heap.size + 1, 6, none⟩ (.int .i64 0)).setCell ⟨w.heap.size + 1, 7, none⟩ (.slice none 0 0)).setCell ⟨w.heap.size + 1, 8, none⟩ (.int .i64 0)).setCell ⟨w.heap.size + 1, 9, none⟩ (.bool false)).alloc (.cells #[.int .i64 0, .slice A4 n4 c4, .int .i64 0] 32)) = WF at YF FF ⊢
    obtain ⟨⟨v0, v1, v2, v3, v4, v5, v6, v7, v8, v9⟩, -⟩ := YF.cells
    refine bodyPost_ret (v := .tuple #[.agg #[.slice none 0 0, .slice none 0 0, .slice none 0 0, .slice none 0 0, .int .i64 0, .slice none 0 0, .int .i64 0, .slice none 0 0, .int .i64 0, .bool false], .bool false]) ?_ rfl ⟨_, rfl, Bv.zero _ _, FF⟩
    simp [results, Try.results10, go_sem, v0, v1, v2, v3, v4, v5, v6, v7, v8, v9]
  · have hg0 : newG C = some ⟨0, List.replicate C.h.l.length 0, 0⟩ := by unfold newG; rw [if_pos es]
    rw [hg0] at V1
    simp only [Option.isSome_some, Option.getD_some] at V1
    clear hg0
    rcases eo : (decide (n5 ≤ 12) && opsB n2 os)
    · rw [newBo_ops (by rw [l5.out, l2.out]; exact eo)]
      simp only [eo] at V2
      clear eo es
      go_enter Try.func10, Try.ntmps10
      go_wp2_with fail
      (try rw [hW])
      refine V1.mono ?_; rintro e w1 ⟨vg, rfl, HG, hb1⟩
      obtain ⟨A4, n4, c4, hv9, RG, l4, -⟩ := HG.open_
      dsimp only at hv9 RG l4
      subst hv9
      have s1 := hb1.size
      have X1 := (X.below hb1).alloc (.cells #[.int .i64 0, .slice A4 n4 c4, .int .i64 0] 32)
      have Y1 := (Y.below hb1).alloc (.cells #[.int .i64 0, .slice A4 n4 c4, .int .i64 0] 32)
      have Z1 := Blk3.new w1 (.int .i64 0) (.slice A4 n4 c4) (.int .i64 0) 32
      have U1 := (HU.below hb1).alloc (.cells #[.int .i64 0, .slice A4 n4 c4, .int .i64 0] 32)
      have HV1 := (HV.below hb1).alloc (.cells #[.int .i64 0, .slice A4 n4 c4, .int .i64 0] 32)
      have HG1 := HG.alloc (.cells #[.int .i64 0, .slice A4 n4 c4, .int .i64 0] 32)
      have B1 : Below w.heap.size w (w1.alloc (.cells #[.int .i64 0, .slice A4 n4 c4, .int .i64 0] 32)) := (BB.trans (hb1.mono BB.size)).alloc (by omega) _
      obtain ⟨y0, y1, y2, y3, _⟩ := (X.below hb1).cells
      have lx := (X.below hb1).lt
      have ly := (Y.below hb1).lt
      obtain ⟨⟨q0, q1, q2, q3, q4, q5, q6, q7, q8, q9⟩, ⟨k0, k1, k2, k3, k4, k5, k6, k7, k8, k9⟩⟩ := (Y.below hb1).cells
      clear x0 x1 x2 x3 V1
      go_wp2_with fail
      refine (V2 _ U1).mono ?_; rintro e w2 ⟨rfl, hb2⟩
      have s2 := hb2.size
      simp at s2
      have X2 := X1.below hb2
      have Y2 := Y1.below hb2
      have Z2 := Z1.below hb2
      have U2 := U1.below hb2
      have HV2 := HV1.below hb2
      have HG2 := HG1.below hb2
      have B2 := B1.trans (hb2.mono B1.size)
      clear y0 y1 y2 y3 q0 q1 q2 q3 q4 q5 q6 q7 q8 q9 k0 k1 k2 k3 k4 k5 k6 k7 k8 k9 X1 Y1 Z1 U1 HV1 HG1
      obtain ⟨x0, x1, x2, x3, _⟩ := X2.cells
      obtain ⟨z0, z1, z2, _⟩ := Z2.cells
      obtain ⟨⟨q0, q1, q2, q3, q4, q5, q6, q7, q8, q9⟩, ⟨k0, k1, k2, k3, k4, k5, k6, k7, k8, k9⟩⟩ := Y2.cells
      have YF := Y2.set10 (.slice none 0 0) (.slice none 0 0) (.slice none 0 0) (.slice none 0 0) (.int .i64 0) (.slice none 0 0) (.int .i64 0) (.slice none 0 0) (.int .i64 0) (.bool false)
      have FF := below_set10 B2 (c := w.heap.size + 1) (by omega) (.slice none 0 0) (.slice none 0 0) (.slice none 0 0) (.slice none 0 0) (.int .i64 0) (.slice none 0 0) (.int .i64 0) (.slice none 0 0) (.int .i64 0) (.bool false)
      go_wp2_with fail
      generalize ((((((((((w2.setCell ⟨w.heap.size + 1, 0, none⟩ (.slice none 0 0)).setCell ⟨w.heap.size + 1, 1, none⟩ (.slice none 0 0)).setCell ⟨w.heap.size + 1, 2, none⟩ (.slice none 0 0)).setCell ⟨w.heap.size + 1, 3, none⟩ (.slice none 0 0)).setCell ⟨w.heap.size + 1, 4, none⟩ (.int .i64 0)).setCell ⟨w.heap.size + 1, 5, none⟩ (.slice none 0 0)).setCell ⟨w.heap.size + 1, 6, none⟩ (.int .i64 0)).setCell ⟨w.heap.size + 1, 7, none⟩ (.slice none 0 0)).setCell ⟨w.heap.size + 1, 8, none⟩ (.int .i64 0)).setCell ⟨w.heap.size + 1, 9, none⟩ (.bool false)) = WF at YF FF ⊢
      obtain ⟨⟨v0, v1, v2, v3, v4, v5, v6, v7, v8, v9⟩, -⟩ := YF.cells
      refine bodyPost_ret (v := .tuple #[.agg #[.slice none 0 0, .slice none 0 0, .slice none 0 0, .slice none 0 0, .int .i64 0, .slice none 0 0, .int .i64 0, .slice none 0 0, .int .i64 0, .bool false], .bool false]) ?_ rfl ⟨_, rfl, Bv.zero _ _, FF⟩
      simp [results, Try.results10, go_sem, v0, v1, v2, v3, v4, v5, v6, v7, v8, v9]
    · rw [newBo_some es (by rw [l5.out, l2.out]; exact eo)]
      simp only [eo] at V2
      go_enter Try.func10, Try.ntmps10
      go_wp2_with fail
      (try rw [hW])
      refine V1.mono ?_; rintro e w1 ⟨vg, rfl, HG, hb1⟩
      obtain ⟨A4, n4, c4, hv9, RG, l4, -⟩ := HG.open_
      dsimp only at hv9 RG l4
      subst hv9
      have s1 := hb1.size
      have X1 := (X.below hb1).alloc (.cells #[.int .i64 0, .slice A4 n4 c4, .int .i64 0] 32)
      have Y1 := (Y.below hb1).alloc (.cells #[.int .i64 0, .slice A4 n4 c4, .int .i64 0] 32)
      have Z1 := Blk3.new w1 (.int .i64 0) (.slice A4 n4 c4) (.int .i64 0) 32
      have U1 := (HU.below hb1).alloc (.cells #[.int .i64 0, .slice A4 n4 c4, .int .i64 0] 32)
      have HV1 := (HV.below hb1).alloc (.cells #[.int .i64 0, .slice A4 n4 c4, .int .i64 0] 32)
      have HG1 := HG.alloc (.cells #[.int .i64 0, .slice A4 n4 c4, .int .i64 0] 32)
      have B1 : Below w.heap.size w (w1.alloc (.cells #[.int .i64 0, .slice A4 n4 c4, .int .i64 0] 32)) := (BB.trans (hb1.mono BB.size)).alloc (by omega) _
      obtain ⟨y0, y1, y2, y3, _⟩ := (X.below hb1).cells
      have lx := (X.below hb1).lt
      have ly := (Y.below hb1).lt
      obtain ⟨⟨q0, q1, q2, q3, q4, q5, q6, q7, q8, q9⟩, ⟨k0, k1, k2, k3, k4, k5, k6, k7, k8, k9⟩⟩ := (Y.below hb1).cells
      clear x0 x1 x2 x3 V1
      go_wp2_with fail
      refine (V2 _ U1).mono ?_; rintro e w2 ⟨rfl, hb2⟩
      have s2 := hb2.size
      simp at s2
      have X2 := X1.below hb2
      have Y2 := Y1.below hb2
      have Z2 := Z1.below hb2
      have U2 := U1.below hb2
      have HV2 := HV1.below hb2
      have HG2 := HG1.below hb2
      have B2 := B1.trans (hb2.mono B1.size)
      clear y0 y1 y2 y3 q0 q1 q2 q3 q4 q5 q6 q7 q8 q9 k0 k1 k2 k3 k4 k5 k6 k7 k8 k9 X1 Y1 Z1 U1 HV1 HG1
      obtain ⟨x0, x1, x2, x3, _⟩ := X2.cells
      obtain ⟨z0, z1, z2, _⟩ := Z2.cells
      have hop : opsB C.h.t.length os = true ∧ os.length ≤ 12 := by rw [l2.out]; simp only [Bool.and_eq_true, decide_eq_true_eq] at eo; exact ⟨eo.2, by rw [l5.out]; exact eo.1⟩
      have b5 : n5 ≤ 1048576 := by have := l5.out; omega
      have TS := fun V (hV : Cv V 0 (.agg #[.slice A0 n0 c0, .slice A1 n1 c1, .slice A2 n2 c2, .slice A3 n3 c3]) C) => l4Copy_any V 0 _ C hV es
      have SO : ∀ w' : World, Below w2.heap.size w2 w' → w'.cell? ⟨w.heap.size, 0, none⟩ = some (.slice A0 n0 c0) ∧ w'.cell? ⟨w.heap.size, 1, none⟩ = some (.slice A1 n1 c1) ∧ w'.cell? ⟨w.heap.size, 2, none⟩ = some (.slice A2 n2 c2) ∧ w'.cell? ⟨w.heap.size, 3, none⟩ = some (.slice A3 n3 c3) ∧ w'.cell? ⟨w1.heap.size, 0, none⟩ = some (.int .i64 0) ∧ w'.cell? ⟨w1.heap.size, 1, none⟩ = some (.slice A4 n4 c4) ∧ w'.cell? ⟨w1.heap.size, 2, none⟩ = some (.int .i64 0) := fun w' hb => ⟨(X2.below hb).cells.1, (X2.below hb).cells.2.1, (X2.below hb).cells.2.2.1, (X2.below hb).cells.2.2.2.1, (Z2.below hb).cells.1, (Z2.below hb).cells.2.1, (Z2.below hb).cells.2.2.1⟩
      have hne1 : w1.heap.size ≠ w.heap.size + 1 := by omega
      clear hop V2 eo es
      go_wp2_with fail
      go_region_held3 (fun w' => w'.cell? ⟨w.heap.size, 0, none⟩ = some (.slice A0 n0 c0) ∧ w'.cell? ⟨w.heap.size, 1, none⟩ = some (.slice A1 n1 c1) ∧ w'.cell? ⟨w.heap.size, 2, none⟩ = some (.slice A2 n2 c2) ∧ w'.cell? ⟨w.heap.size, 3, none⟩ = some (.slice A3 n3 c3) ∧ w'.cell? ⟨w1.heap.size, 0, none⟩ = some (.int .i64 0) ∧ w'.cell? ⟨w1.heap.size, 1, none⟩ = some (.slice A4 n4 c4) ∧ w'.cell? ⟨w1.heap.size, 2, none⟩ = some (.int .i64 0))
        (((try dsimp only); (first | (refine SO _ ?_; (repeat (with_reducible (first | exact Below.refl _ _ | exact hB4 | exact hB3 | refine B10_dr ?_ | refine B10_al ?_ _))); done) | (with_reducible exact ⟨((X2.below hB4).far10 hne _ _ _ _ _ _ _ _ _ _).cells.1, ((X2.below hB4).far10 hne _ _ _ _ _ _ _ _ _ _).cells.2.1, ((X2.below hB4).far10 hne _ _ _ _ _ _ _ _ _ _).cells.2.2.1, ((X2.below hB4).far10 hne _ _ _ _ _ _ _ _ _ _).cells.2.2.2.1, ((Z2.below hB4).far10 hne1 _ _ _ _ _ _ _ _ _ _).cells.1, ((Z2.below hB4).far10 hne1 _ _ _ _ _ _ _ _ _ _).cells.2.1, ((Z2.below hB4).far10 hne1 _ _ _ _ _ _ _ _ _ _).cells.2.2.1⟩))))
        (first
          | (go_at_call 37; (with_reducible refine Calls.mono (TS _ ?_) ?_); (· repeat (with_reducible (first | exact HV2 | refine Cv.alloc ?_ _ | refine Cv.drew ?_))); rintro e u1 ⟨vs, rfl, K1, hb3⟩; (have hB3 : Below w2.heap.size w2 u1 := (by refine B10_th ?_ hb3; repeat (with_reducible (first | exact Below.refl _ _ | refine B10_dr ?_ | refine B10_al ?_ _)))); (have K1l : Cv u1 0 vs C := K1.mono (Nat.zero_le _)); (obtain ⟨D0, e0, d0, D1, e1, d1, D2, e2, d2, D3, e3, d3, hv9, -⟩ := Cv.open_ K1); (subst hv9); (have KL : Cv u1 w2.heap.size _ C := K1.mono (Below.size (by repeat (with_reducible (first | exact Below.refl _ _ | refine B10_dr ?_ | refine B10_al ?_ _))))))
          | (refine step_append_orow rfl (.tmp 28) (.tmp 29) rfl _ w2.heap.size (by rfl) ?_ ?_ 0 A5 n5 c5 os (by rfl) ?_ l5 b5 ?_; (· repeat (with_reducible (first | (refine ORow.emptyB _ _ ?_; (first | exact Nat.le_refl _ | exact Below.size (by repeat (with_reducible (first | exact Below.refl _ _ | exact hB3 | refine B10_dr ?_ | refine B10_al ?_ _))))) | refine ORow.drew ?_ | refine ORow.alloc ?_ _ | refine ORow.below ?_ hb3))); (· exact Below.size (by repeat (with_reducible (first | exact Below.refl _ _ | exact hB3 | refine B10_dr ?_ | refine B10_al ?_ _)))); (· repeat (with_reducible (first | exact U2 | refine ORow.below ?_ hb3 | refine ORow.alloc ?_ _ | refine ORow.drew ?_))); intro A7 c7 u3 K3 hb4; (have hB4 : Below w2.heap.size w2 u3 := (by refine B10_th ?_ hb4; repeat (with_reducible (first | exact Below.refl _ _ | exact hB3 | refine B10_dr ?_ | refine B10_al ?_ _)))); (have KS : Cv u3 w2.heap.size (.agg #[.slice D0 e0 d0, .slice D1 e1 d1, .slice D2 e2 d2, .slice D3 e3 d3]) C := Cv.below (by repeat (with_reducible (first | exact KL | refine Cv.alloc ?_ _ | refine Cv.drew ?_))) hb4); (obtain ⟨⟨q0, q1, q2, q3, q4, q5, q6, q7, q8, q9⟩, ⟨k0, k1, k2, k3, k4, k5, k6, k7, k8, k9⟩⟩ := (Y2.below hB4).cells)))
      all_goals
        rename_i hHeld
        clear hHeld
        have zz := hB4.size
        have CGm : CGv u3 (w.heap.size + 2) _ _ C ⟨0, List.replicate C.h.l.length 0, 0⟩ := CGv.mk' (G := ⟨0, List.replicate C.h.l.length 0, 0⟩) (HG2.mono (by omega)) KS (by omega) hB4
        have HB : Bv u3 (w.heap.size + 2) (.agg #[.slice D0 e0 d0, .slice D1 e1 d1, .slice D2 e2 d2, .slice D3 e3 d3, .int .i64 0, .slice A4 n4 c4, .int .i64 0, .slice A7 n5 c7, .int .i64 0, .bool false]) ⟨C, ⟨0, List.replicate C.h.l.length 0, 0⟩, os, 0, false⟩ := Bv.mk0 CGm (K3.mono (by omega)) 0 false
        have YF := (Y2.below hB4).set10 (.slice D0 e0 d0) (.slice D1 e1 d1) (.slice D2 e2 d2) (.slice D3 e3 d3) (.int .i64 0) (.slice A4 n4 c4) (.int .i64 0) (.slice A7 n5 c7) (.int .i64 0) (.bool false)
        obtain ⟨HF, FF⟩ := both_done (w := w) (b := w.heap.size + 1) HB (by omega) (by omega) (B2.trans (hB4.mono B2.size)) (.slice D0 e0 d0) (.slice D1 e1 d1) (.slice D2 e2 d2) (.slice D3 e3 d3) (.int .i64 0) (.slice A4 n4 c4) (.int .i64 0) (.slice A7 n5 c7) (.int .i64 0) (.bool false)
        clear q0 q1 q2 q3 q4 q5 q6 q7 q8 q9 k0 k1 k2 k3 k4 k5 k6 k7 k8 k9 x0 x1 x2 x3 z0 z1 z2 SO
        go_wp2_with fail
        generalize ((((((((((u3.setCell ⟨w.heap.size + 1, 0, none⟩ (.slice D0 e0 d0)).setCell ⟨w.heap.size + 1, 1, none⟩ (.slice D1 e1 d1)).setCell ⟨w.heap.size + 1, 2, none⟩ (.slice D2 e2 d2)).setCell ⟨w.heap.size + 1, 3, none⟩ (.slice D3 e3 d3)).setCell ⟨w.heap.size + 1, 4, none⟩ (.int .i64 0)).setCell ⟨w.heap.size + 1, 5, none⟩ (.slice A4 n4 c4)).setCell ⟨w.heap.size + 1, 6, none⟩ (.int .i64 0)).setCell ⟨w.heap.size + 1, 7, none⟩ (.slice A7 n5 c7)).setCell ⟨w.heap.size + 1, 8, none⟩ (.int .i64 0)).setCell ⟨w.heap.size + 1, 9, none⟩ (.bool false)) = WF at YF HF FF ⊢
        obtain ⟨⟨v0, v1, v2, v3, v4, v5, v6, v7, v8, v9⟩, -⟩ := YF.cells
        refine bodyPost_ret (v := .tuple #[(.agg #[.slice D0 e0 d0, .slice D1 e1 d1, .slice D2 e2 d2, .slice D3 e3 d3, .int .i64 0, .slice A4 n4 c4, .int .i64 0, .slice A7 n5 c7, .int .i64 0, .bool false]), .bool true]) ?_ rfl ⟨_, rfl, HF, FF⟩
        simp [results, Try.results10, go_sem, v0, v1, v2, v3, v4, v5, v6, v7, v8, v9]

end Go.Proofs.Ytdifplakkepnkaa
