/- l5Do of spec: what an operation does on a store of its own. -/
import Derived.Test.YtlabljanddjleaaSDoH
namespace Go.Proofs.Ytlabljanddjleaa
open Go.RowKit

set_option maxRecDepth 100000 in
set_option maxHeartbeats 4000000 in
theorem l5Do_any (w : World) (lo : Nat) (hlo : lo ≤ w.heap.size) (v : Value) (C : Cp) (hv : Cv w lo v C) (hC : stoB C = true) (o : Opv) (ho : opB o C.h.t.length = true) (h1 : o.k ≠ 1) :
    Calls Try.prog 34 #[v, opV o] w (DoneO w lo v C o) := by
  have hvo := hv
  obtain ⟨A0, n0, c0, A1, n1, c1, A2, n2, c2, A3, n3, c3, rfl, _, ⟨r0, r1, r2, _⟩, ⟨l0, l1, l2, l3⟩, _, _⟩ := hvo.open_
  obtain ⟨k, a, b⟩ := o
  obtain ⟨⟨k1, k7⟩, ⟨a0, a1, _⟩, ⟨b0, _⟩, hb7, hbn⟩ := opB_iff.1 ho
  simp only at h1 k1 k7 a0 a1 b0 hb7 hbn
  have h6 : ¬ k = 2 → ¬ k = 7 → ¬ k = 3 → ¬ k = 4 → ¬ k = 5 → k = 6 := by omega
  obtain ⟨hvh, _⟩ := stoB_parts hC
  have h8 := hvB_len hvh
  have e0 := l0.out
  have e1 := l1.out
  have e2 := l2.out
  have hbt : b < C.h.t.length := by
    by_cases h : k = 1 ∨ k = 7
    · rw [hb7 h]; omega
    · exact hbn h
  obtain ⟨ja, rfl⟩ := Int.eq_ofNat_of_zero_le a0
  obtain ⟨jb, rfl⟩ := Int.eq_ofNat_of_zero_le b0
  have RA := rootA_range hvh a0 a1
  have RB := rootA_range hvh b0 hbt
  have TA := rootA_at a0 a1
  have TB := rootA_at b0 hbt
  simp only [Int.toNat_natCast] at TA TB
  obtain ⟨g2, xa, rfl, hlo2, hg2, hxa, hca, _⟩ := r2.get (k := ja) (by omega)
  obtain ⟨g2', xb, eb, _, _, hxb, hcb, _⟩ := r2.get (k := jb) (by omega)
  cases eb
  obtain rfl : rootA C (ja : Int) = xa := by have h9 := hxa.out; rw [TA] at h9; simpa using h9
  obtain rfl : rootA C (jb : Int) = xb := by have h9 := hxb.out; rw [TB] at h9; simpa using h9
  obtain ⟨g0, _, rfl, hlo0, hg0, _, _, hz0⟩ := r0.get (k := 0) (by omega)
  obtain ⟨g1, _, rfl, hlo1, hg1, _, _, hz1⟩ := r1.get (k := 0) (by omega)
  have X := (Blk4.new w (.slice (some ⟨g0, 0, none⟩) n0 c0) (.slice (some ⟨g1, 0, none⟩) n1 c1) (.slice (some ⟨g2, 0, none⟩) n2 c2) (.slice A3 n3 c3) 36).alloc (.cells #[.int .i64 k, .int .i64 (ja : Int), .int .i64 (jb : Int)] 25) |>.alloc (.cells #[.slice none 0 0, .slice none 0 0, .slice none 0 0, .slice none 0 0] 36)
  have Y := (Blk3.new_at (w := w.alloc (.cells #[.slice (some ⟨g0, 0, none⟩) n0 c0, .slice (some ⟨g1, 0, none⟩) n1 c1, .slice (some ⟨g2, 0, none⟩) n2 c2, .slice A3 n3 c3] 36)) (b := w.heap.size + 1) (by simp) (.int .i64 k) (.int .i64 (ja : Int)) (.int .i64 (jb : Int)) 25).alloc (.cells #[.slice none 0 0, .slice none 0 0, .slice none 0 0, .slice none 0 0] 36)
  have R := Blk4.new_at (w := (w.alloc (.cells #[.slice (some ⟨g0, 0, none⟩) n0 c0, .slice (some ⟨g1, 0, none⟩) n1 c1, .slice (some ⟨g2, 0, none⟩) n2 c2, .slice A3 n3 c3] 36)).alloc (.cells #[.int .i64 k, .int .i64 (ja : Int), .int .i64 (jb : Int)] 25)) (b := w.heap.size + 2) (by simp) (.slice none 0 0) (.slice none 0 0) (.slice none 0 0) (.slice none 0 0) 36
  have HV := ((hv.alloc (.cells #[.slice (some ⟨g0, 0, none⟩) n0 c0, .slice (some ⟨g1, 0, none⟩) n1 c1, .slice (some ⟨g2, 0, none⟩) n2 c2, .slice A3 n3 c3] 36)).alloc (.cells #[.int .i64 k, .int .i64 (ja : Int), .int .i64 (jb : Int)] 25)).alloc (.cells #[.slice none 0 0, .slice none 0 0, .slice none 0 0, .slice none 0 0] 36)
  have BB : Below lo w (((w.alloc (.cells #[.slice (some ⟨g0, 0, none⟩) n0 c0, .slice (some ⟨g1, 0, none⟩) n1 c1, .slice (some ⟨g2, 0, none⟩) n2 c2, .slice A3 n3 c3] 36)).alloc (.cells #[.int .i64 k, .int .i64 (ja : Int), .int .i64 (jb : Int)] 25)).alloc (.cells #[.slice none 0 0, .slice none 0 0, .slice none 0 0, .slice none 0 0] 36)) := (((Below.refl lo w).alloc hlo _).alloc (by simp; omega) _).alloc (by simp; omega) _
  have sz : (((w.alloc (.cells #[.slice (some ⟨g0, 0, none⟩) n0 c0, .slice (some ⟨g1, 0, none⟩) n1 c1, .slice (some ⟨g2, 0, none⟩) n2 c2, .slice A3 n3 c3] 36)).alloc (.cells #[.int .i64 k, .int .i64 (ja : Int), .int .i64 (jb : Int)] 25)).alloc (.cells #[.slice none 0 0, .slice none 0 0, .slice none 0 0, .slice none 0 0] 36)).heap.size = w.heap.size + 3 := by simp
  have BW : Below w.heap.size w (((w.alloc (.cells #[.slice (some ⟨g0, 0, none⟩) n0 c0, .slice (some ⟨g1, 0, none⟩) n1 c1, .slice (some ⟨g2, 0, none⟩) n2 c2, .slice A3 n3 c3] 36)).alloc (.cells #[.int .i64 k, .int .i64 (ja : Int), .int .i64 (jb : Int)] 25)).alloc (.cells #[.slice none 0 0, .slice none 0 0, .slice none 0 0, .slice none 0 0] 36)) := (((Below.refl _ w).alloc (Nat.le_refl _) _).alloc (by simp) _).alloc (by simp <;> omega) _
  have na : ja < n2 := by omega
  have nb : jb < n2 := by omega
  have nai : (ja : Int) < (n2 : Int) := by omega
  have nbi : (jb : Int) < (n2 : Int) := by omega
  have d0 := hlo
  have FIN := fun (W' : World) (C' : Cp) (h : Cv W' lo (.agg #[.slice (some ⟨g0, 0, none⟩) n0 c0, .slice (some ⟨g1, 0, none⟩) n1 c1, .slice (some ⟨g2, 0, none⟩) n2 c2, .slice A3 n3 c3]) C') (hB : Below lo w W') => do_done (b := w.heap.size + 1 + 1) hv (by omega) (by omega) h hB
  have KD := fun (W' : World) (h : ∀ i : Nat, i < w.heap.size → (Value.slice (some ⟨g0, 0, none⟩) n0 c0).ownBlock ≠ some i → (Value.slice (some ⟨g1, 0, none⟩) n1 c1).ownBlock ≠ some i → (Value.slice (some ⟨g2, 0, none⟩) n2 c2).ownBlock ≠ some i → W'.heap[i]? = w.heap[i]?) => keepO_done (v3 := .slice A3 n3 c3) (b := w.heap.size + 1 + 1) (by omega) h
  obtain ⟨x0, x1, x2, x3, _⟩ := X.cells
  obtain ⟨y0, y1, y2, _⟩ := Y.cells
  obtain ⟨z0, z1, z2, z3, f0, f1, f2, f3⟩ := R.cells
  have ca := (BW.cell (p := ⟨g2, ja, none⟩) hg2).trans hca
  have cb := (BW.cell (p := ⟨g2, jb, none⟩) hg2).trans hcb
  obtain ⟨R0, R1, R2⟩ := HV.rowsO
  have fa := (R2.atO (k := ja) (by omega)).2.1
  clear X Y R r0 r1 r2 hca hcb hvo
  by_cases h2 : k = 2
  · subst h2
    have hd : doC C ⟨2, (ja : Int), (jb : Int)⟩ = ⟨⟨C.h.l, C.h.r, C.h.t.set ja (rootA C (jb : Int))⟩, C.c⟩ := by simp [doC]
    have he : doE C ⟨2, (ja : Int), (jb : Int)⟩ = 0 := by simp [doE]
    unfold DoneO
    rw [hd, he]
    generalize rootA C (ja : Int) = xa at *
    generalize rootA C (jb : Int) = xb at *
    clear h6 RA RB TA TB hxa hxb hd he k1 k7 hb7 hbn ho h1
    go_enter Try.func34, Try.ntmps34
    go_wp2_with fail
    have q0 := cellSo (p := ⟨g2, ja, none⟩) (v := .int .i64 xb) z0 (by simp; omega)
    have q1 := cellSo (p := ⟨g2, ja, none⟩) (v := .int .i64 xb) z1 (by simp; omega)
    have q2 := cellSo (p := ⟨g2, ja, none⟩) (v := .int .i64 xb) z2 (by simp; omega)
    have q3 := cellSo (p := ⟨g2, ja, none⟩) (v := .int .i64 xb) z3 (by simp; omega)
    obtain ⟨t0, t1, t2, t3⟩ := cells4 (.slice (some ⟨g0, 0, none⟩) n0 c0) (.slice (some ⟨g1, 0, none⟩) n1 c1) (.slice (some ⟨g2, 0, none⟩) n2 c2) (.slice A3 n3 c3) q0 q1 q2 q3
    obtain ⟨hF, hFB⟩ := FIN _ _ (HV.putTO ja xb) (BB.setCell (p := ⟨g2, ja, none⟩) hlo2 _)
    refine bodyPost_ret (v := .tuple #[.agg #[.slice (some ⟨g0, 0, none⟩) n0 c0, .slice (some ⟨g1, 0, none⟩) n1 c1, .slice (some ⟨g2, 0, none⟩) n2 c2, .slice A3 n3 c3], .int .i64 0]) ?_ rfl ⟨rfl, hF, hFB, KD _ fun pa hp h0 h1 h2 => (heap_setO (p := ⟨g2, ja, none⟩) (v := .int .i64 xb) (fun e => h2 (congrArg some e))).trans (BW.block pa hp)⟩
    simp [results, Try.results34, go_sem, t0, t1, t2, t3]
  by_cases h7 : k = 7
  · subst h7
    have hd : doC C ⟨7, (ja : Int), (jb : Int)⟩ = ⟨⟨C.h.l, C.h.r, C.h.t.set ja (-1)⟩, C.c⟩ := by simp [doC]
    have he : doE C ⟨7, (ja : Int), (jb : Int)⟩ = 0 := by simp [doE]
    unfold DoneO
    rw [hd, he]
    generalize rootA C (ja : Int) = xa at *
    generalize rootA C (jb : Int) = xb at *
    clear h6 RA RB TA TB hxa hxb hd he k1 k7 hb7 hbn ho h1
    go_enter Try.func34, Try.ntmps34
    go_wp2_with fail
    have q0 := cellSo (p := ⟨g2, ja, none⟩) (v := .int .i64 (-1)) z0 (by simp; omega)
    have q1 := cellSo (p := ⟨g2, ja, none⟩) (v := .int .i64 (-1)) z1 (by simp; omega)
    have q2 := cellSo (p := ⟨g2, ja, none⟩) (v := .int .i64 (-1)) z2 (by simp; omega)
    have q3 := cellSo (p := ⟨g2, ja, none⟩) (v := .int .i64 (-1)) z3 (by simp; omega)
    obtain ⟨t0, t1, t2, t3⟩ := cells4 (.slice (some ⟨g0, 0, none⟩) n0 c0) (.slice (some ⟨g1, 0, none⟩) n1 c1) (.slice (some ⟨g2, 0, none⟩) n2 c2) (.slice A3 n3 c3) q0 q1 q2 q3
    obtain ⟨hF, hFB⟩ := FIN _ _ (HV.putTO ja (-1)) (BB.setCell (p := ⟨g2, ja, none⟩) hlo2 _)
    refine bodyPost_ret (v := .tuple #[.agg #[.slice (some ⟨g0, 0, none⟩) n0 c0, .slice (some ⟨g1, 0, none⟩) n1 c1, .slice (some ⟨g2, 0, none⟩) n2 c2, .slice A3 n3 c3], .int .i64 0]) ?_ rfl ⟨rfl, hF, hFB, KD _ fun pa hp h0 h1 h2 => (heap_setO (p := ⟨g2, ja, none⟩) (v := .int .i64 (-1)) (fun e => h2 (congrArg some e))).trans (BW.block pa hp)⟩
    simp [results, Try.results34, go_sem, t0, t1, t2, t3]
  by_cases h3 : k = 3
  · subst h3
    rcases RB with hr | ⟨p, hr, hp⟩
    · have hd : doC C ⟨3, (ja : Int), (jb : Int)⟩ = C := by simp [doC, hr]
      have he : doE C ⟨3, (ja : Int), (jb : Int)⟩ = 2 := by simp [doE, hr]
      unfold DoneO
      rw [hd, he]
      rw [hr] at cb
      generalize rootA C (ja : Int) = xo at *
      clear hr h6 RA TA TB hxa hxb hd he k1 k7 hb7 hbn ho h1
      go_enter Try.func34, Try.ntmps34
      go_wp2_with fail
      obtain ⟨t0, t1, t2, t3, _⟩ := (Blk4.new_at (w := (w.alloc (.cells #[.slice (some ⟨g0, 0, none⟩) n0 c0, .slice (some ⟨g1, 0, none⟩) n1 c1, .slice (some ⟨g2, 0, none⟩) n2 c2, .slice A3 n3 c3] 36)).alloc (.cells #[.int .i64 3, .int .i64 (ja : Int), .int .i64 (jb : Int)] 25)) (b := w.heap.size + 2) (by simp) (.slice (some ⟨g0, 0, none⟩) n0 c0) (.slice (some ⟨g1, 0, none⟩) n1 c1) (.slice (some ⟨g2, 0, none⟩) n2 c2) (.slice A3 n3 c3) 36).cells
      refine bodyPost_ret (v := .tuple #[.agg #[.slice (some ⟨g0, 0, none⟩) n0 c0, .slice (some ⟨g1, 0, none⟩) n1 c1, .slice (some ⟨g2, 0, none⟩) n2 c2, .slice A3 n3 c3], .int .i64 2]) ?_ rfl ⟨rfl, ((hv.alloc (.cells #[.slice (some ⟨g0, 0, none⟩) n0 c0, .slice (some ⟨g1, 0, none⟩) n1 c1, .slice (some ⟨g2, 0, none⟩) n2 c2, .slice A3 n3 c3] 36)).alloc (.cells #[.int .i64 3, .int .i64 (ja : Int), .int .i64 (jb : Int)] 25)).alloc (.cells #[.slice (some ⟨g0, 0, none⟩) n0 c0, .slice (some ⟨g1, 0, none⟩) n1 c1, .slice (some ⟨g2, 0, none⟩) n2 c2, .slice A3 n3 c3] 36), (((Below.refl lo w).alloc hlo _).alloc (by simp; omega) _).alloc (by simp; omega) _, keepO_mk fun p hp _ _ _ => ((((Below.refl _ w).alloc (Nat.le_refl _) _).alloc (by simp) _).alloc (by simp <;> omega) _).block p hp⟩
      simp [results, Try.results34, go_sem, t0, t1, t2, t3]
    · have hne : ¬ ((p : Int) = -1) := by omega
      have hd : doC C ⟨3, (ja : Int), (jb : Int)⟩ = ⟨⟨C.h.l, C.h.r, C.h.t.set ja (C.h.l.getD p (-1))⟩, C.c⟩ := by simp [doC, hr, hne]
      have he : doE C ⟨3, (ja : Int), (jb : Int)⟩ = 0 := by simp [doE, hr, hne]
      unfold DoneO
      rw [hd, he]
      have pn : p < n0 := by omega
      have pni : (p : Int) < (n0 : Int) := by omega
      obtain ⟨cp, fp, hlp⟩ := R0.atO (k := p) (by omega)
      rw [hr] at cb
      generalize rootA C (ja : Int) = xo at *
      generalize C.h.l.getD p (-1) = y at *
      clear hr h6 RA TA TB hxa hxb hd he k1 k7 hb7 hbn ho h1
      go_enter Try.func34, Try.ntmps34
      go_wp2_with fail
      have q0 := cellSo (p := ⟨g2, ja, none⟩) (v := .int .i64 y) z0 (by simp; omega)
      have q1 := cellSo (p := ⟨g2, ja, none⟩) (v := .int .i64 y) z1 (by simp; omega)
      have q2 := cellSo (p := ⟨g2, ja, none⟩) (v := .int .i64 y) z2 (by simp; omega)
      have q3 := cellSo (p := ⟨g2, ja, none⟩) (v := .int .i64 y) z3 (by simp; omega)
      obtain ⟨t0, t1, t2, t3⟩ := cells4 (.slice (some ⟨g0, 0, none⟩) n0 c0) (.slice (some ⟨g1, 0, none⟩) n1 c1) (.slice (some ⟨g2, 0, none⟩) n2 c2) (.slice A3 n3 c3) q0 q1 q2 q3
      obtain ⟨hF, hFB⟩ := FIN _ _ (HV.putTO ja y) (BB.setCell (p := ⟨g2, ja, none⟩) hlo2 _)
      refine bodyPost_ret (v := .tuple #[.agg #[.slice (some ⟨g0, 0, none⟩) n0 c0, .slice (some ⟨g1, 0, none⟩) n1 c1, .slice (some ⟨g2, 0, none⟩) n2 c2, .slice A3 n3 c3], .int .i64 0]) ?_ rfl ⟨rfl, hF, hFB, KD _ fun pa hp h0 h1 h2 => (heap_setO (p := ⟨g2, ja, none⟩) (v := .int .i64 y) (fun e => h2 (congrArg some e))).trans (BW.block pa hp)⟩
      simp [results, Try.results34, go_sem, t0, t1, t2, t3]
  by_cases h4 : k = 4
  · subst h4
    rcases RB with hr | ⟨p, hr, hp⟩
    · have hd : doC C ⟨4, (ja : Int), (jb : Int)⟩ = C := by simp [doC, hr]
      have he : doE C ⟨4, (ja : Int), (jb : Int)⟩ = 2 := by simp [doE, hr]
      unfold DoneO
      rw [hd, he]
      rw [hr] at cb
      generalize rootA C (ja : Int) = xo at *
      clear hr h6 RA TA TB hxa hxb hd he k1 k7 hb7 hbn ho h1
      go_enter Try.func34, Try.ntmps34
      go_wp2_with fail
      obtain ⟨t0, t1, t2, t3, _⟩ := (Blk4.new_at (w := (w.alloc (.cells #[.slice (some ⟨g0, 0, none⟩) n0 c0, .slice (some ⟨g1, 0, none⟩) n1 c1, .slice (some ⟨g2, 0, none⟩) n2 c2, .slice A3 n3 c3] 36)).alloc (.cells #[.int .i64 4, .int .i64 (ja : Int), .int .i64 (jb : Int)] 25)) (b := w.heap.size + 2) (by simp) (.slice (some ⟨g0, 0, none⟩) n0 c0) (.slice (some ⟨g1, 0, none⟩) n1 c1) (.slice (some ⟨g2, 0, none⟩) n2 c2) (.slice A3 n3 c3) 36).cells
      refine bodyPost_ret (v := .tuple #[.agg #[.slice (some ⟨g0, 0, none⟩) n0 c0, .slice (some ⟨g1, 0, none⟩) n1 c1, .slice (some ⟨g2, 0, none⟩) n2 c2, .slice A3 n3 c3], .int .i64 2]) ?_ rfl ⟨rfl, ((hv.alloc (.cells #[.slice (some ⟨g0, 0, none⟩) n0 c0, .slice (some ⟨g1, 0, none⟩) n1 c1, .slice (some ⟨g2, 0, none⟩) n2 c2, .slice A3 n3 c3] 36)).alloc (.cells #[.int .i64 4, .int .i64 (ja : Int), .int .i64 (jb : Int)] 25)).alloc (.cells #[.slice (some ⟨g0, 0, none⟩) n0 c0, .slice (some ⟨g1, 0, none⟩) n1 c1, .slice (some ⟨g2, 0, none⟩) n2 c2, .slice A3 n3 c3] 36), (((Below.refl lo w).alloc hlo _).alloc (by simp; omega) _).alloc (by simp; omega) _, keepO_mk fun p hp _ _ _ => ((((Below.refl _ w).alloc (Nat.le_refl _) _).alloc (by simp) _).alloc (by simp <;> omega) _).block p hp⟩
      simp [results, Try.results34, go_sem, t0, t1, t2, t3]
    · have hne : ¬ ((p : Int) = -1) := by omega
      have hd : doC C ⟨4, (ja : Int), (jb : Int)⟩ = ⟨⟨C.h.l, C.h.r, C.h.t.set ja (C.h.r.getD p (-1))⟩, C.c⟩ := by simp [doC, hr, hne]
      have he : doE C ⟨4, (ja : Int), (jb : Int)⟩ = 0 := by simp [doE, hr, hne]
      unfold DoneO
      rw [hd, he]
      have pm : p < n0 := by omega
      have pmi : (p : Int) < (n0 : Int) := by omega
      obtain ⟨cq, _, _⟩ := R0.atO (k := p) (by omega)
      have pn : p < n1 := by omega
      have pni : (p : Int) < (n1 : Int) := by omega
      obtain ⟨cp, fp, hlp⟩ := R1.atO (k := p) (by omega)
      rw [hr] at cb
      generalize rootA C (ja : Int) = xo at *
      generalize C.h.r.getD p (-1) = y at *
      clear hr h6 RA TA TB hxa hxb hd he k1 k7 hb7 hbn ho h1
      go_enter Try.func34, Try.ntmps34
      go_wp2_with fail
      have q0 := cellSo (p := ⟨g2, ja, none⟩) (v := .int .i64 y) z0 (by simp; omega)
      have q1 := cellSo (p := ⟨g2, ja, none⟩) (v := .int .i64 y) z1 (by simp; omega)
      have q2 := cellSo (p := ⟨g2, ja, none⟩) (v := .int .i64 y) z2 (by simp; omega)
      have q3 := cellSo (p := ⟨g2, ja, none⟩) (v := .int .i64 y) z3 (by simp; omega)
      obtain ⟨t0, t1, t2, t3⟩ := cells4 (.slice (some ⟨g0, 0, none⟩) n0 c0) (.slice (some ⟨g1, 0, none⟩) n1 c1) (.slice (some ⟨g2, 0, none⟩) n2 c2) (.slice A3 n3 c3) q0 q1 q2 q3
      obtain ⟨hF, hFB⟩ := FIN _ _ (HV.putTO ja y) (BB.setCell (p := ⟨g2, ja, none⟩) hlo2 _)
      refine bodyPost_ret (v := .tuple #[.agg #[.slice (some ⟨g0, 0, none⟩) n0 c0, .slice (some ⟨g1, 0, none⟩) n1 c1, .slice (some ⟨g2, 0, none⟩) n2 c2, .slice A3 n3 c3], .int .i64 0]) ?_ rfl ⟨rfl, hF, hFB, KD _ fun pa hp h0 h1 h2 => (heap_setO (p := ⟨g2, ja, none⟩) (v := .int .i64 y) (fun e => h2 (congrArg some e))).trans (BW.block pa hp)⟩
      simp [results, Try.results34, go_sem, t0, t1, t2, t3]
  by_cases h5 : k = 5
  · subst h5
    rcases RA with hr | ⟨p, hr, hp⟩
    · have hd : doC C ⟨5, (ja : Int), (jb : Int)⟩ = C := by simp [doC, hr]
      have he : doE C ⟨5, (ja : Int), (jb : Int)⟩ = 2 := by simp [doE, hr]
      unfold DoneO
      rw [hd, he]
      rw [hr] at ca
      generalize rootA C (jb : Int) = xo at *
      clear hr h6 RB TA TB hxa hxb hd he k1 k7 hb7 hbn ho h1
      go_enter Try.func34, Try.ntmps34
      go_wp2_with fail
      obtain ⟨t0, t1, t2, t3, _⟩ := (Blk4.new_at (w := (w.alloc (.cells #[.slice (some ⟨g0, 0, none⟩) n0 c0, .slice (some ⟨g1, 0, none⟩) n1 c1, .slice (some ⟨g2, 0, none⟩) n2 c2, .slice A3 n3 c3] 36)).alloc (.cells #[.int .i64 5, .int .i64 (ja : Int), .int .i64 (jb : Int)] 25)) (b := w.heap.size + 2) (by simp) (.slice (some ⟨g0, 0, none⟩) n0 c0) (.slice (some ⟨g1, 0, none⟩) n1 c1) (.slice (some ⟨g2, 0, none⟩) n2 c2) (.slice A3 n3 c3) 36).cells
      refine bodyPost_ret (v := .tuple #[.agg #[.slice (some ⟨g0, 0, none⟩) n0 c0, .slice (some ⟨g1, 0, none⟩) n1 c1, .slice (some ⟨g2, 0, none⟩) n2 c2, .slice A3 n3 c3], .int .i64 2]) ?_ rfl ⟨rfl, ((hv.alloc (.cells #[.slice (some ⟨g0, 0, none⟩) n0 c0, .slice (some ⟨g1, 0, none⟩) n1 c1, .slice (some ⟨g2, 0, none⟩) n2 c2, .slice A3 n3 c3] 36)).alloc (.cells #[.int .i64 5, .int .i64 (ja : Int), .int .i64 (jb : Int)] 25)).alloc (.cells #[.slice (some ⟨g0, 0, none⟩) n0 c0, .slice (some ⟨g1, 0, none⟩) n1 c1, .slice (some ⟨g2, 0, none⟩) n2 c2, .slice A3 n3 c3] 36), (((Below.refl lo w).alloc hlo _).alloc (by simp; omega) _).alloc (by simp; omega) _, keepO_mk fun p hp _ _ _ => ((((Below.refl _ w).alloc (Nat.le_refl _) _).alloc (by simp) _).alloc (by simp <;> omega) _).block p hp⟩
      simp [results, Try.results34, go_sem, t0, t1, t2, t3]
    · have hne : ¬ ((p : Int) = -1) := by omega
      have hd : doC C ⟨5, (ja : Int), (jb : Int)⟩ = ⟨⟨C.h.l.set p (rootA C (jb : Int)), C.h.r, C.h.t⟩, C.c⟩ := by simp [doC, hr, hne]
      have he : doE C ⟨5, (ja : Int), (jb : Int)⟩ = 0 := by simp [doE, hr, hne]
      unfold DoneO
      rw [hd, he]
      have pn : p < n0 := by omega
      have pni : (p : Int) < (n0 : Int) := by omega
      obtain ⟨cp, fp, hlp⟩ := R0.atO (k := p) (by omega)
      rw [hr] at ca
      generalize rootA C (jb : Int) = xo at *
      clear hr h6 RB TA TB hxa hxb hd he k1 k7 hb7 hbn ho h1
      go_enter Try.func34, Try.ntmps34
      go_wp2_with fail
      have q0 := cellSo (p := ⟨g0, p, none⟩) (v := .int .i64 xo) z0 (by simp; omega)
      have q1 := cellSo (p := ⟨g0, p, none⟩) (v := .int .i64 xo) z1 (by simp; omega)
      have q2 := cellSo (p := ⟨g0, p, none⟩) (v := .int .i64 xo) z2 (by simp; omega)
      have q3 := cellSo (p := ⟨g0, p, none⟩) (v := .int .i64 xo) z3 (by simp; omega)
      obtain ⟨t0, t1, t2, t3⟩ := cells4 (.slice (some ⟨g0, 0, none⟩) n0 c0) (.slice (some ⟨g1, 0, none⟩) n1 c1) (.slice (some ⟨g2, 0, none⟩) n2 c2) (.slice A3 n3 c3) q0 q1 q2 q3
      obtain ⟨hF, hFB⟩ := FIN _ _ (HV.putLO p xo) (BB.setCell (p := ⟨g0, p, none⟩) hlp _)
      refine bodyPost_ret (v := .tuple #[.agg #[.slice (some ⟨g0, 0, none⟩) n0 c0, .slice (some ⟨g1, 0, none⟩) n1 c1, .slice (some ⟨g2, 0, none⟩) n2 c2, .slice A3 n3 c3], .int .i64 0]) ?_ rfl ⟨rfl, hF, hFB, KD _ fun pa hp h0 h1 h2 => (heap_setO (p := ⟨g0, p, none⟩) (v := .int .i64 xo) (fun e => h0 (congrArg some e))).trans (BW.block pa hp)⟩
      simp [results, Try.results34, go_sem, t0, t1, t2, t3]
  have h6 := h6 h2 h7 h3 h4 h5
  subst h6
  rcases RA with hr | ⟨p, hr, hp⟩
  · have hd : doC C ⟨6, (ja : Int), (jb : Int)⟩ = C := by simp [doC, hr]
    have he : doE C ⟨6, (ja : Int), (jb : Int)⟩ = 2 := by simp [doE, hr]
    unfold DoneO
    rw [hd, he]
    rw [hr] at ca
    generalize rootA C (jb : Int) = xo at *
    clear hr RB TA TB hxa hxb hd he k1 k7 hb7 hbn ho h1
    go_enter Try.func34, Try.ntmps34
    go_wp2_with fail
    obtain ⟨t0, t1, t2, t3, _⟩ := (Blk4.new_at (w := (w.alloc (.cells #[.slice (some ⟨g0, 0, none⟩) n0 c0, .slice (some ⟨g1, 0, none⟩) n1 c1, .slice (some ⟨g2, 0, none⟩) n2 c2, .slice A3 n3 c3] 36)).alloc (.cells #[.int .i64 6, .int .i64 (ja : Int), .int .i64 (jb : Int)] 25)) (b := w.heap.size + 2) (by simp) (.slice (some ⟨g0, 0, none⟩) n0 c0) (.slice (some ⟨g1, 0, none⟩) n1 c1) (.slice (some ⟨g2, 0, none⟩) n2 c2) (.slice A3 n3 c3) 36).cells
    refine bodyPost_ret (v := .tuple #[.agg #[.slice (some ⟨g0, 0, none⟩) n0 c0, .slice (some ⟨g1, 0, none⟩) n1 c1, .slice (some ⟨g2, 0, none⟩) n2 c2, .slice A3 n3 c3], .int .i64 2]) ?_ rfl ⟨rfl, ((hv.alloc (.cells #[.slice (some ⟨g0, 0, none⟩) n0 c0, .slice (some ⟨g1, 0, none⟩) n1 c1, .slice (some ⟨g2, 0, none⟩) n2 c2, .slice A3 n3 c3] 36)).alloc (.cells #[.int .i64 6, .int .i64 (ja : Int), .int .i64 (jb : Int)] 25)).alloc (.cells #[.slice (some ⟨g0, 0, none⟩) n0 c0, .slice (some ⟨g1, 0, none⟩) n1 c1, .slice (some ⟨g2, 0, none⟩) n2 c2, .slice A3 n3 c3] 36), (((Below.refl lo w).alloc hlo _).alloc (by simp; omega) _).alloc (by simp; omega) _, keepO_mk fun p hp _ _ _ => ((((Below.refl _ w).alloc (Nat.le_refl _) _).alloc (by simp) _).alloc (by simp <;> omega) _).block p hp⟩
    simp [results, Try.results34, go_sem, t0, t1, t2, t3]
  · have hne : ¬ ((p : Int) = -1) := by omega
    have hd : doC C ⟨6, (ja : Int), (jb : Int)⟩ = ⟨⟨C.h.l, C.h.r.set p (rootA C (jb : Int)), C.h.t⟩, C.c⟩ := by simp [doC, hr, hne]
    have he : doE C ⟨6, (ja : Int), (jb : Int)⟩ = 0 := by simp [doE, hr, hne]
    unfold DoneO
    rw [hd, he]
    have pn : p < n1 := by omega
    have pni : (p : Int) < (n1 : Int) := by omega
    obtain ⟨cp, fp, hlp⟩ := R1.atO (k := p) (by omega)
    rw [hr] at ca
    generalize rootA C (jb : Int) = xo at *
    clear hr RB TA TB hxa hxb hd he k1 k7 hb7 hbn ho h1
    go_enter Try.func34, Try.ntmps34
    go_wp2_with fail
    have q0 := cellSo (p := ⟨g1, p, none⟩) (v := .int .i64 xo) z0 (by simp; omega)
    have q1 := cellSo (p := ⟨g1, p, none⟩) (v := .int .i64 xo) z1 (by simp; omega)
    have q2 := cellSo (p := ⟨g1, p, none⟩) (v := .int .i64 xo) z2 (by simp; omega)
    have q3 := cellSo (p := ⟨g1, p, none⟩) (v := .int .i64 xo) z3 (by simp; omega)
    obtain ⟨t0, t1, t2, t3⟩ := cells4 (.slice (some ⟨g0, 0, none⟩) n0 c0) (.slice (some ⟨g1, 0, none⟩) n1 c1) (.slice (some ⟨g2, 0, none⟩) n2 c2) (.slice A3 n3 c3) q0 q1 q2 q3
    obtain ⟨hF, hFB⟩ := FIN _ _ (HV.putRO p xo) (BB.setCell (p := ⟨g1, p, none⟩) hlp _)
    refine bodyPost_ret (v := .tuple #[.agg #[.slice (some ⟨g0, 0, none⟩) n0 c0, .slice (some ⟨g1, 0, none⟩) n1 c1, .slice (some ⟨g2, 0, none⟩) n2 c2, .slice A3 n3 c3], .int .i64 0]) ?_ rfl ⟨rfl, hF, hFB, KD _ fun pa hp h0 h1 h2 => (heap_setO (p := ⟨g1, p, none⟩) (v := .int .i64 xo) (fun e => h1 (congrArg some e))).trans (BW.block pa hp)⟩
    simp [results, Try.results34, go_sem, t0, t1, t2, t3]
end Go.Proofs.Ytlabljanddjleaa
