import Derived.Test.YtdifplakkepnkaaSDoH
import Derived.Test.YtdifplakkepnkaaSOp
/- l5Do of spec: what an operation does on a store of its own. -/
namespace Go.Proofs.Ytdifplakkepnkaa
open Go.RowKit

set_option maxRecDepth 100000 in
set_option maxHeartbeats 4000000 in
theorem l5Do_any (w : World) (lo : Nat) (hlo : lo ≤ w.heap.size) (v : Value) (C : Cp) (hv : Cv w lo v C) (hC : stoB C = true) (o : Opv) (ho : opB o C.h.t.length = true) (h1 : o.k ≠ 1) :
    Calls Try.prog 120 #[v, opV o] w (DoneO w lo v C o) := by
  have hvo := hv
  obtain ⟨A0, n0, c0, A1, n1, c1, A2, n2, c2, A3, n3, c3, rfl, _, ⟨r0, r1, r2, _⟩, ⟨l0, l1, l2, l3⟩, _, _⟩ := hvo.open_
  obtain ⟨k, a, b⟩ := o
  obtain ⟨⟨k1, k7⟩, ⟨a0, a1, _⟩, ⟨b0, _⟩, hb7, hbn⟩ := opB_iff.1 ho
  simp only at h1 k1 k7 a0 a1 b0 hb7 hbn
  have h6 : ¬ k = 2 → ¬ k = 7 → ¬ k = 3 → ¬ k = 4 → ¬ k = 5 → k = 6 := by omega
  obtain ⟨hvh, _⟩ := stoB_parts hC
  have h8 := hvB_len hvh
  have e0 := l0.out
  have e1 := l1.out
  have e2 := l2.out
  have hbt : b < C.h.t.length := by
    by_cases h : k = 1 ∨ k = 7
    · rw [hb7 h]; omega
    · exact hbn h
  obtain ⟨ja, rfl⟩ := Int.eq_ofNat_of_zero_le a0
  obtain ⟨jb, rfl⟩ := Int.eq_ofNat_of_zero_le b0
  have RA := rootA_range hvh a0 a1
  have RB := rootA_range hvh b0 hbt
  have TA := rootA_at a0 a1
  have TB := rootA_at b0 hbt
  simp only [Int.toNat_natCast] at TA TB
  obtain ⟨g2, xa, rfl, hlo2, hg2, hxa, hca, _⟩ := r2.get (k := ja) (by omega)
  obtain ⟨g2', xb, eb, _, _, hxb, hcb, _⟩ := r2.get (k := jb) (by omega)
  cases eb
  obtain rfl : rootA C (ja : Int) = xa := by have h9 := hxa.out; rw [TA] at h9; simpa using h9
  obtain rfl : rootA C (jb : Int) = xb := by have h9 := hxb.out; rw [TB] at h9; simpa using h9
  obtain ⟨g0, _, rfl, hlo0, hg0, _, _, hz0⟩ := r0.get (k := 0) (by omega)
  obtain ⟨g1, _, rfl, hlo1, hg1, _, _, hz1⟩ := r1.get (k := 0) (by omega)
  have X := (Blk4.new w (.slice (some ⟨g0, 0, none⟩) n0 c0) (.slice (some ⟨g1, 0, none⟩) n1 c1) (.slice (some ⟨g2, 0, none⟩) n2 c2) (.slice A3 n3 c3) 27).alloc (.cells #[.int .i64 k, .int .i64 (ja : Int), .int .i64 (jb : Int)] 70) |>.alloc (.cells #[.slice none 0 0, .slice none 0 0, .slice none 0 0, .slice none 0 0] 27)
  have Y := (Blk3.new_at (w := w.alloc (.cells #[.slice (some ⟨g0, 0, none⟩) n0 c0, .slice (some ⟨g1, 0, none⟩) n1 c1, .slice (some ⟨g2, 0, none⟩) n2 c2, .slice A3 n3 c3] 27)) (b := w.heap.size + 1) (by simp) (.int .i64 k) (.int .i64 (ja : Int)) (.int .i64 (jb : Int)) 70).alloc (.cells #[.slice none 0 0, .slice none 0 0, .slice none 0 0, .slice none 0 0] 27)
  have R := Blk4.new_at (w := (w.alloc (.cells #[.slice (some ⟨g0, 0, none⟩) n0 c0, .slice (some ⟨g1, 0, none⟩) n1 c1, .slice (some ⟨g2, 0, none⟩) n2 c2, .slice A3 n3 c3] 27)).alloc (.cells #[.int .i64 k, .int .i64 (ja : Int), .int .i64 (jb : Int)] 70)) (b := w.heap.size + 2) (by simp) (.slice none 0 0) (.slice none 0 0) (.slice none 0 0) (.slice none 0 0) 27
  have HV := ((hv.alloc (.cells #[.slice (some ⟨g0, 0, none⟩) n0 c0, .slice (some ⟨g1, 0, none⟩) n1 c1, .slice (some ⟨g2, 0, none⟩) n2 c2, .slice A3 n3 c3] 27)).alloc (.cells #[.int .i64 k, .int .i64 (ja : Int), .int .i64 (jb : Int)] 70)).alloc (.cells #[.slice none 0 0, .slice none 0 0, .slice none 0 0, .slice none 0 0] 27)
  have BB : Below lo w (((w.alloc (.cells #[.slice (some ⟨g0, 0, none⟩) n0 c0, .slice (some ⟨g1, 0, none⟩) n1 c1, .slice (some ⟨g2, 0, none⟩) n2 c2, .slice A3 n3 c3] 27)).alloc (.cells #[.int .i64 k, .int .i64 (ja : Int), .int .i64 (jb : Int)] 70)).alloc (.cells #[.slice none 0 0, .slice none 0 0, .slice none 0 0, .slice none 0 0] 27)) := (((Below.refl lo w).alloc hlo _).alloc (by simp; omega) _).alloc (by simp; omega) _
  have sz : (((w.alloc (.cells #[.slice (some ⟨g0, 0, none⟩) n0 c0, .slice (some ⟨g1, 0, none⟩) n1 c1, .slice (some ⟨g2, 0, none⟩) n2 c2, .slice A3 n3 c3] 27)).alloc (.cells #[.int .i64 k, .int .i64 (ja : Int), .int .i64 (jb : Int)] 70)).alloc (.cells #[.slice none 0 0, .slice none 0 0, .slice none 0 0, .slice none 0 0] 27)).heap.size = w.heap.size + 3 := by simp
  have BW : Below w.heap.size w (((w.alloc (.cells #[.slice (some ⟨g0, 0, none⟩) n0 c0, .slice (some ⟨g1, 0, none⟩) n1 c1, .slice (some ⟨g2, 0, none⟩) n2 c2, .slice A3 n3 c3] 27)).alloc (.cells #[.int .i64 k, .int .i64 (ja : Int), .int .i64 (jb : Int)] 70)).alloc (.cells #[.slice none 0 0, .slice none 0 0, .slice none 0 0, .slice none 0 0] 27)) := (((Below.refl _ w).alloc (Nat.le_refl _) _).alloc (by simp) _).alloc (by simp <;> omega) _
  have na : ja < n2 := by omega
  have nb : jb < n2 := by omega
  have nai : (ja : Int) < (n2 : Int) := by omega
  have nbi : (jb : Int) < (n2 : Int) := by omega
  have d0 := hlo
  have FIN := fun (W' : World) (C' : Cp) (h : Cv W' lo (.agg #[.slice (some ⟨g0, 0, none⟩) n0 c0, .slice (some ⟨g1, 0, none⟩) n1 c1, .slice (some ⟨g2, 0, none⟩) n2 c2, .slice A3 n3 c3]) C') (hB : Below lo w W') => do_done (b := w.heap.size + 1 + 1) hv (by omega) (by omega) h hB
  have KD := fun (W' : World) (h : ∀ i : Nat, i < w.heap.size → (Value.slice (some ⟨g0, 0, none⟩) n0 c0).ownBlock ≠ some i → (Value.slice (some ⟨g1, 0, none⟩) n1 c1).ownBlock ≠ some i → (Value.slice (some ⟨g2, 0, none⟩) n2 c2).ownBlock ≠ some i → W'.heap[i]? = w.heap[i]?) => keepO_done (v3 := .slice A3 n3 c3) (b := w.heap.size + 1 + 1) (by omega) h
  obtain ⟨x0, x1, x2, x3, _⟩ := X.cells
  obtain ⟨y0, y1, y2, _⟩ := Y.cells
  obtain ⟨z0, z1, z2, z3, f0, f1, f2, f3⟩ := R.cells
  have ca := (BW.cell (p := ⟨g2, ja, none⟩) hg2).trans hca
  have cb := (BW.cell (p := ⟨g2, jb, none⟩) hg2).trans hcb
  obtain ⟨R0, R1, R2⟩ := HV.rowsO
  have fa := (R2.atO (k := ja) (by omega)).2.1
  clear X Y R r0 r1 r2 hca hcb hvo
  by_cases h2 : k = 2
  · subst h2
    have hd : doC C ⟨2, (ja : Int), (jb : Int)⟩ = ⟨⟨C.h.l, C.h.r, C.h.t.set ja (rootA C (jb : Int))⟩, C.c⟩ := by simp [doC]
    have he : doE C ⟨2, (ja : Int), (jb : Int)⟩ = 0 := by simp [doE]
    unfold DoneO
    rw [hd, he]
    generalize rootA C (ja : Int) = xa at *
    generalize rootA C (jb : Int) = xb at *
    clear h6 RA RB TA TB hxa hxb hd he k1 k7 hb7 hbn ho h1
    go_enter Try.func120, Try.ntmps120
    go_wp2_with fail
    have q0 := cellSo (p := ⟨g2, ja, none⟩) (v := .int .i64 xb) z0 (by simp; omega)
    have q1 := cellSo (p := ⟨g2, ja, none⟩) (v := .int .i64 xb) z1 (by simp; omega)
    have q2 := cellSo (p := ⟨g2, ja, none⟩) (v := .int .i64 xb) z2 (by simp; omega)
    have q3 := cellSo (p := ⟨g2, ja, none⟩) (v := .int .i64 xb) z3 (by simp; omega)
    obtain ⟨t0, t1, t2, t3⟩ := cells4 (.slice (some ⟨g0, 0, none⟩) n0 c0) (.slice (some ⟨g1, 0, none⟩) n1 c1) (.slice (some ⟨g2, 0, none⟩) n2 c2) (.slice A3 n3 c3) q0 q1 q2 q3
    obtain ⟨hF, hFB⟩ := FIN _ _ (HV.putTO ja xb) (BB.setCell (p := ⟨g2, ja, none⟩) hlo2 _)
    refine bodyPost_ret (v := .tuple #[.agg #[.slice (some ⟨g0, 0, none⟩) n0 c0, .slice (some ⟨g1, 0, none⟩) n1 c1, .slice (some ⟨g2, 0, none⟩) n2 c2, .slice A3 n3 c3], .int .i64 0]) ?_ rfl ⟨rfl, hF, hFB, KD _ fun pa hp h0 h1 h2 => (heap_setO (p := ⟨g2, ja, none⟩) (v := .int .i64 xb) (fun e => h2 (congrArg some e))).trans (BW.block pa hp)⟩
    simp [results, Try.results120, go_sem, t0, t1, t2, t3]
  by_cases h7 : k = 7
  · subst h7
    have hd : doC C ⟨7, (ja : Int), (jb : Int)⟩ = ⟨⟨C.h.l, C.h.r, C.h.t.set ja (-1)⟩, C.c⟩ := by simp [doC]
    have he : doE C ⟨7, (ja : Int), (jb : Int)⟩ = 0 := by simp [doE]
    unfold DoneO
    rw [hd, he]
    generalize rootA C (ja : Int) = xa at *
    generalize rootA C (jb : Int) = xb at *
    clear h6 RA RB TA TB hxa hxb hd he k1 k7 hb7 hbn ho h1
    go_enter Try.func120, Try.ntmps120
    go_wp2_with fail
    have q0 := cellSo (p := ⟨g2, ja, none⟩) (v := .int .i64 (-1)) z0 (by simp; omega)
    have q1 := cellSo (p := ⟨g2, ja, none⟩) (v := .int .i64 (-1)) z1 (by simp; omega)
    have q2 := cellSo (p := ⟨g2, ja, none⟩) (v := .int .i64 (-1)) z2 (by simp; omega)
    have q3 := cellSo (p := ⟨g2, ja, none⟩) (v := .int .i64 (-1)) z3 (by simp; omega)
    obtain ⟨t0, t1, t2, t3⟩ := cells4 (.slice (some ⟨g0, 0, none⟩) n0 c0) (.slice (some ⟨g1, 0, none⟩) n1 c1) (.slice (some ⟨g2, 0, none⟩) n2 c2) (.slice A3 n3 c3) q0 q1 q2 q3
    obtain ⟨hF, hFB⟩ := FIN _ _ (HV.putTO ja (-1)) (BB.setCell (p := ⟨g2, ja, none⟩) hlo2 _)
    refine bodyPost_ret (v := .tuple #[.agg #[.slice (some ⟨g0, 0, none⟩) n0 c0, .slice (some ⟨g1, 0, none⟩) n1 c1, .slice (some ⟨g2, 0, none⟩) n2 c2, .slice A3 n3 c3], .int .i64 0]) ?_ rfl ⟨rfl, hF, hFB, KD _ fun pa hp h0 h1 h2 => (heap_setO (p := ⟨g2, ja, none⟩) (v := .int .i64 (-1)) (fun e => h2 (congrArg some e))).trans (BW.block pa hp)⟩
    simp [results, Try.results120, go_sem, t0, t1, t2, t3]
  by_cases h3 : k = 3
  · subst h3
    rcases RB with hr | ⟨p, hr, hp⟩
    · have hd : doC C ⟨3, (ja : Int), (jb : Int)⟩ = C := by simp [doC, hr]
      have he : doE C ⟨3, (ja : Int), (jb : Int)⟩ = 2 := by simp [doE, hr]
      unfold DoneO
      rw [hd, he]
      rw [hr] at cb
      generalize rootA C (ja : Int) = xo at *
      clear hr h6 RA TA TB hxa hxb hd he k1 k7 hb7 hbn ho h1
      go_enter Try.func120, Try.ntmps120
      go_wp2_with fail
      obtain ⟨t0, t1, t2, t3, _⟩ := (Blk4.new_at (w := (w.alloc (.cells #[.slice (some ⟨g0, 0, none⟩) n0 c0, .slice (some ⟨g1, 0, none⟩) n1 c1, .slice (some ⟨g2, 0, none⟩) n2 c2, .slice A3 n3 c3] 27)).alloc (.cells #[.int .i64 3, .int .i64 (ja : Int), .int .i64 (jb : Int)] 70)) (b := w.heap.size + 2) (by simp) (.slice (some ⟨g0, 0, none⟩) n0 c0) (.slice (some ⟨g1, 0, none⟩) n1 c1) (.slice (some ⟨g2, 0, none⟩) n2 c2) (.slice A3 n3 c3) 27).cells
      refine bodyPost_ret (v := .tuple #[.agg #[.slice (some ⟨g0, 0, none⟩) n0 c0, .slice (some ⟨g1, 0, none⟩) n1 c1, .slice (some ⟨g2, 0, none⟩) n2 c2, .slice A3 n3 c3], .int .i64 2]) ?_ rfl ⟨rfl, ((hv.alloc (.cells #[.slice (some ⟨g0, 0, none⟩) n0 c0, .slice (some ⟨g1, 0, none⟩) n1 c1, .slice (some ⟨g2, 0, none⟩) n2 c2, .slice A3 n3 c3] 27)).alloc (.cells #[.int .i64 3, .int .i64 (ja : Int), .int .i64 (jb : Int)] 70)).alloc (.cells #[.slice (some ⟨g0, 0, none⟩) n0 c0, .slice (some ⟨g1, 0, none⟩) n1 c1, .slice (some ⟨g2, 0, none⟩) n2 c2, .slice A3 n3 c3] 27), (((Below.refl lo w).alloc hlo _).alloc (by simp; omega) _).alloc (by simp; omega) _, keepO_mk fun p hp _ _ _ => ((((Below.refl _ w).alloc (Nat.le_refl _) _).alloc (by simp) _).alloc (by simp <;> omega) _).block p hp⟩
      simp [results, Try.results120, go_sem, t0, t1, t2, t3]
    · have hne : ¬ ((p : Int) = -1) := by omega
      have hd : doC C ⟨3, (ja : Int), (jb : Int)⟩ = ⟨⟨C.h.l, C.h.r, C.h.t.set ja (C.h.l.getD p (-1))⟩, C.c⟩ := by simp [doC, hr, hne]
      have he : doE C ⟨3, (ja : Int), (jb : Int)⟩ = 0 := by simp [doE, hr, hne]
      unfold DoneO
      rw [hd, he]
      have pn : p < n0 := by omega
      have pni : (p : Int) < (n0 : Int) := by omega
      obtain ⟨cp, fp, hlp⟩ := R0.atO (k := p) (by omega)
      rw [hr] at cb
      generalize rootA C (ja : Int) = xo at *
      generalize C.h.l.getD p (-1) = y at *
      clear hr h6 RA TA TB hxa hxb hd he k1 k7 hb7 hbn ho h1
      go_enter Try.func120, Try.ntmps120
      go_wp2_with fail
      have q0 := cellSo (p := ⟨g2, ja, none⟩) (v := .int .i64 y) z0 (by simp; omega)
      have q1 := cellSo (p := ⟨g2, ja, none⟩) (v := .int .i64 y) z1 (by simp; omega)
      have q2 := cellSo (p := ⟨g2, ja, none⟩) (v := .int .i64 y) z2 (by simp; omega)
      have q3 := cellSo (p := ⟨g2, ja, none⟩) (v := .int .i64 y) z3 (by simp; omega)
      obtain ⟨t0, t1, t2, t3⟩ := cells4 (.slice (some ⟨g0, 0, none⟩) n0 c0) (.slice (some ⟨g1, 0, none⟩) n1 c1) (.slice (some ⟨g2, 0, none⟩) n2 c2) (.slice A3 n3 c3) q0 q1 q2 q3
      obtain ⟨hF, hFB⟩ := FIN _ _ (HV.putTO ja y) (BB.setCell (p := ⟨g2, ja, none⟩) hlo2 _)
      refine bodyPost_ret (v := .tuple #[.agg #[.slice (some ⟨g0, 0, none⟩) n0 c0, .slice (some ⟨g1, 0, none⟩) n1 c1, .slice (some ⟨g2, 0, none⟩) n2 c2, .slice A3 n3 c3], .int .i64 0]) ?_ rfl ⟨rfl, hF, hFB, KD _ fun pa hp h0 h1 h2 => (heap_setO (p := ⟨g2, ja, none⟩) (v := .int .i64 y) (fun e => h2 (congrArg some e))).trans (BW.block pa hp)⟩
      simp [results, Try.results120, go_sem, t0, t1, t2, t3]
  by_cases h4 : k = 4
  · subst h4
    rcases RB with hr | ⟨p, hr, hp⟩
    · have hd : doC C ⟨4, (ja : Int), (jb : Int)⟩ = C := by simp [doC, hr]
      have he : doE C ⟨4, (ja : Int), (jb : Int)⟩ = 2 := by simp [doE, hr]
      unfold DoneO
      rw [hd, he]
      rw [hr] at cb
      generalize rootA C (ja : Int) = xo at *
      clear hr h6 RA TA TB hxa hxb hd he k1 k7 hb7 hbn ho h1
      go_enter Try.func120, Try.ntmps120
      go_wp2_with fail
      obtain ⟨t0, t1, t2, t3, _⟩ := (Blk4.new_at (w := (w.alloc (.cells #[.slice (some ⟨g0, 0, none⟩) n0 c0, .slice (some ⟨g1, 0, none⟩) n1 c1, .slice (some ⟨g2, 0, none⟩) n2 c2, .slice A3 n3 c3] 27)).alloc (.cells #[.int .i64 4, .int .i64 (ja : Int), .int .i64 (jb : Int)] 70)) (b := w.heap.size + 2) (by simp) (.slice (some ⟨g0, 0, none⟩) n0 c0) (.slice (some ⟨g1, 0, none⟩) n1 c1) (.slice (some ⟨g2, 0, none⟩) n2 c2) (.slice A3 n3 c3) 27).cells
      refine bodyPost_ret (v := .tuple #[.agg #[.slice (some ⟨g0, 0, none⟩) n0 c0, .slice (some ⟨g1, 0, none⟩) n1 c1, .slice (some ⟨g2, 0, none⟩) n2 c2, .slice A3 n3 c3], .int .i64 2]) ?_ rfl ⟨rfl, ((hv.alloc (.cells #[.slice (some ⟨g0, 0, none⟩) n0 c0, .slice (some ⟨g1, 0, none⟩) n1 c1, .slice (some ⟨g2, 0, none⟩) n2 c2, .slice A3 n3 c3] 27)).alloc (.cells #[.int .i64 4, .int .i64 (ja : Int), .int .i64 (jb : Int)] 70)).alloc (.cells #[.slice (some ⟨g0, 0, none⟩) n0 c0, .slice (some ⟨g1, 0, none⟩) n1 c1, .slice (some ⟨g2, 0, none⟩) n2 c2, .slice A3 n3 c3] 27), (((Below.refl lo w).alloc hlo _).alloc (by simp; omega) _).alloc (by simp; omega) _, keepO_mk fun p hp _ _ _ => ((((Below.refl _ w).alloc (Nat.le_refl _) _).alloc (by simp) _).alloc (by simp <;> omega) _).block p hp⟩
      simp [results, Try.results120, go_sem, t0, t1, t2, t3]
    · have hne : ¬ ((p : Int) = -1) := by omega
      have hd : doC C ⟨4, (ja : Int), (jb : Int)⟩ = ⟨⟨C.h.l, C.h.r, C.h.t.set ja (C.h.r.getD p (-1))⟩, C.c⟩ := by simp [doC, hr, hne]
      have he : doE C ⟨4, (ja : Int), (jb : Int)⟩ = 0 := by simp [doE, hr, hne]
      unfold DoneO
      rw [hd, he]
      have pm : p < n0 := by omega
      have pmi : (p : Int) < (n0 : Int) := by omega
      obtain ⟨cq, _, _⟩ := R0.atO (k := p) (by omega)
      have pn : p < n1 := by omega
      have pni : (p : Int) < (n1 : Int) := by omega
      obtain ⟨cp, fp, hlp⟩ := R1.atO (k := p) (by omega)
      rw [hr] at cb
      generalize rootA C (ja : Int) = xo at *
      generalize C.h.r.getD p (-1) = y at *
      clear hr h6 RA TA TB hxa hxb hd he k1 k7 hb7 hbn ho h1
      go_enter Try.func120, Try.ntmps120
      go_wp2_with fail
      have q0 := cellSo (p := ⟨g2, ja, none⟩) (v := .int .i64 y) z0 (by simp; omega)
      have q1 := cellSo (p := ⟨g2, ja, none⟩) (v := .int .i64 y) z1 (by simp; omega)
      have q2 := cellSo (p := ⟨g2, ja, none⟩) (v := .int .i64 y) z2 (by simp; omega)
      have q3 := cellSo (p := ⟨g2, ja, none⟩) (v := .int .i64 y) z3 (by simp; omega)
      obtain ⟨t0, t1, t2, t3⟩ := cells4 (.slice (some ⟨g0, 0, none⟩) n0 c0) (.slice (some ⟨g1, 0, none⟩) n1 c1) (.slice (some ⟨g2, 0, none⟩) n2 c2) (.slice A3 n3 c3) q0 q1 q2 q3
      obtain ⟨hF, hFB⟩ := FIN _ _ (HV.putTO ja y) (BB.setCell (p := ⟨g2, ja, none⟩) hlo2 _)
      refine bodyPost_ret (v := .tuple #[.agg #[.slice (some ⟨g0, 0, none⟩) n0 c0, .slice (some ⟨g1, 0, none⟩) n1 c1, .slice (some ⟨g2, 0, none⟩) n2 c2, .slice A3 n3 c3], .int .i64 0]) ?_ rfl ⟨rfl, hF, hFB, KD _ fun pa hp h0 h1 h2 => (heap_setO (p := ⟨g2, ja, none⟩) (v := .int .i64 y) (fun e => h2 (congrArg some e))).trans (BW.block pa hp)⟩
      simp [results, Try.results120, go_sem, t0, t1, t2, t3]
  by_cases h5 : k = 5
  · subst h5
    rcases RA with hr | ⟨p, hr, hp⟩
    · have hd : doC C ⟨5, (ja : Int), (jb : Int)⟩ = C := by simp [doC, hr]
      have he : doE C ⟨5, (ja : Int), (jb : Int)⟩ = 2 := by simp [doE, hr]
      unfold DoneO
      rw [hd, he]
      rw [hr] at ca
      generalize rootA C (jb : Int) = xo at *
      clear hr h6 RB TA TB hxa hxb hd he k1 k7 hb7 hbn ho h1
      go_enter Try.func120, Try.ntmps120
      go_wp2_with fail
      obtain ⟨t0, t1, t2, t3, _⟩ := (Blk4.new_at (w := (w.alloc (.cells #[.slice (some ⟨g0, 0, none⟩) n0 c0, .slice (some ⟨g1, 0, none⟩) n1 c1, .slice (some ⟨g2, 0, none⟩) n2 c2, .slice A3 n3 c3] 27)).alloc (.cells #[.int .i64 5, .int .i64 (ja : Int), .int .i64 (jb : Int)] 70)) (b := w.heap.size + 2) (by simp) (.slice (some ⟨g0, 0, none⟩) n0 c0) (.slice (some ⟨g1, 0, none⟩) n1 c1) (.slice (some ⟨g2, 0, none⟩) n2 c2) (.slice A3 n3 c3) 27).cells
      refine bodyPost_ret (v := .tuple #[.agg #[.slice (some ⟨g0, 0, none⟩) n0 c0, .slice (some ⟨g1, 0, none⟩) n1 c1, .slice (some ⟨g2, 0, none⟩) n2 c2, .slice A3 n3 c3], .int .i64 2]) ?_ rfl ⟨rfl, ((hv.alloc (.cells #[.slice (some ⟨g0, 0, none⟩) n0 c0, .slice (some ⟨g1, 0, none⟩) n1 c1, .slice (some ⟨g2, 0, none⟩) n2 c2, .slice A3 n3 c3] 27)).alloc (.cells #[.int .i64 5, .int .i64 (ja : Int), .int .i64 (jb : Int)] 70)).alloc (.cells #[.slice (some ⟨g0, 0, none⟩) n0 c0, .slice (some ⟨g1, 0, none⟩) n1 c1, .slice (some ⟨g2, 0, none⟩) n2 c2, .slice A3 n3 c3] 27), (((Below.refl lo w).alloc hlo _).alloc (by simp; omega) _).alloc (by simp; omega) _, keepO_mk fun p hp _ _ _ => ((((Below.refl _ w).alloc (Nat.le_refl _) _).alloc (by simp) _).alloc (by simp <;> omega) _).block p hp⟩
      simp [results, Try.results120, go_sem, t0, t1, t2, t3]
    · have hne : ¬ ((p : Int) = -1) := by omega
      have hd : doC C ⟨5, (ja : Int), (jb : Int)⟩ = ⟨⟨C.h.l.set p (rootA C (jb : Int)), C.h.r, C.h.t⟩, C.c⟩ := by simp [doC, hr, hne]
      have he : doE C ⟨5, (ja : Int), (jb : Int)⟩ = 0 := by simp [doE, hr, hne]
      unfold DoneO
      rw [hd, he]
      have pn : p < n0 := by omega
      have pni : (p : Int) < (n0 : Int) := by omega
      obtain ⟨cp, fp, hlp⟩ := R0.atO (k := p) (by omega)
      rw [hr] at ca
      generalize rootA C (jb : Int) = xo at *
      clear hr h6 RB TA TB hxa hxb hd he k1 k7 hb7 hbn ho h1
      go_enter Try.func120, Try.ntmps120
      go_wp2_with fail
      have q0 := cellSo (p := ⟨g0, p, none⟩) (v := .int .i64 xo) z0 (by simp; omega)
      have q1 := cellSo (p := ⟨g0, p, none⟩) (v := .int .i64 xo) z1 (by simp; omega)
      have q2 := cellSo (p := ⟨g0, p, none⟩) (v := .int .i64 xo) z2 (by simp; omega)
      have q3 := cellSo (p := ⟨g0, p, none⟩) (v := .int .i64 xo) z3 (by simp; omega)
      obtain ⟨t0, t1, t2, t3⟩ := cells4 (.slice (some ⟨g0, 0, none⟩) n0 c0) (.slice (some ⟨g1, 0, none⟩) n1 c1) (.slice (some ⟨g2, 0, none⟩) n2 c2) (.slice A3 n3 c3) q0 q1 q2 q3
      obtain ⟨hF, hFB⟩ := FIN _ _ (HV.putLO p xo) (BB.setCell (p := ⟨g0, p, none⟩) hlp _)
      refine bodyPost_ret (v := .tuple #[.agg #[.slice (some ⟨g0, 0, none⟩) n0 c0, .slice (some ⟨g1, 0, none⟩) n1 c1, .slice (some ⟨g2, 0, none⟩) n2 c2, .slice A3 n3 c3], .int .i64 0]) ?_ rfl ⟨rfl, hF, hFB, KD _ fun pa hp h0 h1 h2 => (heap_setO (p := ⟨g0, p, none⟩) (v := .int .i64 xo) (fun e => h0 (congrArg some e))).trans (BW.block pa hp)⟩
      simp [results, Try.results120, go_sem, t0, t1, t2, t3]
  have h6 := h6 h2 h7 h3 h4 h5
  subst h6
  rcases RA with hr | ⟨p, hr, hp⟩
  · have hd : doC C ⟨6, (ja : Int), (jb : Int)⟩ = C := by simp [doC, hr]
    have he : doE C ⟨6, (ja : Int), (jb : Int)⟩ = 2 := by simp [doE, hr]
    unfold DoneO
    rw [hd, he]
    rw [hr] at ca
    generalize rootA C (jb : Int) = xo at *
    clear hr RB TA TB hxa hxb hd he k1 k7 hb7 hbn ho h1
    go_enter Try.func120, Try.ntmps120
    go_wp2_with fail
    obtain ⟨t0, t1, t2, t3, _⟩ := (Blk4.new_at (w := (w.alloc (.cells #[.slice (some ⟨g0, 0, none⟩) n0 c0, .slice (some ⟨g1, 0, none⟩) n1 c1, .slice (some ⟨g2, 0, none⟩) n2 c2, .slice A3 n3 c3] 27)).alloc (.cells #[.int .i64 6, .int .i64 (ja : Int), .int .i64 (jb : Int)] 70)) (b := w.heap.size + 2) (by simp) (.slice (some ⟨g0, 0, none⟩) n0 c0) (.slice (some ⟨g1, 0, none⟩) n1 c1) (.slice (some ⟨g2, 0, none⟩) n2 c2) (.slice A3 n3 c3) 27).cells
    refine bodyPost_ret (v := .tuple #[.agg #[.slice (some ⟨g0, 0, none⟩) n0 c0, .slice (some ⟨g1, 0, none⟩) n1 c1, .slice (some ⟨g2, 0, none⟩) n2 c2, .slice A3 n3 c3], .int .i64 2]) ?_ rfl ⟨rfl, ((hv.alloc (.cells #[.slice (some ⟨g0, 0, none⟩) n0 c0, .slice (some ⟨g1, 0, none⟩) n1 c1, .slice (some ⟨g2, 0, none⟩) n2 c2, .slice A3 n3 c3] 27)).alloc (.cells #[.int .i64 6, .int .i64 (ja : Int), .int .i64 (jb : Int)] 70)).alloc (.cells #[.slice (some ⟨g0, 0, none⟩) n0 c0, .slice (some ⟨g1, 0, none⟩) n1 c1, .slice (some ⟨g2, 0, none⟩) n2 c2, .slice A3 n3 c3] 27), (((Below.refl lo w).alloc hlo _).alloc (by simp; omega) _).alloc (by simp; omega) _, keepO_mk fun p hp _ _ _ => ((((Below.refl _ w).alloc (Nat.le_refl _) _).alloc (by simp) _).alloc (by simp <;> omega) _).block p hp⟩
    simp [results, Try.results120, go_sem, t0, t1, t2, t3]
  · have hne : ¬ ((p : Int) = -1) := by omega
    have hd : doC C ⟨6, (ja : Int), (jb : Int)⟩ = ⟨⟨C.h.l, C.h.r.set p (rootA C (jb : Int)), C.h.t⟩, C.c⟩ := by simp [doC, hr, hne]
    have he : doE C ⟨6, (ja : Int), (jb : Int)⟩ = 0 := by simp [doE, hr, hne]
    unfold DoneO
    rw [hd, he]
    have pn : p < n1 := by omega
    have pni : (p : Int) < (n1 : Int) := by omega
    obtain ⟨cp, fp, hlp⟩ := R1.atO (k := p) (by omega)
    rw [hr] at ca
    generalize rootA C (jb : Int) = xo at *
    clear hr RB TA TB hxa hxb hd he k1 k7 hb7 hbn ho h1
    go_enter Try.func120, Try.ntmps120
    go_wp2_with fail
    have q0 := cellSo (p := ⟨g1, p, none⟩) (v := .int .i64 xo) z0 (by simp; omega)
    have q1 := cellSo (p := ⟨g1, p, none⟩) (v := .int .i64 xo) z1 (by simp; omega)
    have q2 := cellSo (p := ⟨g1, p, none⟩) (v := .int .i64 xo) z2 (by simp; omega)
    have q3 := cellSo (p := ⟨g1, p, none⟩) (v := .int .i64 xo) z3 (by simp; omega)
    obtain ⟨t0, t1, t2, t3⟩ := cells4 (.slice (some ⟨g0, 0, none⟩) n0 c0) (.slice (some ⟨g1, 0, none⟩) n1 c1) (.slice (some ⟨g2, 0, none⟩) n2 c2) (.slice A3 n3 c3) q0 q1 q2 q3
    obtain ⟨hF, hFB⟩ := FIN _ _ (HV.putRO p xo) (BB.setCell (p := ⟨g1, p, none⟩) hlp _)
    refine bodyPost_ret (v := .tuple #[.agg #[.slice (some ⟨g0, 0, none⟩) n0 c0, .slice (some ⟨g1, 0, none⟩) n1 c1, .slice (some ⟨g2, 0, none⟩) n2 c2, .slice A3 n3 c3], .int .i64 0]) ?_ rfl ⟨rfl, hF, hFB, KD _ fun pa hp h0 h1 h2 => (heap_setO (p := ⟨g1, p, none⟩) (v := .int .i64 xo) (fun e => h1 (congrArg some e))).trans (BW.block pa hp)⟩
    simp [results, Try.results120, go_sem, t0, t1, t2, t3]
end Go.Proofs.Ytdifplakkepnkaa

/- RunOp of spec. -/
namespace Go.Proofs.Ytdifplakkepnkaa
open Go.RowKit

set_option maxRecDepth 100000 in
set_option maxHeartbeats 4000000 in
theorem specRunOp_any (w : World) (lo : Nat) (v : Value) (C : Cp) (hv : Cv w lo v C) (o : Opv) :
    Calls Try.prog 92 #[v, opV o] w (OptCI w (runC C o) (runE C o) (runB C o)) := by
  have hvo := hv
  obtain ⟨A0, n0, c0, A1, n1, c1, A2, n2, c2, A3, n3, c3, rfl, hh, ⟨r0, r1, r2, r3⟩, ⟨l0, l1, l2, l3⟩, ⟨b0, b1, b2, b3⟩, _⟩ := hvo.open_
  obtain ⟨k, a, b⟩ := o
  show Calls Try.prog 92 #[.agg #[.slice A0 n0 c0, .slice A1 n1 c1, .slice A2 n2 c2, .slice A3 n3 c3], .agg #[.int .i64 k, .int .i64 a, .int .i64 b]] w _
  have X := ((Blk4.new w (.slice A0 n0 c0) (.slice A1 n1 c1) (.slice A2 n2 c2) (.slice A3 n3 c3) 27).alloc (.cells #[.int .i64 k, .int .i64 a, .int .i64 b] 70)).alloc (.cells #[.slice none 0 0, .slice none 0 0, .slice none 0 0, .slice none 0 0] 27)
  have Y := (Blk3.new_at (w := w.alloc (.cells #[.slice A0 n0 c0, .slice A1 n1 c1, .slice A2 n2 c2, .slice A3 n3 c3] 27)) (b := w.heap.size + 1) (by simp) (.int .i64 k) (.int .i64 a) (.int .i64 b) 70).alloc (.cells #[.slice none 0 0, .slice none 0 0, .slice none 0 0, .slice none 0 0] 27)
  have Q := Blk4.new_at (w := (w.alloc (.cells #[.slice A0 n0 c0, .slice A1 n1 c1, .slice A2 n2 c2, .slice A3 n3 c3] 27)).alloc (.cells #[.int .i64 k, .int .i64 a, .int .i64 b] 70)) (b := w.heap.size + 2) (by simp) (.slice none 0 0) (.slice none 0 0) (.slice none 0 0) (.slice none 0 0) 27
  have VV := ((hv.alloc (.cells #[.slice A0 n0 c0, .slice A1 n1 c1, .slice A2 n2 c2, .slice A3 n3 c3] 27)).alloc (.cells #[.int .i64 k, .int .i64 a, .int .i64 b] 70)).alloc (.cells #[.slice none 0 0, .slice none 0 0, .slice none 0 0, .slice none 0 0] 27)
  have BB : Below w.heap.size w (((w.alloc (.cells #[.slice A0 n0 c0, .slice A1 n1 c1, .slice A2 n2 c2, .slice A3 n3 c3] 27)).alloc (.cells #[.int .i64 k, .int .i64 a, .int .i64 b] 70)).alloc (.cells #[.slice none 0 0, .slice none 0 0, .slice none 0 0, .slice none 0 0] 27)) := (((Below.refl _ w).alloc (Nat.le_refl _) _).alloc (by simp) _).alloc (by simp <;> omega) _
  have sz : (((w.alloc (.cells #[.slice A0 n0 c0, .slice A1 n1 c1, .slice A2 n2 c2, .slice A3 n3 c3] 27)).alloc (.cells #[.int .i64 k, .int .i64 a, .int .i64 b] 70)).alloc (.cells #[.slice none 0 0, .slice none 0 0, .slice none 0 0, .slice none 0 0] 27)).heap.size = w.heap.size + 3 := by simp
  have V := specStoreValid_any _ _ _ _ VV
  have e2 := l2.out
  clear hv hh r0 r1 r2 r3
  rcases ev : stoB C
  · have hf : Hid (runB C ⟨k, a, b⟩ = false) := by unfold Hid runB; rw [ev]; rfl
    have hc := Lib.hid (runC_not hf.out)
    have hx := Lib.hid (runE_not hf.out)
    rw [ev] at V
    clear ev
    go_enter Try.func92, Try.ntmps92
    go_wp2_with fail
    generalize (((w.alloc (.cells #[.slice A0 n0 c0, .slice A1 n1 c1, .slice A2 n2 c2, .slice A3 n3 c3] 27)).alloc (.cells #[.int .i64 k, .int .i64 a, .int .i64 b] 70)).alloc (.cells #[.slice none 0 0, .slice none 0 0, .slice none 0 0, .slice none 0 0] 27)) = W at X Y Q VV BB sz V ⊢
    refine V.mono ?_; rintro e w1 ⟨rfl, hb1⟩
    have X1 := X.below hb1
    have Y1 := Y.below hb1
    have Q1 := Q.below hb1
    have V1 := VV.below hb1
    have B1 := BB.trans (hb1.mono BB.size)
    have z1 : w.heap.size + 3 ≤ w1.heap.size := by have := hb1.size; omega
    obtain ⟨x0, x1, x2, x3, _⟩ := X1.cells
    obtain ⟨y0, y1, y2, _⟩ := Y1.cells
    obtain ⟨q0, q1, q2, q3, f0, f1, f2, f3⟩ := Q1.cells
    have BZ := B1
    obtain ⟨hZ, hB⟩ := zero_done (w := w) (b := w.heap.size + 2) (by omega) BZ
    go_wp2_with fail
    rw [hf.out, hc.out, hx.out]
    refine bodyPost_ret (v := .tuple #[.agg #[.slice none 0 0, .slice none 0 0, .slice none 0 0, .slice none 0 0], .int .i64 0, .bool false]) ?_ rfl ⟨_, rfl, hZ, hB⟩
    simp [results, Try.results92, go_sem, q0, q1, q2, q3]
  · have hC := ev
    rw [ev] at V
    have OV := fun W => specOpValid_any W ⟨k, a, b⟩ (n2 : Int)
    rcases eo : opB ⟨k, a, b⟩ (n2 : Int)
    · have hf : Hid (runB C ⟨k, a, b⟩ = false) := by unfold Hid runB; rw [ev, e2, eo]; rfl
      have hc := Lib.hid (runC_not hf.out)
      have hx := Lib.hid (runE_not hf.out)
      rw [eo] at OV
      clear ev eo hC
      go_enter Try.func92, Try.ntmps92
      go_wp2_with fail
      generalize (((w.alloc (.cells #[.slice A0 n0 c0, .slice A1 n1 c1, .slice A2 n2 c2, .slice A3 n3 c3] 27)).alloc (.cells #[.int .i64 k, .int .i64 a, .int .i64 b] 70)).alloc (.cells #[.slice none 0 0, .slice none 0 0, .slice none 0 0, .slice none 0 0] 27)) = W at X Y Q VV BB sz V ⊢
      refine V.mono ?_; rintro e w1 ⟨rfl, hb1⟩
      have X1 := X.below hb1
      have Y1 := Y.below hb1
      have Q1 := Q.below hb1
      have V1 := VV.below hb1
      have B1 := BB.trans (hb1.mono BB.size)
      have z1 : w.heap.size + 3 ≤ w1.heap.size := by have := hb1.size; omega
      obtain ⟨x0, x1, x2, x3, _⟩ := X1.cells
      obtain ⟨y0, y1, y2, _⟩ := Y1.cells
      obtain ⟨q0, q1, q2, q3, f0, f1, f2, f3⟩ := Q1.cells
      go_wp2_with fail
      refine (OV _).mono ?_; rintro e w2 ⟨rfl, hb2⟩
      have BZ := B1.trans (hb2.mono B1.size)
      obtain ⟨q0, q1, q2, q3, f0, f1, f2, f3⟩ := (Q1.below hb2).cells
      obtain ⟨hZ, hB⟩ := zero_done (w := w) (b := w.heap.size + 2) (by omega) BZ
      go_wp2_with fail
      rw [hf.out, hc.out, hx.out]
      refine bodyPost_ret (v := .tuple #[.agg #[.slice none 0 0, .slice none 0 0, .slice none 0 0, .slice none 0 0], .int .i64 0, .bool false]) ?_ rfl ⟨_, rfl, hZ, hB⟩
      simp [results, Try.results92, go_sem, q0, q1, q2, q3]
    · have ho : opB ⟨k, a, b⟩ C.h.t.length = true := by rw [e2]; exact eo
      have hf : Hid (runB C ⟨k, a, b⟩ = true) := by unfold Hid; rw [runB_iff]; exact ⟨ev, ho⟩
      rw [eo] at OV
      clear ev eo
      by_cases h1 : k = 1
      · subst h1
        rcases eb : allocB C a
        · have hc : Hid (runC C ⟨1, a, b⟩ = C) := by unfold Hid runC; rw [hf.out, eb]; simp
          have hx : Hid (runE C ⟨1, a, b⟩ = 1) := by unfold Hid runE; rw [hf.out, eb]; simp
          have AL := fun W vv (h : Cv W lo vv C) => specAllocCell_any W lo vv C h a
          rw [eb] at AL
          clear eb
          go_enter Try.func92, Try.ntmps92
          go_wp2_with fail
          generalize (((w.alloc (.cells #[.slice A0 n0 c0, .slice A1 n1 c1, .slice A2 n2 c2, .slice A3 n3 c3] 27)).alloc (.cells #[.int .i64 1, .int .i64 a, .int .i64 b] 70)).alloc (.cells #[.slice none 0 0, .slice none 0 0, .slice none 0 0, .slice none 0 0] 27)) = W at X Y Q VV BB sz V ⊢
          refine V.mono ?_; rintro e w1 ⟨rfl, hb1⟩
          have X1 := X.below hb1
          have Y1 := Y.below hb1
          have Q1 := Q.below hb1
          have V1 := VV.below hb1
          have B1 := BB.trans (hb1.mono BB.size)
          have z1 : w.heap.size + 3 ≤ w1.heap.size := by have := hb1.size; omega
          obtain ⟨x0, x1, x2, x3, _⟩ := X1.cells
          obtain ⟨y0, y1, y2, _⟩ := Y1.cells
          obtain ⟨q0, q1, q2, q3, f0, f1, f2, f3⟩ := Q1.cells
          go_wp2_with fail
          refine (OV _).mono ?_; rintro e W2 ⟨rfl, hb2⟩
          have X2 := X1.below hb2
          have Y2 := Y1.below hb2
          have Q2 := Q1.below hb2
          have V2 := V1.below hb2
          have BB2 := B1.trans (hb2.mono B1.size)
          have z2 : w.heap.size + 3 ≤ W2.heap.size := by have := hb2.size; omega
          clear x0 x1 x2 x3 y0 y1 y2 q0 q1 q2 q3 f0 f1 f2 f3 OV V X1 Y1 Q1 V1 B1 hb1 hb2 X Y Q VV BB
          obtain ⟨x0, x1, x2, x3, _⟩ := X2.cells
          obtain ⟨x4, x5, x6, _⟩ := Y2.cells
          obtain ⟨q0, q1, q2, q3, f0, f1, f2, f3⟩ := Q2.cells
          have nbx : W2.heap.size ≠ w.heap.size := by omega
          have nby : W2.heap.size ≠ w.heap.size + 1 := by omega
          go_wp2_with fail
          refine (AL W2 _ V2).mono ?_; rintro e w3 ⟨vv, rfl, HN, hb3⟩
          have HNo := HN
          obtain ⟨B0, m0, d0, B1, m1, d1, B2, m2, d2, B3, m3, d3, rfl, _⟩ := HNo.open_
          have s3 := hb3.size
          have B3w : Below w.heap.size w w3 := BB2.trans (hb3.mono (by omega))
          have B3a : Below w.heap.size w (w3.alloc (.cells #[.slice B0 m0 d0, .slice B1 m1 d1, .slice B2 m2 d2, .slice B3 m3 d3] 27)) := B3w.alloc (by have := B3w.size; omega) _
          have T5 : Blk4 (w3.alloc (.cells #[.slice B0 m0 d0, .slice B1 m1 d1, .slice B2 m2 d2, .slice B3 m3 d3] 27)) w3.heap.size (.slice B0 m0 d0) (.slice B1 m1 d1) (.slice B2 m2 d2) (.slice B3 m3 d3) 27 := Blk4.new w3 (.slice B0 m0 d0) (.slice B1 m1 d1) (.slice B2 m2 d2) (.slice B3 m3 d3) 27
          have Q3 : Blk4 (w3.alloc (.cells #[.slice B0 m0 d0, .slice B1 m1 d1, .slice B2 m2 d2, .slice B3 m3 d3] 27)) (w.heap.size + 2) (.slice none 0 0) (.slice none 0 0) (.slice none 0 0) (.slice none 0 0) 27 := (Q2.belowAt hb3 (by omega)).alloc _
          have X3 : Blk4 (w3.alloc (.cells #[.slice B0 m0 d0, .slice B1 m1 d1, .slice B2 m2 d2, .slice B3 m3 d3] 27)) w.heap.size (.slice A0 n0 c0) (.slice A1 n1 c1) (.slice A2 n2 c2) (.slice A3 n3 c3) 27 := (X2.belowAt hb3 (by omega)).alloc _
          have V3 : Cv (w3.alloc (.cells #[.slice B0 m0 d0, .slice B1 m1 d1, .slice B2 m2 d2, .slice B3 m3 d3] 27)) lo (.agg #[.slice A0 n0 c0, .slice A1 n1 c1, .slice A2 n2 c2, .slice A3 n3 c3]) C := (V2.below hb3).alloc _
          clear x0 x1 x2 x3 x4 x5 x6 q0 q1 q2 q3 f0 f1 f2 f3
          obtain ⟨x0, x1, x2, x3, _⟩ := X3.cells
          obtain ⟨q0, q1, q2, q3, f0, f1, f2, f3⟩ := Q3.cells
          obtain ⟨t0, t1, t2, t3, _⟩ := T5.cells
          go_wp2_with fail
          refine (l4Copy_any _ lo _ C V3 hC).mono ?_; rintro e w4 ⟨v4, rfl, HN4, hb4⟩
          have HNo := HN4
          obtain ⟨D0, u0, h0, D1, u1, h1, D2, u2, h2, D3, u3, h3, rfl, _⟩ := HNo.open_
          have s4 := hb4.size
          clear x0 x1 x2 x3 q0 q1 q2 q3 f0 f1 f2 f3 t0 t1 t2 t3
          have hs5 : (w3.alloc (.cells #[.slice B0 m0 d0, .slice B1 m1 d1, .slice B2 m2 d2, .slice B3 m3 d3] 27)).heap.size = w3.heap.size + 1 := by simp
          have B5 : Below w.heap.size w w4 := B3a.trans (hb4.mono (by omega))
          have Q5 : Blk4 w4 (w.heap.size + 2) (.slice none 0 0) (.slice none 0 0) (.slice none 0 0) (.slice none 0 0) 27 := Q3.below hb4
          have V5 : Cv w4 (w.heap.size + 1 + 1 + 1) (.agg #[.slice D0 u0 h0, .slice D1 u1 h1, .slice D2 u2 h2, .slice D3 u3 h3]) C := HN4.mono (by omega)
          obtain ⟨q0, q1, q2, q3, f0, f1, f2, f3⟩ := Q5.cells
          obtain ⟨hF, hFB⟩ := fin_run (b := w.heap.size + 1 + 1) (by omega) V5 B5
          obtain ⟨e0, e1, e2, e3⟩ := cells4 (.slice D0 u0 h0) (.slice D1 u1 h1) (.slice D2 u2 h2) (.slice D3 u3 h3) q0 q1 q2 q3
          go_wp2_with fail
          rw [hf.out, hc.out, hx.out]
          refine bodyPost_ret (v := .tuple #[.agg #[.slice D0 u0 h0, .slice D1 u1 h1, .slice D2 u2 h2, .slice D3 u3 h3], .int .i64 1, .bool true]) ?_ rfl ⟨_, rfl, hF, hFB⟩
          simp [results, Try.results92, go_sem, e0, e1, e2, e3]
        · have hc : Hid (runC C ⟨1, a, b⟩ = allocC C a) := by unfold Hid runC; rw [hf.out, eb]; simp
          have hx : Hid (runE C ⟨1, a, b⟩ = 0) := by unfold Hid runE; rw [hf.out, eb]; simp
          have AL := fun W vv (h : Cv W lo vv C) => specAllocCell_any W lo vv C h a
          rw [eb] at AL
          clear eb
          go_enter Try.func92, Try.ntmps92
          go_wp2_with fail
          generalize (((w.alloc (.cells #[.slice A0 n0 c0, .slice A1 n1 c1, .slice A2 n2 c2, .slice A3 n3 c3] 27)).alloc (.cells #[.int .i64 1, .int .i64 a, .int .i64 b] 70)).alloc (.cells #[.slice none 0 0, .slice none 0 0, .slice none 0 0, .slice none 0 0] 27)) = W at X Y Q VV BB sz V ⊢
          refine V.mono ?_; rintro e w1 ⟨rfl, hb1⟩
          have X1 := X.below hb1
          have Y1 := Y.below hb1
          have Q1 := Q.below hb1
          have V1 := VV.below hb1
          have B1 := BB.trans (hb1.mono BB.size)
          have z1 : w.heap.size + 3 ≤ w1.heap.size := by have := hb1.size; omega
          obtain ⟨x0, x1, x2, x3, _⟩ := X1.cells
          obtain ⟨y0, y1, y2, _⟩ := Y1.cells
          obtain ⟨q0, q1, q2, q3, f0, f1, f2, f3⟩ := Q1.cells
          go_wp2_with fail
          refine (OV _).mono ?_; rintro e W2 ⟨rfl, hb2⟩
          have X2 := X1.below hb2
          have Y2 := Y1.below hb2
          have Q2 := Q1.below hb2
          have V2 := V1.below hb2
          have BB2 := B1.trans (hb2.mono B1.size)
          have z2 : w.heap.size + 3 ≤ W2.heap.size := by have := hb2.size; omega
          clear x0 x1 x2 x3 y0 y1 y2 q0 q1 q2 q3 f0 f1 f2 f3 OV V X1 Y1 Q1 V1 B1 hb1 hb2 X Y Q VV BB
          obtain ⟨x0, x1, x2, x3, _⟩ := X2.cells
          obtain ⟨x4, x5, x6, _⟩ := Y2.cells
          obtain ⟨q0, q1, q2, q3, f0, f1, f2, f3⟩ := Q2.cells
          have nbx : W2.heap.size ≠ w.heap.size := by omega
          have nby : W2.heap.size ≠ w.heap.size + 1 := by omega
          go_wp2_with fail
          refine (AL W2 _ V2).mono ?_; rintro e w3 ⟨vv, rfl, HN, hb3⟩
          have HNo := HN
          obtain ⟨B0, m0, d0, B1, m1, d1, B2, m2, d2, B3, m3, d3, rfl, _⟩ := HNo.open_
          have s3 := hb3.size
          have B3w : Below w.heap.size w w3 := BB2.trans (hb3.mono (by omega))
          have B3a : Below w.heap.size w (w3.alloc (.cells #[.slice B0 m0 d0, .slice B1 m1 d1, .slice B2 m2 d2, .slice B3 m3 d3] 27)) := B3w.alloc (by have := B3w.size; omega) _
          have T5 : Blk4 (w3.alloc (.cells #[.slice B0 m0 d0, .slice B1 m1 d1, .slice B2 m2 d2, .slice B3 m3 d3] 27)) w3.heap.size (.slice B0 m0 d0) (.slice B1 m1 d1) (.slice B2 m2 d2) (.slice B3 m3 d3) 27 := Blk4.new w3 (.slice B0 m0 d0) (.slice B1 m1 d1) (.slice B2 m2 d2) (.slice B3 m3 d3) 27
          have Q3 : Blk4 (w3.alloc (.cells #[.slice B0 m0 d0, .slice B1 m1 d1, .slice B2 m2 d2, .slice B3 m3 d3] 27)) (w.heap.size + 2) (.slice none 0 0) (.slice none 0 0) (.slice none 0 0) (.slice none 0 0) 27 := (Q2.belowAt hb3 (by omega)).alloc _
          have B5 := B3a
          have Q5 := Q3
          have V5 : Cv (w3.alloc (.cells #[.slice B0 m0 d0, .slice B1 m1 d1, .slice B2 m2 d2, .slice B3 m3 d3] 27)) (w.heap.size + 1 + 1 + 1) (.agg #[.slice B0 m0 d0, .slice B1 m1 d1, .slice B2 m2 d2, .slice B3 m3 d3]) (allocC C a) := (HN.alloc _).mono (by omega)
          clear x0 x1 x2 x3 x4 x5 x6 q0 q1 q2 q3 f0 f1 f2 f3
          obtain ⟨t0, t1, t2, t3, _⟩ := T5.cells
          obtain ⟨q0, q1, q2, q3, f0, f1, f2, f3⟩ := Q5.cells
          obtain ⟨hF, hFB⟩ := fin_run (b := w.heap.size + 1 + 1) (by omega) V5 B5
          obtain ⟨e0, e1, e2, e3⟩ := cells4 (.slice B0 m0 d0) (.slice B1 m1 d1) (.slice B2 m2 d2) (.slice B3 m3 d3) q0 q1 q2 q3
          go_wp2_with fail
          rw [hf.out, hc.out, hx.out]
          refine bodyPost_ret (v := .tuple #[.agg #[.slice B0 m0 d0, .slice B1 m1 d1, .slice B2 m2 d2, .slice B3 m3 d3], .int .i64 0, .bool true]) ?_ rfl ⟨_, rfl, hF, hFB⟩
          simp [results, Try.results92, go_sem, e0, e1, e2, e3]
      · have hc : Hid (runC C ⟨k, a, b⟩ = doC C ⟨k, a, b⟩) := by unfold Hid runC; rw [hf.out]; simp [h1]
        have hx : Hid (runE C ⟨k, a, b⟩ = doE C ⟨k, a, b⟩) := by unfold Hid runE; rw [hf.out]; simp [h1]
        go_enter Try.func92, Try.ntmps92
        go_wp2_with fail
        generalize (((w.alloc (.cells #[.slice A0 n0 c0, .slice A1 n1 c1, .slice A2 n2 c2, .slice A3 n3 c3] 27)).alloc (.cells #[.int .i64 k, .int .i64 a, .int .i64 b] 70)).alloc (.cells #[.slice none 0 0, .slice none 0 0, .slice none 0 0, .slice none 0 0] 27)) = W at X Y Q VV BB sz V ⊢
        refine V.mono ?_; rintro e w1 ⟨rfl, hb1⟩
        have X1 := X.below hb1
        have Y1 := Y.below hb1
        have Q1 := Q.below hb1
        have V1 := VV.below hb1
        have B1 := BB.trans (hb1.mono BB.size)
        have z1 : w.heap.size + 3 ≤ w1.heap.size := by have := hb1.size; omega
        obtain ⟨x0, x1, x2, x3, _⟩ := X1.cells
        obtain ⟨y0, y1, y2, _⟩ := Y1.cells
        obtain ⟨q0, q1, q2, q3, f0, f1, f2, f3⟩ := Q1.cells
        go_wp2_with fail
        refine (OV _).mono ?_; rintro e W2 ⟨rfl, hb2⟩
        have X2 := X1.below hb2
        have Y2 := Y1.below hb2
        have Q2 := Q1.below hb2
        have V2 := V1.below hb2
        have BB2 := B1.trans (hb2.mono B1.size)
        have z2 : w.heap.size + 3 ≤ W2.heap.size := by have := hb2.size; omega
        clear x0 x1 x2 x3 y0 y1 y2 q0 q1 q2 q3 f0 f1 f2 f3 OV V X1 Y1 Q1 V1 B1 hb1 hb2 X Y Q VV BB
        obtain ⟨x0, x1, x2, x3, _⟩ := X2.cells
        obtain ⟨x4, x5, x6, _⟩ := Y2.cells
        obtain ⟨q0, q1, q2, q3, f0, f1, f2, f3⟩ := Q2.cells
        have nbx : W2.heap.size ≠ w.heap.size := by omega
        have nby : W2.heap.size ≠ w.heap.size + 1 := by omega
        go_wp2_with fail
        go_region_held3 (fun w' => w'.cell? ⟨w.heap.size, 0, none⟩ = some (.slice A0 n0 c0) ∧ w'.cell? ⟨w.heap.size, 1, none⟩ = some (.slice A1 n1 c1) ∧ w'.cell? ⟨w.heap.size, 2, none⟩ = some (.slice A2 n2 c2) ∧ w'.cell? ⟨w.heap.size, 3, none⟩ = some (.slice A3 n3 c3) ∧ w'.cell? ⟨w.heap.size + 1, 0, none⟩ = some (.int .i64 k) ∧ w'.cell? ⟨w.heap.size + 1, 1, none⟩ = some (.int .i64 a) ∧ w'.cell? ⟨w.heap.size + 1, 2, none⟩ = some (.int .i64 b))
          (((try dsimp only); (repeat' apply And.intro) <;> (with_reducible (first | exact u0 | exact u1 | exact u2 | exact u3 | exact u4 | exact u5 | exact u6 | exact cellA u0 _ | exact cellA u1 _ | exact cellA u2 _ | exact cellA u3 _ | exact cellA u4 _ | exact cellA u5 _ | exact cellA u6 _ | exact p0 | exact p1 | exact p2 | exact p3 | exact p4 | exact p5 | exact p6 | exact cellD p0 | exact cellD p1 | exact cellD p2 | exact cellD p3 | exact cellD p4 | exact cellD p5 | exact cellD p6 | exact cellA p0 _ | exact cellA p1 _ | exact cellA p2 _ | exact cellA p3 _ | exact cellA p4 _ | exact cellA p5 _ | exact cellA p6 _ | exact x0 | exact x1 | exact x2 | exact x3 | exact x4 | exact x5 | exact x6 | exact cellD x0 | exact cellD x1 | exact cellD x2 | exact cellD x3 | exact cellD x4 | exact cellD x5 | exact cellD x6 | exact cellA x0 _ | exact cellA x1 _ | exact cellA x2 _ | exact cellA x3 _ | exact cellA x4 _ | exact cellA x5 _ | exact cellA x6 _ | exact cellD (cellA x0 _) | exact cellD (cellA x1 _) | exact cellD (cellA x2 _) | exact cellD (cellA x3 _) | exact cellD (cellA x4 _) | exact cellD (cellA x5 _) | exact cellD (cellA x6 _) | exact cellF4 u0 nbx _ _ _ _ | exact cellF4 u1 nbx _ _ _ _ | exact cellF4 u2 nbx _ _ _ _ | exact cellF4 u3 nbx _ _ _ _ | exact cellF4 u4 nby _ _ _ _ | exact cellF4 u5 nby _ _ _ _ | exact cellF4 u6 nby _ _ _ _ | exact cellF4 u0 nbx3 _ _ _ _ | exact cellF4 u1 nbx3 _ _ _ _ | exact cellF4 u2 nbx3 _ _ _ _ | exact cellF4 u3 nbx3 _ _ _ _ | exact cellF4 u4 nby3 _ _ _ _ | exact cellF4 u5 nby3 _ _ _ _ | exact cellF4 u6 nby3 _ _ _ _))))
          (first
            | (go_at_call 37; (with_reducible refine (l4Copy_any (W2.drew) lo _ C (V2.drew) hC).mono ?_); rintro e w3 ⟨vv, rfl, HN0, hb0⟩; (have hb3 : Below W2.heap.size W2 w3 := (Below.refl W2.heap.size W2).drew.trans hb0); (have X3 := X2.belowAt hb3 (by omega)); (have Y3 := Y2.belowAt hb3 (by omega)); (have Q3 := Q2.belowAt hb3 (by omega)); (obtain ⟨p0, p1, p2, p3, _⟩ := X3.cells); (obtain ⟨p4, p5, p6, _⟩ := Y3.cells); (have s3 := hb3.size); (have nbx3 : w3.heap.size ≠ w.heap.size := by omega); (have nby3 : w3.heap.size ≠ w.heap.size + 1 := by omega); (have HN0 : Cv w3 W2.heap.size vv C := HN0); (obtain ⟨lc, hlc⟩ : ∃ lc, Hid (lc = W2.heap.size) := ⟨_, rfl⟩); (rw [← hlc.out] at HN0); (have hlc3 : lc ≤ w3.heap.size := by rw [hlc.out]; exact s3); (have hlcW : W2.heap.size ≤ lc := by rw [hlc.out]; omega); (have K := l5Do_any w3 lc hlc3 _ C HN0 hC ⟨k, a, b⟩ ho h1); (have HNo := HN0); (obtain ⟨B0, m0, d0, B1, m1, d1, B2, m2, d2, B3, m3, d3, rfl, _⟩ := HNo.open_))
            | (go_at_call 37; (with_reducible refine (l4Copy_any ((W2.alloc (.cells #[.slice none 0 0, .slice none 0 0, .slice none 0 0, .slice none 0 0] 27)).drew) lo _ C (V2.alloc (.cells #[.slice none 0 0, .slice none 0 0, .slice none 0 0, .slice none 0 0] 27)).drew hC).mono ?_); rintro e w3 ⟨vv, rfl, HN0, hb0⟩; (have hb3 : Below W2.heap.size W2 w3 := (((Below.refl W2.heap.size W2).alloc (Nat.le_refl _) (.cells #[.slice none 0 0, .slice none 0 0, .slice none 0 0, .slice none 0 0] 27)).drew).trans (hb0.mono (by show W2.heap.size ≤ (W2.alloc _).heap.size; simp))); (have X3 := X2.belowAt hb3 (by omega)); (have Y3 := Y2.belowAt hb3 (by omega)); (have Q3 := Q2.belowAt hb3 (by omega)); (obtain ⟨p0, p1, p2, p3, _⟩ := X3.cells); (obtain ⟨p4, p5, p6, _⟩ := Y3.cells); (have s3 := hb3.size); (have nbx3 : w3.heap.size ≠ w.heap.size := by omega); (have nby3 : w3.heap.size ≠ w.heap.size + 1 := by omega); (have hA : (W2.alloc (.cells #[.slice none 0 0, .slice none 0 0, .slice none 0 0, .slice none 0 0] 27)).drew.heap.size = W2.heap.size + 1 := by show (W2.alloc _).heap.size = _; simp); (rw [hA] at HN0 hb0); (have s30 : W2.heap.size + 1 ≤ w3.heap.size := by have := hb0.size; rw [hA] at this; exact this); (have Z3 : Blk4 w3 W2.heap.size (.slice none 0 0) (.slice none 0 0) (.slice none 0 0) (.slice none 0 0) 27 := (Blk4.new W2 (.slice none 0 0) (.slice none 0 0) (.slice none 0 0) (.slice none 0 0) 27).belowAt (w := (W2.alloc (.cells #[.slice none 0 0, .slice none 0 0, .slice none 0 0, .slice none 0 0] 27)).drew) hb0 (by omega)); (obtain ⟨lc, hlc⟩ : ∃ lc, Hid (lc = W2.heap.size + 1) := ⟨_, rfl⟩); (rw [← hlc.out] at HN0); (have hlc3 : lc ≤ w3.heap.size := by rw [hlc.out]; exact s30); (have hlcW : W2.heap.size ≤ lc := by rw [hlc.out]; omega); (have K := l5Do_any w3 lc hlc3 _ C HN0 hC ⟨k, a, b⟩ ho h1); (have HNo := HN0); (obtain ⟨B0, m0, d0, B1, m1, d1, B2, m2, d2, B3, m3, d3, rfl, _⟩ := HNo.open_); (obtain ⟨zz0, zz1, zz2, zz3, zf0, zf1, zf2, zf3⟩ := Z3.cells))
            | (go_at_call 120; (with_reducible refine (K).mono ?_); rintro e w4 ⟨rfl, hD, hb4, hk4⟩; (have X4 : Blk4 w4 w.heap.size (.slice A0 n0 c0) (.slice A1 n1 c1) (.slice A2 n2 c2) (.slice A3 n3 c3) 27 := Blk4.belowAt (w := w3) (by first | exact X3 | exact X3.alloc _) hb4 (by omega)); (have Y4 : Blk3 w4 (w.heap.size + 1) (.int .i64 k) (.int .i64 a) (.int .i64 b) 70 := Blk3.belowAt (w := w3) (by first | exact Y3 | exact Y3.alloc _) hb4 (by omega)); (have Q4 : Blk4 w4 (w.heap.size + 2) (.slice none 0 0) (.slice none 0 0) (.slice none 0 0) (.slice none 0 0) 27 := Blk4.belowAt (w := w3) (by first | exact Q3 | exact Q3.alloc _) hb4 (by omega)); (obtain ⟨u0, u1, u2, u3, _⟩ := X4.cells); (obtain ⟨u4, u5, u6, _⟩ := Y4.cells); (have s4 := hb4.size); (try (have Z4 := Z3.belowAt hb4 (by rw [hlc.out]; omega); clear zz0 zz1 zz2 zz3 zf0 zf1 zf2 zf3; obtain ⟨zz0, zz1, zz2, zz3, zf0, zf1, zf2, zf3⟩ := Z4.cells)))
            | (go_at_call 120; (with_reducible refine ((l5Do_any (w3.alloc (.cells #[.slice none 0 0, .slice none 0 0, .slice none 0 0, .slice none 0 0] 27)) lc (by simp; omega) _ C (HN0.alloc (.cells #[.slice none 0 0, .slice none 0 0, .slice none 0 0, .slice none 0 0] 27)) hC ⟨k, a, b⟩ ho h1)).mono ?_); rintro e w4 ⟨rfl, hD, hb4, hk4⟩; (have X4 : Blk4 w4 w.heap.size (.slice A0 n0 c0) (.slice A1 n1 c1) (.slice A2 n2 c2) (.slice A3 n3 c3) 27 := Blk4.belowAt (w := (w3.alloc (.cells #[.slice none 0 0, .slice none 0 0, .slice none 0 0, .slice none 0 0] 27))) (by first | exact X3 | exact X3.alloc _) hb4 (by omega)); (have Y4 : Blk3 w4 (w.heap.size + 1) (.int .i64 k) (.int .i64 a) (.int .i64 b) 70 := Blk3.belowAt (w := (w3.alloc (.cells #[.slice none 0 0, .slice none 0 0, .slice none 0 0, .slice none 0 0] 27))) (by first | exact Y3 | exact Y3.alloc _) hb4 (by omega)); (have Q4 : Blk4 w4 (w.heap.size + 2) (.slice none 0 0) (.slice none 0 0) (.slice none 0 0) (.slice none 0 0) 27 := Blk4.belowAt (w := (w3.alloc (.cells #[.slice none 0 0, .slice none 0 0, .slice none 0 0, .slice none 0 0] 27))) (by first | exact Q3 | exact Q3.alloc _) hb4 (by omega)); (obtain ⟨u0, u1, u2, u3, _⟩ := X4.cells); (obtain ⟨u4, u5, u6, _⟩ := Y4.cells); (have s4 := hb4.size); (have ow := HN0.ownLt w3.heap.size (.inr (Nat.le_refl _))); (have Z4 : Blk4 w4 w3.heap.size (.slice none 0 0) (.slice none 0 0) (.slice none 0 0) (.slice none 0 0) 27 := (hk4 w3.heap.size _ _ _ _ rfl (by simp) ow.1 ow.2.1 ow.2.2.1).trans (Blk4.new w3 (.slice none 0 0) (.slice none 0 0) (.slice none 0 0) (.slice none 0 0) 27)); (obtain ⟨zz0, zz1, zz2, zz3, zf0, zf1, zf2, zf3⟩ := Z4.cells)))
        · rename_i hHeld
          clear hHeld
          have hl := hlc.out
          have B4 : Below w.heap.size w w4 := (BB2.trans (hb3.mono (by omega))).trans (hb4.mono (by omega))
          have B5 : Below w.heap.size w (w4.alloc (.cells #[.slice B0 m0 d0, .slice B1 m1 d1, .slice B2 m2 d2, .slice B3 m3 d3] 27)) := B4.alloc (by have := B4.size; omega) _
          have T5 : Blk4 (w4.alloc (.cells #[.slice B0 m0 d0, .slice B1 m1 d1, .slice B2 m2 d2, .slice B3 m3 d3] 27)) w4.heap.size (.slice B0 m0 d0) (.slice B1 m1 d1) (.slice B2 m2 d2) (.slice B3 m3 d3) 27 := Blk4.new w4 (.slice B0 m0 d0) (.slice B1 m1 d1) (.slice B2 m2 d2) (.slice B3 m3 d3) 27
          have Q5 : Blk4 (w4.alloc (.cells #[.slice B0 m0 d0, .slice B1 m1 d1, .slice B2 m2 d2, .slice B3 m3 d3] 27)) (w.heap.size + 2) (.slice none 0 0) (.slice none 0 0) (.slice none 0 0) (.slice none 0 0) 27 := Q4.alloc _
          have V5 : Cv (w4.alloc (.cells #[.slice B0 m0 d0, .slice B1 m1 d1, .slice B2 m2 d2, .slice B3 m3 d3] 27)) (w.heap.size + 1 + 1 + 1) (.agg #[.slice B0 m0 d0, .slice B1 m1 d1, .slice B2 m2 d2, .slice B3 m3 d3]) (doC C ⟨k, a, b⟩) := (hD.alloc _).mono (by omega)
          clear x0 x1 x2 x3 x4 x5 x6 p0 p1 p2 p3 p4 p5 p6 u0 u1 u2 u3 u4 u5 u6 q0 q1 q2 q3 f0 f1 f2 f3
          generalize (w4.alloc (.cells #[.slice B0 m0 d0, .slice B1 m1 d1, .slice B2 m2 d2, .slice B3 m3 d3] 27)) = W5 at B5 T5 Q5 V5 ⊢
          obtain ⟨t0, t1, t2, t3, _⟩ := T5.cells
          obtain ⟨q0, q1, q2, q3, f0, f1, f2, f3⟩ := Q5.cells
          obtain ⟨hF, hFB⟩ := fin_run (b := w.heap.size + 1 + 1) (by omega) V5 B5
          obtain ⟨e0, e1, e2, e3⟩ := cells4 (.slice B0 m0 d0) (.slice B1 m1 d1) (.slice B2 m2 d2) (.slice B3 m3 d3) q0 q1 q2 q3
          go_wp2_with fail
          rw [hf.out, hc.out, hx.out]
          refine bodyPost_ret (v := .tuple #[.agg #[.slice B0 m0 d0, .slice B1 m1 d1, .slice B2 m2 d2, .slice B3 m3 d3], .int .i64 (doE C ⟨k, a, b⟩), .bool true]) ?_ rfl ⟨_, rfl, hF, hFB⟩
          simp [results, Try.results92, go_sem, e0, e1, e2, e3]
        · rename_i hHeld
          clear hHeld
          have hl := hlc.out
          have B4 : Below w.heap.size w w4 := (BB2.trans (hb3.mono (by omega))).trans ((((Below.refl w3.heap.size w3).alloc (Nat.le_refl _) (.cells #[.slice none 0 0, .slice none 0 0, .slice none 0 0, .slice none 0 0] 27)).mono (by omega)).trans (hb4.mono (by omega)))
          have ow := HN0.ownLt w3.heap.size (.inr (by omega))
          have B5 : Below w.heap.size w ((((w4.setCell ⟨w3.heap.size, 0, none⟩ (.slice B0 m0 d0)).setCell ⟨w3.heap.size, 1, none⟩ (.slice B1 m1 d1)).setCell ⟨w3.heap.size, 2, none⟩ (.slice B2 m2 d2)).setCell ⟨w3.heap.size, 3, none⟩ (.slice B3 m3 d3)) := below_set4 B4 (by omega) _ _ _ _
          have T5 : Blk4 ((((w4.setCell ⟨w3.heap.size, 0, none⟩ (.slice B0 m0 d0)).setCell ⟨w3.heap.size, 1, none⟩ (.slice B1 m1 d1)).setCell ⟨w3.heap.size, 2, none⟩ (.slice B2 m2 d2)).setCell ⟨w3.heap.size, 3, none⟩ (.slice B3 m3 d3)) w3.heap.size (.slice B0 m0 d0) (.slice B1 m1 d1) (.slice B2 m2 d2) (.slice B3 m3 d3) 27 := Z4.set4R _ _ _ _
          have Q5 : Blk4 ((((w4.setCell ⟨w3.heap.size, 0, none⟩ (.slice B0 m0 d0)).setCell ⟨w3.heap.size, 1, none⟩ (.slice B1 m1 d1)).setCell ⟨w3.heap.size, 2, none⟩ (.slice B2 m2 d2)).setCell ⟨w3.heap.size, 3, none⟩ (.slice B3 m3 d3)) (w.heap.size + 2) (.slice none 0 0) (.slice none 0 0) (.slice none 0 0) (.slice none 0 0) 27 := Q4.far4 (by omega) _ _ _ _
          have V5 : Cv ((((w4.setCell ⟨w3.heap.size, 0, none⟩ (.slice B0 m0 d0)).setCell ⟨w3.heap.size, 1, none⟩ (.slice B1 m1 d1)).setCell ⟨w3.heap.size, 2, none⟩ (.slice B2 m2 d2)).setCell ⟨w3.heap.size, 3, none⟩ (.slice B3 m3 d3)) (w.heap.size + 1 + 1 + 1) (.agg #[.slice B0 m0 d0, .slice B1 m1 d1, .slice B2 m2 d2, .slice B3 m3 d3]) (doC C ⟨k, a, b⟩) := (hD.set4O ow _ _ _ _).mono (by omega)
          clear x0 x1 x2 x3 x4 x5 x6 p0 p1 p2 p3 p4 p5 p6 u0 u1 u2 u3 u4 u5 u6 q0 q1 q2 q3 f0 f1 f2 f3 zz0 zz1 zz2 zz3 zf0 zf1 zf2 zf3
          generalize ((((w4.setCell ⟨w3.heap.size, 0, none⟩ (.slice B0 m0 d0)).setCell ⟨w3.heap.size, 1, none⟩ (.slice B1 m1 d1)).setCell ⟨w3.heap.size, 2, none⟩ (.slice B2 m2 d2)).setCell ⟨w3.heap.size, 3, none⟩ (.slice B3 m3 d3)) = W5 at B5 T5 Q5 V5 ⊢
          obtain ⟨t0, t1, t2, t3, _⟩ := T5.cells
          obtain ⟨q0, q1, q2, q3, f0, f1, f2, f3⟩ := Q5.cells
          obtain ⟨hF, hFB⟩ := fin_run (b := w.heap.size + 1 + 1) (by omega) V5 B5
          obtain ⟨e0, e1, e2, e3⟩ := cells4 (.slice B0 m0 d0) (.slice B1 m1 d1) (.slice B2 m2 d2) (.slice B3 m3 d3) q0 q1 q2 q3
          go_wp2_with fail
          rw [hf.out, hc.out, hx.out]
          refine bodyPost_ret (v := .tuple #[.agg #[.slice B0 m0 d0, .slice B1 m1 d1, .slice B2 m2 d2, .slice B3 m3 d3], .int .i64 (doE C ⟨k, a, b⟩), .bool true]) ?_ rfl ⟨_, rfl, hF, hFB⟩
          simp [results, Try.results92, go_sem, e0, e1, e2, e3]
        · rename_i hHeld
          clear hHeld
          have hl := hlc.out
          have B4 : Below w.heap.size w w4 := (BB2.trans (hb3.mono (by omega))).trans (hb4.mono (by omega))
          have ow := HN0.ownLt W2.heap.size (.inl (by omega))
          have B5 : Below w.heap.size w ((((w4.setCell ⟨W2.heap.size, 0, none⟩ (.slice B0 m0 d0)).setCell ⟨W2.heap.size, 1, none⟩ (.slice B1 m1 d1)).setCell ⟨W2.heap.size, 2, none⟩ (.slice B2 m2 d2)).setCell ⟨W2.heap.size, 3, none⟩ (.slice B3 m3 d3)) := below_set4 B4 (by omega) _ _ _ _
          have T5 : Blk4 ((((w4.setCell ⟨W2.heap.size, 0, none⟩ (.slice B0 m0 d0)).setCell ⟨W2.heap.size, 1, none⟩ (.slice B1 m1 d1)).setCell ⟨W2.heap.size, 2, none⟩ (.slice B2 m2 d2)).setCell ⟨W2.heap.size, 3, none⟩ (.slice B3 m3 d3)) W2.heap.size (.slice B0 m0 d0) (.slice B1 m1 d1) (.slice B2 m2 d2) (.slice B3 m3 d3) 27 := Z4.set4R _ _ _ _
          have Q5 : Blk4 ((((w4.setCell ⟨W2.heap.size, 0, none⟩ (.slice B0 m0 d0)).setCell ⟨W2.heap.size, 1, none⟩ (.slice B1 m1 d1)).setCell ⟨W2.heap.size, 2, none⟩ (.slice B2 m2 d2)).setCell ⟨W2.heap.size, 3, none⟩ (.slice B3 m3 d3)) (w.heap.size + 2) (.slice none 0 0) (.slice none 0 0) (.slice none 0 0) (.slice none 0 0) 27 := Q4.far4 (by omega) _ _ _ _
          have V5 : Cv ((((w4.setCell ⟨W2.heap.size, 0, none⟩ (.slice B0 m0 d0)).setCell ⟨W2.heap.size, 1, none⟩ (.slice B1 m1 d1)).setCell ⟨W2.heap.size, 2, none⟩ (.slice B2 m2 d2)).setCell ⟨W2.heap.size, 3, none⟩ (.slice B3 m3 d3)) (w.heap.size + 1 + 1 + 1) (.agg #[.slice B0 m0 d0, .slice B1 m1 d1, .slice B2 m2 d2, .slice B3 m3 d3]) (doC C ⟨k, a, b⟩) := (hD.set4O ow _ _ _ _).mono (by omega)
          clear x0 x1 x2 x3 x4 x5 x6 p0 p1 p2 p3 p4 p5 p6 u0 u1 u2 u3 u4 u5 u6 q0 q1 q2 q3 f0 f1 f2 f3 zz0 zz1 zz2 zz3 zf0 zf1 zf2 zf3
          generalize ((((w4.setCell ⟨W2.heap.size, 0, none⟩ (.slice B0 m0 d0)).setCell ⟨W2.heap.size, 1, none⟩ (.slice B1 m1 d1)).setCell ⟨W2.heap.size, 2, none⟩ (.slice B2 m2 d2)).setCell ⟨W2.heap.size, 3, none⟩ (.slice B3 m3 d3)) = W5 at B5 T5 Q5 V5 ⊢
          obtain ⟨t0, t1, t2, t3, _⟩ := T5.cells
          obtain ⟨q0, q1, q2, q3, f0, f1, f2, f3⟩ := Q5.cells
          obtain ⟨hF, hFB⟩ := fin_run (b := w.heap.size + 1 + 1) (by omega) V5 B5
          obtain ⟨e0, e1, e2, e3⟩ := cells4 (.slice B0 m0 d0) (.slice B1 m1 d1) (.slice B2 m2 d2) (.slice B3 m3 d3) q0 q1 q2 q3
          go_wp2_with fail
          rw [hf.out, hc.out, hx.out]
          refine bodyPost_ret (v := .tuple #[.agg #[.slice B0 m0 d0, .slice B1 m1 d1, .slice B2 m2 d2, .slice B3 m3 d3], .int .i64 (doE C ⟨k, a, b⟩), .bool true]) ?_ rfl ⟨_, rfl, hF, hFB⟩
          simp [results, Try.results92, go_sem, e0, e1, e2, e3]
end Go.Proofs.Ytdifplakkepnkaa

