/- ColorNew and ShadeGc of impl. -/
import Derived.Test.YtdifplakkepnkaaGSms
import Derived.Test.YtdifplakkepnkaaICols
import Derived.Test.YtdifplakkepnkaaHpB
namespace Go.Proofs.Ytdifplakkepnkaa
open Go.RowKit

set_option maxRecDepth 100000 in
set_option maxHeartbeats 4000000 in
theorem implColorNew_any (w : World) (lo : Nat) (vs vg : Value) (C : Cp) (G : Gp) (h : CGv w lo vs vg C G) (k : Int) : Calls Try.prog 67 #[vs, vg, .int .i64 k] w (OptGv w (colorO C G k)) := by
  obtain ⟨A0, n0, c0, A1, n1, c1, A2, n2, c2, A3, n3, c3, A4, n4, c4, p, cc, a, rfl, rfl, rfl, hv, hk, ⟨r0, r1, r2, r3, r4⟩, ⟨l0, l1, l2, l3, l4⟩, ⟨m0, m1, m2, m3, m4⟩⟩ := h.open_
  have X := ((Blk4.new w (.slice A0 n0 c0) (.slice A1 n1 c1) (.slice A2 n2 c2) (.slice A3 n3 c3) 27).alloc (.cells #[.int .i64 p, .slice A4 n4 c4, .int .i64 a] 32)).alloc (.cells #[.int .i64 0, .slice none 0 0, .int .i64 0] 32)
  have Y := (Blk3.new_at (w := w.alloc (.cells #[.slice A0 n0 c0, .slice A1 n1 c1, .slice A2 n2 c2, .slice A3 n3 c3] 27)) (b := w.heap.size + 1) (by simp) (.int .i64 p) (.slice A4 n4 c4) (.int .i64 a) 32).alloc (.cells #[.int .i64 0, .slice none 0 0, .int .i64 0] 32)
  have Z := Blk3.new_at (w := (w.alloc (.cells #[.slice A0 n0 c0, .slice A1 n1 c1, .slice A2 n2 c2, .slice A3 n3 c3] 27)).alloc (.cells #[.int .i64 p, .slice A4 n4 c4, .int .i64 a] 32)) (b := w.heap.size + 2) (by simp) (.int .i64 0) (.slice none 0 0) (.int .i64 0) 32
  have HH := ((h.alloc (.cells #[.slice A0 n0 c0, .slice A1 n1 c1, .slice A2 n2 c2, .slice A3 n3 c3] 27)).alloc (.cells #[.int .i64 p, .slice A4 n4 c4, .int .i64 a] 32)).alloc (.cells #[.int .i64 0, .slice none 0 0, .int .i64 0] 32)
  have BB : Below w.heap.size w (((w.alloc (.cells #[.slice A0 n0 c0, .slice A1 n1 c1, .slice A2 n2 c2, .slice A3 n3 c3] 27)).alloc (.cells #[.int .i64 p, .slice A4 n4 c4, .int .i64 a] 32)).alloc (.cells #[.int .i64 0, .slice none 0 0, .int .i64 0] 32)) := (((Below.refl _ _).alloc (Nat.le_refl _) _).alloc (by simp) _).alloc (by simp <;> omega) _
  have sz : (((w.alloc (.cells #[.slice A0 n0 c0, .slice A1 n1 c1, .slice A2 n2 c2, .slice A3 n3 c3] 27)).alloc (.cells #[.int .i64 p, .slice A4 n4 c4, .int .i64 a] 32)).alloc (.cells #[.int .i64 0, .slice none 0 0, .int .i64 0] 32)).heap.size = w.heap.size + 3 := by simp
  clear hv hk r0 r1 r2 r3 r4 h
  go_enter Try.func67, Try.ntmps67
  go_wp2_with fail
  generalize ((w.alloc (.cells #[.slice A0 n0 c0, .slice A1 n1 c1, .slice A2 n2 c2, .slice A3 n3 c3] 27)).alloc (.cells #[.int .i64 p, .slice A4 n4 c4, .int .i64 a] 32)).alloc (.cells #[.int .i64 0, .slice none 0 0, .int .i64 0] 32) = W at X Y Z HH BB sz ⊢
  obtain ⟨x0, x1, x2, x3, _⟩ := X.cells
  obtain ⟨y0, y1, y2, _⟩ := Y.cells
  have V := implGcValid_any _ _ _ _ _ _ HH
  rcases ev : gcB C ⟨p, cc, a⟩
  · rw [ev] at V
    have hf : Hid (colorO C ⟨p, cc, a⟩ k = none) := by unfold Hid colorO; rw [ev]; simp
    clear ev
    go_wp2_with fail
    refine V.mono ?_; rintro e w1 ⟨rfl, hb1⟩
    obtain ⟨z0, z1, z2, f0, f1, f2⟩ := (Z.below hb1).cells
    obtain ⟨hZ, hB⟩ := g_done (w := w) (G := Gp.zero) (b := w.heap.size + 2) (Row.nil w1 w.heap.size) (Nat.le_refl _) (by simp [Value.ownBlock]) (by omega) (BB.trans (hb1.mono (by omega))) (.int .i64 0) (.slice none 0 0) (.int .i64 0)
    go_wp2_with fail
    rw [hf.out]
    refine bodyPost_ret (v := .tuple #[.agg #[.int .i64 0, .slice none 0 0, .int .i64 0], .bool false]) ?_ rfl ⟨_, rfl, hZ, hB⟩
    simp [results, Try.results67, go_sem, z0, z1, z2]
  rw [ev] at V
  obtain ⟨q1, ⟨q2, q3⟩, q4, q5, q6⟩ := gcB_sizes ev
  dsimp only at q1 q2 q3 q4 q5 q6
  have l49 := l4.out
  have l09 := l0.out
  have hph := phB_iff.1 (gcB_iff.1 ev).2.2
  dsimp only at hph
  have hcol : ∀ x ∈ cc, 0 ≤ x ∧ x ≤ 2 := (cvB_parts (gcB_iff.1 ev).2.1).2.2
  have hvh : hvB C.h = true := (stoB_parts (gcB_iff.1 ev).1).1
  have K := hasPlace_any A4 n4 c4 k
  rw [show plB k (n4 : Int) = plB k n0 by rw [show n4 = n0 by omega]] at K
  rcases ek : plB k n0
  · simp only [ek] at K
    have hf : Hid (colorO C ⟨p, cc, a⟩ k = none) := by unfold Hid colorO cellB; rw [l09, ek]; simp
    clear ek
    go_wp2_with fail
    refine V.mono ?_; rintro e w1 ⟨rfl, hb1⟩
    obtain ⟨x0, x1, x2, x3, _⟩ := (X.below hb1).cells
    obtain ⟨y0, y1, y2, _⟩ := (Y.below hb1).cells
    go_wp2_with fail
    refine (K _).mono ?_; rintro e w' ⟨rfl, rfl⟩
    have hbq := (hb1)
    obtain ⟨z0, z1, z2, f0, f1, f2⟩ := (Z.below hbq).cells
    obtain ⟨hZ, hB⟩ := g_done (w := w) (G := Gp.zero) (b := w.heap.size + 2) (Row.nil w1 w.heap.size) (Nat.le_refl _) (by simp [Value.ownBlock]) (by omega) (BB.trans (hbq.mono (by omega))) (.int .i64 0) (.slice none 0 0) (.int .i64 0)
    go_wp2_with fail
    rw [hf.out]
    refine bodyPost_ret (v := .tuple #[.agg #[.int .i64 0, .slice none 0 0, .int .i64 0], .bool false]) ?_ rfl ⟨_, rfl, hZ, hB⟩
    simp [results, Try.results67, go_sem, z0, z1, z2]
  simp only [ek] at K
  have hf : Hid (colorO C ⟨p, cc, a⟩ k = some (colorG ⟨p, cc, a⟩ k)) := by unfold Hid colorO cellB; rw [ev, l09, ek]; rfl
  obtain ⟨j, rfl, hj⟩ := plB_nat ek
  have qn : Hid (cc.length = n0) := by unfold Hid; omega
  go_wp2_with fail
  refine V.mono ?_; rintro e w1 ⟨rfl, hb1⟩
  obtain ⟨x0, x1, x2, x3, _⟩ := (X.below hb1).cells
  obtain ⟨y0, y1, y2, _⟩ := (Y.below hb1).cells
  go_wp2_with fail
  refine (K _).mono ?_; rintro e w' ⟨rfl, rfl⟩
  have hbq := (hb1)
  have B2 := BB.trans (hbq.mono (by omega))
  have Y2 := Y.below hbq
  have Z2 := Z.below hbq
  have HG2 := (HH.below hbq).gv
  have z2 : w.heap.size + 3 ≤ w1.heap.size := by have := hbq.size; omega
  clear V X Y Z HH BB hb1 x0 x1 x2 x3 y0 y1 y2 hbq K
  generalize w1 = w2 at Y2 Z2 HG2 B2 z2 ⊢
  obtain ⟨y0, y1, y2, _⟩ := Y2.cells
  have Cc := copyOfGc_any w2 lo _ ⟨p, cc, a⟩ HG2 (by dsimp only; omega)
  clear l0 l1 l2 l3 l4 l49 l09
  go_wp2_with fail
  refine Cc.mono ?_; rintro e w3 ⟨vv, rfl, hD, hb3⟩
  obtain ⟨D3, nn, cg, rfl, s3, t3, _, _⟩ := hD.open_
  dsimp only at s3 t3
  have t3' := t3.out
  have qn9 := qn.out
  obtain ⟨g, rfl, hlg, hg⟩ := s3.at_ (k := j) (by omega)
  have hjn : (j : Int) < (nn : Int) := by omega
  have hjn' : j < nn := by omega
  have z3 := hb3.size
  obtain ⟨Bk, hBk⟩ : ∃ Bk, Bk = w3.heap.size := ⟨_, rfl⟩
  have B3 := B2.trans (hb3.mono (by omega))
  have Y3 := Y2.below hb3
  have Z3 := Z2.below hb3
  have HG3 := HG2.below hb3
  have nG : ∀ (u : Value), Gv (w3.setCell ⟨g, j, none⟩ u) lo (.agg #[.int .i64 p, .slice A4 n4 c4, .int .i64 a]) ⟨p, cc, a⟩ := fun u => Gv.other HG3 (fun r e => by obtain ⟨r9, e9, h9⟩ := HG2; cases e9; cases e; exact fun e => by have h8 := (h9.lt g e).2; omega) u
  have nBk : Bk ≠ g := by omega
  have nb1 : w.heap.size + 1 ≠ g := by omega
  have nb2 : w.heap.size + 2 ≠ g := by omega
  have nBk1 : Bk ≠ w.heap.size + 1 := by omega
  have nBk2 : Bk ≠ w.heap.size + 2 := by omega
  have gB : w.heap.size ≤ g := by omega
  clear Cc hD Y2 Z2 B2 HG2 y0 y1 y2 qn9
  by_cases p1 : p = 1
  · have w1_ : (p == 1) = true := by rw [p1]; rfl
    have hc : Hid (colorG ⟨p, cc, a⟩ (j : Int) = ⟨p, cc.set j 2, a⟩) := by unfold Hid colorG; simp only [Int.toNat_natCast]; rw [if_pos (by omega)]
    have hmk : Hid (isMk ⟨p, cc, a⟩ = true) := by unfold Hid isMk; simp <;> omega
    clear p1
    obtain ⟨_, _, e9, _, _, _, hcg, hfg⟩ := s3.get (k := j) (by omega)
    cases e9
    obtain ⟨y0, y1, y2, _⟩ := Y3.cells
    have Y4 := (Y3.other (p := ⟨g, j, none⟩) nb1 (.int .i64 0)).alloc (.cells #[.int .i64 p, .slice (some ⟨g, 0, none⟩) nn cg, .int .i64 a] 32)
    have Z4 := (Z3.other (p := ⟨g, j, none⟩) nb2 (.int .i64 0)).alloc (.cells #[.int .i64 p, .slice (some ⟨g, 0, none⟩) nn cg, .int .i64 a] 32)
    have U4 := Blk3.new_at (w := w3.setCell ⟨g, j, none⟩ (.int .i64 0)) (b := Bk) (by simpa using hBk) (.int .i64 p) (.slice (some ⟨g, 0, none⟩) nn cg) (.int .i64 a) 32
    have S4 := (s3.set_ j 0).alloc (.cells #[.int .i64 p, .slice (some ⟨g, 0, none⟩) nn cg, .int .i64 a] 32)
    have HG4 : Gv ((w3.setCell ⟨g, j, none⟩ (.int .i64 0)).alloc (.cells #[.int .i64 p, .slice (some ⟨g, 0, none⟩) nn cg, .int .i64 a] 32)) 0 (.agg #[.int .i64 p, .slice A4 n4 c4, .int .i64 a]) ⟨p, cc, a⟩ := ((nG _).alloc (.cells #[.int .i64 p, .slice (some ⟨g, 0, none⟩) nn cg, .int .i64 a] 32)).mono (Nat.zero_le _)
    have B4 := (B3.setCell (p := ⟨g, j, none⟩) gB (.int .i64 0)).alloc (by simpa using B3.size) (.cells #[.int .i64 p, .slice (some ⟨g, 0, none⟩) nn cg, .int .i64 a] 32)
    have M := isMarking_any _ _ _ _ HG4
    rw [hmk.out] at M
    obtain ⟨y0, y1, y2, _⟩ := Y4.cells
    go_wp2_with fail
    refine M.mono ?_; rintro e w4 ⟨rfl, hb4⟩
    have Y5 := Y4.below hb4
    have Z5 := Z4.below hb4
    have U5 := U4.below hb4
    have S5 := S4.below hb4
    have B5 := B4.trans (hb4.mono B4.size)
    obtain ⟨y0, y1, y2, _⟩ := Y5.cells
    obtain ⟨u0, u1, u2, _⟩ := U5.cells
    obtain ⟨z0, z1, z2, f0, f1, f2⟩ := Z5.cells
    obtain ⟨_, _, e9, _, _, _, hcg5, hfg5⟩ := S5.get (k := j) (by simpa using (by omega : j < cc.length))
    cases e9
    clear M Y4 Z4 U4 S4 HG4 B4 hb4 hcg hfg
    (try rw [hBk] at u0 u1 u2)
    have S6 := S5.set_ j 2
    have B6 := B5.setCell (p := ⟨g, j, none⟩) gB (.int .i64 2)
    rw [List.set_set] at S6
    obtain ⟨hZ, hB⟩ := g_done (w := w) (G := ⟨p, cc.set j 2, a⟩) (b := w.heap.size + 2) (S6.mono (lo' := w.heap.size) (by omega)) (Nat.le_refl _) (fun e => nb2 (Option.some.inj e).symm) (by omega) B6 (.int .i64 p) (.slice (some ⟨g, 0, none⟩) nn cg) (.int .i64 a)
    go_wp2_with fail
    rw [hf.out, hc.out]
    refine bodyPost_ret (v := .tuple #[.agg #[.int .i64 p, .slice (some ⟨g, 0, none⟩) nn cg, .int .i64 a], .bool true]) ?_ rfl ⟨_, rfl, hZ, hB⟩
    simp [results, Try.results67, go_sem, z0, z1, z2]
  by_cases p2 : p = 2
  · have w1_ : (p == 1) = false := by rw [beq_eq_false_iff_ne]; exact p1
    have w2_ : (p == 2) = true := by rw [p2]; rfl
    have hc : Hid (colorG ⟨p, cc, a⟩ (j : Int) = ⟨p, cc.set j 2, a⟩) := by unfold Hid colorG; simp only [Int.toNat_natCast]; rw [if_pos (by omega)]
    have hmk : Hid (isMk ⟨p, cc, a⟩ = true) := by unfold Hid isMk; simp <;> omega
    clear p1 p2
    obtain ⟨_, _, e9, _, _, _, hcg, hfg⟩ := s3.get (k := j) (by omega)
    cases e9
    obtain ⟨y0, y1, y2, _⟩ := Y3.cells
    have Y4 := (Y3.other (p := ⟨g, j, none⟩) nb1 (.int .i64 0)).alloc (.cells #[.int .i64 p, .slice (some ⟨g, 0, none⟩) nn cg, .int .i64 a] 32)
    have Z4 := (Z3.other (p := ⟨g, j, none⟩) nb2 (.int .i64 0)).alloc (.cells #[.int .i64 p, .slice (some ⟨g, 0, none⟩) nn cg, .int .i64 a] 32)
    have U4 := Blk3.new_at (w := w3.setCell ⟨g, j, none⟩ (.int .i64 0)) (b := Bk) (by simpa using hBk) (.int .i64 p) (.slice (some ⟨g, 0, none⟩) nn cg) (.int .i64 a) 32
    have S4 := (s3.set_ j 0).alloc (.cells #[.int .i64 p, .slice (some ⟨g, 0, none⟩) nn cg, .int .i64 a] 32)
    have HG4 : Gv ((w3.setCell ⟨g, j, none⟩ (.int .i64 0)).alloc (.cells #[.int .i64 p, .slice (some ⟨g, 0, none⟩) nn cg, .int .i64 a] 32)) 0 (.agg #[.int .i64 p, .slice A4 n4 c4, .int .i64 a]) ⟨p, cc, a⟩ := ((nG _).alloc (.cells #[.int .i64 p, .slice (some ⟨g, 0, none⟩) nn cg, .int .i64 a] 32)).mono (Nat.zero_le _)
    have B4 := (B3.setCell (p := ⟨g, j, none⟩) gB (.int .i64 0)).alloc (by simpa using B3.size) (.cells #[.int .i64 p, .slice (some ⟨g, 0, none⟩) nn cg, .int .i64 a] 32)
    have M := isMarking_any _ _ _ _ HG4
    rw [hmk.out] at M
    obtain ⟨y0, y1, y2, _⟩ := Y4.cells
    go_wp2_with fail
    refine M.mono ?_; rintro e w4 ⟨rfl, hb4⟩
    have Y5 := Y4.below hb4
    have Z5 := Z4.below hb4
    have U5 := U4.below hb4
    have S5 := S4.below hb4
    have B5 := B4.trans (hb4.mono B4.size)
    obtain ⟨y0, y1, y2, _⟩ := Y5.cells
    obtain ⟨u0, u1, u2, _⟩ := U5.cells
    obtain ⟨z0, z1, z2, f0, f1, f2⟩ := Z5.cells
    obtain ⟨_, _, e9, _, _, _, hcg5, hfg5⟩ := S5.get (k := j) (by simpa using (by omega : j < cc.length))
    cases e9
    clear M Y4 Z4 U4 S4 HG4 B4 hb4 hcg hfg
    (try rw [hBk] at u0 u1 u2)
    have S6 := S5.set_ j 2
    have B6 := B5.setCell (p := ⟨g, j, none⟩) gB (.int .i64 2)
    rw [List.set_set] at S6
    obtain ⟨hZ, hB⟩ := g_done (w := w) (G := ⟨p, cc.set j 2, a⟩) (b := w.heap.size + 2) (S6.mono (lo' := w.heap.size) (by omega)) (Nat.le_refl _) (fun e => nb2 (Option.some.inj e).symm) (by omega) B6 (.int .i64 p) (.slice (some ⟨g, 0, none⟩) nn cg) (.int .i64 a)
    go_wp2_with fail
    rw [hf.out, hc.out]
    refine bodyPost_ret (v := .tuple #[.agg #[.int .i64 p, .slice (some ⟨g, 0, none⟩) nn cg, .int .i64 a], .bool true]) ?_ rfl ⟨_, rfl, hZ, hB⟩
    simp [results, Try.results67, go_sem, z0, z1, z2]
  by_cases p3 : p = 3
  · by_cases ha : a ≤ (j : Int)
    · have w1_ : (p == 1) = false := by rw [beq_eq_false_iff_ne]; exact p1
      have w2_ : (p == 2) = false := by rw [beq_eq_false_iff_ne]; exact p2
      have w3_ : (p == 3) = true := by rw [p3]; rfl
      have ha9 : (j : Int) ≥ a := ha
      have hc : Hid (colorG ⟨p, cc, a⟩ (j : Int) = ⟨p, cc.set j 2, a⟩) := by unfold Hid colorG; simp only [Int.toNat_natCast]; rw [if_pos (by omega)]
      have hmk : Hid (isMk ⟨p, cc, a⟩ = false) := by unfold Hid isMk; simp <;> omega
      clear p1 p2 p3 ha
      obtain ⟨_, _, e9, _, _, _, hcg, hfg⟩ := s3.get (k := j) (by omega)
      cases e9
      obtain ⟨y0, y1, y2, _⟩ := Y3.cells
      have Y4 := (Y3.other (p := ⟨g, j, none⟩) nb1 (.int .i64 0)).alloc (.cells #[.int .i64 p, .slice (some ⟨g, 0, none⟩) nn cg, .int .i64 a] 32)
      have Z4 := (Z3.other (p := ⟨g, j, none⟩) nb2 (.int .i64 0)).alloc (.cells #[.int .i64 p, .slice (some ⟨g, 0, none⟩) nn cg, .int .i64 a] 32)
      have U4 := Blk3.new_at (w := w3.setCell ⟨g, j, none⟩ (.int .i64 0)) (b := Bk) (by simpa using hBk) (.int .i64 p) (.slice (some ⟨g, 0, none⟩) nn cg) (.int .i64 a) 32
      have S4 := (s3.set_ j 0).alloc (.cells #[.int .i64 p, .slice (some ⟨g, 0, none⟩) nn cg, .int .i64 a] 32)
      have HG4 : Gv ((w3.setCell ⟨g, j, none⟩ (.int .i64 0)).alloc (.cells #[.int .i64 p, .slice (some ⟨g, 0, none⟩) nn cg, .int .i64 a] 32)) 0 (.agg #[.int .i64 p, .slice A4 n4 c4, .int .i64 a]) ⟨p, cc, a⟩ := ((nG _).alloc (.cells #[.int .i64 p, .slice (some ⟨g, 0, none⟩) nn cg, .int .i64 a] 32)).mono (Nat.zero_le _)
      have B4 := (B3.setCell (p := ⟨g, j, none⟩) gB (.int .i64 0)).alloc (by simpa using B3.size) (.cells #[.int .i64 p, .slice (some ⟨g, 0, none⟩) nn cg, .int .i64 a] 32)
      have M := isMarking_any _ _ _ _ HG4
      rw [hmk.out] at M
      obtain ⟨y0, y1, y2, _⟩ := Y4.cells
      go_wp2_with fail
      refine M.mono ?_; rintro e w4 ⟨rfl, hb4⟩
      have Y5 := Y4.below hb4
      have Z5 := Z4.below hb4
      have U5 := U4.below hb4
      have S5 := S4.below hb4
      have B5 := B4.trans (hb4.mono B4.size)
      obtain ⟨y0, y1, y2, _⟩ := Y5.cells
      obtain ⟨u0, u1, u2, _⟩ := U5.cells
      obtain ⟨z0, z1, z2, f0, f1, f2⟩ := Z5.cells
      obtain ⟨_, _, e9, _, _, _, hcg5, hfg5⟩ := S5.get (k := j) (by simpa using (by omega : j < cc.length))
      cases e9
      clear M Y4 Z4 U4 S4 HG4 B4 hb4 hcg hfg
      (try rw [hBk] at u0 u1 u2)
      have S6 := S5.set_ j 2
      have B6 := B5.setCell (p := ⟨g, j, none⟩) gB (.int .i64 2)
      rw [List.set_set] at S6
      obtain ⟨hZ, hB⟩ := g_done (w := w) (G := ⟨p, cc.set j 2, a⟩) (b := w.heap.size + 2) (S6.mono (lo' := w.heap.size) (by omega)) (Nat.le_refl _) (fun e => nb2 (Option.some.inj e).symm) (by omega) B6 (.int .i64 p) (.slice (some ⟨g, 0, none⟩) nn cg) (.int .i64 a)
      go_wp2_with fail
      rw [hf.out, hc.out]
      refine bodyPost_ret (v := .tuple #[.agg #[.int .i64 p, .slice (some ⟨g, 0, none⟩) nn cg, .int .i64 a], .bool true]) ?_ rfl ⟨_, rfl, hZ, hB⟩
      simp [results, Try.results67, go_sem, z0, z1, z2]
    · have w1_ : (p == 1) = false := by rw [beq_eq_false_iff_ne]; exact p1
      have w2_ : (p == 2) = false := by rw [beq_eq_false_iff_ne]; exact p2
      have w3_ : (p == 3) = true := by rw [p3]; rfl
      have ha9 : ¬ ((j : Int) ≥ a) := by omega
      have hc : Hid (colorG ⟨p, cc, a⟩ (j : Int) = ⟨p, cc.set j 0, a⟩) := by unfold Hid colorG; simp only [Int.toNat_natCast]; rw [if_neg (by omega)]
      have hmk : Hid (isMk ⟨p, cc, a⟩ = false) := by unfold Hid isMk; simp <;> omega
      clear p1 p2 p3 ha
      obtain ⟨_, _, e9, _, _, _, hcg, hfg⟩ := s3.get (k := j) (by omega)
      cases e9
      obtain ⟨y0, y1, y2, _⟩ := Y3.cells
      have Y4 := (Y3.other (p := ⟨g, j, none⟩) nb1 (.int .i64 0)).alloc (.cells #[.int .i64 p, .slice (some ⟨g, 0, none⟩) nn cg, .int .i64 a] 32)
      have Z4 := (Z3.other (p := ⟨g, j, none⟩) nb2 (.int .i64 0)).alloc (.cells #[.int .i64 p, .slice (some ⟨g, 0, none⟩) nn cg, .int .i64 a] 32)
      have U4 := Blk3.new_at (w := w3.setCell ⟨g, j, none⟩ (.int .i64 0)) (b := Bk) (by simpa using hBk) (.int .i64 p) (.slice (some ⟨g, 0, none⟩) nn cg) (.int .i64 a) 32
      have S4 := (s3.set_ j 0).alloc (.cells #[.int .i64 p, .slice (some ⟨g, 0, none⟩) nn cg, .int .i64 a] 32)
      have HG4 : Gv ((w3.setCell ⟨g, j, none⟩ (.int .i64 0)).alloc (.cells #[.int .i64 p, .slice (some ⟨g, 0, none⟩) nn cg, .int .i64 a] 32)) 0 (.agg #[.int .i64 p, .slice A4 n4 c4, .int .i64 a]) ⟨p, cc, a⟩ := ((nG _).alloc (.cells #[.int .i64 p, .slice (some ⟨g, 0, none⟩) nn cg, .int .i64 a] 32)).mono (Nat.zero_le _)
      have B4 := (B3.setCell (p := ⟨g, j, none⟩) gB (.int .i64 0)).alloc (by simpa using B3.size) (.cells #[.int .i64 p, .slice (some ⟨g, 0, none⟩) nn cg, .int .i64 a] 32)
      have M := isMarking_any _ _ _ _ HG4
      rw [hmk.out] at M
      obtain ⟨y0, y1, y2, _⟩ := Y4.cells
      go_wp2_with fail
      refine M.mono ?_; rintro e w4 ⟨rfl, hb4⟩
      have Y5 := Y4.below hb4
      have Z5 := Z4.below hb4
      have U5 := U4.below hb4
      have S5 := S4.below hb4
      have B5 := B4.trans (hb4.mono B4.size)
      obtain ⟨y0, y1, y2, _⟩ := Y5.cells
      obtain ⟨u0, u1, u2, _⟩ := U5.cells
      obtain ⟨z0, z1, z2, f0, f1, f2⟩ := Z5.cells
      obtain ⟨_, _, e9, _, _, _, hcg5, hfg5⟩ := S5.get (k := j) (by simpa using (by omega : j < cc.length))
      cases e9
      clear M Y4 Z4 U4 S4 HG4 B4 hb4 hcg hfg
      (try rw [hBk] at u0 u1 u2)
      obtain ⟨hZ, hB⟩ := g_done (w := w) (G := ⟨p, cc.set j 0, a⟩) (b := w.heap.size + 2) (S5.mono (lo' := w.heap.size) (by omega)) (Nat.le_refl _) (fun e => nb2 (Option.some.inj e).symm) (by omega) B5 (.int .i64 p) (.slice (some ⟨g, 0, none⟩) nn cg) (.int .i64 a)
      go_wp2_with fail
      rw [hf.out, hc.out]
      refine bodyPost_ret (v := .tuple #[.agg #[.int .i64 p, .slice (some ⟨g, 0, none⟩) nn cg, .int .i64 a], .bool true]) ?_ rfl ⟨_, rfl, hZ, hB⟩
      simp [results, Try.results67, go_sem, z0, z1, z2]
  · have w1_ : (p == 1) = false := by rw [beq_eq_false_iff_ne]; exact p1
    have w2_ : (p == 2) = false := by rw [beq_eq_false_iff_ne]; exact p2
    have w3_ : (p == 3) = false := by rw [beq_eq_false_iff_ne]; exact p3
    have hc : Hid (colorG ⟨p, cc, a⟩ (j : Int) = ⟨p, cc.set j 0, a⟩) := by unfold Hid colorG; simp only [Int.toNat_natCast]; rw [if_neg (by omega)]
    have hmk : Hid (isMk ⟨p, cc, a⟩ = false) := by unfold Hid isMk; simp <;> omega
    clear p1 p2 p3
    obtain ⟨_, _, e9, _, _, _, hcg, hfg⟩ := s3.get (k := j) (by omega)
    cases e9
    obtain ⟨y0, y1, y2, _⟩ := Y3.cells
    have Y4 := (Y3.other (p := ⟨g, j, none⟩) nb1 (.int .i64 0)).alloc (.cells #[.int .i64 p, .slice (some ⟨g, 0, none⟩) nn cg, .int .i64 a] 32)
    have Z4 := (Z3.other (p := ⟨g, j, none⟩) nb2 (.int .i64 0)).alloc (.cells #[.int .i64 p, .slice (some ⟨g, 0, none⟩) nn cg, .int .i64 a] 32)
    have U4 := Blk3.new_at (w := w3.setCell ⟨g, j, none⟩ (.int .i64 0)) (b := Bk) (by simpa using hBk) (.int .i64 p) (.slice (some ⟨g, 0, none⟩) nn cg) (.int .i64 a) 32
    have S4 := (s3.set_ j 0).alloc (.cells #[.int .i64 p, .slice (some ⟨g, 0, none⟩) nn cg, .int .i64 a] 32)
    have HG4 : Gv ((w3.setCell ⟨g, j, none⟩ (.int .i64 0)).alloc (.cells #[.int .i64 p, .slice (some ⟨g, 0, none⟩) nn cg, .int .i64 a] 32)) 0 (.agg #[.int .i64 p, .slice A4 n4 c4, .int .i64 a]) ⟨p, cc, a⟩ := ((nG _).alloc (.cells #[.int .i64 p, .slice (some ⟨g, 0, none⟩) nn cg, .int .i64 a] 32)).mono (Nat.zero_le _)
    have B4 := (B3.setCell (p := ⟨g, j, none⟩) gB (.int .i64 0)).alloc (by simpa using B3.size) (.cells #[.int .i64 p, .slice (some ⟨g, 0, none⟩) nn cg, .int .i64 a] 32)
    have M := isMarking_any _ _ _ _ HG4
    rw [hmk.out] at M
    obtain ⟨y0, y1, y2, _⟩ := Y4.cells
    go_wp2_with fail
    refine M.mono ?_; rintro e w4 ⟨rfl, hb4⟩
    have Y5 := Y4.below hb4
    have Z5 := Z4.below hb4
    have U5 := U4.below hb4
    have S5 := S4.below hb4
    have B5 := B4.trans (hb4.mono B4.size)
    obtain ⟨y0, y1, y2, _⟩ := Y5.cells
    obtain ⟨u0, u1, u2, _⟩ := U5.cells
    obtain ⟨z0, z1, z2, f0, f1, f2⟩ := Z5.cells
    obtain ⟨_, _, e9, _, _, _, hcg5, hfg5⟩ := S5.get (k := j) (by simpa using (by omega : j < cc.length))
    cases e9
    clear M Y4 Z4 U4 S4 HG4 B4 hb4 hcg hfg
    (try rw [hBk] at u0 u1 u2)
    obtain ⟨hZ, hB⟩ := g_done (w := w) (G := ⟨p, cc.set j 0, a⟩) (b := w.heap.size + 2) (S5.mono (lo' := w.heap.size) (by omega)) (Nat.le_refl _) (fun e => nb2 (Option.some.inj e).symm) (by omega) B5 (.int .i64 p) (.slice (some ⟨g, 0, none⟩) nn cg) (.int .i64 a)
    go_wp2_with fail
    rw [hf.out, hc.out]
    refine bodyPost_ret (v := .tuple #[.agg #[.int .i64 p, .slice (some ⟨g, 0, none⟩) nn cg, .int .i64 a], .bool true]) ?_ rfl ⟨_, rfl, hZ, hB⟩
    simp [results, Try.results67, go_sem, z0, z1, z2]

set_option maxRecDepth 100000 in
set_option maxHeartbeats 4000000 in
theorem implShadeGc_any (w : World) (lo : Nat) (vs vg : Value) (C : Cp) (G : Gp) (h : CGv w lo vs vg C G) (k : Int) : Calls Try.prog 69 #[vs, vg, .int .i64 k] w (OptGv w (shadeGO C G k)) := by
  obtain ⟨A0, n0, c0, A1, n1, c1, A2, n2, c2, A3, n3, c3, A4, n4, c4, p, cc, a, rfl, rfl, rfl, hv, hk, ⟨r0, r1, r2, r3, r4⟩, ⟨l0, l1, l2, l3, l4⟩, ⟨m0, m1, m2, m3, m4⟩⟩ := h.open_
  have X := ((Blk4.new w (.slice A0 n0 c0) (.slice A1 n1 c1) (.slice A2 n2 c2) (.slice A3 n3 c3) 27).alloc (.cells #[.int .i64 p, .slice A4 n4 c4, .int .i64 a] 32)).alloc (.cells #[.int .i64 0, .slice none 0 0, .int .i64 0] 32)
  have Y := (Blk3.new_at (w := w.alloc (.cells #[.slice A0 n0 c0, .slice A1 n1 c1, .slice A2 n2 c2, .slice A3 n3 c3] 27)) (b := w.heap.size + 1) (by simp) (.int .i64 p) (.slice A4 n4 c4) (.int .i64 a) 32).alloc (.cells #[.int .i64 0, .slice none 0 0, .int .i64 0] 32)
  have Z := Blk3.new_at (w := (w.alloc (.cells #[.slice A0 n0 c0, .slice A1 n1 c1, .slice A2 n2 c2, .slice A3 n3 c3] 27)).alloc (.cells #[.int .i64 p, .slice A4 n4 c4, .int .i64 a] 32)) (b := w.heap.size + 2) (by simp) (.int .i64 0) (.slice none 0 0) (.int .i64 0) 32
  have HH := ((h.alloc (.cells #[.slice A0 n0 c0, .slice A1 n1 c1, .slice A2 n2 c2, .slice A3 n3 c3] 27)).alloc (.cells #[.int .i64 p, .slice A4 n4 c4, .int .i64 a] 32)).alloc (.cells #[.int .i64 0, .slice none 0 0, .int .i64 0] 32)
  have BB : Below w.heap.size w (((w.alloc (.cells #[.slice A0 n0 c0, .slice A1 n1 c1, .slice A2 n2 c2, .slice A3 n3 c3] 27)).alloc (.cells #[.int .i64 p, .slice A4 n4 c4, .int .i64 a] 32)).alloc (.cells #[.int .i64 0, .slice none 0 0, .int .i64 0] 32)) := (((Below.refl _ _).alloc (Nat.le_refl _) _).alloc (by simp) _).alloc (by simp <;> omega) _
  have sz : (((w.alloc (.cells #[.slice A0 n0 c0, .slice A1 n1 c1, .slice A2 n2 c2, .slice A3 n3 c3] 27)).alloc (.cells #[.int .i64 p, .slice A4 n4 c4, .int .i64 a] 32)).alloc (.cells #[.int .i64 0, .slice none 0 0, .int .i64 0] 32)).heap.size = w.heap.size + 3 := by simp
  clear hv hk r0 r1 r2 r3 r4 h
  go_enter Try.func69, Try.ntmps69
  go_wp2_with fail
  generalize ((w.alloc (.cells #[.slice A0 n0 c0, .slice A1 n1 c1, .slice A2 n2 c2, .slice A3 n3 c3] 27)).alloc (.cells #[.int .i64 p, .slice A4 n4 c4, .int .i64 a] 32)).alloc (.cells #[.int .i64 0, .slice none 0 0, .int .i64 0] 32) = W at X Y Z HH BB sz ⊢
  obtain ⟨x0, x1, x2, x3, _⟩ := X.cells
  obtain ⟨y0, y1, y2, _⟩ := Y.cells
  have V := implGcValid_any _ _ _ _ _ _ HH
  rcases ev : gcB C ⟨p, cc, a⟩
  · rw [ev] at V
    have hf : Hid (shadeGO C ⟨p, cc, a⟩ k = none) := by unfold Hid shadeGO; rw [ev]; simp
    clear ev
    go_wp2_with fail
    refine V.mono ?_; rintro e w1 ⟨rfl, hb1⟩
    obtain ⟨z0, z1, z2, f0, f1, f2⟩ := (Z.below hb1).cells
    obtain ⟨hZ, hB⟩ := g_done (w := w) (G := Gp.zero) (b := w.heap.size + 2) (Row.nil w1 w.heap.size) (Nat.le_refl _) (by simp [Value.ownBlock]) (by omega) (BB.trans (hb1.mono (by omega))) (.int .i64 0) (.slice none 0 0) (.int .i64 0)
    go_wp2_with fail
    rw [hf.out]
    refine bodyPost_ret (v := .tuple #[.agg #[.int .i64 0, .slice none 0 0, .int .i64 0], .bool false]) ?_ rfl ⟨_, rfl, hZ, hB⟩
    simp [results, Try.results69, go_sem, z0, z1, z2]
  rw [ev] at V
  obtain ⟨q1, ⟨q2, q3⟩, q4, q5, q6⟩ := gcB_sizes ev
  dsimp only at q1 q2 q3 q4 q5 q6
  have l49 := l4.out
  have l09 := l0.out
  have hph := phB_iff.1 (gcB_iff.1 ev).2.2
  dsimp only at hph
  have hcol : ∀ x ∈ cc, 0 ≤ x ∧ x ≤ 2 := (cvB_parts (gcB_iff.1 ev).2.1).2.2
  have hvh : hvB C.h = true := (stoB_parts (gcB_iff.1 ev).1).1
  have K := hasPlace_any A4 n4 c4 k
  rw [show plB k (n4 : Int) = plB k n0 by rw [show n4 = n0 by omega]] at K
  rcases ek : plB k n0
  · simp only [ek] at K
    have hf : Hid (shadeGO C ⟨p, cc, a⟩ k = none) := by unfold Hid shadeGO cellB; rw [l09, ek]; simp
    clear ek
    go_wp2_with fail
    refine V.mono ?_; rintro e w1 ⟨rfl, hb1⟩
    obtain ⟨x0, x1, x2, x3, _⟩ := (X.below hb1).cells
    obtain ⟨y0, y1, y2, _⟩ := (Y.below hb1).cells
    go_wp2_with fail
    refine (K _).mono ?_; rintro e w' ⟨rfl, rfl⟩
    have hbq := (hb1)
    obtain ⟨z0, z1, z2, f0, f1, f2⟩ := (Z.below hbq).cells
    obtain ⟨hZ, hB⟩ := g_done (w := w) (G := Gp.zero) (b := w.heap.size + 2) (Row.nil w1 w.heap.size) (Nat.le_refl _) (by simp [Value.ownBlock]) (by omega) (BB.trans (hbq.mono (by omega))) (.int .i64 0) (.slice none 0 0) (.int .i64 0)
    go_wp2_with fail
    rw [hf.out]
    refine bodyPost_ret (v := .tuple #[.agg #[.int .i64 0, .slice none 0 0, .int .i64 0], .bool false]) ?_ rfl ⟨_, rfl, hZ, hB⟩
    simp [results, Try.results69, go_sem, z0, z1, z2]
  simp only [ek] at K
  have hf : Hid (shadeGO C ⟨p, cc, a⟩ k = some (shadeG ⟨p, cc, a⟩ k)) := by unfold Hid shadeGO cellB; rw [ev, l09, ek]; rfl
  obtain ⟨j, rfl, hj⟩ := plB_nat ek
  have qn : Hid (cc.length = n0) := by unfold Hid; omega
  go_wp2_with fail
  refine V.mono ?_; rintro e w1 ⟨rfl, hb1⟩
  obtain ⟨x0, x1, x2, x3, _⟩ := (X.below hb1).cells
  obtain ⟨y0, y1, y2, _⟩ := (Y.below hb1).cells
  go_wp2_with fail
  refine (K _).mono ?_; rintro e w' ⟨rfl, rfl⟩
  have hbq := (hb1)
  have B2 := BB.trans (hbq.mono (by omega))
  have Y2 := Y.below hbq
  have Z2 := Z.below hbq
  have HG2 := (HH.below hbq).gv
  have z2 : w.heap.size + 3 ≤ w1.heap.size := by have := hbq.size; omega
  clear V X Y Z HH BB hb1 x0 x1 x2 x3 y0 y1 y2 hbq K
  generalize w1 = w2 at Y2 Z2 HG2 B2 z2 ⊢
  obtain ⟨y0, y1, y2, _⟩ := Y2.cells
  have Cc := copyOfGc_any w2 lo _ ⟨p, cc, a⟩ HG2 (by dsimp only; omega)
  clear l0 l1 l2 l3 l4 l49 l09
  go_wp2_with fail
  refine Cc.mono ?_; rintro e w3 ⟨vv, rfl, hD, hb3⟩
  obtain ⟨D3, nn, cg, rfl, s3, t3, _, _⟩ := hD.open_
  dsimp only at s3 t3
  have t3' := t3.out
  have qn9 := qn.out
  obtain ⟨g, rfl, hlg, hg⟩ := s3.at_ (k := j) (by omega)
  have hjn : (j : Int) < (nn : Int) := by omega
  have hjn' : j < nn := by omega
  have z3 := hb3.size
  obtain ⟨Bk, hBk⟩ : ∃ Bk, Bk = w3.heap.size := ⟨_, rfl⟩
  have B3 := B2.trans (hb3.mono (by omega))
  have Y3 := Y2.below hb3
  have Z3 := Z2.below hb3
  have HG3 := HG2.below hb3
  have nG : ∀ (u : Value), Gv (w3.setCell ⟨g, j, none⟩ u) lo (.agg #[.int .i64 p, .slice A4 n4 c4, .int .i64 a]) ⟨p, cc, a⟩ := fun u => Gv.other HG3 (fun r e => by obtain ⟨r9, e9, h9⟩ := HG2; cases e9; cases e; exact fun e => by have h8 := (h9.lt g e).2; omega) u
  have nBk : Bk ≠ g := by omega
  have nb1 : w.heap.size + 1 ≠ g := by omega
  have nb2 : w.heap.size + 2 ≠ g := by omega
  have nBk1 : Bk ≠ w.heap.size + 1 := by omega
  have nBk2 : Bk ≠ w.heap.size + 2 := by omega
  have gB : w.heap.size ≤ g := by omega
  clear Cc hD Y2 Z2 B2 HG2 y0 y1 y2 qn9
  by_cases p1 : p = 1
  · have w1_ : (p == 1) = true := by rw [p1]; rfl
    have hc : Hid (shadeG ⟨p, cc, a⟩ (j : Int) = ⟨p, shade cc (j : Int), a⟩) := by unfold Hid shadeG; simp only; rw [if_pos (by omega)]
    have hmk : Hid (isMk ⟨p, cc, a⟩ = true) := by unfold Hid isMk; simp <;> omega
    clear p1
    obtain ⟨y0, y1, y2, _⟩ := Y3.cells
    have Y4 := Y3.alloc (.cells #[.int .i64 p, .slice (some ⟨g, 0, none⟩) nn cg, .int .i64 a] 32)
    have Z4 := Z3.alloc (.cells #[.int .i64 p, .slice (some ⟨g, 0, none⟩) nn cg, .int .i64 a] 32)
    have U4 := Blk3.new_at (w := w3) hBk (.int .i64 p) (.slice (some ⟨g, 0, none⟩) nn cg) (.int .i64 a) 32
    have S4 := s3.alloc (.cells #[.int .i64 p, .slice (some ⟨g, 0, none⟩) nn cg, .int .i64 a] 32)
    have B4 := B3.alloc B3.size (.cells #[.int .i64 p, .slice (some ⟨g, 0, none⟩) nn cg, .int .i64 a] 32)
    have HG4 : Gv (w3.alloc (.cells #[.int .i64 p, .slice (some ⟨g, 0, none⟩) nn cg, .int .i64 a] 32)) 0 (.agg #[.int .i64 p, .slice A4 n4 c4, .int .i64 a]) ⟨p, cc, a⟩ := (HG3.alloc (.cells #[.int .i64 p, .slice (some ⟨g, 0, none⟩) nn cg, .int .i64 a] 32)).mono (Nat.zero_le _)
    have M := isMarking_any _ _ _ _ HG4
    rw [hmk.out] at M
    obtain ⟨y0, y1, y2, _⟩ := Y4.cells
    go_wp2_with fail
    refine M.mono ?_; rintro e w4 ⟨rfl, hb4⟩
    have Y5 := Y4.below hb4
    have Z5 := Z4.below hb4
    have U5 := U4.below hb4
    have S5 := S4.below hb4
    have B5 := B4.trans (hb4.mono B4.size)
    clear M HG4 hb4
    clear Y4 Z4 U4 S4 B4
    obtain ⟨y0, y1, y2, _⟩ := Y5.cells
    obtain ⟨u0, u1, u2, _⟩ := U5.cells
    (try rw [hBk] at u0 u1 u2)
    obtain ⟨z0, z1, z2, f0, f1, f2⟩ := Z5.cells
    have K := implShade_any _ _ g nn cg cc S5 t3' hcol (j : Int) (by omega) (by omega)
    go_wp2_with fail
    refine K.mono ?_; rintro e w5 ⟨rfl, S6, O6⟩
    have B6 := B5.trans (below_only O6 gB B5.size)
    have U6 := U5.kept O6.1 nBk
    have Z6 := Z5.kept O6.1 nb2
    clear K O6 B5 U5 Z5 Y5 u0 u1 u2 z0 z1 z2 f0 f1 f2
    obtain ⟨u0, u1, u2, h0, h1, h2⟩ := U6.cells
    (try rw [hBk] at u0 u1 u2 h0 h1 h2)
    obtain ⟨z0, z1, z2, f0, f1, f2⟩ := Z6.cells
    obtain ⟨hZ, hB⟩ := g_done (w := w) (G := ⟨p, shade cc (j : Int), a⟩) (b := w.heap.size + 2) (S6.mono (lo' := w.heap.size) (by omega)) (Nat.le_refl _) (fun e => nb2 (Option.some.inj e).symm) (by omega) B6 (.int .i64 p) (.slice (some ⟨g, 0, none⟩) nn cg) (.int .i64 a)
    go_wp2_with fail
    rw [hf.out, hc.out]
    refine bodyPost_ret (v := .tuple #[.agg #[.int .i64 p, .slice (some ⟨g, 0, none⟩) nn cg, .int .i64 a], .bool true]) ?_ rfl ⟨_, rfl, hZ, hB⟩
    simp [results, Try.results69, go_sem, z0, z1, z2]
  by_cases p2 : p = 2
  · have w1_ : (p == 1) = false := by rw [beq_eq_false_iff_ne]; exact p1
    have w2_ : (p == 2) = true := by rw [p2]; rfl
    have hc : Hid (shadeG ⟨p, cc, a⟩ (j : Int) = ⟨p, shade cc (j : Int), a⟩) := by unfold Hid shadeG; simp only; rw [if_pos (by omega)]
    have hmk : Hid (isMk ⟨p, cc, a⟩ = true) := by unfold Hid isMk; simp <;> omega
    clear p1 p2
    obtain ⟨y0, y1, y2, _⟩ := Y3.cells
    have Y4 := Y3.alloc (.cells #[.int .i64 p, .slice (some ⟨g, 0, none⟩) nn cg, .int .i64 a] 32)
    have Z4 := Z3.alloc (.cells #[.int .i64 p, .slice (some ⟨g, 0, none⟩) nn cg, .int .i64 a] 32)
    have U4 := Blk3.new_at (w := w3) hBk (.int .i64 p) (.slice (some ⟨g, 0, none⟩) nn cg) (.int .i64 a) 32
    have S4 := s3.alloc (.cells #[.int .i64 p, .slice (some ⟨g, 0, none⟩) nn cg, .int .i64 a] 32)
    have B4 := B3.alloc B3.size (.cells #[.int .i64 p, .slice (some ⟨g, 0, none⟩) nn cg, .int .i64 a] 32)
    have HG4 : Gv (w3.alloc (.cells #[.int .i64 p, .slice (some ⟨g, 0, none⟩) nn cg, .int .i64 a] 32)) 0 (.agg #[.int .i64 p, .slice A4 n4 c4, .int .i64 a]) ⟨p, cc, a⟩ := (HG3.alloc (.cells #[.int .i64 p, .slice (some ⟨g, 0, none⟩) nn cg, .int .i64 a] 32)).mono (Nat.zero_le _)
    have M := isMarking_any _ _ _ _ HG4
    rw [hmk.out] at M
    obtain ⟨y0, y1, y2, _⟩ := Y4.cells
    go_wp2_with fail
    refine M.mono ?_; rintro e w4 ⟨rfl, hb4⟩
    have Y5 := Y4.below hb4
    have Z5 := Z4.below hb4
    have U5 := U4.below hb4
    have S5 := S4.below hb4
    have B5 := B4.trans (hb4.mono B4.size)
    clear M HG4 hb4
    clear Y4 Z4 U4 S4 B4
    obtain ⟨y0, y1, y2, _⟩ := Y5.cells
    obtain ⟨u0, u1, u2, _⟩ := U5.cells
    (try rw [hBk] at u0 u1 u2)
    obtain ⟨z0, z1, z2, f0, f1, f2⟩ := Z5.cells
    have K := implShade_any _ _ g nn cg cc S5 t3' hcol (j : Int) (by omega) (by omega)
    go_wp2_with fail
    refine K.mono ?_; rintro e w5 ⟨rfl, S6, O6⟩
    have B6 := B5.trans (below_only O6 gB B5.size)
    have U6 := U5.kept O6.1 nBk
    have Z6 := Z5.kept O6.1 nb2
    clear K O6 B5 U5 Z5 Y5 u0 u1 u2 z0 z1 z2 f0 f1 f2
    obtain ⟨u0, u1, u2, h0, h1, h2⟩ := U6.cells
    (try rw [hBk] at u0 u1 u2 h0 h1 h2)
    obtain ⟨z0, z1, z2, f0, f1, f2⟩ := Z6.cells
    obtain ⟨hZ, hB⟩ := g_done (w := w) (G := ⟨p, shade cc (j : Int), a⟩) (b := w.heap.size + 2) (S6.mono (lo' := w.heap.size) (by omega)) (Nat.le_refl _) (fun e => nb2 (Option.some.inj e).symm) (by omega) B6 (.int .i64 p) (.slice (some ⟨g, 0, none⟩) nn cg) (.int .i64 a)
    go_wp2_with fail
    rw [hf.out, hc.out]
    refine bodyPost_ret (v := .tuple #[.agg #[.int .i64 p, .slice (some ⟨g, 0, none⟩) nn cg, .int .i64 a], .bool true]) ?_ rfl ⟨_, rfl, hZ, hB⟩
    simp [results, Try.results69, go_sem, z0, z1, z2]
  · have w1_ : (p == 1) = false := by rw [beq_eq_false_iff_ne]; exact p1
    have w2_ : (p == 2) = false := by rw [beq_eq_false_iff_ne]; exact p2
    have hc : Hid (shadeG ⟨p, cc, a⟩ (j : Int) = ⟨p, cc, a⟩) := by unfold Hid shadeG; simp only; rw [if_neg (by omega)]
    have hmk : Hid (isMk ⟨p, cc, a⟩ = false) := by unfold Hid isMk; simp <;> omega
    clear p1 p2
    obtain ⟨y0, y1, y2, _⟩ := Y3.cells
    have Y4 := Y3.alloc (.cells #[.int .i64 p, .slice (some ⟨g, 0, none⟩) nn cg, .int .i64 a] 32)
    have Z4 := Z3.alloc (.cells #[.int .i64 p, .slice (some ⟨g, 0, none⟩) nn cg, .int .i64 a] 32)
    have U4 := Blk3.new_at (w := w3) hBk (.int .i64 p) (.slice (some ⟨g, 0, none⟩) nn cg) (.int .i64 a) 32
    have S4 := s3.alloc (.cells #[.int .i64 p, .slice (some ⟨g, 0, none⟩) nn cg, .int .i64 a] 32)
    have B4 := B3.alloc B3.size (.cells #[.int .i64 p, .slice (some ⟨g, 0, none⟩) nn cg, .int .i64 a] 32)
    have HG4 : Gv (w3.alloc (.cells #[.int .i64 p, .slice (some ⟨g, 0, none⟩) nn cg, .int .i64 a] 32)) 0 (.agg #[.int .i64 p, .slice A4 n4 c4, .int .i64 a]) ⟨p, cc, a⟩ := (HG3.alloc (.cells #[.int .i64 p, .slice (some ⟨g, 0, none⟩) nn cg, .int .i64 a] 32)).mono (Nat.zero_le _)
    have M := isMarking_any _ _ _ _ HG4
    rw [hmk.out] at M
    obtain ⟨y0, y1, y2, _⟩ := Y4.cells
    go_wp2_with fail
    refine M.mono ?_; rintro e w4 ⟨rfl, hb4⟩
    have Y5 := Y4.below hb4
    have Z5 := Z4.below hb4
    have U5 := U4.below hb4
    have S5 := S4.below hb4
    have B5 := B4.trans (hb4.mono B4.size)
    clear M HG4 hb4
    clear Y4 Z4 U4 S4 B4
    obtain ⟨y0, y1, y2, _⟩ := Y5.cells
    obtain ⟨u0, u1, u2, _⟩ := U5.cells
    (try rw [hBk] at u0 u1 u2)
    obtain ⟨z0, z1, z2, f0, f1, f2⟩ := Z5.cells
    obtain ⟨hZ, hB⟩ := g_done (w := w) (G := ⟨p, cc, a⟩) (b := w.heap.size + 2) (S5.mono (lo' := w.heap.size) (by omega)) (Nat.le_refl _) (fun e => nb2 (Option.some.inj e).symm) (by omega) B5 (.int .i64 p) (.slice (some ⟨g, 0, none⟩) nn cg) (.int .i64 a)
    go_wp2_with fail
    rw [hf.out, hc.out]
    refine bodyPost_ret (v := .tuple #[.agg #[.int .i64 p, .slice (some ⟨g, 0, none⟩) nn cg, .int .i64 a], .bool true]) ?_ rfl ⟨_, rfl, hZ, hB⟩
    simp [results, Try.results69, go_sem, z0, z1, z2]
end Go.Proofs.Ytdifplakkepnkaa
