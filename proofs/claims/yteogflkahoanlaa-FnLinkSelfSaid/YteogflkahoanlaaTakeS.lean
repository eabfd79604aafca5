/- TakeCounted of spec. -/
import Derived.Test.YteogflkahoanlaaCpyD
import Derived.Test.YteogflkahoanlaaDown
import Derived.Test.YteogflkahoanlaaStoA
namespace Go.Proofs.Yteogflkahoanlaa
open Go.RowKit

/-- Fresh free cells are stored in the variable. -/
theorem MAt.free2 {K : Bool} {w : World} {lo b : Nat} {ty : TypeId} {x0 x1 x2 x3 x4 x3' : Value} {D : Dp} {c' : List Int} (h : MAt K w lo b ty x0 x1 x2 x3 x4 D) (hr : RowK K w lo x3' c') (hn : ∀ k, x3'.ownBlock = some k → ¬ OwnM b x0 x1 x2 x3 x4 k) :
    MAt K (w.setCell ⟨b, 3, none⟩ x3') lo b ty x0 x1 x2 x3' x4 ⟨⟨D.C.h, c'⟩, D.n⟩ := by
  have F : Fr (fun j => j = b) w (w.setCell ⟨b, 3, none⟩ x3') := only1 w b 3 x3'
  refine { h with blk := h.blk.set3 x3', r0 := h.r0.fr F ?_, r1 := h.r1.fr F ?_, r2 := h.r2.fr F ?_, r3 := hr.fr F ?_, r4 := h.r4.fr F ?_, o3 := fun e => hn b e (.inl rfl), a03 := fun k e e' => hn k e' (.inr (.inl e)), a13 := fun k e e' => hn k e' (.inr (.inr (.inl e))), a23 := fun k e e' => hn k e' (.inr (.inr (.inr (.inl e)))), a34 := fun k e e' => hn k e (.inr (.inr (.inr (.inr (.inr e'))))) }
  · exact fun k e e' => h.o0 (by rw [e, e'])
  · exact fun k e e' => h.o1 (by rw [e, e'])
  · exact fun k e e' => h.o2 (by rw [e, e'])
  · exact fun k e e' => hn k e (.inl e')
  · exact fun k e e' => h.o4 (by rw [e, e'])
theorem rowK_of {w : World} {lo : Nat} {v : Value} {xs : List Int} (h : Row w lo v xs) : RowK false w lo v xs := h
set_option maxRecDepth 100000 in
set_option maxHeartbeats 6000000 in
theorem specTakeCounted_any (w : World) (lo : Nat) (v : Value) (D : Dp) (hv : Dv w lo v D) (k : Int) : Calls Try.prog 23 #[v, .int .i64 k] w (OptDv w (takeO D k)) := by
  have hvo := hv
  obtain ⟨A0, n0, c0, A1, n1, c1, A2, n2, c2, A3, n3, c3, A4, n4, c4, rfl, -, -, -, ⟨l0, l1, l2, l3, l4⟩, -⟩ := hvo.open_
  have X := (Blk5.new w (.slice A0 n0 c0) (.slice A1 n1 c1) (.slice A2 n2 c2) (.slice A3 n3 c3) (.slice A4 n4 c4) 29).alloc (.cells #[.slice none 0 0, .slice none 0 0, .slice none 0 0, .slice none 0 0, .slice none 0 0] 29)
  have Y := Blk5.new_at (w := w.alloc (.cells #[.slice A0 n0 c0, .slice A1 n1 c1, .slice A2 n2 c2, .slice A3 n3 c3, .slice A4 n4 c4] 29)) (b := w.heap.size + 1) (by simp) (.slice none 0 0) (.slice none 0 0) (.slice none 0 0) (.slice none 0 0) (.slice none 0 0) 29
  have DD := (hv.alloc (.cells #[.slice A0 n0 c0, .slice A1 n1 c1, .slice A2 n2 c2, .slice A3 n3 c3, .slice A4 n4 c4] 29)).alloc (.cells #[.slice none 0 0, .slice none 0 0, .slice none 0 0, .slice none 0 0, .slice none 0 0] 29)
  have BB : Below w.heap.size w ((w.alloc (.cells #[.slice A0 n0 c0, .slice A1 n1 c1, .slice A2 n2 c2, .slice A3 n3 c3, .slice A4 n4 c4] 29)).alloc (.cells #[.slice none 0 0, .slice none 0 0, .slice none 0 0, .slice none 0 0, .slice none 0 0] 29)) := ((Below.refl _ _).alloc (Nat.le_refl _) _).alloc (by simp) _
  have sz : w.heap.size + 2 ≤ ((w.alloc (.cells #[.slice A0 n0 c0, .slice A1 n1 c1, .slice A2 n2 c2, .slice A3 n3 c3, .slice A4 n4 c4] 29)).alloc (.cells #[.slice none 0 0, .slice none 0 0, .slice none 0 0, .slice none 0 0, .slice none 0 0] 29)).heap.size := by simp
  clear hv hvo
  generalize hW : ((w.alloc (.cells #[.slice A0 n0 c0, .slice A1 n1 c1, .slice A2 n2 c2, .slice A3 n3 c3, .slice A4 n4 c4] 29)).alloc (.cells #[.slice none 0 0, .slice none 0 0, .slice none 0 0, .slice none 0 0, .slice none 0 0] 29)) = W at X Y DD BB sz
  obtain ⟨x0, x1, x2, x3, x4, -⟩ := X.cells
  have V := l9Root_any W lo _ D DD k
  rcases ev : (dpB D && plB k D.C.h.t.length)
  · have hf : Hid (takeO D k = none) := by unfold Hid takeO; rw [ev]; rfl
    rw [ev] at V
    clear ev
    go_enter Try.func23, Try.ntmps23
    go_wp2_with fail
    (try rw [hW])
    refine V.mono ?_; rintro e w1 ⟨rfl, hb1⟩
    obtain ⟨y0, y1, y2, y3, y4, f0, f1, f2, f3, f4⟩ := (Y.below hb1).cells
    obtain ⟨hZ, hB⟩ := dv_zero (w := w) (b := w.heap.size + 1) (by omega) (BB.trans (hb1.mono BB.size))
    go_wp2_with fail
    rw [hf.out]
    refine bodyPost_ret (v := .tuple #[.agg #[.slice none 0 0, .slice none 0 0, .slice none 0 0, .slice none 0 0, .slice none 0 0], .bool false]) ?_ rfl ⟨_, rfl, hZ, hB⟩
    simp [results, Try.results23, go_sem, y0, y1, y2, y3, y4]
  · rcases hc : D.C.c with _ | ⟨x, cs⟩
    · have hf : Hid (takeO D k = none) := by unfold Hid takeO; rw [ev, hc]; rfl
      rw [ev] at V
      clear ev
      obtain rfl : n3 = 0 := by rw [← l3.out, hc]; rfl
      clear hc
      go_enter Try.func23, Try.ntmps23
      go_wp2_with fail
      (try rw [hW])
      refine V.mono ?_; rintro e w1 ⟨rfl, hb1⟩
      have B0 := (X.below hb1).cells
      obtain ⟨p0, p1, p2, p3, p4, -⟩ := B0
      clear x0 x1 x2 x3 x4
      obtain ⟨y0, y1, y2, y3, y4, f0, f1, f2, f3, f4⟩ := (Y.below hb1).cells
      obtain ⟨hZ, hB⟩ := dv_zero (w := w) (b := w.heap.size + 1) (by omega) (BB.trans (hb1.mono BB.size))
      go_wp2_with fail
      rw [hf.out]
      refine bodyPost_ret (v := .tuple #[.agg #[.slice none 0 0, .slice none 0 0, .slice none 0 0, .slice none 0 0, .slice none 0 0], .bool false]) ?_ rfl ⟨_, rfl, hZ, hB⟩
      simp [results, Try.results23, go_sem, y0, y1, y2, y3, y4]
    · rw [Bool.and_eq_true] at ev
      obtain ⟨evd, evp⟩ := ev
      rw [evd, evp] at V
      have vT : (true && true) = true := rfl
      rw [vT] at V
      have hk : 0 ≤ k ∧ k < D.C.h.t.length := by simpa [plB] using evp
      obtain ⟨j, rfl⟩ := Int.eq_ofNat_of_zero_le hk.1
      have hj : j < D.C.h.t.length := by omega
      obtain ⟨old, hold⟩ : ∃ old, D.C.h.t[j]? = some old := ⟨_, List.getElem?_eq_getElem hj⟩
      obtain ⟨hI0, x, rfl, hxl, hx0⟩ := take_inv evd hc hold
      have hbx : bump D.n (x : Int) = D.n.set x 1 := by rw [bump_at hx0]; rfl
      have hf := Lib.hid (takeO_some evd hold hc)
      rw [hbx] at hf hI0
      have hI := Lib.hid hI0
      have hxn : x < D.n.length := (List.getElem?_eq_some_iff.1 hx0).1
      clear hI0 hbx hx0
      have hj2 : (j : Int) < (n2 : Int) := by rw [← l2.out]; omega
      obtain ⟨-, -, r2, r3, -⟩ := DD.rows
      obtain ⟨g2, u, rfl, hg1, hg2, hu, hcu, -⟩ := r2.get (k := j) hj
      obtain rfl : u = old := by have h9 := hu.out; rw [hold] at h9; cases h9; rfl
      have hl3 : n3 = cs.length + 1 := by rw [← l3.out, hc]; rfl
      obtain ⟨gf, x', rfl, hgf1, hgf2, hx', hcf, -⟩ := r3.get (k := 0) (by rw [hc]; simp)
      obtain rfl : x' = (x : Int) := by have h9 := hx'.out; rw [hc] at h9; simpa using h9.symm
      have hcap := r3.cap
      have cp1 : (n3 : Int) ≤ (c3 : Int) := by omega
      have cp2 : (1 : Int) ≤ (n3 : Int) := by omega
      have cp3 : (0 : Int) < (n3 : Int) := by omega
      have hzn : ((n3 : Int) == 0) = false := by simp; omega
      have F0 := r3
      rw [hc] at F0
      have hn3 : n3 ≤ 1048576 := by rw [← l3.out]; exact (short9 evd).2.2.2.1
      replace hl3 := Lib.hid hl3
      obtain ⟨i0, hi, hz0, hz1, hz2⟩ := info_parts Try.infoInt
      clear hx' hu evp hk vT hold
      go_enter Try.func23, Try.ntmps23
      go_wp2_with fail
      (try rw [hW])
      refine V.mono ?_; rintro e w1 ⟨rfl, hb1⟩
      have X1 := X.below hb1
      have Y1 := Y.below hb1
      have D1 := DD.below hb1
      have B1 := BB.trans (hb1.mono BB.size)
      have z1 := hb1.size
      have hcu1 := cell_bl hb1 hg2 hcu
      have hcf1 := cell_bl hb1 hgf2 hcf
      have F1 := F0.below hb1
      clear hcu hcf F0
      have CP := l9Copy_any w1 lo _ D D1 evd
      clear x0 x1 x2 x3 x4 X Y DD V
      obtain ⟨x0, x1, x2, x3, x4, -⟩ := X1.cells
      go_wp2_with fail
      refine CP.mono ?_; rintro e w2 ⟨vv, rfl, HD, hb2⟩
      have HDo := HD
      obtain ⟨Q0, q0, k0, Q1, q1, k1, Q2, q2, k2, Q3, q3, k3, Q4, q4, k4, rfl, -⟩ := HDo.open_
      obtain ⟨M, hb3⟩ := mat_out HD
      have X3 := (X1.below hb2).below hb3
      have Y3 := (Y1.below hb2).below hb3
      have D3 := (D1.below hb2).below hb3
      have B3 := (B1.trans (hb2.mono B1.size)).trans (hb3.mono (by have := B1.size; have := hb2.size; omega))
      have z2 := hb2.size
      have z3 : w2.heap.size + 1 ≤ (w2.alloc (.cells #[.slice Q0 q0 k0, .slice Q1 q1 k1, .slice Q2 q2 k2, .slice Q3 q3 k3, .slice Q4 q4 k4] 29)).heap.size := M.blk.lt
      clear x0 x1 x2 x3 x4 X1 Y1 D1 CP HDo HD
      obtain ⟨x0, x1, x2, x3, x4, -⟩ := X3.cells
      have hcu3 := cell_bl hb3 (by omega) (cell_bl hb2 (by omega) hcu1)
      have hcf3 := cell_bl hb3 (by omega) (cell_bl hb2 (by omega) hcf1)
      have F3 := (F1.below hb2).below hb3
      obtain ⟨gt, _, hQ2, hg3, hg4, _, _, _⟩ := M.r2.get (k := j) hj
      obtain ⟨g4, _, hQ4, hg5, hg6, _, _, _⟩ := M.r4.get (k := x) hxn
      have hq2 : (j : Int) < (q2 : Int) := by have : D.C.h.t.length = q2 := (RowC.ofRow M.r2).form.1; omega
      have hq4 : (x : Int) < (q4 : Int) := by have : D.n.length = q4 := (RowC.ofRow M.r4).form.1; omega
      subst hQ2 hQ4
      clear hcu1 hcf1 F1 evd
      have x53 := cellA x3 (.cells #[] 3)
      have sB : (w2.alloc (.cells #[.slice Q0 q0 k0, .slice Q1 q1 k1, .slice (some ⟨gt, 0, none⟩) q2 k2, .slice Q3 q3 k3, .slice (some ⟨g4, 0, none⟩) q4 k4] 29)).heap.size = w2.heap.size + 1 := by simp
      by_cases h1' : n3 = 1
      · have h1 := Lib.hid h1'
        have ht0 : cs = [] := List.eq_nil_of_length_eq_zero (by have := hl3.out; omega)
        clear h1' F3
        by_cases hc1 : c3 = 1
        · subst hc1
          go_wp2_with (at_builtin; first | (refine wpList_append_zero rfl _ _ 23 rfl 3 i0 Try.underlying23 hi _ 0 0 rfl (Nat.le_refl _) _ 0 _ rfl rfl ?_) | (refine wpList_append_zero rfl _ _ 23 rfl 3 i0 Try.underlying23 hi _ 0 0 rfl (Nat.le_refl _) _ (n3 - 1) _ (by have := h1.out; omega) rfl ?_))
          rintro w5 hw5
          have hw5' : w5 = ((w2.alloc (.cells #[.slice Q0 q0 k0, .slice Q1 q1 k1, .slice (some ⟨gt, 0, none⟩) q2 k2, .slice Q3 q3 k3, .slice (some ⟨g4, 0, none⟩) q4 k4] 29)).alloc (.cells #[] 3)) := hw5.out
          have T5 : Row w5 (w2.heap.size + 1) (.slice (some ⟨w2.heap.size + 1, 0, none⟩) 0 0) cs := by
            rw [hw5', ht0]
            have h9 := Row.empty (w2.alloc (.cells #[.slice Q0 q0 k0, .slice Q1 q1 k1, .slice (some ⟨gt, 0, none⟩) q2 k2, .slice Q3 q3 k3, .slice (some ⟨g4, 0, none⟩) q4 k4] 29)) (w2.heap.size + 1) (by omega)
            rw [sB] at h9; exact h9
          have B45 : Below (w2.alloc (.cells #[.slice Q0 q0 k0, .slice Q1 q1 k1, .slice (some ⟨gt, 0, none⟩) q2 k2, .slice Q3 q3 k3, .slice (some ⟨g4, 0, none⟩) q4 k4] 29)).heap.size (w2.alloc (.cells #[.slice Q0 q0 k0, .slice Q1 q1 k1, .slice (some ⟨gt, 0, none⟩) q2 k2, .slice Q3 q3 k3, .slice (some ⟨g4, 0, none⟩) q4 k4] 29)) w5 := by
            rw [hw5']; exact (Below.refl _ _).alloc (Nat.le_refl _) _
          clear hw5 hw5'
          have X5 := X3.below B45
          have Y5 := Y3.below B45
          have M5 := M.below B45
          have B5 := B3.trans (B45.mono B3.size)
          have z5 := B45.size
          have fresh : ∀ k, (Value.slice (some ⟨w2.heap.size + 1, 0, none⟩) 0 0).ownBlock = some k → ¬ OwnM w2.heap.size (.slice Q0 q0 k0) (.slice Q1 q1 k1) (.slice (some ⟨gt, 0, none⟩) q2 k2) (.slice Q3 q3 k3) (.slice (some ⟨g4, 0, none⟩) q4 k4) k := fun k e h => by
            have h1 := (T5.lt k e).1
            have h2 := (M.own k h).1
            omega
          have MA := M5.free2 (rowK_of (T5.mono (by omega))) fresh
          have MB := MA.setT rfl j (x : Int)
          have MC := MB.setN rfl x 1
          obtain ⟨e0, e1, e2, e3, e4, h0, h1, h2, h3, h4⟩ := M5.blk.cells
          obtain ⟨a0, a1, a2, a3, a4, -⟩ := MA.blk.cells
          obtain ⟨b0, b1, b2, b3, b4, -⟩ := MB.blk.cells
          obtain ⟨d0, d1, d2, d3, d4, -⟩ := MC.blk.cells
          obtain ⟨_, _, et, _, _, _, hct, hft⟩ := MA.r2.get (k := j) hj
          cases et
          obtain ⟨_, _, en, _, _, _, hcn, hfn⟩ := MB.r4.get (k := x) hxn
          cases en
          have n9 : gt ≠ w2.heap.size := fun e => M.o2 (by rw [← e]; rfl)
          have n9' : w2.heap.size ≠ gt := fun e => n9 e.symm
          have n8 : g4 ≠ w2.heap.size := fun e => M.o4 (by rw [← e]; rfl)
          have n8' : w2.heap.size ≠ g4 := fun e => n8 e.symm
          have gtl := (M.r2.lt gt rfl).1
          have g4l := (M.r4.lt g4 rfl).1
          have Y9 := ((Y5.other (p := ⟨w2.heap.size, 3, none⟩) (by show w.heap.size + 1 ≠ w2.heap.size; omega) (.slice (some ⟨w2.heap.size + 1, 0, none⟩) 0 0)).other (p := ⟨gt, j, none⟩) (by show w.heap.size + 1 ≠ gt; omega) (.int .i64 (x : Int))).other (p := ⟨g4, x, none⟩) (by show w.heap.size + 1 ≠ g4; omega) (.int .i64 1)
          have B9 := ((B5.setCell (p := ⟨w2.heap.size, 3, none⟩) (by show w.heap.size ≤ w2.heap.size; omega) (.slice (some ⟨w2.heap.size + 1, 0, none⟩) 0 0)).setCell (p := ⟨gt, j, none⟩) (by show w.heap.size ≤ gt; omega) (.int .i64 (x : Int))).setCell (p := ⟨g4, x, none⟩) (by show w.heap.size ≤ g4; omega) (.int .i64 1)
          have z9e : (((w5.setCell ⟨w2.heap.size, 3, none⟩ (.slice (some ⟨w2.heap.size + 1, 0, none⟩) 0 0)).setCell ⟨gt, j, none⟩ (.int .i64 (x : Int))).setCell ⟨g4, x, none⟩ (.int .i64 1)).heap.size = w5.heap.size := by simp [World.setCell]
          clear X5 Y5 B5 M5 MA MB
          go_wp2_with fail
          clear e0 e1 e2 e3 e4 h0 h1 h2 h3 h4 a0 a1 a2 a3 a4 b0 b1 b2 b3 b4 hct hft hcn hfn
          generalize (((w5.setCell ⟨w2.heap.size, 3, none⟩ (.slice (some ⟨w2.heap.size + 1, 0, none⟩) 0 0)).setCell ⟨gt, j, none⟩ (.int .i64 (x : Int))).setCell ⟨g4, x, none⟩ (.int .i64 1)) = W9 at MC d0 d1 d2 d3 d4 Y9 B9 z9e ⊢
          have DN := l9Down_any (W9.alloc (.cells #[.int .i64 u] 3)) w1.heap.size W9.heap.size W9.heap.size 1 Q0 Q1 (some ⟨gt, 0, none⟩) (some ⟨w2.heap.size + 1, 0, none⟩) (some ⟨g4, 0, none⟩) q0 k0 q1 k1 q2 k2 0 0 q4 k4 _ (MC.dv.alloc (.cells #[.int .i64 u] 3)) u (lit1_ W9 u) ⟨fun e => by have := (MC.r0.lt _ e).2; omega, fun e => by have := (MC.r1.lt _ e).2; omega, fun e => by have := (MC.r2.lt _ e).2; omega, fun e => by have := (MC.r3.lt _ e).2; omega, fun e => by have := (MC.r4.lt _ e).2; omega⟩ hI
          have low : ∀ q, OwnV (.slice Q0 q0 k0) (.slice Q1 q1 k1) (.slice (some ⟨gt, 0, none⟩) q2 k2) (.slice (some ⟨w2.heap.size + 1, 0, none⟩) 0 0) (.slice (some ⟨g4, 0, none⟩) q4 k4) (.slice (some ⟨W9.heap.size, 0, none⟩) 1 1) q → w1.heap.size ≤ q := fun q e => by
            rcases e with e | e | e | e | e | e
            · exact (MC.r0.lt _ e).1
            · exact (MC.r1.lt _ e).1
            · exact (MC.r2.lt _ e).1
            · exact (MC.r3.lt _ e).1
            · exact (MC.r4.lt _ e).1
            · have e' : W9.heap.size = q := by simpa [Value.ownBlock] using e
              omega
          have YA := Y9.alloc (.cells #[.int .i64 u] 3)
          have BA := B9.alloc (by have := B9.size; omega) (.cells #[.int .i64 u] 3)
          have sA : W9.heap.size + 1 ≤ (W9.alloc (.cells #[.int .i64 u] 3)).heap.size := by simp
          clear MC d0 d1 d2 d3 d4 Y9 B9
          rw [z9e] at DN low
          refine DN.mono ?_; rintro e w6 ⟨A', n', c', rfl, DF, F9⟩
          have hb9 : Below w1.heap.size (W9.alloc (.cells #[.int .i64 u] 3)) w6 := F9.below low (by omega)
          obtain ⟨y0, y1, y2, y3, y4, f0, f1, f2, f3, f4⟩ := (YA.far hb9 (by omega)).cells
          obtain ⟨hZ, hB⟩ := dv_done (w := w) (b := w.heap.size + 1) DF (by omega) (by omega) (BA.trans (hb9.mono (by omega))) (.slice Q0 q0 k0) (.slice Q1 q1 k1) (.slice (some ⟨gt, 0, none⟩) q2 k2) (.slice A' n' c') (.slice (some ⟨g4, 0, none⟩) q4 k4)
          clear YA BA DF F9 DN
          go_wp2_with fail
          rw [hf.out]
          refine bodyPost_ret (v := .tuple #[.agg #[.slice Q0 q0 k0, .slice Q1 q1 k1, .slice (some ⟨gt, 0, none⟩) q2 k2, .slice A' n' c', .slice (some ⟨g4, 0, none⟩) q4 k4], .bool true]) ?_ rfl ⟨_, rfl, hZ, hB⟩
          simp [results, Try.results23, go_sem, y0, y1, y2, y3, y4]
        · have hc2 : (1 : Int) < (c3 : Int) := by omega
          have hc3 : ((c3 : Int) - 1 == 0) = false := by simp; omega
          have hc4 : c3 - 1 ≠ 0 := by omega
          go_wp2_with (at_builtin; first | (refine wpList_append_zero rfl _ _ 23 rfl 3 i0 Try.underlying23 hi _ 0 0 rfl (Nat.le_refl _) _ 0 _ rfl rfl ?_) | (refine wpList_append_zero rfl _ _ 23 rfl 3 i0 Try.underlying23 hi _ 0 0 rfl (Nat.le_refl _) _ (n3 - 1) _ (by have := h1.out; omega) rfl ?_))
          rintro w5 hw5
          have hw5' : w5 = ((w2.alloc (.cells #[.slice Q0 q0 k0, .slice Q1 q1 k1, .slice (some ⟨gt, 0, none⟩) q2 k2, .slice Q3 q3 k3, .slice (some ⟨g4, 0, none⟩) q4 k4] 29)).alloc (.cells #[] 3)) := hw5.out
          have T5 : Row w5 (w2.heap.size + 1) (.slice (some ⟨w2.heap.size + 1, 0, none⟩) 0 0) cs := by
            rw [hw5', ht0]
            have h9 := Row.empty (w2.alloc (.cells #[.slice Q0 q0 k0, .slice Q1 q1 k1, .slice (some ⟨gt, 0, none⟩) q2 k2, .slice Q3 q3 k3, .slice (some ⟨g4, 0, none⟩) q4 k4] 29)) (w2.heap.size + 1) (by omega)
            rw [sB] at h9; exact h9
          have B45 : Below (w2.alloc (.cells #[.slice Q0 q0 k0, .slice Q1 q1 k1, .slice (some ⟨gt, 0, none⟩) q2 k2, .slice Q3 q3 k3, .slice (some ⟨g4, 0, none⟩) q4 k4] 29)).heap.size (w2.alloc (.cells #[.slice Q0 q0 k0, .slice Q1 q1 k1, .slice (some ⟨gt, 0, none⟩) q2 k2, .slice Q3 q3 k3, .slice (some ⟨g4, 0, none⟩) q4 k4] 29)) w5 := by
            rw [hw5']; exact (Below.refl _ _).alloc (Nat.le_refl _) _
          clear hw5 hw5'
          have X5 := X3.below B45
          have Y5 := Y3.below B45
          have M5 := M.below B45
          have B5 := B3.trans (B45.mono B3.size)
          have z5 := B45.size
          have fresh : ∀ k, (Value.slice (some ⟨w2.heap.size + 1, 0, none⟩) 0 0).ownBlock = some k → ¬ OwnM w2.heap.size (.slice Q0 q0 k0) (.slice Q1 q1 k1) (.slice (some ⟨gt, 0, none⟩) q2 k2) (.slice Q3 q3 k3) (.slice (some ⟨g4, 0, none⟩) q4 k4) k := fun k e h => by
            have h1 := (T5.lt k e).1
            have h2 := (M.own k h).1
            omega
          have MA := M5.free2 (rowK_of (T5.mono (by omega))) fresh
          have MB := MA.setT rfl j (x : Int)
          have MC := MB.setN rfl x 1
          obtain ⟨e0, e1, e2, e3, e4, h0, h1, h2, h3, h4⟩ := M5.blk.cells
          obtain ⟨a0, a1, a2, a3, a4, -⟩ := MA.blk.cells
          obtain ⟨b0, b1, b2, b3, b4, -⟩ := MB.blk.cells
          obtain ⟨d0, d1, d2, d3, d4, -⟩ := MC.blk.cells
          obtain ⟨_, _, et, _, _, _, hct, hft⟩ := MA.r2.get (k := j) hj
          cases et
          obtain ⟨_, _, en, _, _, _, hcn, hfn⟩ := MB.r4.get (k := x) hxn
          cases en
          have n9 : gt ≠ w2.heap.size := fun e => M.o2 (by rw [← e]; rfl)
          have n9' : w2.heap.size ≠ gt := fun e => n9 e.symm
          have n8 : g4 ≠ w2.heap.size := fun e => M.o4 (by rw [← e]; rfl)
          have n8' : w2.heap.size ≠ g4 := fun e => n8 e.symm
          have gtl := (M.r2.lt gt rfl).1
          have g4l := (M.r4.lt g4 rfl).1
          have Y9 := ((Y5.other (p := ⟨w2.heap.size, 3, none⟩) (by show w.heap.size + 1 ≠ w2.heap.size; omega) (.slice (some ⟨w2.heap.size + 1, 0, none⟩) 0 0)).other (p := ⟨gt, j, none⟩) (by show w.heap.size + 1 ≠ gt; omega) (.int .i64 (x : Int))).other (p := ⟨g4, x, none⟩) (by show w.heap.size + 1 ≠ g4; omega) (.int .i64 1)
          have B9 := ((B5.setCell (p := ⟨w2.heap.size, 3, none⟩) (by show w.heap.size ≤ w2.heap.size; omega) (.slice (some ⟨w2.heap.size + 1, 0, none⟩) 0 0)).setCell (p := ⟨gt, j, none⟩) (by show w.heap.size ≤ gt; omega) (.int .i64 (x : Int))).setCell (p := ⟨g4, x, none⟩) (by show w.heap.size ≤ g4; omega) (.int .i64 1)
          have z9e : (((w5.setCell ⟨w2.heap.size, 3, none⟩ (.slice (some ⟨w2.heap.size + 1, 0, none⟩) 0 0)).setCell ⟨gt, j, none⟩ (.int .i64 (x : Int))).setCell ⟨g4, x, none⟩ (.int .i64 1)).heap.size = w5.heap.size := by simp [World.setCell]
          clear X5 Y5 B5 M5 MA MB
          go_wp2_with fail
          clear e0 e1 e2 e3 e4 h0 h1 h2 h3 h4 a0 a1 a2 a3 a4 b0 b1 b2 b3 b4 hct hft hcn hfn
          generalize (((w5.setCell ⟨w2.heap.size, 3, none⟩ (.slice (some ⟨w2.heap.size + 1, 0, none⟩) 0 0)).setCell ⟨gt, j, none⟩ (.int .i64 (x : Int))).setCell ⟨g4, x, none⟩ (.int .i64 1)) = W9 at MC d0 d1 d2 d3 d4 Y9 B9 z9e ⊢
          have DN := l9Down_any (W9.alloc (.cells #[.int .i64 u] 3)) w1.heap.size W9.heap.size W9.heap.size 1 Q0 Q1 (some ⟨gt, 0, none⟩) (some ⟨w2.heap.size + 1, 0, none⟩) (some ⟨g4, 0, none⟩) q0 k0 q1 k1 q2 k2 0 0 q4 k4 _ (MC.dv.alloc (.cells #[.int .i64 u] 3)) u (lit1_ W9 u) ⟨fun e => by have := (MC.r0.lt _ e).2; omega, fun e => by have := (MC.r1.lt _ e).2; omega, fun e => by have := (MC.r2.lt _ e).2; omega, fun e => by have := (MC.r3.lt _ e).2; omega, fun e => by have := (MC.r4.lt _ e).2; omega⟩ hI
          have low : ∀ q, OwnV (.slice Q0 q0 k0) (.slice Q1 q1 k1) (.slice (some ⟨gt, 0, none⟩) q2 k2) (.slice (some ⟨w2.heap.size + 1, 0, none⟩) 0 0) (.slice (some ⟨g4, 0, none⟩) q4 k4) (.slice (some ⟨W9.heap.size, 0, none⟩) 1 1) q → w1.heap.size ≤ q := fun q e => by
            rcases e with e | e | e | e | e | e
            · exact (MC.r0.lt _ e).1
            · exact (MC.r1.lt _ e).1
            · exact (MC.r2.lt _ e).1
            · exact (MC.r3.lt _ e).1
            · exact (MC.r4.lt _ e).1
            · have e' : W9.heap.size = q := by simpa [Value.ownBlock] using e
              omega
          have YA := Y9.alloc (.cells #[.int .i64 u] 3)
          have BA := B9.alloc (by have := B9.size; omega) (.cells #[.int .i64 u] 3)
          have sA : W9.heap.size + 1 ≤ (W9.alloc (.cells #[.int .i64 u] 3)).heap.size := by simp
          clear MC d0 d1 d2 d3 d4 Y9 B9
          rw [z9e] at DN low
          refine DN.mono ?_; rintro e w6 ⟨A', n', c', rfl, DF, F9⟩
          have hb9 : Below w1.heap.size (W9.alloc (.cells #[.int .i64 u] 3)) w6 := F9.below low (by omega)
          obtain ⟨y0, y1, y2, y3, y4, f0, f1, f2, f3, f4⟩ := (YA.far hb9 (by omega)).cells
          obtain ⟨hZ, hB⟩ := dv_done (w := w) (b := w.heap.size + 1) DF (by omega) (by omega) (BA.trans (hb9.mono (by omega))) (.slice Q0 q0 k0) (.slice Q1 q1 k1) (.slice (some ⟨gt, 0, none⟩) q2 k2) (.slice A' n' c') (.slice (some ⟨g4, 0, none⟩) q4 k4)
          clear YA BA DF F9 DN
          go_wp2_with fail
          rw [hf.out]
          refine bodyPost_ret (v := .tuple #[.agg #[.slice Q0 q0 k0, .slice Q1 q1 k1, .slice (some ⟨gt, 0, none⟩) q2 k2, .slice A' n' c', .slice (some ⟨g4, 0, none⟩) q4 k4], .bool true]) ?_ rfl ⟨_, rfl, hZ, hB⟩
          simp [results, Try.results23, go_sem, y0, y1, y2, y3, y4]
      · have E5 : (cs.map iv).length = (n3 - 1) * 1 := by have := hl3.out; simp; omega
        have L5 : Hid (0 + (n3 - 1) = cs.length) := by have := hl3.out; unfold Hid; omega
        have M5' : 0 + (n3 - 1) ≤ maxLen := by unfold maxLen; omega
        have F5 := F3.alloc (.cells #[] 3)
        go_wp2_with (at_builtin; refine wpList_append_grows _ rfl _ _ 23 rfl 3 i0 (.int .i64 0) 1 8 Try.underlying23 hi hz0 hz1 hz2 rfl (by decide) _ 0 0 [] rfl (fun _ => ⟨rfl, rfl⟩) rfl (fun _ _ j u hj => nil_get hj) ⟨gf, 1, none⟩ (n3 - 1) _ (cs.map iv) rfl E5 (Row.cellsTail4 (lo := lo) (n := n3) (c := c3) (xs := (x : Int) :: cs) F5) (ints_oneCell _ _) (by omega) M5' (by omega) ?_)
        intro v5 w5 hown hgr
        have hown' : w5.ownsRow ((w2.alloc (.cells #[.slice Q0 q0 k0, .slice Q1 q1 k1, .slice (some ⟨gt, 0, none⟩) q2 k2, .slice Q3 q3 k3, .slice (some ⟨g4, 0, none⟩) q4 k4] 29)).alloc (.cells #[] 3)).heap.size 3 1 v5 (0 + (n3 - 1)) ([] ++ cs.map iv) := by simpa using hown
        have h9 := after_append (W := ((w2.alloc (.cells #[.slice Q0 q0 k0, .slice Q1 q1 k1, .slice (some ⟨gt, 0, none⟩) q2 k2, .slice Q3 q3 k3, .slice (some ⟨g4, 0, none⟩) q4 k4] 29)).alloc (.cells #[] 3))) (xs := cs) hown' hgr L5.out
        obtain ⟨q5, hq5⟩ : ∃ q, cs.length = q := ⟨_, rfl⟩
        rw [hq5] at h9
        obtain ⟨E5, c5, rfl, T, hb5⟩ := h9
        clear hq5
        have T5 := T.mono (lo' := w2.heap.size + 1) (by simp)
        have B45 : Below (w2.alloc (.cells #[.slice Q0 q0 k0, .slice Q1 q1 k1, .slice (some ⟨gt, 0, none⟩) q2 k2, .slice Q3 q3 k3, .slice (some ⟨g4, 0, none⟩) q4 k4] 29)).heap.size (w2.alloc (.cells #[.slice Q0 q0 k0, .slice Q1 q1 k1, .slice (some ⟨gt, 0, none⟩) q2 k2, .slice Q3 q3 k3, .slice (some ⟨g4, 0, none⟩) q4 k4] 29)) w5 := ((Below.refl _ _).alloc (Nat.le_refl _) (.cells #[] 3)).trans (hb5.mono (by simp))
        clear T hown hown' hgr hb5
        have X5 := X3.below B45
        have Y5 := Y3.below B45
        have M5 := M.below B45
        have B5 := B3.trans (B45.mono B3.size)
        have z5 := B45.size
        have fresh : ∀ k, (Value.slice E5 q5 c5).ownBlock = some k → ¬ OwnM w2.heap.size (.slice Q0 q0 k0) (.slice Q1 q1 k1) (.slice (some ⟨gt, 0, none⟩) q2 k2) (.slice Q3 q3 k3) (.slice (some ⟨g4, 0, none⟩) q4 k4) k := fun k e h => by
          have h1 := (T5.lt k e).1
          have h2 := (M.own k h).1
          omega
        have MA := M5.free2 (rowK_of (T5.mono (by omega))) fresh
        have MB := MA.setT rfl j (x : Int)
        have MC := MB.setN rfl x 1
        obtain ⟨e0, e1, e2, e3, e4, h0, h1, h2, h3, h4⟩ := M5.blk.cells
        obtain ⟨a0, a1, a2, a3, a4, -⟩ := MA.blk.cells
        obtain ⟨b0, b1, b2, b3, b4, -⟩ := MB.blk.cells
        obtain ⟨d0, d1, d2, d3, d4, -⟩ := MC.blk.cells
        obtain ⟨_, _, et, _, _, _, hct, hft⟩ := MA.r2.get (k := j) hj
        cases et
        obtain ⟨_, _, en, _, _, _, hcn, hfn⟩ := MB.r4.get (k := x) hxn
        cases en
        have n9 : gt ≠ w2.heap.size := fun e => M.o2 (by rw [← e]; rfl)
        have n9' : w2.heap.size ≠ gt := fun e => n9 e.symm
        have n8 : g4 ≠ w2.heap.size := fun e => M.o4 (by rw [← e]; rfl)
        have n8' : w2.heap.size ≠ g4 := fun e => n8 e.symm
        have gtl := (M.r2.lt gt rfl).1
        have g4l := (M.r4.lt g4 rfl).1
        have Y9 := ((Y5.other (p := ⟨w2.heap.size, 3, none⟩) (by show w.heap.size + 1 ≠ w2.heap.size; omega) (.slice E5 q5 c5)).other (p := ⟨gt, j, none⟩) (by show w.heap.size + 1 ≠ gt; omega) (.int .i64 (x : Int))).other (p := ⟨g4, x, none⟩) (by show w.heap.size + 1 ≠ g4; omega) (.int .i64 1)
        have B9 := ((B5.setCell (p := ⟨w2.heap.size, 3, none⟩) (by show w.heap.size ≤ w2.heap.size; omega) (.slice E5 q5 c5)).setCell (p := ⟨gt, j, none⟩) (by show w.heap.size ≤ gt; omega) (.int .i64 (x : Int))).setCell (p := ⟨g4, x, none⟩) (by show w.heap.size ≤ g4; omega) (.int .i64 1)
        have z9e : (((w5.setCell ⟨w2.heap.size, 3, none⟩ (.slice E5 q5 c5)).setCell ⟨gt, j, none⟩ (.int .i64 (x : Int))).setCell ⟨g4, x, none⟩ (.int .i64 1)).heap.size = w5.heap.size := by simp [World.setCell]
        clear X5 Y5 B5 M5 MA MB
        go_wp2_with fail
        clear e0 e1 e2 e3 e4 h0 h1 h2 h3 h4 a0 a1 a2 a3 a4 b0 b1 b2 b3 b4 hct hft hcn hfn
        generalize (((w5.setCell ⟨w2.heap.size, 3, none⟩ (.slice E5 q5 c5)).setCell ⟨gt, j, none⟩ (.int .i64 (x : Int))).setCell ⟨g4, x, none⟩ (.int .i64 1)) = W9 at MC d0 d1 d2 d3 d4 Y9 B9 z9e ⊢
        have DN := l9Down_any (W9.alloc (.cells #[.int .i64 u] 3)) w1.heap.size W9.heap.size W9.heap.size 1 Q0 Q1 (some ⟨gt, 0, none⟩) E5 (some ⟨g4, 0, none⟩) q0 k0 q1 k1 q2 k2 q5 c5 q4 k4 _ (MC.dv.alloc (.cells #[.int .i64 u] 3)) u (lit1_ W9 u) ⟨fun e => by have := (MC.r0.lt _ e).2; omega, fun e => by have := (MC.r1.lt _ e).2; omega, fun e => by have := (MC.r2.lt _ e).2; omega, fun e => by have := (MC.r3.lt _ e).2; omega, fun e => by have := (MC.r4.lt _ e).2; omega⟩ hI
        have low : ∀ q, OwnV (.slice Q0 q0 k0) (.slice Q1 q1 k1) (.slice (some ⟨gt, 0, none⟩) q2 k2) (.slice E5 q5 c5) (.slice (some ⟨g4, 0, none⟩) q4 k4) (.slice (some ⟨W9.heap.size, 0, none⟩) 1 1) q → w1.heap.size ≤ q := fun q e => by
          rcases e with e | e | e | e | e | e
          · exact (MC.r0.lt _ e).1
          · exact (MC.r1.lt _ e).1
          · exact (MC.r2.lt _ e).1
          · exact (MC.r3.lt _ e).1
          · exact (MC.r4.lt _ e).1
          · have e' : W9.heap.size = q := by simpa [Value.ownBlock] using e
            omega
        have YA := Y9.alloc (.cells #[.int .i64 u] 3)
        have BA := B9.alloc (by have := B9.size; omega) (.cells #[.int .i64 u] 3)
        have sA : W9.heap.size + 1 ≤ (W9.alloc (.cells #[.int .i64 u] 3)).heap.size := by simp
        clear MC d0 d1 d2 d3 d4 Y9 B9
        rw [z9e] at DN low
        refine DN.mono ?_; rintro e w6 ⟨A', n', c', rfl, DF, F9⟩
        have hb9 : Below w1.heap.size (W9.alloc (.cells #[.int .i64 u] 3)) w6 := F9.below low (by omega)
        obtain ⟨y0, y1, y2, y3, y4, f0, f1, f2, f3, f4⟩ := (YA.far hb9 (by omega)).cells
        obtain ⟨hZ, hB⟩ := dv_done (w := w) (b := w.heap.size + 1) DF (by omega) (by omega) (BA.trans (hb9.mono (by omega))) (.slice Q0 q0 k0) (.slice Q1 q1 k1) (.slice (some ⟨gt, 0, none⟩) q2 k2) (.slice A' n' c') (.slice (some ⟨g4, 0, none⟩) q4 k4)
        clear YA BA DF F9 DN
        go_wp2_with fail
        rw [hf.out]
        refine bodyPost_ret (v := .tuple #[.agg #[.slice Q0 q0 k0, .slice Q1 q1 k1, .slice (some ⟨gt, 0, none⟩) q2 k2, .slice A' n' c', .slice (some ⟨g4, 0, none⟩) q4 k4], .bool true]) ?_ rfl ⟨_, rfl, hZ, hB⟩
        simp [results, Try.results23, go_sem, y0, y1, y2, y3, y4]

end Go.Proofs.Yteogflkahoanlaa
