/- l9Copy and l9Root of spec. -/
import Derived.Test.YteogflkahoanlaaCVal
import Derived.Test.YteogflkahoanlaaDropI
namespace Go.Proofs.Yteogflkahoanlaa
open Go.RowKit

theorem Dv.rows {w : World} {lo : Nat} {x0 x1 x2 x3 x4 : Value} {D : Dp} (h : Dv w lo (.agg #[x0, x1, x2, x3, x4]) D) : Row w lo x0 D.C.h.l ∧ Row w lo x1 D.C.h.r ∧ Row w lo x2 D.C.h.t ∧ Row w lo x3 D.C.c ∧ Row w lo x4 D.n := by
  obtain ⟨_, _, _, _, _, e, ⟨_, _, _, _, e1, ⟨_, _, _, e2, r0, r1, r2, -⟩, r3, -⟩, r4, -⟩ := h
  cases e; cases e1; cases e2
  exact ⟨r0, r1, r2, r3, r4⟩
theorem cell_bl {B g j : Nat} {w w' : World} {x : Value} (hb : Below B w w') (hB : g < B) (h : w.cell? ⟨g, j, none⟩ = some x) : w'.cell? ⟨g, j, none⟩ = some x := (World.cell?_of_block (w := w) (a := ⟨g, j, none⟩) (hb.block g hB)).trans h
theorem B5_alo {b : Nat} {W x : World} (h : Below b W x) (hb : b ≤ W.heap.size) (o : Obj) : Below b W (x.alloc o) := h.alloc (Nat.le_trans hb h.size) o
theorem lit1_ (w : World) (x : Int) : Row (w.alloc (.cells #[.int .i64 x] 3)) w.heap.size (.slice (some ⟨w.heap.size, 0, none⟩) 1 1) [x] := Row.lit_lo rfl w.heap.size (Nat.le_refl _) [x] (by simp)
/-- A counted store is stored in its variable. -/
theorem mat_out {w : World} {lo : Nat} {x0 x1 x2 x3 x4 : Value} {D : Dp} (h : Dv w lo (.agg #[x0, x1, x2, x3, x4]) D) :
    MAt false (w.alloc (.cells #[x0, x1, x2, x3, x4] 29)) lo w.heap.size 29 x0 x1 x2 x3 x4 D ∧ Below w.heap.size w (w.alloc (.cells #[x0, x1, x2, x3, x4] 29)) := by
  have hb : Below w.heap.size w (w.alloc (.cells #[x0, x1, x2, x3, x4] 29)) := (Below.refl _ _).alloc (Nat.le_refl _) _
  have ho := h
  obtain ⟨_, _, _, _, _, e, ⟨_, _, _, _, e1, ⟨_, _, _, e2, r0, r1, r2, -⟩, r3, -⟩, r4, -⟩ := ho
  cases e; cases e1; cases e2
  have n : ∀ {v : Value} {xs : List Int}, Row w lo v xs → v.ownBlock ≠ some w.heap.size := fun r e => by have := (r.lt _ e).2; omega
  exact ⟨MAt.ofDv (h.below hb) (Blk5.new w _ _ _ _ _ 29) (n r0) (n r1) (n r2) (n r3) (n r4), hb⟩
set_option maxRecDepth 100000 in
set_option maxHeartbeats 2000000 in
theorem l9Root_any (w : World) (lo : Nat) (v : Value) (D : Dp) (hv : Dv w lo v D) (k : Int) : Calls Try.prog 48 #[v, .int .i64 k] w (RetB w (dpB D && plB k D.C.h.t.length)) := by
  have hvo := hv
  obtain ⟨A0, n0, c0, A1, n1, c1, A2, n2, c2, A3, n3, c3, A4, n4, c4, rfl, -, -, -, ⟨-, -, l2, -, -⟩, ⟨-, -, m2, -, -⟩, -⟩ := hvo.open_
  have X := Blk5.new w (.slice A0 n0 c0) (.slice A1 n1 c1) (.slice A2 n2 c2) (.slice A3 n3 c3) (.slice A4 n4 c4) 29
  have DD := hv.alloc (.cells #[.slice A0 n0 c0, .slice A1 n1 c1, .slice A2 n2 c2, .slice A3 n3 c3, .slice A4 n4 c4] 29)
  have BB : Below w.heap.size w (w.alloc (.cells #[.slice A0 n0 c0, .slice A1 n1 c1, .slice A2 n2 c2, .slice A3 n3 c3, .slice A4 n4 c4] 29)) := (Below.refl _ _).alloc (Nat.le_refl _) _
  clear hv hvo
  generalize hW : w.alloc (.cells #[.slice A0 n0 c0, .slice A1 n1 c1, .slice A2 n2 c2, .slice A3 n3 c3, .slice A4 n4 c4] 29) = W at X DD BB
  obtain ⟨x0, x1, x2, x3, x4, -⟩ := X.cells
  have V := specCountedValid_any W lo _ D DD
  rcases ev : dpB D
  · have hf : Hid ((dpB D && plB k D.C.h.t.length) = false) := by unfold Hid; rw [ev]; rfl
    rw [ev] at V hf
    clear ev
    go_enter Try.func48, Try.ntmps48
    go_wp2_with fail
    (try rw [hW])
    refine V.mono ?_; rintro e w1 ⟨rfl, hb1⟩
    go_wp2_with fail
    go_ret
    exact ⟨ret_bool hf.out.symm, BB.trans (hb1.mono BB.size)⟩
  · have hf : Hid ((dpB D && plB k D.C.h.t.length) = plB k n2) := by unfold Hid; rw [ev, l2.out]; rfl
    rw [ev] at V hf
    clear ev
    by_cases hk : 0 ≤ k
    · obtain ⟨j, rfl⟩ := Int.eq_ofNat_of_zero_le hk
      have hq : Hid (plB (j : Int) n2 = decide ((j : Int) < (n2 : Int))) := by unfold Hid plB; simp
      clear hk
      go_enter Try.func48, Try.ntmps48
      go_wp2_with fail
      (try rw [hW])
      refine V.mono ?_; rintro e w1 ⟨rfl, hb1⟩
      obtain ⟨p0, p1, p2, p3, p4, -⟩ := (X.below hb1).cells
      clear x0 x1 x2 x3 x4
      go_wp2_with fail
      go_ret
      exact ⟨ret_bool (by (first | rw [hf.out, hq.out] | rw [l2.out, hq.out]); (try simp)), BB.trans (hb1.mono BB.size)⟩
    · have hq : Hid (plB k n2 = false) := by unfold Hid plB; simp; omega
      have hk2 : ¬ (k ≥ 0) := by omega
      go_enter Try.func48, Try.ntmps48
      go_wp2_with fail
      (try rw [hW])
      refine V.mono ?_; rintro e w1 ⟨rfl, hb1⟩
      go_wp2_with fail
      go_ret
      exact ⟨ret_bool (by (first | rw [hf.out, hq.out] | rw [l2.out, hq.out]); (try simp); (try omega)), BB.trans (hb1.mono BB.size)⟩

set_option maxRecDepth 100000 in
set_option maxHeartbeats 3200000 in
theorem l9Copy_any (w : World) (lo : Nat) (v : Value) (D : Dp) (hv : Dv w lo v D) (hC : dpB D = true) : Calls Try.prog 49 #[v] w (NewDv w D) := by
  have hvo := hv
  obtain ⟨A0, n0, c0, A1, n1, c1, A2, n2, c2, A3, n3, c3, A4, n4, c4, rfl, hc, -, ⟨-, -, -, -, r4⟩, ⟨-, -, -, -, l4⟩, -⟩ := hvo.open_
  have sh := short9 hC
  obtain ⟨hs, hn⟩ := dpB_iff.1 hC
  have hlen : 1 ≤ D.n.length := by
    have hn' := congrArg List.length hn
    have hq := (hvB_len (stoB_parts hs).1)
    rw [cnts_len] at hn'
    omega
  obtain ⟨g4, rfl, _, _⟩ := r4.at_ (k := 0) (by omega)
  have y4 : n4 = D.n.length := l4.out.symm
  obtain ⟨i0, hi, hz0, hz1, hz2⟩ := info_parts Try.infoInt
  have E4 : (D.n.map iv).length = n4 * 1 := by simp; omega
  have u4a : 0 < n4 := by omega
  have u4b : n4 ≤ 1048576 := by have := sh.2.2.2.2; omega
  have M4 : 0 + n4 ≤ maxLen := by unfold maxLen; omega
  have L4 : Hid (0 + n4 = D.n.length) := by unfold Hid; omega
  have X := (Blk5.new w (.slice A0 n0 c0) (.slice A1 n1 c1) (.slice A2 n2 c2) (.slice A3 n3 c3) (.slice (some ⟨g4, 0, none⟩) n4 c4) 29).alloc (.cells #[.slice none 0 0, .slice none 0 0, .slice none 0 0, .slice none 0 0, .slice none 0 0] 29)
  have Y := Blk5.new_at (w := w.alloc (.cells #[.slice A0 n0 c0, .slice A1 n1 c1, .slice A2 n2 c2, .slice A3 n3 c3, .slice (some ⟨g4, 0, none⟩) n4 c4] 29)) (b := w.heap.size + 1) (by simp) (.slice none 0 0) (.slice none 0 0) (.slice none 0 0) (.slice none 0 0) (.slice none 0 0) 29
  have HC := (hc.alloc (.cells #[.slice A0 n0 c0, .slice A1 n1 c1, .slice A2 n2 c2, .slice A3 n3 c3, .slice (some ⟨g4, 0, none⟩) n4 c4] 29)).alloc (.cells #[.slice none 0 0, .slice none 0 0, .slice none 0 0, .slice none 0 0, .slice none 0 0] 29)
  have R4 := (r4.alloc (.cells #[.slice A0 n0 c0, .slice A1 n1 c1, .slice A2 n2 c2, .slice A3 n3 c3, .slice (some ⟨g4, 0, none⟩) n4 c4] 29)).alloc (.cells #[.slice none 0 0, .slice none 0 0, .slice none 0 0, .slice none 0 0, .slice none 0 0] 29)
  have BB : Below w.heap.size w ((w.alloc (.cells #[.slice A0 n0 c0, .slice A1 n1 c1, .slice A2 n2 c2, .slice A3 n3 c3, .slice (some ⟨g4, 0, none⟩) n4 c4] 29)).alloc (.cells #[.slice none 0 0, .slice none 0 0, .slice none 0 0, .slice none 0 0, .slice none 0 0] 29)) := ((Below.refl _ _).alloc (Nat.le_refl _) _).alloc (by simp) _
  have sz : w.heap.size + 2 ≤ ((w.alloc (.cells #[.slice A0 n0 c0, .slice A1 n1 c1, .slice A2 n2 c2, .slice A3 n3 c3, .slice (some ⟨g4, 0, none⟩) n4 c4] 29)).alloc (.cells #[.slice none 0 0, .slice none 0 0, .slice none 0 0, .slice none 0 0, .slice none 0 0] 29)).heap.size := by simp
  clear hv hvo hc r4 hn hC y4 sh hlen
  generalize hW : ((w.alloc (.cells #[.slice A0 n0 c0, .slice A1 n1 c1, .slice A2 n2 c2, .slice A3 n3 c3, .slice (some ⟨g4, 0, none⟩) n4 c4] 29)).alloc (.cells #[.slice none 0 0, .slice none 0 0, .slice none 0 0, .slice none 0 0, .slice none 0 0] 29)) = W at X Y HC R4 BB sz
  obtain ⟨x0, x1, x2, x3, x4, -⟩ := X.cells
  have lX : w.heap.size < w.heap.size + 1 := by omega
  have sz1 : w.heap.size + 1 ≤ W.heap.size := by omega
  have SO : ∀ w' : World, Below (w.heap.size + 1) W w' → w'.cell? ⟨w.heap.size, 0, none⟩ = some (.slice A0 n0 c0) ∧ w'.cell? ⟨w.heap.size, 1, none⟩ = some (.slice A1 n1 c1) ∧ w'.cell? ⟨w.heap.size, 2, none⟩ = some (.slice A2 n2 c2) ∧ w'.cell? ⟨w.heap.size, 3, none⟩ = some (.slice A3 n3 c3) ∧ w'.cell? ⟨w.heap.size, 4, none⟩ = some (.slice (some ⟨g4, 0, none⟩) n4 c4) := fun w' hb => ⟨(X.far hb lX).cells.1, (X.far hb lX).cells.2.1, (X.far hb lX).cells.2.2.1, (X.far hb lX).cells.2.2.2.1, (X.far hb lX).cells.2.2.2.2.1⟩
  have sD : (W.alloc (.cells #[] 3)).drew.heap.size = W.heap.size + 1 := by show (W.alloc (.cells #[] 3)).heap.size = _; simp
  have CP0 := l4Copy_any W.drew lo _ D.C HC.drew hs
  have CP1 := l4Copy_any (W.alloc (.cells #[] 3)).drew lo _ D.C (HC.alloc _).drew hs
  go_enter Try.func49, Try.ntmps49
  go_wp2_with fail
  (try rw [hW])
  go_region_held3 (fun w' => w'.cell? ⟨w.heap.size, 0, none⟩ = some (.slice A0 n0 c0) ∧ w'.cell? ⟨w.heap.size, 1, none⟩ = some (.slice A1 n1 c1) ∧ w'.cell? ⟨w.heap.size, 2, none⟩ = some (.slice A2 n2 c2) ∧ w'.cell? ⟨w.heap.size, 3, none⟩ = some (.slice A3 n3 c3) ∧ w'.cell? ⟨w.heap.size, 4, none⟩ = some (.slice (some ⟨g4, 0, none⟩) n4 c4))
    (((try dsimp only); (refine SO _ ?_); (repeat (with_reducible (first | exact Below.refl _ _ | exact hS2 | exact hS1 | refine Below.drew ?_ | refine B5_lo ?_ _ _ | refine B5_alo ?_ sz1 _)))))
    (first
      | (go_at_call 61; (with_reducible refine CP0.mono ?_); rintro e w1 ⟨vv, rfl, HN, hb0⟩; have HN1 : Cv w1 W.heap.size vv D.C := HN; have hb1 : Below W.heap.size W w1 := B5_th (B5_dr (Below.refl _ _)) hb0; have hS1 : Below (w.heap.size + 1) W w1 := hb1.mono sz1; (have HNo := HN1); (obtain ⟨B0, u0, e0, B1, u1, e1, B2, u2, e2, B3, u3, e3, rfl, -⟩ := HNo.open_))
      | (go_at_call 61; (with_reducible refine CP1.mono ?_); rintro e w1 ⟨vv, rfl, HN, hb0⟩; have HN1 : Cv w1 W.heap.size vv D.C := HN.mono (by rw [sD]; omega); have hb1 : Below W.heap.size W w1 := B5_th (B5_dr (B5_al (Below.refl _ _) _)) hb0; have hS1 : Below (w.heap.size + 1) W w1 := hb1.mono sz1; (have HNo := HN1); (obtain ⟨B0, u0, e0, B1, u1, e1, B2, u2, e2, B3, u3, e3, rfl, -⟩ := HNo.open_))
      | (refine step_append_grows rfl (.tmp 6) (.tmp 8) 23 rfl 3 i0 (.int .i64 0) 1 8 Try.underlying23 hi hz0 hz1 hz2 rfl (by decide) _ 0 0 [] (by rfl) (fun _ => ⟨rfl, rfl⟩) rfl (fun _ _ j u hj => nil_get hj) ⟨g4, 0, none⟩ n4 c4 (D.n.map iv) (by rfl) E4 ?_ (ints_oneCell _ _) (by omega) (by omega) (by omega) ?_; (exact Row.cellsV (lo := lo) (n := n4) (c := c4) (xs := D.n) (by repeat (with_reducible (first | refine Row.drew ?_ | refine Row.alloc ?_ _ | refine Row.below ?_ hb1 | exact R4)))); intro vr w2 hown hgr; obtain ⟨A4', c4', rfl, hr, hb2⟩ := after_append (xs := D.n) hown hgr L4.out; have hB2 : Below W.heap.size W w2 := B5_th (by repeat (with_reducible (first | exact hb1 | refine B5_al ?_ _))) hb2; have hS2 : Below (w.heap.size + 1) W w2 := hB2.mono sz1; obtain ⟨q0, q1, q2, q3, q4, f0, f1, f2, f3, f4⟩ := (Y.far hB2 (by omega)).cells; have DD : Dv w2 W.heap.size (.agg #[.slice B0 u0 e0, .slice B1 u1 e1, .slice B2 u2 e2, .slice B3 u3 e3, .slice A4' D.n.length c4']) ⟨D.C, D.n⟩ := Dv.mk (lo := W.heap.size) (by repeat (with_reducible (first | exact HN1 | refine Cv.alloc ?_ _))) hr (by first | exact hb1.size | (have := hb1.size; (try simp); omega)) hb2))
  all_goals
    rename_i hHeld
    clear hHeld
    obtain ⟨hZ, hB⟩ := dv_done (w := w) (b := w.heap.size + 1) DD (by omega) (by omega) (BB.trans (hB2.mono BB.size)) (.slice B0 u0 e0) (.slice B1 u1 e1) (.slice B2 u2 e2) (.slice B3 u3 e3) (.slice A4' D.n.length c4')
    clear DD hr HN1 SO X Y x0 x1 x2 x3 x4
    go_wp2_with fail
    refine bodyPost_ret (v := .agg #[.slice B0 u0 e0, .slice B1 u1 e1, .slice B2 u2 e2, .slice B3 u3 e3, .slice A4' D.n.length c4']) ?_ rfl ⟨_, rfl, hZ, hB⟩
    simp [results, Try.results49, go_sem, q0, q1, q2, q3, q4]

end Go.Proofs.Yteogflkahoanlaa
