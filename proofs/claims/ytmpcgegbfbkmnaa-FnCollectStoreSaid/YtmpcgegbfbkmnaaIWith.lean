/- withCleared of impl. -/
import Derived.Test.YtmpcgegbfbkmnaaIStos
import Derived.OrdersHeld
import Derived.Deep.RegionHeld3
namespace Go.Proofs.Ytmpcgegbfbkmnaa
open Go.RowKit

set_option maxRecDepth 100000 in
set_option maxHeartbeats 4000000 in
theorem implWith_any (w : World) (lo : Nat) (v : Value) (C : Cp) (hv : Cv w lo v C) (hvh : hvB C.h = true) (hle : C.c.length ≤ 16) (j : Nat) (hj : j < C.h.l.length) :
    Calls Try.prog 45 #[v, .int .i64 j] w (NewCv w (clearC C [(j : Int)])) := by
  have hvo := hv
  obtain ⟨A0, n0, c0, A1, n1, c1, A2, n2, c2, A3, n3, c3, rfl, hh, ⟨r0, r1, r2, r3⟩, ⟨l0, l1, l2, l3⟩, ⟨mm0, mm1, mm2, mm3⟩, _⟩ := hvo.open_
  have P := Blk4.new w (.slice A0 n0 c0) (.slice A1 n1 c1) (.slice A2 n2 c2) (.slice A3 n3 c3) 27
  have X := P.alloc (.cells #[.slice none 0 0, .slice none 0 0, .slice none 0 0, .slice none 0 0] 27)
  have Y := Blk4.new_at (w := w.alloc (.cells #[.slice A0 n0 c0, .slice A1 n1 c1, .slice A2 n2 c2, .slice A3 n3 c3] 27)) (b := w.heap.size + 1) (by simp) (.slice none 0 0) (.slice none 0 0) (.slice none 0 0) (.slice none 0 0) 27
  have VV := (hv.alloc (.cells #[.slice A0 n0 c0, .slice A1 n1 c1, .slice A2 n2 c2, .slice A3 n3 c3] 27)).alloc (.cells #[.slice none 0 0, .slice none 0 0, .slice none 0 0, .slice none 0 0] 27)
  have BB : Below w.heap.size w ((w.alloc (.cells #[.slice A0 n0 c0, .slice A1 n1 c1, .slice A2 n2 c2, .slice A3 n3 c3] 27)).alloc (.cells #[.slice none 0 0, .slice none 0 0, .slice none 0 0, .slice none 0 0] 27)) := ((Below.refl _ _).alloc (Nat.le_refl _) _).alloc (by simp) _
  have sz : ((w.alloc (.cells #[.slice A0 n0 c0, .slice A1 n1 c1, .slice A2 n2 c2, .slice A3 n3 c3] 27)).alloc (.cells #[.slice none 0 0, .slice none 0 0, .slice none 0 0, .slice none 0 0] 27)).heap.size = w.heap.size + 2 := by simp
  obtain ⟨i0, hi, hz0, hz1, hz2⟩ := info_parts Try.infoInt
  have HH := (hh.alloc (.cells #[.slice A0 n0 c0, .slice A1 n1 c1, .slice A2 n2 c2, .slice A3 n3 c3] 27)).alloc (.cells #[.slice none 0 0, .slice none 0 0, .slice none 0 0, .slice none 0 0] 27)
  have R3 := (r3.alloc (.cells #[.slice A0 n0 c0, .slice A1 n1 c1, .slice A2 n2 c2, .slice A3 n3 c3] 27)).alloc (.cells #[.slice none 0 0, .slice none 0 0, .slice none 0 0, .slice none 0 0] 27)
  have h8 := hvB_len hvh
  have e0 := l0.out
  have e1 := l1.out
  have e3 := l3.out
  have o3 := Lib.hid (fun i e => (r3.lt i e).2 : ∀ i, (Value.slice A3 n3 c3).ownBlock = some i → i < w.heap.size)
  have Cp := copyOfHeap_any _ lo _ C.h HH (by omega) (by omega) (by omega)
  clear hh r0 r1 r2 r3 P hv VV HH hvh
  go_enter Try.func45, Try.ntmps45
  go_wp2_with fail
  generalize (w.alloc (.cells #[.slice A0 n0 c0, .slice A1 n1 c1, .slice A2 n2 c2, .slice A3 n3 c3] 27)).alloc (.cells #[.slice none 0 0, .slice none 0 0, .slice none 0 0, .slice none 0 0] 27) = W at X Y BB sz Cp R3 ⊢
  refine Cp.mono ?_; rintro e w2 ⟨vv, rfl, HN, hb2⟩
  obtain ⟨B0, u0, d0, B1, u1, d1, B2, u2, d2, rfl, ⟨s0, s1, s2⟩, ⟨t0, t1, t2⟩, _, _, ⟨a01, a02, a12⟩⟩ := HN.open_
  obtain ⟨ga, rfl, hlga, hga⟩ := s0.at_ (k := j) (by omega)
  obtain ⟨gb, rfl, hlgb, hgb⟩ := s1.at_ (k := j) (by omega)
  have z2 := hb2.size
  have Z3 := Blk3.new_at (w := w2) (b := w2.heap.size) rfl (.slice (some ⟨ga, 0, none⟩) u0 d0) (.slice (some ⟨gb, 0, none⟩) u1 d1) (.slice B2 u2 d2) 25
  have X3 := (X.below hb2).alloc (.cells #[.slice (some ⟨ga, 0, none⟩) u0 d0, .slice (some ⟨gb, 0, none⟩) u1 d1, .slice B2 u2 d2] 25)
  have Y3 := (Y.below hb2).alloc (.cells #[.slice (some ⟨ga, 0, none⟩) u0 d0, .slice (some ⟨gb, 0, none⟩) u1 d1, .slice B2 u2 d2] 25)
  have Q0 := s0.alloc (.cells #[.slice (some ⟨ga, 0, none⟩) u0 d0, .slice (some ⟨gb, 0, none⟩) u1 d1, .slice B2 u2 d2] 25)
  have Q1 := s1.alloc (.cells #[.slice (some ⟨ga, 0, none⟩) u0 d0, .slice (some ⟨gb, 0, none⟩) u1 d1, .slice B2 u2 d2] 25)
  have Q2 := s2.alloc (.cells #[.slice (some ⟨ga, 0, none⟩) u0 d0, .slice (some ⟨gb, 0, none⟩) u1 d1, .slice B2 u2 d2] 25)
  have F3 := (R3.below hb2).alloc (.cells #[.slice (some ⟨ga, 0, none⟩) u0 d0, .slice (some ⟨gb, 0, none⟩) u1 d1, .slice B2 u2 d2] 25)
  have B3 := (BB.trans (hb2.mono (by omega))).alloc (by omega) (.cells #[.slice (some ⟨ga, 0, none⟩) u0 d0, .slice (some ⟨gb, 0, none⟩) u1 d1, .slice B2 u2 d2] 25)
  have zW : (w2.alloc (.cells #[.slice (some ⟨ga, 0, none⟩) u0 d0, .slice (some ⟨gb, 0, none⟩) u1 d1, .slice B2 u2 d2] 25)).heap.size = w2.heap.size + 1 := by simp
  clear X Y R3 BB hb2 HN s0 s1 s2 Cp
  go_wp2_with fail
  generalize w2.alloc (.cells #[.slice (some ⟨ga, 0, none⟩) u0 d0, .slice (some ⟨gb, 0, none⟩) u1 d1, .slice B2 u2 d2] 25) = W3 at Z3 X3 Y3 Q0 Q1 Q2 F3 B3 zW ⊢
  have nab : ga ≠ gb := fun e => a01 ga rfl (by rw [e]; rfl)
  have nBa : w2.heap.size ≠ ga := by omega
  have nBb : w2.heap.size ≠ gb := by omega
  have nXa : w.heap.size ≠ ga := by omega
  have nXb : w.heap.size ≠ gb := by omega
  have nYa : w.heap.size + 1 ≠ ga := by omega
  have nYb : w.heap.size + 1 ≠ gb := by omega
  obtain ⟨_, x, ex, _, _, _, hcx, hfx⟩ := Q0.get (k := j) (by omega)
  cases ex
  obtain ⟨_, y, ey, _, _, _, hcy, hfy⟩ := Q1.get (k := j) (by omega)
  cases ey
  have hj0 : (j : Int) < (u0 : Int) := by have := t0.out; omega
  have hj1 : (j : Int) < (u1 : Int) := by have := t1.out; omega
  obtain ⟨z0, z1, z2', _⟩ := Z3.cells
  go_region_held3 (fun w' => w'.cell? ⟨w2.heap.size, 0, none⟩ = some (.slice (some ⟨ga, 0, none⟩) u0 d0) ∧ w'.cell? ⟨w2.heap.size, 1, none⟩ = some (.slice (some ⟨gb, 0, none⟩) u1 d1))
    (((try dsimp only); (repeat' apply And.intro) <;> (with_reducible (first | exact cellD (cellSt z0 nBa) | exact cellD (cellSt z1 nBa) | exact cellD (cellSt (cellSt z0 nBa) nBb) | exact cellD (cellSt (cellSt z1 nBa) nBb) | exact cellSt (cellSt (cellD z0) nBa) nBb | exact cellSt (cellSt (cellD z1) nBa) nBb | exact cellD z0 | exact cellD z1 | exact z0 | exact z1))))
    (fail)
  rename_i hHeld
  clear hHeld hcx hcy hfx hfy z0 z1 z2'
  have nb0 : (Value.slice (some ⟨ga, 0, none⟩) u0 d0).ownBlock ≠ some gb := fun e => nab (Option.some.inj e)
  have na1 : (Value.slice (some ⟨gb, 0, none⟩) u1 d1).ownBlock ≠ some ga := fun e => nab (Option.some.inj e).symm
  have na2 : (Value.slice B2 u2 d2).ownBlock ≠ some ga := fun e => a02 ga rfl e
  have nb2 : (Value.slice B2 u2 d2).ownBlock ≠ some gb := fun e => a12 gb rfl e
  have na3 : (Value.slice A3 n3 c3).ownBlock ≠ some ga := fun e => by have := o3.out ga e; omega
  have nb3 : (Value.slice A3 n3 c3).ownBlock ≠ some gb := fun e => by have := o3.out gb e; omega
  have K0 := ((Q0.set_ j (-1)).other (a := ⟨gb, j, none⟩) nb0 (.int .i64 (-1))).drew
  have K1 := ((Q1.other (a := ⟨ga, j, none⟩) na1 (.int .i64 (-1))).set_ j (-1)).drew
  have K2 := ((Q2.other (a := ⟨ga, j, none⟩) na2 (.int .i64 (-1))).other (a := ⟨gb, j, none⟩) nb2 (.int .i64 (-1))).drew
  have K3 := ((F3.other (a := ⟨ga, j, none⟩) na3 (.int .i64 (-1))).other (a := ⟨gb, j, none⟩) nb3 (.int .i64 (-1))).drew
  have X4 : Blk4 ((W3.setCell ⟨ga, j, none⟩ (.int .i64 (-1))).setCell ⟨gb, j, none⟩ (.int .i64 (-1))).drew w.heap.size (.slice A0 n0 c0) (.slice A1 n1 c1) (.slice A2 n2 c2) (.slice A3 n3 c3) 27 := (X3.other (p := ⟨ga, j, none⟩) nXa _).other (p := ⟨gb, j, none⟩) nXb _
  have Y4 : Blk4 ((W3.setCell ⟨ga, j, none⟩ (.int .i64 (-1))).setCell ⟨gb, j, none⟩ (.int .i64 (-1))).drew (w.heap.size + 1) (.slice none 0 0) (.slice none 0 0) (.slice none 0 0) (.slice none 0 0) 27 := (Y3.other (p := ⟨ga, j, none⟩) nYa _).other (p := ⟨gb, j, none⟩) nYb _
  have Z4 : Blk3 ((W3.setCell ⟨ga, j, none⟩ (.int .i64 (-1))).setCell ⟨gb, j, none⟩ (.int .i64 (-1))).drew w2.heap.size (.slice (some ⟨ga, 0, none⟩) u0 d0) (.slice (some ⟨gb, 0, none⟩) u1 d1) (.slice B2 u2 d2) 25 := (Z3.other (p := ⟨ga, j, none⟩) nBa _).other (p := ⟨gb, j, none⟩) nBb _
  have B4 := Below.drew ((B3.setCell (p := ⟨ga, j, none⟩) (by simp; omega) (.int .i64 (-1))).setCell (p := ⟨gb, j, none⟩) (by simp; omega) (.int .i64 (-1)))
  have z4 : ((W3.setCell ⟨ga, j, none⟩ (.int .i64 (-1))).setCell ⟨gb, j, none⟩ (.int .i64 (-1))).drew.heap.size = w2.heap.size + 1 := by
    show ((W3.setCell ⟨ga, j, none⟩ (.int .i64 (-1))).setCell ⟨gb, j, none⟩ (.int .i64 (-1))).heap.size = _
    simp [World.setCell]; exact zW
  clear Q0 Q1 Q2 F3 X3 Y3 Z3 B3 zW
  generalize ((W3.setCell ⟨ga, j, none⟩ (.int .i64 (-1))).setCell ⟨gb, j, none⟩ (.int .i64 (-1))).drew = w4 at K0 K1 K2 K3 X4 Y4 Z4 B4 z4 ⊢
  have hl0 : Hid ((C.h.l.set j (-1)).length = u0) := by unfold Hid; rw [List.length_set]; exact t0.out
  have hl1 : Hid ((C.h.r.set j (-1)).length = u1) := by unfold Hid; rw [List.length_set]; exact t1.out
  have DP := dropPointers_any w4 _ ga u0 d0 _ K0 hl0 (by have := t0.out; omega) (j : Int)
  obtain ⟨z0, z1, z2', _⟩ := Z4.cells
  go_wp2_with fail
  refine DP.mono ?_; rintro e w5 ⟨rfl, L0, O5⟩
  rw [clr_drop t0.out] at L0
  have L1 := onlyB_row K1 O5 na1
  have L2 := onlyB_row K2 O5 na2
  have L3 := onlyB_row K3 O5 na3
  have X5 := onlyB_blk4 X4 O5 nXa
  have Y5 := onlyB_blk4 Y4 O5 nYa
  have Z5 := onlyB_blk3 Z4 O5 nBa
  have B5 := B4.trans (below_only O5 (by omega) (by omega))
  have z5 : w5.heap.size = w2.heap.size + 1 := O5.2.trans z4
  clear K0 K1 K2 K3 X4 Y4 Z4 B4 DP O5 z0 z1 z2'
  have DP := dropPointers_any w5 _ gb u1 d1 _ L1 hl1 (by have := t1.out; omega) (j : Int)
  obtain ⟨z0, z1, z2', _⟩ := Z5.cells
  go_wp2_with fail
  refine DP.mono ?_; rintro e w6 ⟨rfl, M1, O6⟩
  rw [clr_drop t1.out] at M1
  have M0 := onlyB_row L0 O6 nb0
  have M2 := onlyB_row L2 O6 nb2
  have M3 := onlyB_row L3 O6 nb3
  have X6 := onlyB_blk4 X5 O6 nXb
  have Y6 := onlyB_blk4 Y5 O6 nYb
  have Z6 := onlyB_blk3 Z5 O6 nBb
  have B6 := B5.trans (below_only O6 (by omega) (by omega))
  have z6 : w6.heap.size = w2.heap.size + 1 := O6.2.trans z5
  clear L0 L1 L2 L3 X5 Y5 Z5 B5 DP O6 z0 z1 z2'
  obtain ⟨z0, z1, z2', _⟩ := Z6.cells
  obtain ⟨x0, x1, x2, x3, _⟩ := X6.cells
  have cp0 : (0 : Int) ≤ (n3 : Int) := by omega
  have cp1 : (n3 : Int) ≤ (c3 : Int) := by have := M3.cap; omega
  have cp2 : ¬ ((c3 : Int) < (n3 : Int)) := by omega
  have z6h := Lib.hid z6
  clear z6 z5 z4
  have E3 : (C.c.map iv).length = n3 * 1 := by simp; omega
  have M9 : n3 + 1 ≤ maxLen := by unfold maxLen; omega
  have nBY : w.heap.size + 1 ≠ w2.heap.size := by omega
  have nXY : w.heap.size + 1 ≠ w.heap.size := by omega
  go_wp2_with fail
  rcases row_parts M3 with ⟨rfl, rfl, rfl, hc0⟩ | ⟨g3, rfl⟩
  · go_region_held3 (fun w' => w'.cell? ⟨w2.heap.size, 0, none⟩ = some (.slice (some ⟨ga, 0, none⟩) u0 d0) ∧ w'.cell? ⟨w2.heap.size, 1, none⟩ = some (.slice (some ⟨gb, 0, none⟩) u1 d1) ∧ w'.cell? ⟨w2.heap.size, 2, none⟩ = some (.slice B2 u2 d2) ∧ w'.cell? ⟨w.heap.size, 3, none⟩ = some (.slice none 0 0))
      (((try dsimp only); (repeat' apply And.intro) <;> (with_reducible (first | exact cellF4 s0 nBY _ _ _ _ | exact cellF4 s1 nBY _ _ _ _ | exact cellF4 s2 nBY _ _ _ _ | exact cellF4 s3 nXY _ _ _ _ | exact s0 | exact s1 | exact s2 | exact s3 | exact cellD s0 | exact cellD s1 | exact cellD s2 | exact cellD s3 | exact z0 | exact cellD z0 | exact cellA z0 _ | exact cellD (cellA z0 _) | exact cellA (cellD z0) _ | exact z1 | exact cellD z1 | exact cellA z1 _ | exact cellD (cellA z1 _) | exact cellA (cellD z1) _ | exact z2' | exact cellD z2' | exact cellA z2' _ | exact cellD (cellA z2' _) | exact cellA (cellD z2') _ | exact x3 | exact cellD x3 | exact cellA x3 _ | exact cellD (cellA x3 _) | exact cellA (cellD x3) _))))
      ((refine step_append_grows rfl (.tmp 34) (.tmp 36) 23 rfl 3 i0 (.int .i64 0) 1 8 Try.underlying23 hi hz0 hz1 hz2 rfl (by decide) _ 0 0 [] (by rfl) (fun _ => ⟨rfl, rfl⟩) rfl (fun _ e => by cases e) ⟨w6.heap.size, 0, none⟩ 1 1 [.int .i64 (j : Int)] (by rfl) rfl ?_ ?_ (by omega) (by first | exact M9 | (unfold maxLen; omega)) (by omega) ?_; (first | exact one_new | exact fun j9 u9 h9 => cellD (one_new j9 u9 h9)); (intro u9 h9; simp at h9; subst h9; rfl); intro vr w7 hown hgr; (have hb7 := below_of_grown hgr); (have hr7 : Row w7 (w2.heap.size + 1) vr (C.c ++ [(j : Int)]) := (Row.of_own hown (by simp [hc0]) (by simp [hc0])).mono (by have := z6h.out; first | omega | (simp <;> omega) | (show _ ≤ (w6.alloc _).heap.size; simp <;> omega))); (obtain ⟨A7, c7, hv7, _⟩ := hr7.form); subst hv7; (generalize hq7 : (C.c ++ [(j : Int)]).length = q7 at hr7 hown); (have HQ7 := Lib.hid hq7); clear hq7; (have X7 : Blk4 w7 w.heap.size (.slice A0 n0 c0) (.slice A1 n1 c1) (.slice A2 n2 c2) (.slice none 0 0) 27 := (by repeat (with_reducible (first | exact X6 | refine Blk4.below ?_ hb7 | refine blk4_drew ?_ | refine Blk4.alloc ?_ _)))); (have Y7 : Blk4 w7 (w.heap.size + 1) (.slice none 0 0) (.slice none 0 0) (.slice none 0 0) (.slice none 0 0) 27 := (by repeat (with_reducible (first | exact Y6 | refine Blk4.below ?_ hb7 | refine blk4_drew ?_ | refine Blk4.alloc ?_ _)))); (have Z7 : Blk3 w7 w2.heap.size (.slice (some ⟨ga, 0, none⟩) u0 d0) (.slice (some ⟨gb, 0, none⟩) u1 d1) (.slice B2 u2 d2) 25 := (by repeat (with_reducible (first | exact Z6 | refine Blk3.below ?_ hb7 | refine Blk3.drew ?_ | refine Blk3.alloc ?_ _)))); (have N0 : Row w7 W.heap.size (.slice (some ⟨ga, 0, none⟩) u0 d0) (clrN C.h.l [(j : Int)] u0) := (by repeat (with_reducible (first | exact M0 | refine Row.below ?_ hb7 | refine Row.drew ?_ | refine Row.alloc ?_ _)))); (have N1 : Row w7 W.heap.size (.slice (some ⟨gb, 0, none⟩) u1 d1) (clrN C.h.r [(j : Int)] u1) := (by repeat (with_reducible (first | exact M1 | refine Row.below ?_ hb7 | refine Row.drew ?_ | refine Row.alloc ?_ _)))); (have N2 : Row w7 W.heap.size (.slice B2 u2 d2) C.h.t := (by repeat (with_reducible (first | exact M2 | refine Row.below ?_ hb7 | refine Row.drew ?_ | refine Row.alloc ?_ _)))); (obtain ⟨_, _, _, s3, _⟩ := X7.cells); (obtain ⟨y0, y1, y2, y3, f0, f1, f2, f3⟩ := Y7.cells); (obtain ⟨s0, s1, s2, _⟩ := Z7.cells)))
    rename_i hHeld
    clear hHeld
    have z6 := z6h.out
    have B7 : Below w.heap.size w w7 := Below.trans (by repeat (with_reducible (first | exact B6 | refine Below.drew ?_ | refine Below.alloc ?_ (by first | omega | (simp <;> omega)) _))) (hb7.mono (by first | omega | (show _ ≤ (w6.alloc _).heap.size; simp <;> omega)))
    have ap : ∀ (v : Value) (xs : List Int), Row w6 W.heap.size v xs → Apart v (.slice A7 q7 c7) := fun v xs r i e e' => by
      have h1 := (r.lt i e).2
      have h2 := (hown.lt i e').1
      first | omega | (replace h2 : (w6.alloc (.cells #[.int .i64 (j : Int)] 3)).heap.size ≤ i := h2; simp at h2; omega)
    have eC : (⟨⟨clrN C.h.l [(j : Int)] u0, clrN C.h.r [(j : Int)] u1, C.h.t⟩, C.c ++ [(j : Int)]⟩ : Cp) = clearC C [(j : Int)] := by
      show _ = (⟨⟨clrN C.h.l [(j : Int)] C.h.l.length, clrN C.h.r [(j : Int)] C.h.l.length, C.h.t⟩, C.c ++ [(j : Int)]⟩ : Cp)
      rw [t0.out, show u1 = u0 by have := t0.out; have := t1.out; omega]
    have CC : Cv w7 W.heap.size (.agg #[.slice (some ⟨ga, 0, none⟩) u0 d0, .slice (some ⟨gb, 0, none⟩) u1 d1, .slice B2 u2 d2, .slice A7 q7 c7]) (clearC C [(j : Int)]) := by
      rw [← eC]
      exact ⟨_, _, _, _, rfl, ⟨_, _, _, rfl, N0, N1, N2, a01, a02, a12⟩, hr7.mono (by omega), ap _ _ M0, ap _ _ M1, ap _ _ M2⟩
    have lb : w.heap.size + 1 < W.heap.size := by omega
    have CF := ((((CC.set_low (p := ⟨w.heap.size + 1, 0, none⟩) lb (.slice (some ⟨ga, 0, none⟩) u0 d0)).set_low (p := ⟨w.heap.size + 1, 1, none⟩) lb (.slice (some ⟨gb, 0, none⟩) u1 d1)).set_low (p := ⟨w.heap.size + 1, 2, none⟩) lb (.slice B2 u2 d2)).set_low (p := ⟨w.heap.size + 1, 3, none⟩) lb (.slice A7 q7 c7)).mono (lo' := w.heap.size) (by omega)
    have BF := (((B7.setCell (p := ⟨w.heap.size + 1, 0, none⟩) (by simp) (.slice (some ⟨ga, 0, none⟩) u0 d0)).setCell (p := ⟨w.heap.size + 1, 1, none⟩) (by simp) (.slice (some ⟨gb, 0, none⟩) u1 d1)).setCell (p := ⟨w.heap.size + 1, 2, none⟩) (by simp) (.slice B2 u2 d2)).setCell (p := ⟨w.heap.size + 1, 3, none⟩) (by simp) (.slice A7 q7 c7)
    clear z6
    go_wp2_with fail
    refine bodyPost_ret (v := .agg #[.slice (some ⟨ga, 0, none⟩) u0 d0, .slice (some ⟨gb, 0, none⟩) u1 d1, .slice B2 u2 d2, .slice A7 q7 c7]) ?_ rfl ⟨_, rfl, CF, BF⟩
    simp [results, Try.results45, go_sem, y0, y1, y2, y3]
  · go_region_held3 (fun w' => w'.cell? ⟨w2.heap.size, 0, none⟩ = some (.slice (some ⟨ga, 0, none⟩) u0 d0) ∧ w'.cell? ⟨w2.heap.size, 1, none⟩ = some (.slice (some ⟨gb, 0, none⟩) u1 d1) ∧ w'.cell? ⟨w2.heap.size, 2, none⟩ = some (.slice B2 u2 d2) ∧ w'.cell? ⟨w.heap.size, 3, none⟩ = some (.slice (some ⟨g3, 0, none⟩) n3 c3))
      (((try dsimp only); (repeat' apply And.intro) <;> (with_reducible (first | exact cellF4 s0 nBY _ _ _ _ | exact cellF4 s1 nBY _ _ _ _ | exact cellF4 s2 nBY _ _ _ _ | exact cellF4 s3 nXY _ _ _ _ | exact s0 | exact s1 | exact s2 | exact s3 | exact cellD s0 | exact cellD s1 | exact cellD s2 | exact cellD s3 | exact z0 | exact cellD z0 | exact cellA z0 _ | exact cellD (cellA z0 _) | exact cellA (cellD z0) _ | exact z1 | exact cellD z1 | exact cellA z1 _ | exact cellD (cellA z1 _) | exact cellA (cellD z1) _ | exact z2' | exact cellD z2' | exact cellA z2' _ | exact cellD (cellA z2' _) | exact cellA (cellD z2') _ | exact x3 | exact cellD x3 | exact cellA x3 _ | exact cellD (cellA x3 _) | exact cellA (cellD x3) _))))
      ((refine step_append_grows rfl (.tmp 34) (.tmp 36) 23 rfl 3 i0 (.int .i64 0) 1 8 Try.underlying23 hi hz0 hz1 hz2 rfl (by decide) _ n3 n3 (C.c.map iv) (by rfl) (fun e => by cases e) E3 ?_ ⟨w6.heap.size, 0, none⟩ 1 1 [.int .i64 (j : Int)] (by rfl) rfl ?_ ?_ (by omega) (by first | exact M9 | (unfold maxLen; omega)) (by omega) ?_; (intro b hb9; cases hb9; exact Row.cellsV (lo := lo) (n := n3) (c := c3) (xs := C.c) (by repeat (with_reducible (first | exact M3 | refine Row.drew ?_ | refine Row.alloc ?_ _)))); (first | exact one_new | exact fun j9 u9 h9 => cellD (one_new j9 u9 h9)); (intro u9 h9; simp at h9; subst h9; rfl); intro vr w7 hown hgr; (have hb7 := below_of_grown hgr); (have hr7 : Row w7 (w2.heap.size + 1) vr (C.c ++ [(j : Int)]) := (Row.of_own hown (by simp) (by simp; omega)).mono (by have := z6h.out; first | omega | (simp <;> omega) | (show _ ≤ (w6.alloc _).heap.size; simp <;> omega))); (obtain ⟨A7, c7, hv7, _⟩ := hr7.form); subst hv7; (generalize hq7 : (C.c ++ [(j : Int)]).length = q7 at hr7 hown); (have HQ7 := Lib.hid hq7); clear hq7; (have X7 : Blk4 w7 w.heap.size (.slice A0 n0 c0) (.slice A1 n1 c1) (.slice A2 n2 c2) (.slice (some ⟨g3, 0, none⟩) n3 c3) 27 := (by repeat (with_reducible (first | exact X6 | refine Blk4.below ?_ hb7 | refine blk4_drew ?_ | refine Blk4.alloc ?_ _)))); (have Y7 : Blk4 w7 (w.heap.size + 1) (.slice none 0 0) (.slice none 0 0) (.slice none 0 0) (.slice none 0 0) 27 := (by repeat (with_reducible (first | exact Y6 | refine Blk4.below ?_ hb7 | refine blk4_drew ?_ | refine Blk4.alloc ?_ _)))); (have Z7 : Blk3 w7 w2.heap.size (.slice (some ⟨ga, 0, none⟩) u0 d0) (.slice (some ⟨gb, 0, none⟩) u1 d1) (.slice B2 u2 d2) 25 := (by repeat (with_reducible (first | exact Z6 | refine Blk3.below ?_ hb7 | refine Blk3.drew ?_ | refine Blk3.alloc ?_ _)))); (have N0 : Row w7 W.heap.size (.slice (some ⟨ga, 0, none⟩) u0 d0) (clrN C.h.l [(j : Int)] u0) := (by repeat (with_reducible (first | exact M0 | refine Row.below ?_ hb7 | refine Row.drew ?_ | refine Row.alloc ?_ _)))); (have N1 : Row w7 W.heap.size (.slice (some ⟨gb, 0, none⟩) u1 d1) (clrN C.h.r [(j : Int)] u1) := (by repeat (with_reducible (first | exact M1 | refine Row.below ?_ hb7 | refine Row.drew ?_ | refine Row.alloc ?_ _)))); (have N2 : Row w7 W.heap.size (.slice B2 u2 d2) C.h.t := (by repeat (with_reducible (first | exact M2 | refine Row.below ?_ hb7 | refine Row.drew ?_ | refine Row.alloc ?_ _)))); (obtain ⟨_, _, _, s3, _⟩ := X7.cells); (obtain ⟨y0, y1, y2, y3, f0, f1, f2, f3⟩ := Y7.cells); (obtain ⟨s0, s1, s2, _⟩ := Z7.cells)))
    rename_i hHeld
    clear hHeld
    have z6 := z6h.out
    have B7 : Below w.heap.size w w7 := Below.trans (by repeat (with_reducible (first | exact B6 | refine Below.drew ?_ | refine Below.alloc ?_ (by first | omega | (simp <;> omega)) _))) (hb7.mono (by first | omega | (show _ ≤ (w6.alloc _).heap.size; simp <;> omega)))
    have ap : ∀ (v : Value) (xs : List Int), Row w6 W.heap.size v xs → Apart v (.slice A7 q7 c7) := fun v xs r i e e' => by
      have h1 := (r.lt i e).2
      have h2 := (hown.lt i e').1
      first | omega | (replace h2 : (w6.alloc (.cells #[.int .i64 (j : Int)] 3)).heap.size ≤ i := h2; simp at h2; omega)
    have eC : (⟨⟨clrN C.h.l [(j : Int)] u0, clrN C.h.r [(j : Int)] u1, C.h.t⟩, C.c ++ [(j : Int)]⟩ : Cp) = clearC C [(j : Int)] := by
      show _ = (⟨⟨clrN C.h.l [(j : Int)] C.h.l.length, clrN C.h.r [(j : Int)] C.h.l.length, C.h.t⟩, C.c ++ [(j : Int)]⟩ : Cp)
      rw [t0.out, show u1 = u0 by have := t0.out; have := t1.out; omega]
    have CC : Cv w7 W.heap.size (.agg #[.slice (some ⟨ga, 0, none⟩) u0 d0, .slice (some ⟨gb, 0, none⟩) u1 d1, .slice B2 u2 d2, .slice A7 q7 c7]) (clearC C [(j : Int)]) := by
      rw [← eC]
      exact ⟨_, _, _, _, rfl, ⟨_, _, _, rfl, N0, N1, N2, a01, a02, a12⟩, hr7.mono (by omega), ap _ _ M0, ap _ _ M1, ap _ _ M2⟩
    have lb : w.heap.size + 1 < W.heap.size := by omega
    have CF := ((((CC.set_low (p := ⟨w.heap.size + 1, 0, none⟩) lb (.slice (some ⟨ga, 0, none⟩) u0 d0)).set_low (p := ⟨w.heap.size + 1, 1, none⟩) lb (.slice (some ⟨gb, 0, none⟩) u1 d1)).set_low (p := ⟨w.heap.size + 1, 2, none⟩) lb (.slice B2 u2 d2)).set_low (p := ⟨w.heap.size + 1, 3, none⟩) lb (.slice A7 q7 c7)).mono (lo' := w.heap.size) (by omega)
    have BF := (((B7.setCell (p := ⟨w.heap.size + 1, 0, none⟩) (by simp) (.slice (some ⟨ga, 0, none⟩) u0 d0)).setCell (p := ⟨w.heap.size + 1, 1, none⟩) (by simp) (.slice (some ⟨gb, 0, none⟩) u1 d1)).setCell (p := ⟨w.heap.size + 1, 2, none⟩) (by simp) (.slice B2 u2 d2)).setCell (p := ⟨w.heap.size + 1, 3, none⟩) (by simp) (.slice A7 q7 c7)
    clear z6
    go_wp2_with fail
    refine bodyPost_ret (v := .agg #[.slice (some ⟨ga, 0, none⟩) u0 d0, .slice (some ⟨gb, 0, none⟩) u1 d1, .slice B2 u2 d2, .slice A7 q7 c7]) ?_ rfl ⟨_, rfl, CF, BF⟩
    simp [results, Try.results45, go_sem, y0, y1, y2, y3]
end Go.Proofs.Ytmpcgegbfbkmnaa
