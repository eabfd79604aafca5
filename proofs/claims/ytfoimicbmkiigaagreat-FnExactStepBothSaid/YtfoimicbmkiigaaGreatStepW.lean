import Derived.Test.YtfoimicbmkiigaaGreatBthA
import Derived.Test.YtfoimicbmkiigaaGreatBthD
import Derived.Test.YtfoimicbmkiigaaGreatExH
import Derived.Test.YtfoimicbmkiigaaGreatCntA
import Derived.Test.YtfoimicbmkiigaaGreatDstO
import Derived.Test.YtfoimicbmkiigaaGreatLives
import Derived.Test.YtfoimicbmkiigaaGreatNears
import Derived.Test.YtfoimicbmkiigaaGreatGSms
import Derived.Test.YtfoimicbmkiigaaGreatOwn
import Derived.Test.YtfoimicbmkiigaaGreatGStepS
import Derived.Deep.RegionHeld3
import Derived.OrdersHeld
import Derived.Test.YtfoimicbmkiigaaGreatGMets
/- A store into the variable of a Both. -/
namespace Go.Proofs.YtfoimicbmkiigaaGreat
open Go.RowKit

theorem Bv.cg {w : World} {lo : Nat} {v0 v1 v2 v3 p r a u i z : Value} {B : Bp} (h : Bv w lo (.agg #[v0, v1, v2, v3, p, r, a, u, i, z]) B) : CGv w lo (.agg #[v0, v1, v2, v3]) (.agg #[p, r, a]) B.C B.G := by
  obtain ⟨_, _, _, _, _, _, e, hc, ho, _⟩ := h
  cases e
  exact hc
theorem rowTy {w : World} {lo b : Nat} {v : Value} {xs : List Int} {x0 x1 x2 x3 x4 x5 x6 x7 x8 x9 : Value} (h : Row w lo v xs) (X : Blk10 w b x0 x1 x2 x3 x4 x5 x6 x7 x8 x9 32) : v.ownBlock ≠ some b := by
  intro e
  rcases h.2 with ⟨rfl, _⟩ | ⟨g, cap, cur, rfl, _, hh, _⟩
  · simp [Value.ownBlock] at e
  · simp [Value.ownBlock] at e
    subst e
    unfold Blk10 at X
    rw [hh] at X
    simp at X
theorem orowTy {w : World} {lo b : Nat} {v : Value} {os : List Opv} {x0 x1 x2 x3 x4 x5 x6 x7 x8 x9 : Value} (h : ORow w lo v os) (X : Blk10 w b x0 x1 x2 x3 x4 x5 x6 x7 x8 x9 32) : v.ownBlock ≠ some b := by
  intro e
  rcases h.2 with ⟨rfl, _⟩ | ⟨g, cap, cur, rfl, _, hh, _⟩
  · simp [Value.ownBlock] at e
  · simp [Value.ownBlock] at e
    subst e
    unfold Blk10 at X
    rw [hh] at X
    simp at X
/-- A store into a Both's variable does not turn a Both. -/
theorem Bv.setT {w : World} {lo b : Nat} {v : Value} {B : Bp} {x0 x1 x2 x3 x4 x5 x6 x7 x8 x9 : Value} (h : Bv w lo v B) (X : Blk10 w b x0 x1 x2 x3 x4 x5 x6 x7 x8 x9 32) (o : Nat) (u : Value) : Bv (w.setCell ⟨b, o, none⟩ u) lo v B := by
  obtain ⟨v0, v1, v2, v3, r, o', e, ⟨_, _, _, _, _, e1, e2, ⟨_, _, _, _, e3, ⟨_, _, _, e4, r0, r1, r2, x⟩, r3, y⟩, hr, ap⟩, ho, ab⟩ := h
  subst e
  cases e1; cases e2; cases e3; cases e4
  exact ⟨_, _, _, _, _, _, rfl, ⟨_, _, _, _, _, rfl, rfl, ⟨_, _, _, _, rfl, ⟨_, _, _, rfl, r0.other (a := ⟨b, o, none⟩) (rowTy r0 X) u, r1.other (a := ⟨b, o, none⟩) (rowTy r1 X) u, r2.other (a := ⟨b, o, none⟩) (rowTy r2 X) u, x⟩, r3.other (a := ⟨b, o, none⟩) (rowTy r3 X) u, y⟩, hr.other (a := ⟨b, o, none⟩) (rowTy hr X) u, ap⟩, ownsRow_setCell_other ho (a := ⟨b, o, none⟩) (orowTy ho X) u, ab⟩
end Go.Proofs.YtfoimicbmkiigaaGreat

/- Words of StepBoth; copies and life, of spec. -/
namespace Go.Proofs.YtfoimicbmkiigaaGreat
open Go.RowKit

theorem dist_lenB (h : Hp) : (dist h h.t).length = h.l.length := by
  first | exact dist_len h h.t | simp [dist_len]
/-- A step of the collector of a valid Both, or a loss. -/
def stepGB (B : Bp) : Bp := if dokB B.C.h (swI B.C B.G) = true then ⟨B.C, B.G, B.os, B.i, true⟩ else ⟨(stepG B.C B.G).1, (stepG B.C B.G).2, B.os, B.i, B.z⟩
def stepGO (B : Bp) : Option Bp := if (bothB B && !B.z) = true then some (stepGB B) else none
/-- A root is live: a collector of which no live cell is swept takes a step. -/
theorem goB_of {C : Cp} {G : Gp} (hg : gcB C G = true) (hd : dokB C.h (swI C G) = false) : goB C G = true := by
  unfold goB
  rw [hg]
  have hb : badB C G = false := by
    rw [Bool.eq_false_iff]
    intro h9
    unfold badB at h9
    rw [decide_eq_true_eq] at h9
    obtain ⟨h1, h2⟩ := h9
    have hv := (stoB_parts (gcB_iff.1 hg).1).1
    have hr := dist_root hv h2 h1
    rcases swI_cases C G with e | ⟨e, hp, _⟩
    · exact h1 e
    · have hph := phB_iff.1 (gcB_iff.1 hg).2.2
      have hpl : plB (swI C G) C.h.l.length = true := by rw [e]; unfold plB; simp; omega
      unfold dokB at hd
      rw [hv, hpl, hr] at hd
      simp at hd
  rw [hb]; rfl
theorem swI_in {C : Cp} {G : Gp} (hg : gcB C G = true) : swI C G = -1 ∨ 0 ≤ swI C G ∧ swI C G < C.h.l.length := by
  rcases swI_cases C G with e | ⟨e, hp, _⟩
  · exact .inl e
  · have hph := phB_iff.1 (gcB_iff.1 hg).2.2
    right; rw [e]; omega
theorem stepGO_short (B : Bp) (h : ShortL B 1048576) : ShortL ((stepGO B).getD Bp.zero) 1048576 := by
  obtain ⟨h0, h1, h2, h3, h4, h5⟩ := h
  unfold stepGO
  split
  · rename_i hb
    simp only [Bool.and_eq_true] at hb
    have hg := (bothB_iff.1 hb.1).1
    simp only [Option.getD_some]
    unfold stepGB
    split
    · exact ⟨h0, h1, h2, h3, h4, h5⟩
    · rename_i hd
      have hv := step_valid (goB_of hg (by simpa using hd))
      obtain ⟨q1, ⟨q2, q3⟩, q4, q5, q6⟩ := gcB_sizes hv
      have q7 := (stoB_parts (gcB_iff.1 hv).1).2.1
      exact ⟨by dsimp only; omega, by dsimp only; omega, by dsimp only; omega, by dsimp only; omega, by dsimp only; omega, h5⟩
  · simp [ShortL, Bp.zero, Cp.zero, Hp.zero, Gp.zero]
set_option maxRecDepth 100000 in
set_option maxHeartbeats 2000000 in
theorem ownGc_any (w : World) (lo : Nat) (v : Value) (G : Gp) (hg : Gv w lo v G) (hb : G.c.length ≤ 1048576) : Calls Tryz.prog 94 #[v] w (NewGv w G) := by
  obtain ⟨p, cc, a⟩ := G
  obtain ⟨A, n, c, rfl, r, l, m, _⟩ := hg.open_
  dsimp only at r l hb ⊢
  have X := (Blk3.new w (.int .i64 p) (.slice A n c) (.int .i64 a) 29).alloc (.cells #[.int .i64 0, .slice none 0 0, .int .i64 0] 29)
  have Y := Blk3.new_at (w := w.alloc (.cells #[.int .i64 p, .slice A n c, .int .i64 a] 29)) (b := w.heap.size + 1) (by simp) (.int .i64 0) (.slice none 0 0) (.int .i64 0) 29
  have R := (r.alloc (.cells #[.int .i64 p, .slice A n c, .int .i64 a] 29)).alloc (.cells #[.int .i64 0, .slice none 0 0, .int .i64 0] 29)
  have BB : Below w.heap.size w ((w.alloc (.cells #[.int .i64 p, .slice A n c, .int .i64 a] 29)).alloc (.cells #[.int .i64 0, .slice none 0 0, .int .i64 0] 29)) := ((Below.refl _ _).alloc (Nat.le_refl _) _).alloc (by simp) _
  have sz : w.heap.size + 2 ≤ ((w.alloc (.cells #[.int .i64 p, .slice A n c, .int .i64 a] 29)).alloc (.cells #[.int .i64 0, .slice none 0 0, .int .i64 0] 29)).heap.size := by simp
  have b' : n ≤ 1048576 := by have := l.out; omega
  generalize hW : ((w.alloc (.cells #[.int .i64 p, .slice A n c, .int .i64 a] 29)).alloc (.cells #[.int .i64 0, .slice none 0 0, .int .i64 0] 29)) = W at X Y R BB sz
  obtain ⟨x0, x1, x2, _⟩ := X.cells
  obtain ⟨i0, i1, i2, ii0, ii1, ii2⟩ := (X.alloc (.cells #[] 3)).cells
  clear r hg
  go_enter Tryz.func94, Tryz.ntmps94
  go_wp2_with (at_builtin; (try rw [hW]); refine wpList_append_row rfl _ _ rfl (some ⟨W.heap.size, 0, none⟩) W.heap.size rfl (Row.empty W W.heap.size (Nat.le_refl _)) (by simp) lo A n c cc rfl (R.alloc (.cells #[] 3)) l b' ?_)
  intro A' c' w1 hr hb1
  have hb1' : Below W.heap.size W w1 := ((Below.refl _ _).alloc (Nat.le_refl _) (.cells #[] 3)).trans (hb1.mono (by simp))
  have s1 := hb1'.size
  have B1 := BB.trans (hb1'.mono BB.size)
  have X1 := X.below hb1'
  have Y1 := (Y.below hb1').other (p := ⟨w.heap.size, 1, none⟩) (by show w.heap.size + 1 ≠ w.heap.size; omega) (.slice A' n c')
  have X2 := X1.set1 (.slice A' n c')
  have R2 := hr.other (a := ⟨w.heap.size, 1, none⟩) (own_ne (b := w.heap.size) hr (by omega)) (.slice A' n c')
  have B2 := B1.setCell (p := ⟨w.heap.size, 1, none⟩) (Nat.le_refl _) (.slice A' n c')
  obtain ⟨y0, y1, y2, yy0, yy1, yy2⟩ := X1.cells
  obtain ⟨z0, z1, z2, zz0, zz1, zz2⟩ := X2.cells
  obtain ⟨q0, q1, q2, k0, k1, k2⟩ := Y1.cells
  have YF := ((Y1.set0 (.int .i64 p)).set1 (.slice A' n c')).set2 (.int .i64 a)
  obtain ⟨hZ, hB⟩ := g_done (w := w) (G := ⟨p, cc, a⟩) (b := w.heap.size + 1) R2 (by omega) (own_ne (b := w.heap.size + 1) R2 (by omega)) (by omega) B2 (.int .i64 p) (.slice A' n c') (.int .i64 a)
  clear x0 x1 x2 i0 i1 i2 ii0 ii1 ii2
  go_wp2_with fail
  generalize ((((w1.setCell ⟨w.heap.size, 1, none⟩ (.slice A' n c')).setCell ⟨w.heap.size + 1, 0, none⟩ (.int .i64 p)).setCell ⟨w.heap.size + 1, 1, none⟩ (.slice A' n c')).setCell ⟨w.heap.size + 1, 2, none⟩ (.int .i64 a)) = WF at YF hZ hB ⊢
  obtain ⟨v0, v1, v2, _⟩ := YF.cells
  refine bodyPost_ret (v := .agg #[.int .i64 p, .slice A' n c', .int .i64 a]) ?_ rfl ⟨_, rfl, hZ, hB⟩
  simp [results, Tryz.results94, go_sem, v0, v1, v2]

set_option maxRecDepth 100000 in
set_option maxHeartbeats 2000000 in
theorem l7Live_any (w : World) (lo : Nat) (v : Value) (C : Cp) (hv : Cv w lo v C) (hC : hvB C.h = true) (c : Int) (hc : c = -1 ∨ 0 ≤ c ∧ c < C.h.l.length) : Calls Tryz.prog 95 #[v, .int .i64 c] w (RetB w (dokB C.h c)) := by
  obtain ⟨A0, n0, c0, A1, n1, c1, A2, n2, c2, A3, n3, c3, rfl, hh, -⟩ := hv.open_
  have X := Blk4.new w (.slice A0 n0 c0) (.slice A1 n1 c1) (.slice A2 n2 c2) (.slice A3 n3 c3) 27
  have BB : Below w.heap.size w (w.alloc (.cells #[.slice A0 n0 c0, .slice A1 n1 c1, .slice A2 n2 c2, .slice A3 n3 c3] 27)) := (Below.refl _ _).alloc (Nat.le_refl _) _
  rcases hc with rfl | ⟨h0, h1⟩
  · have hf : Hid (dokB C.h (-1) = false) := by unfold Hid dokB plB; simp
    go_enter Tryz.func95, Tryz.ntmps95
    go_wp2_with fail
    go_ret
    exact ⟨ret_bool hf.out.symm, BB⟩
  · obtain ⟨k, rfl⟩ : ∃ k : Nat, c = (k : Int) := ⟨c.toNat, by omega⟩
    have hd : (dist C.h C.h.t).length = C.h.l.length := dist_lenB C.h
    have hll : (liveL C.h).length = C.h.l.length := by unfold liveL; rw [if_pos hC, List.length_map, hd]
    have hk : k < (liveL C.h).length := by rw [hll]; omega
    have e1 : ((k : Int) == -1) = false := by rw [beq_eq_false_iff_ne]; omega
    have RR := specReach_any (w.alloc (.cells #[.slice A0 n0 c0, .slice A1 n1 c1, .slice A2 n2 c2, .slice A3 n3 c3] 27)) lo _ C.h (hh.alloc (.cells #[.slice A0 n0 c0, .slice A1 n1 c1, .slice A2 n2 c2, .slice A3 n3 c3] 27))
    unfold NewRowB at RR
    have hN : Hid ((liveL C.h)[k]? = some (dokB C.h (k : Int))) := by
      unfold Hid dokB
      have hg : (dist C.h C.h.t)[k]? = some (gd (dist C.h C.h.t) (k : Int)) := by unfold gd; simp [List.getD, List.getElem?_eq_getElem (show k < (dist C.h C.h.t).length by omega)]
      have hp : plB (k : Int) C.h.l.length = true := by unfold plB; simp; omega
      rw [hp, hC]
      unfold liveL; rw [if_pos hC, List.getElem?_map, hg]; rfl
    generalize hL : (liveL C.h).length = nl at RR hk
    have hL' := Lib.hid hL
    have hkk : (k : Int) < (nl : Int) := by omega
    have hk0 : (0 : Int) ≤ (k : Int) := by omega
    clear hL hll hd h0 h1 hC
    go_enter Tryz.func95, Tryz.ntmps95
    go_wp2_with fail
    refine RR.mono ?_; rintro e w1 ⟨A, c, rfl, HR, hb1⟩
    obtain ⟨g, x, rfl, _, _, hx, hxc, _⟩ := HR.get (k := k) (by rw [hL'.out]; exact hk)
    have ex : Hid (x = dokB C.h (k : Int)) := by have := hx.out.symm.trans hN.out; unfold Hid; simpa using this
    have B1 := BB.trans (hb1.mono BB.size)
    clear RR hx
    go_wp2_with fail
    go_ret
    exact ⟨ret_bool ex.out, B1⟩

end Go.Proofs.YtfoimicbmkiigaaGreat

/- The copy of a Both that takes what it is given as its own, of spec. -/
namespace Go.Proofs.YtfoimicbmkiigaaGreat
open Go.RowKit

set_option maxRecDepth 100000 in
set_option maxHeartbeats 2000000 in
theorem ownBoth_any (w : World) (lo : Nat) (v : Value) (B : Bp) (h : Bv w lo v B) (b0 : B.C.h.l.length ≤ 1048576) (b1 : B.C.h.r.length ≤ 1048576) (b2 : B.C.h.t.length ≤ 1048576) (b3 : B.C.c.length ≤ 1048576) (b4 : B.G.c.length ≤ 1048576) (b5 : B.os.length ≤ 1048576) : Calls Tryz.prog 48 #[v] w (NewBv w B) := by
  obtain ⟨A0, n0, c0, A1, n1, c1, A2, n2, c2, A3, n3, c3, A4, n4, c4, A5, n5, c5, C, p, cc, a, os, i, z, rfl, rfl, hc, ho, ⟨l0, l1, l2, l3, l4, l5⟩, -⟩ := h.open_
  dsimp only at b0 b1 b2 b3 b4 b5 ⊢
  have X := (Blk10.new w (.slice A0 n0 c0) (.slice A1 n1 c1) (.slice A2 n2 c2) (.slice A3 n3 c3) (.int .i64 p) (.slice A4 n4 c4) (.int .i64 a) (.slice A5 n5 c5) (.int .i64 i) (.bool z) 32).alloc (.cells #[.slice none 0 0, .slice none 0 0, .slice none 0 0, .slice none 0 0, .int .i64 0, .slice none 0 0, .int .i64 0, .slice none 0 0, .int .i64 0, .bool false] 32)
  have Y := Blk10.new_at (w := w.alloc (.cells #[.slice A0 n0 c0, .slice A1 n1 c1, .slice A2 n2 c2, .slice A3 n3 c3, .int .i64 p, .slice A4 n4 c4, .int .i64 a, .slice A5 n5 c5, .int .i64 i, .bool z] 32)) (b := w.heap.size + 1) (by simp) (.slice none 0 0) (.slice none 0 0) (.slice none 0 0) (.slice none 0 0) (.int .i64 0) (.slice none 0 0) (.int .i64 0) (.slice none 0 0) (.int .i64 0) (.bool false) 32
  have HS := ((hc.alloc (.cells #[.slice A0 n0 c0, .slice A1 n1 c1, .slice A2 n2 c2, .slice A3 n3 c3, .int .i64 p, .slice A4 n4 c4, .int .i64 a, .slice A5 n5 c5, .int .i64 i, .bool z] 32)).alloc (.cells #[.slice none 0 0, .slice none 0 0, .slice none 0 0, .slice none 0 0, .int .i64 0, .slice none 0 0, .int .i64 0, .slice none 0 0, .int .i64 0, .bool false] 32)).cv
  have HG := hc.gv
  have BB : Below w.heap.size w ((w.alloc (.cells #[.slice A0 n0 c0, .slice A1 n1 c1, .slice A2 n2 c2, .slice A3 n3 c3, .int .i64 p, .slice A4 n4 c4, .int .i64 a, .slice A5 n5 c5, .int .i64 i, .bool z] 32)).alloc (.cells #[.slice none 0 0, .slice none 0 0, .slice none 0 0, .slice none 0 0, .int .i64 0, .slice none 0 0, .int .i64 0, .slice none 0 0, .int .i64 0, .bool false] 32)) := ((Below.refl _ _).alloc (Nat.le_refl _) _).alloc (by simp) _
  have b5' : n5 ≤ 1048576 := by have := l5.out; omega
  have hL : w.heap.size < ((w.alloc (.cells #[.slice A0 n0 c0, .slice A1 n1 c1, .slice A2 n2 c2, .slice A3 n3 c3, .int .i64 p, .slice A4 n4 c4, .int .i64 a, .slice A5 n5 c5, .int .i64 i, .bool z] 32)).alloc (.cells #[.slice none 0 0, .slice none 0 0, .slice none 0 0, .slice none 0 0, .int .i64 0, .slice none 0 0, .int .i64 0, .slice none 0 0, .int .i64 0, .bool false] 32)).heap.size := by simp; omega
  have hL1 : w.heap.size + 1 < ((w.alloc (.cells #[.slice A0 n0 c0, .slice A1 n1 c1, .slice A2 n2 c2, .slice A3 n3 c3, .int .i64 p, .slice A4 n4 c4, .int .i64 a, .slice A5 n5 c5, .int .i64 i, .bool z] 32)).alloc (.cells #[.slice none 0 0, .slice none 0 0, .slice none 0 0, .slice none 0 0, .int .i64 0, .slice none 0 0, .int .i64 0, .slice none 0 0, .int .i64 0, .bool false] 32)).heap.size := by simp
  have hne : w.heap.size + 1 ≠ w.heap.size := by omega
  generalize hlw : ((w.alloc (.cells #[.slice A0 n0 c0, .slice A1 n1 c1, .slice A2 n2 c2, .slice A3 n3 c3, .int .i64 p, .slice A4 n4 c4, .int .i64 a, .slice A5 n5 c5, .int .i64 i, .bool z] 32)).alloc (.cells #[.slice none 0 0, .slice none 0 0, .slice none 0 0, .slice none 0 0, .int .i64 0, .slice none 0 0, .int .i64 0, .slice none 0 0, .int .i64 0, .bool false] 32)).heap.size = lw at hL hL1
  have TS := ownStore_any ((w.alloc (.cells #[.slice A0 n0 c0, .slice A1 n1 c1, .slice A2 n2 c2, .slice A3 n3 c3, .int .i64 p, .slice A4 n4 c4, .int .i64 a, .slice A5 n5 c5, .int .i64 i, .bool z] 32)).alloc (.cells #[.slice none 0 0, .slice none 0 0, .slice none 0 0, .slice none 0 0, .int .i64 0, .slice none 0 0, .int .i64 0, .slice none 0 0, .int .i64 0, .bool false] 32)) lo _ C HS b0 b1 b2 b3
  unfold NewCv at TS
  rw [hlw] at TS
  obtain ⟨⟨x0, x1, x2, x3, x4, x5, x6, x7, x8, x9⟩, ⟨xx0, xx1, xx2, xx3, xx4, xx5, xx6, xx7, xx8, xx9⟩⟩ := X.cells
  go_enter Tryz.func48, Tryz.ntmps48
  go_wp2_with fail
  refine TS.mono ?_; rintro e w1 ⟨vs, rfl, K1, hb1⟩
  have X1 := X.below (by rw [hlw]; exact hb1)
  have Y1 := Y.below (by rw [hlw]; exact hb1)
  have B1 : Below w.heap.size w w1 := BB.trans (hb1.mono (by omega))
  have s1 : lw ≤ w1.heap.size := by have := (show Below ((w.alloc (.cells #[.slice A0 n0 c0, .slice A1 n1 c1, .slice A2 n2 c2, .slice A3 n3 c3, .int .i64 p, .slice A4 n4 c4, .int .i64 a, .slice A5 n5 c5, .int .i64 i, .bool z] 32)).alloc (.cells #[.slice none 0 0, .slice none 0 0, .slice none 0 0, .slice none 0 0, .int .i64 0, .slice none 0 0, .int .i64 0, .slice none 0 0, .int .i64 0, .bool false] 32)).heap.size _ _ from by rw [hlw]; exact hb1).size; omega
  clear TS hb1 HS X Y hlw BB x0 x1 x2 x3 x4 x5 x6 x7 x8 x9 xx0 xx1 xx2 xx3 xx4 xx5 xx6 xx7 xx8 xx9
  obtain ⟨D0, e0, d0, D1, e1, d1, D2, e2, d2, D3, e3, d3, hv9, -⟩ := K1.open_
  subst hv9
  have X2 := X1.set03 (.slice D0 e0 d0) (.slice D1 e1 d1) (.slice D2 e2 d2) (.slice D3 e3 d3)
  have Y2 := Y1.far4 hne (.slice D0 e0 d0) (.slice D1 e1 d1) (.slice D2 e2 d2) (.slice D3 e3 d3)
  have K2 := ((((K1.lowSet (p := ⟨w.heap.size, 0, none⟩) hL (.slice D0 e0 d0)).lowSet (p := ⟨w.heap.size, 1, none⟩) hL (.slice D1 e1 d1)).lowSet (p := ⟨w.heap.size, 2, none⟩) hL (.slice D2 e2 d2)).lowSet (p := ⟨w.heap.size, 3, none⟩) hL (.slice D3 e3 d3))
  have B2 := below_set4b B1 (Nat.le_refl _) (.slice D0 e0 d0) (.slice D1 e1 d1) (.slice D2 e2 d2) (.slice D3 e3 d3)
  obtain ⟨⟨y0, y1, y2, y3, y4, y5, y6, y7, y8, y9⟩, ⟨yy0, yy1, yy2, yy3, yy4, yy5, yy6, yy7, yy8, yy9⟩⟩ := X1.cells
  obtain ⟨⟨z0, z1, z2, z3, z4, z5, z6, z7, z8, z9⟩, ⟨zz0, zz1, zz2, zz3, zz4, zz5, zz6, zz7, zz8, zz9⟩⟩ := X2.cells
  have s2 : lw ≤ ((((w1.setCell ⟨w.heap.size, 0, none⟩ (.slice D0 e0 d0)).setCell ⟨w.heap.size, 1, none⟩ (.slice D1 e1 d1)).setCell ⟨w.heap.size, 2, none⟩ (.slice D2 e2 d2)).setCell ⟨w.heap.size, 3, none⟩ (.slice D3 e3 d3)).heap.size := by simp only [setSize]; exact s1
  go_wp2_with fail
  generalize ((((w1.setCell ⟨w.heap.size, 0, none⟩ (.slice D0 e0 d0)).setCell ⟨w.heap.size, 1, none⟩ (.slice D1 e1 d1)).setCell ⟨w.heap.size, 2, none⟩ (.slice D2 e2 d2)).setCell ⟨w.heap.size, 3, none⟩ (.slice D3 e3 d3)) = W2 at X2 Y2 K2 B2 z0 z1 z2 z3 z4 z5 z6 z7 z8 z9 zz0 zz1 zz2 zz3 zz4 zz5 zz6 zz7 zz8 zz9 s2 ⊢
  clear K1 X1 Y1 B1 s1 y0 y1 y2 y3 y4 y5 y6 y7 y8 y9 yy0 yy1 yy2 yy3 yy4 yy5 yy6 yy7 yy8 yy9
  refine (ownGc_any W2 lo _ ⟨p, cc, a⟩ (HG.below B2) b4).mono ?_; rintro e w2 ⟨vg, rfl, K3, hb2⟩
  obtain ⟨D4, e4, d4, hv9, -⟩ := K3.open_
  dsimp only at hv9
  subst hv9
  have CG := CGv.mk K2 K3 s2 hb2
  have X3 := X2.below hb2
  have Y3 := Y2.below hb2
  have B3 := B2.trans (hb2.mono B2.size)
  have s3 : lw ≤ w2.heap.size := by have := hb2.size; omega
  have X4 := X3.set46 (.int .i64 p) (.slice D4 e4 d4) (.int .i64 a)
  have Y4 := Y3.far3 hne (.int .i64 p) (.slice D4 e4 d4) (.int .i64 a)
  have CG4 := (((CG.lowSet (p := ⟨w.heap.size, 4, none⟩) hL (.int .i64 p)).lowSet (p := ⟨w.heap.size, 5, none⟩) hL (.slice D4 e4 d4)).lowSet (p := ⟨w.heap.size, 6, none⟩) hL (.int .i64 a))
  have B4 := below_set3b B3 (Nat.le_refl _) (.int .i64 p) (.slice D4 e4 d4) (.int .i64 a)
  clear z0 z1 z2 z3 z4 z5 z6 z7 z8 z9 zz0 zz1 zz2 zz3 zz4 zz5 zz6 zz7 zz8 zz9 K2 K3 X2 Y2 B2 hb2 CG s2
  obtain ⟨⟨q0, q1, q2, q3, q4, q5, q6, q7, q8, q9⟩, ⟨qq0, qq1, qq2, qq3, qq4, qq5, qq6, qq7, qq8, qq9⟩⟩ := X3.cells
  obtain ⟨⟨r0, r1, r2, r3, r4, r5, r6, r7, r8, r9⟩, ⟨rr0, rr1, rr2, rr3, rr4, rr5, rr6, rr7, rr8, rr9⟩⟩ := X4.cells
  have s4 : lw ≤ (((w2.setCell ⟨w.heap.size, 4, none⟩ (.int .i64 p)).setCell ⟨w.heap.size, 5, none⟩ (.slice D4 e4 d4)).setCell ⟨w.heap.size, 6, none⟩ (.int .i64 a)).heap.size := by simp only [setSize]; exact s3
  have HO4 := ho.below B4
  generalize hW3 : (((w2.setCell ⟨w.heap.size, 4, none⟩ (.int .i64 p)).setCell ⟨w.heap.size, 5, none⟩ (.slice D4 e4 d4)).setCell ⟨w.heap.size, 6, none⟩ (.int .i64 a)) = W3 at X4 Y4 CG4 B4 r0 r1 r2 r3 r4 r5 r6 r7 r8 r9 rr0 rr1 rr2 rr3 rr4 rr5 rr6 rr7 rr8 rr9 s4 HO4
  obtain ⟨⟨t0, t1, t2, t3, t4, t5, t6, t7, t8, t9⟩, ⟨tt0, tt1, tt2, tt3, tt4, tt5, tt6, tt7, tt8, tt9⟩⟩ := (X4.alloc (.cells #[] 40)).cells
  go_wp2_with (at_builtin; (try rw [hW3]); refine wpList_append_orow rfl _ _ rfl (some ⟨W3.heap.size, 0, none⟩) W3.heap.size rfl (ORow.emptyB W3 W3.heap.size (Nat.le_refl _)) (by simp) lo A5 n5 c5 os rfl (HO4.alloc (.cells #[] 40)) l5 b5' ?_)
  intro A7 c7 w4 K5 hb4
  replace hb4 : Below (W3.alloc (.cells #[] 40)).heap.size (W3.alloc (.cells #[] 40)) w4 := hb4.mono (by simp)
  have X5 := (X4.alloc (.cells #[] 40)).below hb4
  have B5 := (B4.alloc B4.size (.cells #[] 40)).trans (hb4.mono (by have := B4.size; simp; omega))
  have HB := Bv.mk0 ((CG4.alloc (.cells #[] 40)).below hb4) (K5.mono s4) i z
  have X6 := X5.set7 (.slice A7 n5 c7)
  have Y6 := ((Y4.alloc (.cells #[] 40)).below hb4).other (p := ⟨w.heap.size, 7, none⟩) hne (.slice A7 n5 c7)
  have HB6 := HB.lowSet (p := ⟨w.heap.size, 7, none⟩) hL (.slice A7 n5 c7)
  have B6 := B5.setCell (p := ⟨w.heap.size, 7, none⟩) (Nat.le_refl _) (.slice A7 n5 c7)
  clear r0 r1 r2 r3 r4 r5 r6 r7 r8 r9 rr0 rr1 rr2 rr3 rr4 rr5 rr6 rr7 rr8 rr9 t0 t1 t2 t3 t4 t5 t6 t7 t8 t9 tt0 tt1 tt2 tt3 tt4 tt5 tt6 tt7 tt8 tt9 q0 q1 q2 q3 q4 q5 q6 q7 q8 q9 qq0 qq1 qq2 qq3 qq4 qq5 qq6 qq7 qq8 qq9
  obtain ⟨⟨u0, u1, u2, u3, u4, u5, u6, u7, u8, u9⟩, ⟨uu0, uu1, uu2, uu3, uu4, uu5, uu6, uu7, uu8, uu9⟩⟩ := X5.cells
  obtain ⟨⟨v0, v1, v2, v3, v4, v5, v6, v7, v8, v9⟩, ⟨vv0, vv1, vv2, vv3, vv4, vv5, vv6, vv7, vv8, vv9⟩⟩ := X6.cells
  generalize hW6 : w4.setCell ⟨w.heap.size, 7, none⟩ (.slice A7 n5 c7) = W6 at X6 Y6 HB6 B6 v0 v1 v2 v3 v4 v5 v6 v7 v8 v9 vv0 vv1 vv2 vv3 vv4 vv5 vv6 vv7 vv8 vv9
  clear K5 hb4 HB B5 X5 HO4 CG4 B4 X4 Y4 X3 Y3 B3 l0 l1 l2 l3 l4 l5 h hc ho HG
  have YF := Y6.set10 (.slice D0 e0 d0) (.slice D1 e1 d1) (.slice D2 e2 d2) (.slice D3 e3 d3) (.int .i64 p) (.slice D4 e4 d4) (.int .i64 a) (.slice A7 n5 c7) (.int .i64 i) (.bool z)
  obtain ⟨HF, FF⟩ := both_done (w := w) (b := w.heap.size + 1) HB6 (by omega) hL1 B6 (.slice D0 e0 d0) (.slice D1 e1 d1) (.slice D2 e2 d2) (.slice D3 e3 d3) (.int .i64 p) (.slice D4 e4 d4) (.int .i64 a) (.slice A7 n5 c7) (.int .i64 i) (.bool z)
  obtain ⟨⟨y0, y1, y2, y3, y4, y5, y6, y7, y8, y9⟩, ⟨yy0, yy1, yy2, yy3, yy4, yy5, yy6, yy7, yy8, yy9⟩⟩ := Y6.cells
  clear X6 Y6 HB6 B6
  go_wp2_with fail
  (try rw [hW6])
  generalize ((((((((((W6.setCell ⟨w.heap.size + 1, 0, none⟩ (.slice D0 e0 d0)).setCell ⟨w.heap.size + 1, 1, none⟩ (.slice D1 e1 d1)).setCell ⟨w.heap.size + 1, 2, none⟩ (.slice D2 e2 d2)).setCell ⟨w.heap.size + 1, 3, none⟩ (.slice D3 e3 d3)).setCell ⟨w.heap.size + 1, 4, none⟩ (.int .i64 p)).setCell ⟨w.heap.size + 1, 5, none⟩ (.slice D4 e4 d4)).setCell ⟨w.heap.size + 1, 6, none⟩ (.int .i64 a)).setCell ⟨w.heap.size + 1, 7, none⟩ (.slice A7 n5 c7)).setCell ⟨w.heap.size + 1, 8, none⟩ (.int .i64 i)).setCell ⟨w.heap.size + 1, 9, none⟩ (.bool z)) = WF at YF HF FF ⊢
  obtain ⟨⟨a0, a1, a2, a3, a4, a5, a6, a7, a8, a9⟩, -⟩ := YF.cells
  refine bodyPost_ret (v := .agg #[.slice D0 e0 d0, .slice D1 e1 d1, .slice D2 e2 d2, .slice D3 e3 d3, .int .i64 p, .slice D4 e4 d4, .int .i64 a, .slice A7 n5 c7, .int .i64 i, .bool z]) ?_ rfl ⟨_, rfl, HF, FF⟩
  simp [results, Tryz.results48, go_sem, a0, a1, a2, a3, a4, a5, a6, a7, a8, a9]

end Go.Proofs.YtfoimicbmkiigaaGreat

/- A step of the collector of a Both, of spec. -/
namespace Go.Proofs.YtfoimicbmkiigaaGreat
open Go.RowKit

theorem Bv.lost {w : World} {lo : Nat} {d0 d1 d2 d3 r u : Value} {C : Cp} {p a i : Int} {cc : List Int} {os : List Opv} {z : Bool} (hB : Bv w lo (.agg #[d0, d1, d2, d3, .int .i64 p, r, .int .i64 a, u, .int .i64 i, .bool z]) ⟨C, ⟨p, cc, a⟩, os, i, z⟩) : Bv w lo (.agg #[d0, d1, d2, d3, .int .i64 p, r, .int .i64 a, u, .int .i64 i, .bool true]) ⟨C, ⟨p, cc, a⟩, os, i, true⟩ := by
  obtain ⟨_, _, _, _, _, _, e, hc, ho, _⟩ := hB
  cases e
  exact Bv.mk0 hc ho i true
theorem Bv.withCG {w : World} {lo : Nat} {d0 d1 d2 d3 s0 s1 s2 s3 r r' u : Value} {C C' : Cp} {p a i p' a' : Int} {cc cc' : List Int} {os : List Opv} {z : Bool} (hB : Bv w lo (.agg #[d0, d1, d2, d3, .int .i64 p, r, .int .i64 a, u, .int .i64 i, .bool z]) ⟨C, ⟨p, cc, a⟩, os, i, z⟩) (hK : CGv w lo (.agg #[s0, s1, s2, s3]) (.agg #[.int .i64 p', r', .int .i64 a']) C' ⟨p', cc', a'⟩) : Bv w lo (.agg #[s0, s1, s2, s3, .int .i64 p', r', .int .i64 a', u, .int .i64 i, .bool z]) ⟨C', ⟨p', cc', a'⟩, os, i, z⟩ := by
  obtain ⟨_, _, _, _, _, _, e, hc, ho, _⟩ := hB
  cases e
  exact Bv.mk0 hK ho i z
set_option maxRecDepth 100000 in
set_option maxHeartbeats 4000000 in
theorem l7Gc_any (w : World) (lo : Nat) (v : Value) (B : Bp) (h : Bv w lo v B) (eb : bothB B = true) (hz : B.z = false) : Calls Tryz.prog 49 #[v] w (NewBv w (stepGB B)) := by
  obtain ⟨A0, n0, c0, A1, n1, c1, A2, n2, c2, A3, n3, c3, A4, n4, c4, A5, n5, c5, C, p, cc, a, os, i, z, rfl, rfl, hc, ho, ⟨l0, l1, l2, l3, l4, l5⟩, ⟨m0, m1, m2, m3, m4, m5⟩⟩ := h.open_
  have X := (Blk10.new w (.slice A0 n0 c0) (.slice A1 n1 c1) (.slice A2 n2 c2) (.slice A3 n3 c3) (.int .i64 p) (.slice A4 n4 c4) (.int .i64 a) (.slice A5 n5 c5) (.int .i64 i) (.bool z) 32).alloc (.cells #[.slice none 0 0, .slice none 0 0, .slice none 0 0, .slice none 0 0, .int .i64 0, .slice none 0 0, .int .i64 0, .slice none 0 0, .int .i64 0, .bool false] 32)
  have Y := Blk10.new_at (w := w.alloc (.cells #[.slice A0 n0 c0, .slice A1 n1 c1, .slice A2 n2 c2, .slice A3 n3 c3, .int .i64 p, .slice A4 n4 c4, .int .i64 a, .slice A5 n5 c5, .int .i64 i, .bool z] 32)) (b := w.heap.size + 1) (by simp) (.slice none 0 0) (.slice none 0 0) (.slice none 0 0) (.slice none 0 0) (.int .i64 0) (.slice none 0 0) (.int .i64 0) (.slice none 0 0) (.int .i64 0) (.bool false) 32
  have HB := (h.alloc (.cells #[.slice A0 n0 c0, .slice A1 n1 c1, .slice A2 n2 c2, .slice A3 n3 c3, .int .i64 p, .slice A4 n4 c4, .int .i64 a, .slice A5 n5 c5, .int .i64 i, .bool z] 32)).alloc (.cells #[.slice none 0 0, .slice none 0 0, .slice none 0 0, .slice none 0 0, .int .i64 0, .slice none 0 0, .int .i64 0, .slice none 0 0, .int .i64 0, .bool false] 32)
  have HC := (hc.alloc (.cells #[.slice A0 n0 c0, .slice A1 n1 c1, .slice A2 n2 c2, .slice A3 n3 c3, .int .i64 p, .slice A4 n4 c4, .int .i64 a, .slice A5 n5 c5, .int .i64 i, .bool z] 32)).alloc (.cells #[.slice none 0 0, .slice none 0 0, .slice none 0 0, .slice none 0 0, .int .i64 0, .slice none 0 0, .int .i64 0, .slice none 0 0, .int .i64 0, .bool false] 32)
  have HO := (ho.alloc (.cells #[.slice A0 n0 c0, .slice A1 n1 c1, .slice A2 n2 c2, .slice A3 n3 c3, .int .i64 p, .slice A4 n4 c4, .int .i64 a, .slice A5 n5 c5, .int .i64 i, .bool z] 32)).alloc (.cells #[.slice none 0 0, .slice none 0 0, .slice none 0 0, .slice none 0 0, .int .i64 0, .slice none 0 0, .int .i64 0, .slice none 0 0, .int .i64 0, .bool false] 32)
  have BB : Below w.heap.size w ((w.alloc (.cells #[.slice A0 n0 c0, .slice A1 n1 c1, .slice A2 n2 c2, .slice A3 n3 c3, .int .i64 p, .slice A4 n4 c4, .int .i64 a, .slice A5 n5 c5, .int .i64 i, .bool z] 32)).alloc (.cells #[.slice none 0 0, .slice none 0 0, .slice none 0 0, .slice none 0 0, .int .i64 0, .slice none 0 0, .int .i64 0, .slice none 0 0, .int .i64 0, .bool false] 32)) := ((Below.refl _ _).alloc (Nat.le_refl _) _).alloc (by simp) _
  have sz : w.heap.size + 2 ≤ ((w.alloc (.cells #[.slice A0 n0 c0, .slice A1 n1 c1, .slice A2 n2 c2, .slice A3 n3 c3, .int .i64 p, .slice A4 n4 c4, .int .i64 a, .slice A5 n5 c5, .int .i64 i, .bool z] 32)).alloc (.cells #[.slice none 0 0, .slice none 0 0, .slice none 0 0, .slice none 0 0, .int .i64 0, .slice none 0 0, .int .i64 0, .slice none 0 0, .int .i64 0, .bool false] 32)).heap.size := by simp
  clear hc ho h
  generalize hW : (w.alloc (.cells #[.slice A0 n0 c0, .slice A1 n1 c1, .slice A2 n2 c2, .slice A3 n3 c3, .int .i64 p, .slice A4 n4 c4, .int .i64 a, .slice A5 n5 c5, .int .i64 i, .bool z] 32)).alloc (.cells #[.slice none 0 0, .slice none 0 0, .slice none 0 0, .slice none 0 0, .int .i64 0, .slice none 0 0, .int .i64 0, .slice none 0 0, .int .i64 0, .bool false] 32) = W at X Y HB HC HO BB sz
  obtain ⟨⟨x0, x1, x2, x3, x4, x5, x6, x7, x8, x9⟩, -⟩ := X.cells
  obtain ⟨hg, -, -, -⟩ := bothB_iff.1 eb
  dsimp only at hg hz
  subst hz
  have hv := (stoB_parts (gcB_iff.1 hg).1).1
  have hin := swI_in hg
  have b5 : os.length ≤ 1048576 := by have := (bothB_iff.1 eb).2.1.1; dsimp only at this; omega
  have CP := fun W lo v h => l7Copy_any W lo v ⟨C, ⟨p, cc, a⟩, os, i, false⟩ h hg b5
  clear eb b5
  unfold stepGB
  dsimp only
  cases hd : dokB C.h (swI C ⟨p, cc, a⟩)
  rotate_left
  · rw [if_pos rfl]
    go_enter Tryz.func49, Tryz.ntmps49
    go_wp2_with fail
    (try rw [hW])
    refine (CP _ lo _ HB).mono ?_; rintro e w1 ⟨v1, rfl, HN, hb1⟩
    obtain ⟨D0, e0, d0, D1, e1, d1, D2, e2, d2, D3, e3, d3, D4, e4, d4, D5, e5, d5, rfl⟩ := HN.shape
    have s1 := hb1.size
    have CV2 := Blk10.new w1 (.slice D0 e0 d0) (.slice D1 e1 d1) (.slice D2 e2 d2) (.slice D3 e3 d3) (.int .i64 p) (.slice D4 e4 d4) (.int .i64 a) (.slice D5 e5 d5) (.int .i64 i) (.bool false) 32
    have X2 := (X.below hb1).alloc (.cells #[.slice D0 e0 d0, .slice D1 e1 d1, .slice D2 e2 d2, .slice D3 e3 d3, .int .i64 p, .slice D4 e4 d4, .int .i64 a, .slice D5 e5 d5, .int .i64 i, .bool false] 32)
    have Y2 := (Y.below hb1).alloc (.cells #[.slice D0 e0 d0, .slice D1 e1 d1, .slice D2 e2 d2, .slice D3 e3 d3, .int .i64 p, .slice D4 e4 d4, .int .i64 a, .slice D5 e5 d5, .int .i64 i, .bool false] 32)
    have HB2 := (HB.below hb1).alloc (.cells #[.slice D0 e0 d0, .slice D1 e1 d1, .slice D2 e2 d2, .slice D3 e3 d3, .int .i64 p, .slice D4 e4 d4, .int .i64 a, .slice D5 e5 d5, .int .i64 i, .bool false] 32)
    have HN2 := HN.alloc (.cells #[.slice D0 e0 d0, .slice D1 e1 d1, .slice D2 e2 d2, .slice D3 e3 d3, .int .i64 p, .slice D4 e4 d4, .int .i64 a, .slice D5 e5 d5, .int .i64 i, .bool false] 32)
    have B2 := (BB.trans (hb1.mono BB.size)).alloc (by omega) (.cells #[.slice D0 e0 d0, .slice D1 e1 d1, .slice D2 e2 d2, .slice D3 e3 d3, .int .i64 p, .slice D4 e4 d4, .int .i64 a, .slice D5 e5 d5, .int .i64 i, .bool false] 32)
    have s2 : w1.heap.size < (w1.alloc (.cells #[.slice D0 e0 d0, .slice D1 e1 d1, .slice D2 e2 d2, .slice D3 e3 d3, .int .i64 p, .slice D4 e4 d4, .int .i64 a, .slice D5 e5 d5, .int .i64 i, .bool false] 32)).heap.size := by simp
    clear x0 x1 x2 x3 x4 x5 x6 x7 x8 x9 X Y HB HC HO HN CP BB
    obtain ⟨⟨x0, x1, x2, x3, x4, x5, x6, x7, x8, x9⟩, ⟨xx0, xx1, xx2, xx3, xx4, xx5, xx6, xx7, xx8, xx9⟩⟩ := X2.cells
    go_wp2_with fail
    generalize w1.alloc (.cells #[.slice D0 e0 d0, .slice D1 e1 d1, .slice D2 e2 d2, .slice D3 e3 d3, .int .i64 p, .slice D4 e4 d4, .int .i64 a, .slice D5 e5 d5, .int .i64 i, .bool false] 32) = W2 at CV2 X2 Y2 HB2 HN2 B2 s2 x0 x1 x2 x3 x4 x5 x6 x7 x8 x9 xx0 xx1 xx2 xx3 xx4 xx5 xx6 xx7 xx8 xx9 ⊢
    have HCG : CGv W2 lo (.agg #[.slice A0 n0 c0, .slice A1 n1 c1, .slice A2 n2 c2, .slice A3 n3 c3]) (.agg #[.int .i64 p, .slice A4 n4 c4, .int .i64 a]) C ⟨p, cc, a⟩ := HB2.cg
    have HCv : Cv W2 lo (.agg #[.slice A0 n0 c0, .slice A1 n1 c1, .slice A2 n2 c2, .slice A3 n3 c3]) C := HB2.cg.cv
    have SO : ∀ w' : World, Below W2.heap.size W2 w' → w'.cell? ⟨w.heap.size, 0, none⟩ = some (.slice A0 n0 c0) ∧ w'.cell? ⟨w.heap.size, 1, none⟩ = some (.slice A1 n1 c1) ∧ w'.cell? ⟨w.heap.size, 2, none⟩ = some (.slice A2 n2 c2) ∧ w'.cell? ⟨w.heap.size, 3, none⟩ = some (.slice A3 n3 c3) ∧ w'.cell? ⟨w.heap.size, 4, none⟩ = some (.int .i64 p) ∧ w'.cell? ⟨w.heap.size, 5, none⟩ = some (.slice A4 n4 c4) ∧ w'.cell? ⟨w.heap.size, 6, none⟩ = some (.int .i64 a) := fun w' hb => by
      obtain ⟨⟨q0, q1, q2, q3, q4, q5, q6, q7, q8, q9⟩, _⟩ := (X2.below hb).cells
      exact ⟨q0, q1, q2, q3, q4, q5, q6⟩
    have TSw := fun V (hV : CGv V lo (.agg #[.slice A0 n0 c0, .slice A1 n1 c1, .slice A2 n2 c2, .slice A3 n3 c3]) (.agg #[.int .i64 p, .slice A4 n4 c4, .int .i64 a]) C ⟨p, cc, a⟩) => l6Swept_any V lo _ _ C ⟨p, cc, a⟩ hV hg
    have TLi := fun V (hV : Cv V lo (.agg #[.slice A0 n0 c0, .slice A1 n1 c1, .slice A2 n2 c2, .slice A3 n3 c3]) C) => l7Live_any V lo _ C hV hv _ hin
    rw [hd] at TLi
    unfold RetI at TSw
    unfold RetB at TLi
    go_region_held3 (fun w' => w'.cell? ⟨w.heap.size, 0, none⟩ = some (.slice A0 n0 c0) ∧ w'.cell? ⟨w.heap.size, 1, none⟩ = some (.slice A1 n1 c1) ∧ w'.cell? ⟨w.heap.size, 2, none⟩ = some (.slice A2 n2 c2) ∧ w'.cell? ⟨w.heap.size, 3, none⟩ = some (.slice A3 n3 c3) ∧ w'.cell? ⟨w.heap.size, 4, none⟩ = some (.int .i64 p) ∧ w'.cell? ⟨w.heap.size, 5, none⟩ = some (.slice A4 n4 c4) ∧ w'.cell? ⟨w.heap.size, 6, none⟩ = some (.int .i64 a))
      (((try dsimp only); (refine SO _ ?_); (repeat (with_reducible (first | exact Below.refl _ _ | exact hB4 | exact hB3 | refine B10_dr ?_ | refine B10_al ?_ _)))))
      (first
        | (go_at_call 96; (with_reducible refine Calls.mono (TSw _ ?_) ?_); (· repeat (with_reducible (first | exact HCG | refine CGv.drew ?_ | refine CGv.alloc ?_ _))); rintro e u3 ⟨rfl, hb3⟩; (have hB3 : Below W2.heap.size W2 u3 := (by refine B10_th ?_ hb3; repeat (with_reducible (first | exact Below.refl _ _ | refine B10_dr ?_ | refine B10_al ?_ _)))))
        | (go_at_call 95; (with_reducible refine Calls.mono (TLi _ ?_) ?_); (· repeat (with_reducible (first | exact HCv | refine Cv.drew ?_ | refine Cv.alloc ?_ _ | refine Cv.below ?_ hb3))); rintro e u4 ⟨rfl, hb4⟩; (have hB4 : Below W2.heap.size W2 u4 := (by refine B10_th ?_ hb4; repeat (with_reducible (first | exact Below.refl _ _ | exact hB3 | refine B10_dr ?_ | refine B10_al ?_ _)))); (obtain ⟨⟨q0, q1, q2, q3, q4, q5, q6, q7, q8, q9⟩, ⟨k0, k1, k2, k3, k4, k5, k6, k7, k8, k9⟩⟩ := (Y2.below hB4).cells); (obtain ⟨⟨c0, c1, c2, c3, c4, c5, c6, c7, c8, c9⟩, ⟨f0, f1, f2, f3, f4, f5, f6, f7, f8, f9⟩⟩ := (CV2.below hB4).cells)))
    all_goals
      (try rename_i hHeld); (try clear hHeld)
      have s4 := hB4.size
      have Y4 := (Y2.below hB4).other (p := ⟨w1.heap.size, 9, none⟩) (by show w.heap.size + 1 ≠ w1.heap.size; omega) (.bool true)
      have HN4 := Bv.lost ((HN2.below hB4).setT (CV2.below hB4) 9 (.bool true))
      have B4 := (B2.trans (hB4.mono B2.size)).setCell (p := ⟨w1.heap.size, 9, none⟩) (by show w.heap.size ≤ w1.heap.size; omega) (.bool true)
      have CV4 := (CV2.below hB4).set9 (.bool true)
      obtain ⟨⟨g0, g1, g2, g3, g4, g5, g6, g7, g8, g9⟩, ⟨gg0, gg1, gg2, gg3, gg4, gg5, gg6, gg7, gg8, gg9⟩⟩ := CV4.cells
      obtain ⟨⟨y0, y1, y2, y3, y4, y5, y6, y7, y8, y9⟩, ⟨yy0, yy1, yy2, yy3, yy4, yy5, yy6, yy7, yy8, yy9⟩⟩ := Y4.cells
      clear x0 x1 x2 x3 x4 x5 x6 x7 x8 x9 xx0 xx1 xx2 xx3 xx4 xx5 xx6 xx7 xx8 xx9 SO TSw TLi
      go_wp2_with fail
      have YF := Y4.set10 (.slice D0 e0 d0) (.slice D1 e1 d1) (.slice D2 e2 d2) (.slice D3 e3 d3) (.int .i64 p) (.slice D4 e4 d4) (.int .i64 a) (.slice D5 e5 d5) (.int .i64 i) (.bool true)
      have HF := HN4.low10 (c := w.heap.size + 1) (by omega) (.slice D0 e0 d0) (.slice D1 e1 d1) (.slice D2 e2 d2) (.slice D3 e3 d3) (.int .i64 p) (.slice D4 e4 d4) (.int .i64 a) (.slice D5 e5 d5) (.int .i64 i) (.bool true)
      have FF := below_set10 B4 (c := w.heap.size + 1) (by omega) (.slice D0 e0 d0) (.slice D1 e1 d1) (.slice D2 e2 d2) (.slice D3 e3 d3) (.int .i64 p) (.slice D4 e4 d4) (.int .i64 a) (.slice D5 e5 d5) (.int .i64 i) (.bool true)
      generalize (((((((((((u4.setCell ⟨w1.heap.size, 9, none⟩ (.bool true)).setCell ⟨w.heap.size + 1, 0, none⟩ (.slice D0 e0 d0)).setCell ⟨w.heap.size + 1, 1, none⟩ (.slice D1 e1 d1)).setCell ⟨w.heap.size + 1, 2, none⟩ (.slice D2 e2 d2)).setCell ⟨w.heap.size + 1, 3, none⟩ (.slice D3 e3 d3)).setCell ⟨w.heap.size + 1, 4, none⟩ (.int .i64 p)).setCell ⟨w.heap.size + 1, 5, none⟩ (.slice D4 e4 d4)).setCell ⟨w.heap.size + 1, 6, none⟩ (.int .i64 a)).setCell ⟨w.heap.size + 1, 7, none⟩ (.slice D5 e5 d5)).setCell ⟨w.heap.size + 1, 8, none⟩ (.int .i64 i)).setCell ⟨w.heap.size + 1, 9, none⟩ (.bool true)) = WF at YF HF FF ⊢
      obtain ⟨⟨v0, v1, v2, v3, v4, v5, v6, v7, v8, v9⟩, -⟩ := YF.cells
      refine bodyPost_ret (v := .agg #[.slice D0 e0 d0, .slice D1 e1 d1, .slice D2 e2 d2, .slice D3 e3 d3, .int .i64 p, .slice D4 e4 d4, .int .i64 a, .slice D5 e5 d5, .int .i64 i, .bool true]) ?_ rfl ⟨_, rfl, HF.mono (by omega), FF⟩
      simp [results, Tryz.results49, go_sem, v0, v1, v2, v3, v4, v5, v6, v7, v8, v9]
  rw [if_neg (by decide)]
  go_enter Tryz.func49, Tryz.ntmps49
  go_wp2_with fail
  (try rw [hW])
  refine (CP _ lo _ HB).mono ?_; rintro e w1 ⟨v1, rfl, HN, hb1⟩
  obtain ⟨D0, e0, d0, D1, e1, d1, D2, e2, d2, D3, e3, d3, D4, e4, d4, D5, e5, d5, rfl⟩ := HN.shape
  have s1 := hb1.size
  have CV2 := Blk10.new w1 (.slice D0 e0 d0) (.slice D1 e1 d1) (.slice D2 e2 d2) (.slice D3 e3 d3) (.int .i64 p) (.slice D4 e4 d4) (.int .i64 a) (.slice D5 e5 d5) (.int .i64 i) (.bool false) 32
  have X2 := (X.below hb1).alloc (.cells #[.slice D0 e0 d0, .slice D1 e1 d1, .slice D2 e2 d2, .slice D3 e3 d3, .int .i64 p, .slice D4 e4 d4, .int .i64 a, .slice D5 e5 d5, .int .i64 i, .bool false] 32)
  have Y2 := (Y.below hb1).alloc (.cells #[.slice D0 e0 d0, .slice D1 e1 d1, .slice D2 e2 d2, .slice D3 e3 d3, .int .i64 p, .slice D4 e4 d4, .int .i64 a, .slice D5 e5 d5, .int .i64 i, .bool false] 32)
  have HB2 := (HB.below hb1).alloc (.cells #[.slice D0 e0 d0, .slice D1 e1 d1, .slice D2 e2 d2, .slice D3 e3 d3, .int .i64 p, .slice D4 e4 d4, .int .i64 a, .slice D5 e5 d5, .int .i64 i, .bool false] 32)
  have HN2 := HN.alloc (.cells #[.slice D0 e0 d0, .slice D1 e1 d1, .slice D2 e2 d2, .slice D3 e3 d3, .int .i64 p, .slice D4 e4 d4, .int .i64 a, .slice D5 e5 d5, .int .i64 i, .bool false] 32)
  have B2 := (BB.trans (hb1.mono BB.size)).alloc (by omega) (.cells #[.slice D0 e0 d0, .slice D1 e1 d1, .slice D2 e2 d2, .slice D3 e3 d3, .int .i64 p, .slice D4 e4 d4, .int .i64 a, .slice D5 e5 d5, .int .i64 i, .bool false] 32)
  have s2 : w1.heap.size < (w1.alloc (.cells #[.slice D0 e0 d0, .slice D1 e1 d1, .slice D2 e2 d2, .slice D3 e3 d3, .int .i64 p, .slice D4 e4 d4, .int .i64 a, .slice D5 e5 d5, .int .i64 i, .bool false] 32)).heap.size := by simp
  clear x0 x1 x2 x3 x4 x5 x6 x7 x8 x9 X Y HB HC HO HN CP BB
  obtain ⟨⟨x0, x1, x2, x3, x4, x5, x6, x7, x8, x9⟩, ⟨xx0, xx1, xx2, xx3, xx4, xx5, xx6, xx7, xx8, xx9⟩⟩ := X2.cells
  go_wp2_with fail
  generalize w1.alloc (.cells #[.slice D0 e0 d0, .slice D1 e1 d1, .slice D2 e2 d2, .slice D3 e3 d3, .int .i64 p, .slice D4 e4 d4, .int .i64 a, .slice D5 e5 d5, .int .i64 i, .bool false] 32) = W2 at CV2 X2 Y2 HB2 HN2 B2 s2 x0 x1 x2 x3 x4 x5 x6 x7 x8 x9 xx0 xx1 xx2 xx3 xx4 xx5 xx6 xx7 xx8 xx9 ⊢
  have HCG : CGv W2 lo (.agg #[.slice A0 n0 c0, .slice A1 n1 c1, .slice A2 n2 c2, .slice A3 n3 c3]) (.agg #[.int .i64 p, .slice A4 n4 c4, .int .i64 a]) C ⟨p, cc, a⟩ := HB2.cg
  have HCv : Cv W2 lo (.agg #[.slice A0 n0 c0, .slice A1 n1 c1, .slice A2 n2 c2, .slice A3 n3 c3]) C := HB2.cg.cv
  have SO : ∀ w' : World, Below W2.heap.size W2 w' → w'.cell? ⟨w.heap.size, 0, none⟩ = some (.slice A0 n0 c0) ∧ w'.cell? ⟨w.heap.size, 1, none⟩ = some (.slice A1 n1 c1) ∧ w'.cell? ⟨w.heap.size, 2, none⟩ = some (.slice A2 n2 c2) ∧ w'.cell? ⟨w.heap.size, 3, none⟩ = some (.slice A3 n3 c3) ∧ w'.cell? ⟨w.heap.size, 4, none⟩ = some (.int .i64 p) ∧ w'.cell? ⟨w.heap.size, 5, none⟩ = some (.slice A4 n4 c4) ∧ w'.cell? ⟨w.heap.size, 6, none⟩ = some (.int .i64 a) := fun w' hb => by
    obtain ⟨⟨q0, q1, q2, q3, q4, q5, q6, q7, q8, q9⟩, _⟩ := (X2.below hb).cells
    exact ⟨q0, q1, q2, q3, q4, q5, q6⟩
  have TSw := fun V (hV : CGv V lo (.agg #[.slice A0 n0 c0, .slice A1 n1 c1, .slice A2 n2 c2, .slice A3 n3 c3]) (.agg #[.int .i64 p, .slice A4 n4 c4, .int .i64 a]) C ⟨p, cc, a⟩) => l6Swept_any V lo _ _ C ⟨p, cc, a⟩ hV hg
  have TLi := fun V (hV : Cv V lo (.agg #[.slice A0 n0 c0, .slice A1 n1 c1, .slice A2 n2 c2, .slice A3 n3 c3]) C) => l7Live_any V lo _ C hV hv _ hin
  rw [hd] at TLi
  unfold RetI at TSw
  unfold RetB at TLi
  go_region_held3 (fun w' => w'.cell? ⟨w.heap.size, 0, none⟩ = some (.slice A0 n0 c0) ∧ w'.cell? ⟨w.heap.size, 1, none⟩ = some (.slice A1 n1 c1) ∧ w'.cell? ⟨w.heap.size, 2, none⟩ = some (.slice A2 n2 c2) ∧ w'.cell? ⟨w.heap.size, 3, none⟩ = some (.slice A3 n3 c3) ∧ w'.cell? ⟨w.heap.size, 4, none⟩ = some (.int .i64 p) ∧ w'.cell? ⟨w.heap.size, 5, none⟩ = some (.slice A4 n4 c4) ∧ w'.cell? ⟨w.heap.size, 6, none⟩ = some (.int .i64 a))
    (((try dsimp only); (refine SO _ ?_); (repeat (with_reducible (first | exact Below.refl _ _ | exact hB4 | exact hB3 | refine B10_dr ?_ | refine B10_al ?_ _)))))
    (first
      | (go_at_call 96; (with_reducible refine Calls.mono (TSw _ ?_) ?_); (· repeat (with_reducible (first | exact HCG | refine CGv.drew ?_ | refine CGv.alloc ?_ _))); rintro e u3 ⟨rfl, hb3⟩; (have hB3 : Below W2.heap.size W2 u3 := (by refine B10_th ?_ hb3; repeat (with_reducible (first | exact Below.refl _ _ | refine B10_dr ?_ | refine B10_al ?_ _)))))
      | (go_at_call 95; (with_reducible refine Calls.mono (TLi _ ?_) ?_); (· repeat (with_reducible (first | exact HCv | refine Cv.drew ?_ | refine Cv.alloc ?_ _ | refine Cv.below ?_ hb3))); rintro e u4 ⟨rfl, hb4⟩; (have hB4 : Below W2.heap.size W2 u4 := (by refine B10_th ?_ hb4; repeat (with_reducible (first | exact Below.refl _ _ | exact hB3 | refine B10_dr ?_ | refine B10_al ?_ _)))); (obtain ⟨⟨q0, q1, q2, q3, q4, q5, q6, q7, q8, q9⟩, ⟨k0, k1, k2, k3, k4, k5, k6, k7, k8, k9⟩⟩ := (Y2.below hB4).cells); (obtain ⟨⟨c0, c1, c2, c3, c4, c5, c6, c7, c8, c9⟩, ⟨f0, f1, f2, f3, f4, f5, f6, f7, f8, f9⟩⟩ := (CV2.below hB4).cells)))
  all_goals
    (try rename_i hHeld); (try clear hHeld)
    have TT := l6Step_any u4 lo _ _ C ⟨p, cc, a⟩ (HCG.below hB4) hg
    unfold NewCG at TT
    generalize hst : stepG C ⟨p, cc, a⟩ = SG at TT ⊢
    obtain ⟨C2, p2, cc2, a2⟩ := SG
    dsimp only at TT ⊢
    have s4 := hB4.size
    have HN4 := HN2.below hB4
    have B4 := B2.trans (hB4.mono B2.size)
    have Y4 := Y2.below hB4
    have CV4 := CV2.below hB4
    clear x0 x1 x2 x3 x4 x5 x6 x7 x8 x9 xx0 xx1 xx2 xx3 xx4 xx5 xx6 xx7 xx8 xx9 SO TSw TLi
    obtain ⟨⟨x0, x1, x2, x3, x4, x5, x6, x7, x8, x9⟩, ⟨xx0, xx1, xx2, xx3, xx4, xx5, xx6, xx7, xx8, xx9⟩⟩ := (X2.below hB4).cells
    go_wp2_with fail
    refine TT.mono ?_; rintro e w5 ⟨vs, vg, rfl, K, hb5⟩
    obtain ⟨S0, t0, r0, S1, t1, r1, S2, t2, r2, S3, t3, r3, S4, t4, r4, p2', cc2', a2', eG, rfl, rfl, _⟩ := CGv.open_ K
    cases eG
    have s5 := hb5.size
    have HN5 := ((HN4.below hb5).alloc (.cells #[.slice S0 t0 r0, .slice S1 t1 r1, .slice S2 t2 r2, .slice S3 t3 r3] 27)).alloc (.cells #[.int .i64 p2, .slice S4 t4 r4, .int .i64 a2] 29)
    have K5 := (K.alloc (.cells #[.slice S0 t0 r0, .slice S1 t1 r1, .slice S2 t2 r2, .slice S3 t3 r3] 27)).alloc (.cells #[.int .i64 p2, .slice S4 t4 r4, .int .i64 a2] 29)
    have B5 := ((B4.trans (hb5.mono B4.size)).alloc (by omega) (.cells #[.slice S0 t0 r0, .slice S1 t1 r1, .slice S2 t2 r2, .slice S3 t3 r3] 27)).alloc (by (try simp); omega) (.cells #[.int .i64 p2, .slice S4 t4 r4, .int .i64 a2] 29)
    have Y5 := ((Y4.below hb5).alloc (.cells #[.slice S0 t0 r0, .slice S1 t1 r1, .slice S2 t2 r2, .slice S3 t3 r3] 27)).alloc (.cells #[.int .i64 p2, .slice S4 t4 r4, .int .i64 a2] 29)
    have CV5 := ((CV4.below hb5).alloc (.cells #[.slice S0 t0 r0, .slice S1 t1 r1, .slice S2 t2 r2, .slice S3 t3 r3] 27)).alloc (.cells #[.int .i64 p2, .slice S4 t4 r4, .int .i64 a2] 29)
    have T5 := (Blk4.new w5 (.slice S0 t0 r0) (.slice S1 t1 r1) (.slice S2 t2 r2) (.slice S3 t3 r3) 27).alloc (.cells #[.int .i64 p2, .slice S4 t4 r4, .int .i64 a2] 29)
    have U5 := Blk3.new_at (w := w5.alloc (.cells #[.slice S0 t0 r0, .slice S1 t1 r1, .slice S2 t2 r2, .slice S3 t3 r3] 27)) (b := w5.heap.size + 1) (by simp) (.int .i64 p2) (.slice S4 t4 r4) (.int .i64 a2) 29
    clear x0 x1 x2 x3 x4 x5 x6 x7 x8 x9 xx0 xx1 xx2 xx3 xx4 xx5 xx6 xx7 xx8 xx9 q0 q1 q2 q3 q4 q5 q6 q7 q8 q9 k0 k1 k2 k3 k4 k5 k6 k7 k8 k9 c0 c1 c2 c3 c4 c5 c6 c7 c8 c9 f0 f1 f2 f3 f4 f5 f6 f7 f8 f9 TT
    obtain ⟨⟨g0, g1, g2, g3, g4, g5, g6, g7, g8, g9⟩, ⟨gg0, gg1, gg2, gg3, gg4, gg5, gg6, gg7, gg8, gg9⟩⟩ := CV5.cells
    obtain ⟨⟨y0, y1, y2, y3, y4, y5, y6, y7, y8, y9⟩, ⟨yy0, yy1, yy2, yy3, yy4, yy5, yy6, yy7, yy8, yy9⟩⟩ := Y5.cells
    obtain ⟨j0, j1, j2, j3, jj0, jj1, jj2, jj3⟩ := T5.cells
    obtain ⟨n0', n1', n2', nn0', nn1', nn2'⟩ := U5.cells
    have HNB := Bv.withCG HN5 (K5.mono (by omega))
    have H0 := HNB
    have C0 := CV5
    have H1 := H0.setT C0 0 (.slice S0 t0 r0)
    have C1 := C0.set0 (.slice S0 t0 r0)
    have H2 := H1.setT C1 1 (.slice S1 t1 r1)
    have C2 := C1.set1 (.slice S1 t1 r1)
    have H3 := H2.setT C2 2 (.slice S2 t2 r2)
    have C3 := C2.set2 (.slice S2 t2 r2)
    have H4 := H3.setT C3 3 (.slice S3 t3 r3)
    have C4 := C3.set3 (.slice S3 t3 r3)
    have H5 := H4.setT C4 4 (.int .i64 p2)
    have C5 := C4.set4 (.int .i64 p2)
    have H6 := H5.setT C5 5 (.slice S4 t4 r4)
    have C6 := C5.set5 (.slice S4 t4 r4)
    have H7 := H6.setT C6 6 (.int .i64 a2)
    have C7 := C6.set6 (.int .i64 a2)
    have Y6 := Y5.far4 (c := w1.heap.size) (by omega) (.slice S0 t0 r0) (.slice S1 t1 r1) (.slice S2 t2 r2) (.slice S3 t3 r3)
    have Y7 := Y6.far3 (c := w1.heap.size) (by omega) (.int .i64 p2) (.slice S4 t4 r4) (.int .i64 a2)
    have U6 := Blk3.far4O U5 (c := w1.heap.size) (by omega) (.slice S0 t0 r0) (.slice S1 t1 r1) (.slice S2 t2 r2) (.slice S3 t3 r3)
    have B7 := below_set3b (below_set4b B5 (c := w1.heap.size) (by omega) (.slice S0 t0 r0) (.slice S1 t1 r1) (.slice S2 t2 r2) (.slice S3 t3 r3)) (c := w1.heap.size) (by omega) (.int .i64 p2) (.slice S4 t4 r4) (.int .i64 a2)
    have s7 : w1.heap.size < w5.heap.size := by omega
    clear K5 HN5 B5 K HN4 B4 Y4 CV4 HCG HCv hb5 X2 CV2 Y2 HB2 HN2 B2
    generalize hW6 : (w5.alloc (.cells #[.slice S0 t0 r0, .slice S1 t1 r1, .slice S2 t2 r2, .slice S3 t3 r3] 27)).alloc (.cells #[.int .i64 p2, .slice S4 t4 r4, .int .i64 a2] 29) = W6 at *
    obtain ⟨n0', n1', n2', nn0', nn1', nn2'⟩ := U6.cells
    obtain ⟨⟨h0, h1, h2, h3, h4, h5, h6, h7, h8, h9⟩, ⟨hh0, hh1, hh2, hh3, hh4, hh5, hh6, hh7, hh8, hh9⟩⟩ := C4.cells
    obtain ⟨⟨o0, o1, o2, o3, o4, o5, o6, o7, o8, o9⟩, -⟩ := C7.cells
    obtain ⟨⟨m0, m1, m2, m3, m4, m5, m6, m7, m8, m9⟩, ⟨mm0, mm1, mm2, mm3, mm4, mm5, mm6, mm7, mm8, mm9⟩⟩ := Y7.cells
    go_wp2_with fail
    have YF := Y7.set10 (.slice S0 t0 r0) (.slice S1 t1 r1) (.slice S2 t2 r2) (.slice S3 t3 r3) (.int .i64 p2) (.slice S4 t4 r4) (.int .i64 a2) (.slice D5 e5 d5) (.int .i64 i) (.bool false)
    have HF := H7.low10 (c := w.heap.size + 1) (by omega) (.slice S0 t0 r0) (.slice S1 t1 r1) (.slice S2 t2 r2) (.slice S3 t3 r3) (.int .i64 p2) (.slice S4 t4 r4) (.int .i64 a2) (.slice D5 e5 d5) (.int .i64 i) (.bool false)
    have FF := below_set10 B7 (c := w.heap.size + 1) (by omega) (.slice S0 t0 r0) (.slice S1 t1 r1) (.slice S2 t2 r2) (.slice S3 t3 r3) (.int .i64 p2) (.slice S4 t4 r4) (.int .i64 a2) (.slice D5 e5 d5) (.int .i64 i) (.bool false)
    (try rw [hW6])
    generalize (((((((((((((((((W6.setCell ⟨w1.heap.size, 0, none⟩ (.slice S0 t0 r0)).setCell ⟨w1.heap.size, 1, none⟩ (.slice S1 t1 r1)).setCell ⟨w1.heap.size, 2, none⟩ (.slice S2 t2 r2)).setCell ⟨w1.heap.size, 3, none⟩ (.slice S3 t3 r3)).setCell ⟨w1.heap.size, 4, none⟩ (.int .i64 p2)).setCell ⟨w1.heap.size, 5, none⟩ (.slice S4 t4 r4)).setCell ⟨w1.heap.size, 6, none⟩ (.int .i64 a2)).setCell ⟨w.heap.size + 1, 0, none⟩ (.slice S0 t0 r0)).setCell ⟨w.heap.size + 1, 1, none⟩ (.slice S1 t1 r1)).setCell ⟨w.heap.size + 1, 2, none⟩ (.slice S2 t2 r2)).setCell ⟨w.heap.size + 1, 3, none⟩ (.slice S3 t3 r3)).setCell ⟨w.heap.size + 1, 4, none⟩ (.int .i64 p2)).setCell ⟨w.heap.size + 1, 5, none⟩ (.slice S4 t4 r4)).setCell ⟨w.heap.size + 1, 6, none⟩ (.int .i64 a2)).setCell ⟨w.heap.size + 1, 7, none⟩ (.slice D5 e5 d5)).setCell ⟨w.heap.size + 1, 8, none⟩ (.int .i64 i)).setCell ⟨w.heap.size + 1, 9, none⟩ (.bool false)) = WF at YF HF FF ⊢
    obtain ⟨⟨v0, v1, v2, v3, v4, v5, v6, v7, v8, v9⟩, -⟩ := YF.cells
    have HG9 : Bv WF w.heap.size (.agg #[.slice S0 t0 r0, .slice S1 t1 r1, .slice S2 t2 r2, .slice S3 t3 r3, .int .i64 p2, .slice S4 t4 r4, .int .i64 a2, .slice D5 e5 d5, .int .i64 i, .bool false]) ⟨(stepG C ⟨p, cc, a⟩).1, (stepG C ⟨p, cc, a⟩).2, os, i, false⟩ := by rw [hst]; exact HF.mono (show w.heap.size ≤ W.heap.size by omega)
    refine bodyPost_ret (v := .agg #[.slice S0 t0 r0, .slice S1 t1 r1, .slice S2 t2 r2, .slice S3 t3 r3, .int .i64 p2, .slice S4 t4 r4, .int .i64 a2, .slice D5 e5 d5, .int .i64 i, .bool false]) ?_ rfl ⟨_, rfl, HG9, FF⟩
    simp [results, Tryz.results49, go_sem, v0, v1, v2, v3, v4, v5, v6, v7, v8, v9]

end Go.Proofs.YtfoimicbmkiigaaGreat

/- StepBoth of spec. -/
namespace Go.Proofs.YtfoimicbmkiigaaGreat
open Go.RowKit

set_option maxRecDepth 100000 in
set_option maxHeartbeats 6000000 in
theorem specStepBoth_any (w : World) (lo : Nat) (v : Value) (B : Bp) (h : Bv w lo v B) (b0 : B.C.h.l.length ≤ 1048576) (b1 : B.C.h.r.length ≤ 1048576) (b2 : B.C.h.t.length ≤ 1048576) (b3 : B.C.c.length ≤ 1048576) (b4 : B.G.c.length ≤ 1048576) (b5 : B.os.length ≤ 1048576) : Calls Tryz.prog 18 #[v] w (OptBv w (stepGO B)) := by
  obtain ⟨A0, n0, c0, A1, n1, c1, A2, n2, c2, A3, n3, c3, A4, n4, c4, A5, n5, c5, C, p, cc, a, os, i, z, rfl, rfl, hc, ho, ⟨l0, l1, l2, l3, l4, l5⟩, ⟨m0, m1, m2, m3, m4, m5⟩⟩ := h.open_
  have X := (Blk10.new w (.slice A0 n0 c0) (.slice A1 n1 c1) (.slice A2 n2 c2) (.slice A3 n3 c3) (.int .i64 p) (.slice A4 n4 c4) (.int .i64 a) (.slice A5 n5 c5) (.int .i64 i) (.bool z) 32).alloc (.cells #[.slice none 0 0, .slice none 0 0, .slice none 0 0, .slice none 0 0, .int .i64 0, .slice none 0 0, .int .i64 0, .slice none 0 0, .int .i64 0, .bool false] 32)
  have Y := Blk10.new_at (w := w.alloc (.cells #[.slice A0 n0 c0, .slice A1 n1 c1, .slice A2 n2 c2, .slice A3 n3 c3, .int .i64 p, .slice A4 n4 c4, .int .i64 a, .slice A5 n5 c5, .int .i64 i, .bool z] 32)) (b := w.heap.size + 1) (by simp) (.slice none 0 0) (.slice none 0 0) (.slice none 0 0) (.slice none 0 0) (.int .i64 0) (.slice none 0 0) (.int .i64 0) (.slice none 0 0) (.int .i64 0) (.bool false) 32
  have HB := (h.alloc (.cells #[.slice A0 n0 c0, .slice A1 n1 c1, .slice A2 n2 c2, .slice A3 n3 c3, .int .i64 p, .slice A4 n4 c4, .int .i64 a, .slice A5 n5 c5, .int .i64 i, .bool z] 32)).alloc (.cells #[.slice none 0 0, .slice none 0 0, .slice none 0 0, .slice none 0 0, .int .i64 0, .slice none 0 0, .int .i64 0, .slice none 0 0, .int .i64 0, .bool false] 32)
  have HC := (hc.alloc (.cells #[.slice A0 n0 c0, .slice A1 n1 c1, .slice A2 n2 c2, .slice A3 n3 c3, .int .i64 p, .slice A4 n4 c4, .int .i64 a, .slice A5 n5 c5, .int .i64 i, .bool z] 32)).alloc (.cells #[.slice none 0 0, .slice none 0 0, .slice none 0 0, .slice none 0 0, .int .i64 0, .slice none 0 0, .int .i64 0, .slice none 0 0, .int .i64 0, .bool false] 32)
  have HO := (ho.alloc (.cells #[.slice A0 n0 c0, .slice A1 n1 c1, .slice A2 n2 c2, .slice A3 n3 c3, .int .i64 p, .slice A4 n4 c4, .int .i64 a, .slice A5 n5 c5, .int .i64 i, .bool z] 32)).alloc (.cells #[.slice none 0 0, .slice none 0 0, .slice none 0 0, .slice none 0 0, .int .i64 0, .slice none 0 0, .int .i64 0, .slice none 0 0, .int .i64 0, .bool false] 32)
  have BB : Below w.heap.size w ((w.alloc (.cells #[.slice A0 n0 c0, .slice A1 n1 c1, .slice A2 n2 c2, .slice A3 n3 c3, .int .i64 p, .slice A4 n4 c4, .int .i64 a, .slice A5 n5 c5, .int .i64 i, .bool z] 32)).alloc (.cells #[.slice none 0 0, .slice none 0 0, .slice none 0 0, .slice none 0 0, .int .i64 0, .slice none 0 0, .int .i64 0, .slice none 0 0, .int .i64 0, .bool false] 32)) := ((Below.refl _ _).alloc (Nat.le_refl _) _).alloc (by simp) _
  have sz : w.heap.size + 2 ≤ ((w.alloc (.cells #[.slice A0 n0 c0, .slice A1 n1 c1, .slice A2 n2 c2, .slice A3 n3 c3, .int .i64 p, .slice A4 n4 c4, .int .i64 a, .slice A5 n5 c5, .int .i64 i, .bool z] 32)).alloc (.cells #[.slice none 0 0, .slice none 0 0, .slice none 0 0, .slice none 0 0, .int .i64 0, .slice none 0 0, .int .i64 0, .slice none 0 0, .int .i64 0, .bool false] 32)).heap.size := by simp
  clear hc ho h
  generalize hW : (w.alloc (.cells #[.slice A0 n0 c0, .slice A1 n1 c1, .slice A2 n2 c2, .slice A3 n3 c3, .int .i64 p, .slice A4 n4 c4, .int .i64 a, .slice A5 n5 c5, .int .i64 i, .bool z] 32)).alloc (.cells #[.slice none 0 0, .slice none 0 0, .slice none 0 0, .slice none 0 0, .int .i64 0, .slice none 0 0, .int .i64 0, .slice none 0 0, .int .i64 0, .bool false] 32) = W at X Y HB HC HO BB sz
  obtain ⟨⟨x0, x1, x2, x3, x4, x5, x6, x7, x8, x9⟩, -⟩ := X.cells
  have hne : w.heap.size + 1 ≠ w.heap.size := by omega
  have OW := ownBoth_any W lo _ _ HB b0 b1 b2 b3 b4 b5
  unfold NewBv at OW
  clear b0 b1 b2 b3 b4 b5 HB HC HO
  rcases eb : bothB ⟨C, ⟨p, cc, a⟩, os, i, z⟩
  · rw [show stepGO ⟨C, ⟨p, cc, a⟩, os, i, z⟩ = none by unfold stepGO; rw [eb]; rfl]
    go_enter Tryz.func18, Tryz.ntmps18
    go_wp2_with fail
    (try rw [hW])
    refine OW.mono ?_; rintro e w1 ⟨v1, rfl, HN, hb1⟩
    obtain ⟨E0, g0, f0, E1, g1, f1, E2, g2, f2, E3, g3, f3, E4, g4, f4, E5, g5, f5, rfl⟩ := HN.shape
    have s1 := hb1.size
    have X1 := X.below hb1
    have X2 := X1.set10 (.slice E0 g0 f0) (.slice E1 g1 f1) (.slice E2 g2 f2) (.slice E3 g3 f3) (.int .i64 p) (.slice E4 g4 f4) (.int .i64 a) (.slice E5 g5 f5) (.int .i64 i) (.bool z)
    have Y2 := (Y.below hb1).far10 hne (.slice E0 g0 f0) (.slice E1 g1 f1) (.slice E2 g2 f2) (.slice E3 g3 f3) (.int .i64 p) (.slice E4 g4 f4) (.int .i64 a) (.slice E5 g5 f5) (.int .i64 i) (.bool z)
    have HN2 := HN.low10 (c := w.heap.size) (by omega) (.slice E0 g0 f0) (.slice E1 g1 f1) (.slice E2 g2 f2) (.slice E3 g3 f3) (.int .i64 p) (.slice E4 g4 f4) (.int .i64 a) (.slice E5 g5 f5) (.int .i64 i) (.bool z)
    have B2 := below_set10 (BB.trans (hb1.mono BB.size)) (c := w.heap.size) (by omega) (.slice E0 g0 f0) (.slice E1 g1 f1) (.slice E2 g2 f2) (.slice E3 g3 f3) (.int .i64 p) (.slice E4 g4 f4) (.int .i64 a) (.slice E5 g5 f5) (.int .i64 i) (.bool z)
    obtain ⟨⟨y0, y1, y2, y3, y4, y5, y6, y7, y8, y9⟩, ⟨yy0, yy1, yy2, yy3, yy4, yy5, yy6, yy7, yy8, yy9⟩⟩ := X1.cells
    obtain ⟨⟨h0, h1, h2, h3, h4, h5, h6, h7, h8, h9⟩, ⟨hh0, hh1, hh2, hh3, hh4, hh5, hh6, hh7, hh8, hh9⟩⟩ := X2.cells
    clear x0 x1 x2 x3 x4 x5 x6 x7 x8 x9 OW HN Y X X1
    have s2 : W.heap.size ≤ ((((((((((w1.setCell ⟨w.heap.size, 0, none⟩ (.slice E0 g0 f0)).setCell ⟨w.heap.size, 1, none⟩ (.slice E1 g1 f1)).setCell ⟨w.heap.size, 2, none⟩ (.slice E2 g2 f2)).setCell ⟨w.heap.size, 3, none⟩ (.slice E3 g3 f3)).setCell ⟨w.heap.size, 4, none⟩ (.int .i64 p)).setCell ⟨w.heap.size, 5, none⟩ (.slice E4 g4 f4)).setCell ⟨w.heap.size, 6, none⟩ (.int .i64 a)).setCell ⟨w.heap.size, 7, none⟩ (.slice E5 g5 f5)).setCell ⟨w.heap.size, 8, none⟩ (.int .i64 i)).setCell ⟨w.heap.size, 9, none⟩ (.bool z)).heap.size := by simp only [setSize]; exact s1
    go_wp2_with fail
    generalize ((((((((((w1.setCell ⟨w.heap.size, 0, none⟩ (.slice E0 g0 f0)).setCell ⟨w.heap.size, 1, none⟩ (.slice E1 g1 f1)).setCell ⟨w.heap.size, 2, none⟩ (.slice E2 g2 f2)).setCell ⟨w.heap.size, 3, none⟩ (.slice E3 g3 f3)).setCell ⟨w.heap.size, 4, none⟩ (.int .i64 p)).setCell ⟨w.heap.size, 5, none⟩ (.slice E4 g4 f4)).setCell ⟨w.heap.size, 6, none⟩ (.int .i64 a)).setCell ⟨w.heap.size, 7, none⟩ (.slice E5 g5 f5)).setCell ⟨w.heap.size, 8, none⟩ (.int .i64 i)).setCell ⟨w.heap.size, 9, none⟩ (.bool z)) = W2 at X2 Y2 HN2 B2 s2 h0 h1 h2 h3 h4 h5 h6 h7 h8 h9 hh0 hh1 hh2 hh3 hh4 hh5 hh6 hh7 hh8 hh9 ⊢
    clear y0 y1 y2 y3 y4 y5 y6 y7 y8 y9 yy0 yy1 yy2 yy3 yy4 yy5 yy6 yy7 yy8 yy9
    have V := specBothValid_any W2 W.heap.size _ _ HN2
    rw [eb] at V
    unfold RetB at V
    refine V.mono ?_; rintro e w3 ⟨rfl, hb3⟩
    have s3 := hb3.size
    have X3 := X2.below hb3
    have Y3 := Y2.below hb3
    have HN3 := HN2.below hb3
    have B3 := B2.trans (hb3.mono B2.size)
    obtain ⟨⟨x0, x1, x2, x3, x4, x5, x6, x7, x8, x9⟩, ⟨xx0, xx1, xx2, xx3, xx4, xx5, xx6, xx7, xx8, xx9⟩⟩ := X3.cells
    obtain ⟨⟨q0, q1, q2, q3, q4, q5, q6, q7, q8, q9⟩, ⟨qq0, qq1, qq2, qq3, qq4, qq5, qq6, qq7, qq8, qq9⟩⟩ := Y3.cells
    clear h0 h1 h2 h3 h4 h5 h6 h7 h8 h9 hh0 hh1 hh2 hh3 hh4 hh5 hh6 hh7 hh8 hh9 X2 Y2 HN2 B2 V
    go_wp2_with fail
    have YF := Y3.set10 (.slice none 0 0) (.slice none 0 0) (.slice none 0 0) (.slice none 0 0) (.int .i64 0) (.slice none 0 0) (.int .i64 0) (.slice none 0 0) (.int .i64 0) (.bool false)
    have FF := below_set10 B3 (c := w.heap.size + 1) (by omega) (.slice none 0 0) (.slice none 0 0) (.slice none 0 0) (.slice none 0 0) (.int .i64 0) (.slice none 0 0) (.int .i64 0) (.slice none 0 0) (.int .i64 0) (.bool false)
    generalize ((((((((((w3.setCell ⟨w.heap.size + 1, 0, none⟩ (.slice none 0 0)).setCell ⟨w.heap.size + 1, 1, none⟩ (.slice none 0 0)).setCell ⟨w.heap.size + 1, 2, none⟩ (.slice none 0 0)).setCell ⟨w.heap.size + 1, 3, none⟩ (.slice none 0 0)).setCell ⟨w.heap.size + 1, 4, none⟩ (.int .i64 0)).setCell ⟨w.heap.size + 1, 5, none⟩ (.slice none 0 0)).setCell ⟨w.heap.size + 1, 6, none⟩ (.int .i64 0)).setCell ⟨w.heap.size + 1, 7, none⟩ (.slice none 0 0)).setCell ⟨w.heap.size + 1, 8, none⟩ (.int .i64 0)).setCell ⟨w.heap.size + 1, 9, none⟩ (.bool false)) = WF at YF FF ⊢
    obtain ⟨⟨v0, v1, v2, v3, v4, v5, v6, v7, v8, v9⟩, -⟩ := YF.cells
    refine bodyPost_ret (v := .tuple #[.agg #[.slice none 0 0, .slice none 0 0, .slice none 0 0, .slice none 0 0, .int .i64 0, .slice none 0 0, .int .i64 0, .slice none 0 0, .int .i64 0, .bool false], .bool false]) ?_ rfl ⟨_, rfl, Bv.zero _ _, FF⟩
    simp [results, Tryz.results18, go_sem, v0, v1, v2, v3, v4, v5, v6, v7, v8, v9]
  cases z
  rotate_left
  · rw [show stepGO ⟨C, ⟨p, cc, a⟩, os, i, true⟩ = none by unfold stepGO; rw [eb]; rfl]
    go_enter Tryz.func18, Tryz.ntmps18
    go_wp2_with fail
    (try rw [hW])
    refine OW.mono ?_; rintro e w1 ⟨v1, rfl, HN, hb1⟩
    obtain ⟨E0, g0, f0, E1, g1, f1, E2, g2, f2, E3, g3, f3, E4, g4, f4, E5, g5, f5, rfl⟩ := HN.shape
    have s1 := hb1.size
    have X1 := X.below hb1
    have X2 := X1.set10 (.slice E0 g0 f0) (.slice E1 g1 f1) (.slice E2 g2 f2) (.slice E3 g3 f3) (.int .i64 p) (.slice E4 g4 f4) (.int .i64 a) (.slice E5 g5 f5) (.int .i64 i) (.bool true)
    have Y2 := (Y.below hb1).far10 hne (.slice E0 g0 f0) (.slice E1 g1 f1) (.slice E2 g2 f2) (.slice E3 g3 f3) (.int .i64 p) (.slice E4 g4 f4) (.int .i64 a) (.slice E5 g5 f5) (.int .i64 i) (.bool true)
    have HN2 := HN.low10 (c := w.heap.size) (by omega) (.slice E0 g0 f0) (.slice E1 g1 f1) (.slice E2 g2 f2) (.slice E3 g3 f3) (.int .i64 p) (.slice E4 g4 f4) (.int .i64 a) (.slice E5 g5 f5) (.int .i64 i) (.bool true)
    have B2 := below_set10 (BB.trans (hb1.mono BB.size)) (c := w.heap.size) (by omega) (.slice E0 g0 f0) (.slice E1 g1 f1) (.slice E2 g2 f2) (.slice E3 g3 f3) (.int .i64 p) (.slice E4 g4 f4) (.int .i64 a) (.slice E5 g5 f5) (.int .i64 i) (.bool true)
    obtain ⟨⟨y0, y1, y2, y3, y4, y5, y6, y7, y8, y9⟩, ⟨yy0, yy1, yy2, yy3, yy4, yy5, yy6, yy7, yy8, yy9⟩⟩ := X1.cells
    obtain ⟨⟨h0, h1, h2, h3, h4, h5, h6, h7, h8, h9⟩, ⟨hh0, hh1, hh2, hh3, hh4, hh5, hh6, hh7, hh8, hh9⟩⟩ := X2.cells
    clear x0 x1 x2 x3 x4 x5 x6 x7 x8 x9 OW HN Y X X1
    have s2 : W.heap.size ≤ ((((((((((w1.setCell ⟨w.heap.size, 0, none⟩ (.slice E0 g0 f0)).setCell ⟨w.heap.size, 1, none⟩ (.slice E1 g1 f1)).setCell ⟨w.heap.size, 2, none⟩ (.slice E2 g2 f2)).setCell ⟨w.heap.size, 3, none⟩ (.slice E3 g3 f3)).setCell ⟨w.heap.size, 4, none⟩ (.int .i64 p)).setCell ⟨w.heap.size, 5, none⟩ (.slice E4 g4 f4)).setCell ⟨w.heap.size, 6, none⟩ (.int .i64 a)).setCell ⟨w.heap.size, 7, none⟩ (.slice E5 g5 f5)).setCell ⟨w.heap.size, 8, none⟩ (.int .i64 i)).setCell ⟨w.heap.size, 9, none⟩ (.bool true)).heap.size := by simp only [setSize]; exact s1
    go_wp2_with fail
    generalize ((((((((((w1.setCell ⟨w.heap.size, 0, none⟩ (.slice E0 g0 f0)).setCell ⟨w.heap.size, 1, none⟩ (.slice E1 g1 f1)).setCell ⟨w.heap.size, 2, none⟩ (.slice E2 g2 f2)).setCell ⟨w.heap.size, 3, none⟩ (.slice E3 g3 f3)).setCell ⟨w.heap.size, 4, none⟩ (.int .i64 p)).setCell ⟨w.heap.size, 5, none⟩ (.slice E4 g4 f4)).setCell ⟨w.heap.size, 6, none⟩ (.int .i64 a)).setCell ⟨w.heap.size, 7, none⟩ (.slice E5 g5 f5)).setCell ⟨w.heap.size, 8, none⟩ (.int .i64 i)).setCell ⟨w.heap.size, 9, none⟩ (.bool true)) = W2 at X2 Y2 HN2 B2 s2 h0 h1 h2 h3 h4 h5 h6 h7 h8 h9 hh0 hh1 hh2 hh3 hh4 hh5 hh6 hh7 hh8 hh9 ⊢
    clear y0 y1 y2 y3 y4 y5 y6 y7 y8 y9 yy0 yy1 yy2 yy3 yy4 yy5 yy6 yy7 yy8 yy9
    have V := specBothValid_any W2 W.heap.size _ _ HN2
    rw [eb] at V
    unfold RetB at V
    refine V.mono ?_; rintro e w3 ⟨rfl, hb3⟩
    have s3 := hb3.size
    have X3 := X2.below hb3
    have Y3 := Y2.below hb3
    have HN3 := HN2.below hb3
    have B3 := B2.trans (hb3.mono B2.size)
    obtain ⟨⟨x0, x1, x2, x3, x4, x5, x6, x7, x8, x9⟩, ⟨xx0, xx1, xx2, xx3, xx4, xx5, xx6, xx7, xx8, xx9⟩⟩ := X3.cells
    obtain ⟨⟨q0, q1, q2, q3, q4, q5, q6, q7, q8, q9⟩, ⟨qq0, qq1, qq2, qq3, qq4, qq5, qq6, qq7, qq8, qq9⟩⟩ := Y3.cells
    clear h0 h1 h2 h3 h4 h5 h6 h7 h8 h9 hh0 hh1 hh2 hh3 hh4 hh5 hh6 hh7 hh8 hh9 X2 Y2 HN2 B2 V
    go_wp2_with fail
    have YF := Y3.set10 (.slice none 0 0) (.slice none 0 0) (.slice none 0 0) (.slice none 0 0) (.int .i64 0) (.slice none 0 0) (.int .i64 0) (.slice none 0 0) (.int .i64 0) (.bool false)
    have FF := below_set10 B3 (c := w.heap.size + 1) (by omega) (.slice none 0 0) (.slice none 0 0) (.slice none 0 0) (.slice none 0 0) (.int .i64 0) (.slice none 0 0) (.int .i64 0) (.slice none 0 0) (.int .i64 0) (.bool false)
    generalize ((((((((((w3.setCell ⟨w.heap.size + 1, 0, none⟩ (.slice none 0 0)).setCell ⟨w.heap.size + 1, 1, none⟩ (.slice none 0 0)).setCell ⟨w.heap.size + 1, 2, none⟩ (.slice none 0 0)).setCell ⟨w.heap.size + 1, 3, none⟩ (.slice none 0 0)).setCell ⟨w.heap.size + 1, 4, none⟩ (.int .i64 0)).setCell ⟨w.heap.size + 1, 5, none⟩ (.slice none 0 0)).setCell ⟨w.heap.size + 1, 6, none⟩ (.int .i64 0)).setCell ⟨w.heap.size + 1, 7, none⟩ (.slice none 0 0)).setCell ⟨w.heap.size + 1, 8, none⟩ (.int .i64 0)).setCell ⟨w.heap.size + 1, 9, none⟩ (.bool false)) = WF at YF FF ⊢
    obtain ⟨⟨v0, v1, v2, v3, v4, v5, v6, v7, v8, v9⟩, -⟩ := YF.cells
    refine bodyPost_ret (v := .tuple #[.agg #[.slice none 0 0, .slice none 0 0, .slice none 0 0, .slice none 0 0, .int .i64 0, .slice none 0 0, .int .i64 0, .slice none 0 0, .int .i64 0, .bool false], .bool false]) ?_ rfl ⟨_, rfl, Bv.zero _ _, FF⟩
    simp [results, Tryz.results18, go_sem, v0, v1, v2, v3, v4, v5, v6, v7, v8, v9]
  have hsome : stepGO ⟨C, ⟨p, cc, a⟩, os, i, false⟩ = some (stepGB ⟨C, ⟨p, cc, a⟩, os, i, false⟩) := by
    unfold stepGO; rw [eb]; rfl
  rw [hsome]
  have L := fun W lo v h => l7Gc_any W lo v ⟨C, ⟨p, cc, a⟩, os, i, false⟩ h eb rfl
  generalize stepGB ⟨C, ⟨p, cc, a⟩, os, i, false⟩ = R at L ⊢
  obtain ⟨rC, ⟨rp, rcc, ra⟩, ros, ri, rz⟩ := R
  clear hsome
  unfold NewBv at L
  go_enter Tryz.func18, Tryz.ntmps18
  go_wp2_with fail
  (try rw [hW])
  refine OW.mono ?_; rintro e w1 ⟨v1, rfl, HN, hb1⟩
  obtain ⟨E0, g0, f0, E1, g1, f1, E2, g2, f2, E3, g3, f3, E4, g4, f4, E5, g5, f5, rfl⟩ := HN.shape
  have s1 := hb1.size
  have X1 := X.below hb1
  have X2 := X1.set10 (.slice E0 g0 f0) (.slice E1 g1 f1) (.slice E2 g2 f2) (.slice E3 g3 f3) (.int .i64 p) (.slice E4 g4 f4) (.int .i64 a) (.slice E5 g5 f5) (.int .i64 i) (.bool false)
  have Y2 := (Y.below hb1).far10 hne (.slice E0 g0 f0) (.slice E1 g1 f1) (.slice E2 g2 f2) (.slice E3 g3 f3) (.int .i64 p) (.slice E4 g4 f4) (.int .i64 a) (.slice E5 g5 f5) (.int .i64 i) (.bool false)
  have HN2 := HN.low10 (c := w.heap.size) (by omega) (.slice E0 g0 f0) (.slice E1 g1 f1) (.slice E2 g2 f2) (.slice E3 g3 f3) (.int .i64 p) (.slice E4 g4 f4) (.int .i64 a) (.slice E5 g5 f5) (.int .i64 i) (.bool false)
  have B2 := below_set10 (BB.trans (hb1.mono BB.size)) (c := w.heap.size) (by omega) (.slice E0 g0 f0) (.slice E1 g1 f1) (.slice E2 g2 f2) (.slice E3 g3 f3) (.int .i64 p) (.slice E4 g4 f4) (.int .i64 a) (.slice E5 g5 f5) (.int .i64 i) (.bool false)
  obtain ⟨⟨y0, y1, y2, y3, y4, y5, y6, y7, y8, y9⟩, ⟨yy0, yy1, yy2, yy3, yy4, yy5, yy6, yy7, yy8, yy9⟩⟩ := X1.cells
  obtain ⟨⟨h0, h1, h2, h3, h4, h5, h6, h7, h8, h9⟩, ⟨hh0, hh1, hh2, hh3, hh4, hh5, hh6, hh7, hh8, hh9⟩⟩ := X2.cells
  clear x0 x1 x2 x3 x4 x5 x6 x7 x8 x9 OW HN Y X X1
  have s2 : W.heap.size ≤ ((((((((((w1.setCell ⟨w.heap.size, 0, none⟩ (.slice E0 g0 f0)).setCell ⟨w.heap.size, 1, none⟩ (.slice E1 g1 f1)).setCell ⟨w.heap.size, 2, none⟩ (.slice E2 g2 f2)).setCell ⟨w.heap.size, 3, none⟩ (.slice E3 g3 f3)).setCell ⟨w.heap.size, 4, none⟩ (.int .i64 p)).setCell ⟨w.heap.size, 5, none⟩ (.slice E4 g4 f4)).setCell ⟨w.heap.size, 6, none⟩ (.int .i64 a)).setCell ⟨w.heap.size, 7, none⟩ (.slice E5 g5 f5)).setCell ⟨w.heap.size, 8, none⟩ (.int .i64 i)).setCell ⟨w.heap.size, 9, none⟩ (.bool false)).heap.size := by simp only [setSize]; exact s1
  go_wp2_with fail
  generalize ((((((((((w1.setCell ⟨w.heap.size, 0, none⟩ (.slice E0 g0 f0)).setCell ⟨w.heap.size, 1, none⟩ (.slice E1 g1 f1)).setCell ⟨w.heap.size, 2, none⟩ (.slice E2 g2 f2)).setCell ⟨w.heap.size, 3, none⟩ (.slice E3 g3 f3)).setCell ⟨w.heap.size, 4, none⟩ (.int .i64 p)).setCell ⟨w.heap.size, 5, none⟩ (.slice E4 g4 f4)).setCell ⟨w.heap.size, 6, none⟩ (.int .i64 a)).setCell ⟨w.heap.size, 7, none⟩ (.slice E5 g5 f5)).setCell ⟨w.heap.size, 8, none⟩ (.int .i64 i)).setCell ⟨w.heap.size, 9, none⟩ (.bool false)) = W2 at X2 Y2 HN2 B2 s2 h0 h1 h2 h3 h4 h5 h6 h7 h8 h9 hh0 hh1 hh2 hh3 hh4 hh5 hh6 hh7 hh8 hh9 ⊢
  clear y0 y1 y2 y3 y4 y5 y6 y7 y8 y9 yy0 yy1 yy2 yy3 yy4 yy5 yy6 yy7 yy8 yy9
  have V := specBothValid_any W2 W.heap.size _ _ HN2
  rw [eb] at V
  unfold RetB at V
  refine V.mono ?_; rintro e w3 ⟨rfl, hb3⟩
  have s3 := hb3.size
  have X3 := X2.below hb3
  have Y3 := Y2.below hb3
  have HN3 := HN2.below hb3
  have B3 := B2.trans (hb3.mono B2.size)
  obtain ⟨⟨x0, x1, x2, x3, x4, x5, x6, x7, x8, x9⟩, ⟨xx0, xx1, xx2, xx3, xx4, xx5, xx6, xx7, xx8, xx9⟩⟩ := X3.cells
  obtain ⟨⟨q0, q1, q2, q3, q4, q5, q6, q7, q8, q9⟩, ⟨qq0, qq1, qq2, qq3, qq4, qq5, qq6, qq7, qq8, qq9⟩⟩ := Y3.cells
  clear h0 h1 h2 h3 h4 h5 h6 h7 h8 h9 hh0 hh1 hh2 hh3 hh4 hh5 hh6 hh7 hh8 hh9 X2 Y2 HN2 B2 V
  go_wp2_with fail
  refine (L _ _ _ HN3).mono ?_; rintro e w4 ⟨v2, rfl, HR, hb4⟩
  obtain ⟨D0, e0, d0, D1, e1, d1, D2, e2, d2, D3, e3, d3, D4, e4, d4, D5, e5, d5, rfl⟩ := HR.shape
  have s4 := hb4.size
  have Y4 := Y3.below hb4
  have YF := Y4.set10 (.slice D0 e0 d0) (.slice D1 e1 d1) (.slice D2 e2 d2) (.slice D3 e3 d3) (.int .i64 rp) (.slice D4 e4 d4) (.int .i64 ra) (.slice D5 e5 d5) (.int .i64 ri) (.bool rz)
  obtain ⟨HF, FF⟩ := both_done (w := w) (b := w.heap.size + 1) HR (by omega) (by omega) (B3.trans (hb4.mono B3.size)) (.slice D0 e0 d0) (.slice D1 e1 d1) (.slice D2 e2 d2) (.slice D3 e3 d3) (.int .i64 rp) (.slice D4 e4 d4) (.int .i64 ra) (.slice D5 e5 d5) (.int .i64 ri) (.bool rz)
  clear q0 q1 q2 q3 q4 q5 q6 q7 q8 q9 qq0 qq1 qq2 qq3 qq4 qq5 qq6 qq7 qq8 qq9 x0 x1 x2 x3 x4 x5 x6 x7 x8 x9 xx0 xx1 xx2 xx3 xx4 xx5 xx6 xx7 xx8 xx9 L
  obtain ⟨⟨q0, q1, q2, q3, q4, q5, q6, q7, q8, q9⟩, ⟨qq0, qq1, qq2, qq3, qq4, qq5, qq6, qq7, qq8, qq9⟩⟩ := Y4.cells
  go_wp2_with fail
  generalize ((((((((((w4.setCell ⟨w.heap.size + 1, 0, none⟩ (.slice D0 e0 d0)).setCell ⟨w.heap.size + 1, 1, none⟩ (.slice D1 e1 d1)).setCell ⟨w.heap.size + 1, 2, none⟩ (.slice D2 e2 d2)).setCell ⟨w.heap.size + 1, 3, none⟩ (.slice D3 e3 d3)).setCell ⟨w.heap.size + 1, 4, none⟩ (.int .i64 rp)).setCell ⟨w.heap.size + 1, 5, none⟩ (.slice D4 e4 d4)).setCell ⟨w.heap.size + 1, 6, none⟩ (.int .i64 ra)).setCell ⟨w.heap.size + 1, 7, none⟩ (.slice D5 e5 d5)).setCell ⟨w.heap.size + 1, 8, none⟩ (.int .i64 ri)).setCell ⟨w.heap.size + 1, 9, none⟩ (.bool rz)) = WF at YF HF FF ⊢
  obtain ⟨⟨v0, v1, v2, v3, v4, v5, v6, v7, v8, v9⟩, -⟩ := YF.cells
  refine bodyPost_ret (v := .tuple #[.agg #[.slice D0 e0 d0, .slice D1 e1 d1, .slice D2 e2 d2, .slice D3 e3 d3, .int .i64 rp, .slice D4 e4 d4, .int .i64 ra, .slice D5 e5 d5, .int .i64 ri, .bool rz], .bool true]) ?_ rfl ⟨_, rfl, HF, FF⟩
  simp [results, Tryz.results18, go_sem, v0, v1, v2, v3, v4, v5, v6, v7, v8, v9]

end Go.Proofs.YtfoimicbmkiigaaGreat

/- StepBoth of impl. -/
namespace Go.Proofs.YtfoimicbmkiigaaGreat
open Go.RowKit

set_option maxRecDepth 100000 in
set_option maxHeartbeats 8000000 in
theorem implStepBoth_any (w : World) (lo : Nat) (v : Value) (B : Bp) (h : Bv w lo v B) (b0 : B.C.h.l.length ≤ 1048576) (b1 : B.C.h.r.length ≤ 1048576) (b2 : B.C.h.t.length ≤ 1048576) (b3 : B.C.c.length ≤ 1048576) (b4 : B.G.c.length ≤ 1048576) (b5 : B.os.length ≤ 1048576) : Calls Tryz.prog 17 #[v] w (OptBv w (stepGO B)) := by
  obtain ⟨A0, n0, c0, A1, n1, c1, A2, n2, c2, A3, n3, c3, A4, n4, c4, A5, n5, c5, C, p, cc, a, os, i, z, rfl, rfl, hc, ho, ⟨l0, l1, l2, l3, l4, l5⟩, ⟨m0, m1, m2, m3, m4, m5⟩⟩ := h.open_
  have X := (Blk10.new w (.slice A0 n0 c0) (.slice A1 n1 c1) (.slice A2 n2 c2) (.slice A3 n3 c3) (.int .i64 p) (.slice A4 n4 c4) (.int .i64 a) (.slice A5 n5 c5) (.int .i64 i) (.bool z) 32).alloc (.cells #[.slice none 0 0, .slice none 0 0, .slice none 0 0, .slice none 0 0, .int .i64 0, .slice none 0 0, .int .i64 0, .slice none 0 0, .int .i64 0, .bool false] 32)
  have Y := Blk10.new_at (w := w.alloc (.cells #[.slice A0 n0 c0, .slice A1 n1 c1, .slice A2 n2 c2, .slice A3 n3 c3, .int .i64 p, .slice A4 n4 c4, .int .i64 a, .slice A5 n5 c5, .int .i64 i, .bool z] 32)) (b := w.heap.size + 1) (by simp) (.slice none 0 0) (.slice none 0 0) (.slice none 0 0) (.slice none 0 0) (.int .i64 0) (.slice none 0 0) (.int .i64 0) (.slice none 0 0) (.int .i64 0) (.bool false) 32
  have HB := (h.alloc (.cells #[.slice A0 n0 c0, .slice A1 n1 c1, .slice A2 n2 c2, .slice A3 n3 c3, .int .i64 p, .slice A4 n4 c4, .int .i64 a, .slice A5 n5 c5, .int .i64 i, .bool z] 32)).alloc (.cells #[.slice none 0 0, .slice none 0 0, .slice none 0 0, .slice none 0 0, .int .i64 0, .slice none 0 0, .int .i64 0, .slice none 0 0, .int .i64 0, .bool false] 32)
  have HC := (hc.alloc (.cells #[.slice A0 n0 c0, .slice A1 n1 c1, .slice A2 n2 c2, .slice A3 n3 c3, .int .i64 p, .slice A4 n4 c4, .int .i64 a, .slice A5 n5 c5, .int .i64 i, .bool z] 32)).alloc (.cells #[.slice none 0 0, .slice none 0 0, .slice none 0 0, .slice none 0 0, .int .i64 0, .slice none 0 0, .int .i64 0, .slice none 0 0, .int .i64 0, .bool false] 32)
  have HO := (ho.alloc (.cells #[.slice A0 n0 c0, .slice A1 n1 c1, .slice A2 n2 c2, .slice A3 n3 c3, .int .i64 p, .slice A4 n4 c4, .int .i64 a, .slice A5 n5 c5, .int .i64 i, .bool z] 32)).alloc (.cells #[.slice none 0 0, .slice none 0 0, .slice none 0 0, .slice none 0 0, .int .i64 0, .slice none 0 0, .int .i64 0, .slice none 0 0, .int .i64 0, .bool false] 32)
  have BB : Below w.heap.size w ((w.alloc (.cells #[.slice A0 n0 c0, .slice A1 n1 c1, .slice A2 n2 c2, .slice A3 n3 c3, .int .i64 p, .slice A4 n4 c4, .int .i64 a, .slice A5 n5 c5, .int .i64 i, .bool z] 32)).alloc (.cells #[.slice none 0 0, .slice none 0 0, .slice none 0 0, .slice none 0 0, .int .i64 0, .slice none 0 0, .int .i64 0, .slice none 0 0, .int .i64 0, .bool false] 32)) := ((Below.refl _ _).alloc (Nat.le_refl _) _).alloc (by simp) _
  have sz : w.heap.size + 2 ≤ ((w.alloc (.cells #[.slice A0 n0 c0, .slice A1 n1 c1, .slice A2 n2 c2, .slice A3 n3 c3, .int .i64 p, .slice A4 n4 c4, .int .i64 a, .slice A5 n5 c5, .int .i64 i, .bool z] 32)).alloc (.cells #[.slice none 0 0, .slice none 0 0, .slice none 0 0, .slice none 0 0, .int .i64 0, .slice none 0 0, .int .i64 0, .slice none 0 0, .int .i64 0, .bool false] 32)).heap.size := by simp
  clear hc ho h
  generalize hW : (w.alloc (.cells #[.slice A0 n0 c0, .slice A1 n1 c1, .slice A2 n2 c2, .slice A3 n3 c3, .int .i64 p, .slice A4 n4 c4, .int .i64 a, .slice A5 n5 c5, .int .i64 i, .bool z] 32)).alloc (.cells #[.slice none 0 0, .slice none 0 0, .slice none 0 0, .slice none 0 0, .int .i64 0, .slice none 0 0, .int .i64 0, .slice none 0 0, .int .i64 0, .bool false] 32) = W at X Y HB HC HO BB sz
  obtain ⟨⟨x0, x1, x2, x3, x4, x5, x6, x7, x8, x9⟩, -⟩ := X.cells
  have V := implBothValid_any _ lo _ _ HB
  rcases eb : bothB ⟨C, ⟨p, cc, a⟩, os, i, z⟩
  · rw [show stepGO ⟨C, ⟨p, cc, a⟩, os, i, z⟩ = none by unfold stepGO; rw [eb]; rfl]
    rw [eb] at V
    clear eb HB HC HO
    go_enter Tryz.func17, Tryz.ntmps17
    go_wp2_with fail
    (try rw [hW])
    refine V.mono ?_; rintro e w1 ⟨rfl, hb1⟩
    have s1 := hb1.size
    obtain ⟨⟨y0, y1, y2, y3, y4, y5, y6, y7, y8, y9⟩, -⟩ := (X.below hb1).cells
    obtain ⟨⟨q0, q1, q2, q3, q4, q5, q6, q7, q8, q9⟩, ⟨k0, k1, k2, k3, k4, k5, k6, k7, k8, k9⟩⟩ := (Y.below hb1).cells
    have YF := (Y.below hb1).set10 (.slice none 0 0) (.slice none 0 0) (.slice none 0 0) (.slice none 0 0) (.int .i64 0) (.slice none 0 0) (.int .i64 0) (.slice none 0 0) (.int .i64 0) (.bool false)
    have FF := below_set10 (BB.trans (hb1.mono BB.size)) (c := w.heap.size + 1) (by omega) (.slice none 0 0) (.slice none 0 0) (.slice none 0 0) (.slice none 0 0) (.int .i64 0) (.slice none 0 0) (.int .i64 0) (.slice none 0 0) (.int .i64 0) (.bool false)
    clear x0 x1 x2 x3 x4 x5 x6 x7 x8 x9 V
    go_wp2_with fail
    generalize ((((((((((w1.setCell ⟨w.heap.size + 1, 0, none⟩ (.slice none 0 0)).setCell ⟨w.heap.size + 1, 1, none⟩ (.slice none 0 0)).setCell ⟨w.heap.size + 1, 2, none⟩ (.slice none 0 0)).setCell ⟨w.heap.size + 1, 3, none⟩ (.slice none 0 0)).setCell ⟨w.heap.size + 1, 4, none⟩ (.int .i64 0)).setCell ⟨w.heap.size + 1, 5, none⟩ (.slice none 0 0)).setCell ⟨w.heap.size + 1, 6, none⟩ (.int .i64 0)).setCell ⟨w.heap.size + 1, 7, none⟩ (.slice none 0 0)).setCell ⟨w.heap.size + 1, 8, none⟩ (.int .i64 0)).setCell ⟨w.heap.size + 1, 9, none⟩ (.bool false)) = WF at YF FF ⊢
    obtain ⟨⟨v0, v1, v2, v3, v4, v5, v6, v7, v8, v9⟩, -⟩ := YF.cells
    refine bodyPost_ret (v := .tuple #[.agg #[.slice none 0 0, .slice none 0 0, .slice none 0 0, .slice none 0 0, .int .i64 0, .slice none 0 0, .int .i64 0, .slice none 0 0, .int .i64 0, .bool false], .bool false]) ?_ rfl ⟨_, rfl, Bv.zero _ _, FF⟩
    simp [results, Tryz.results17, go_sem, v0, v1, v2, v3, v4, v5, v6, v7, v8, v9]
  rw [eb] at V
  cases z
  rotate_left
  · rw [show stepGO ⟨C, ⟨p, cc, a⟩, os, i, true⟩ = none by unfold stepGO; rw [eb]; rfl]
    clear eb HB HC HO
    go_enter Tryz.func17, Tryz.ntmps17
    go_wp2_with fail
    (try rw [hW])
    refine V.mono ?_; rintro e w1 ⟨rfl, hb1⟩
    have s1 := hb1.size
    obtain ⟨⟨y0, y1, y2, y3, y4, y5, y6, y7, y8, y9⟩, -⟩ := (X.below hb1).cells
    obtain ⟨⟨q0, q1, q2, q3, q4, q5, q6, q7, q8, q9⟩, ⟨k0, k1, k2, k3, k4, k5, k6, k7, k8, k9⟩⟩ := (Y.below hb1).cells
    have YF := (Y.below hb1).set10 (.slice none 0 0) (.slice none 0 0) (.slice none 0 0) (.slice none 0 0) (.int .i64 0) (.slice none 0 0) (.int .i64 0) (.slice none 0 0) (.int .i64 0) (.bool false)
    have FF := below_set10 (BB.trans (hb1.mono BB.size)) (c := w.heap.size + 1) (by omega) (.slice none 0 0) (.slice none 0 0) (.slice none 0 0) (.slice none 0 0) (.int .i64 0) (.slice none 0 0) (.int .i64 0) (.slice none 0 0) (.int .i64 0) (.bool false)
    clear x0 x1 x2 x3 x4 x5 x6 x7 x8 x9 V
    go_wp2_with fail
    generalize ((((((((((w1.setCell ⟨w.heap.size + 1, 0, none⟩ (.slice none 0 0)).setCell ⟨w.heap.size + 1, 1, none⟩ (.slice none 0 0)).setCell ⟨w.heap.size + 1, 2, none⟩ (.slice none 0 0)).setCell ⟨w.heap.size + 1, 3, none⟩ (.slice none 0 0)).setCell ⟨w.heap.size + 1, 4, none⟩ (.int .i64 0)).setCell ⟨w.heap.size + 1, 5, none⟩ (.slice none 0 0)).setCell ⟨w.heap.size + 1, 6, none⟩ (.int .i64 0)).setCell ⟨w.heap.size + 1, 7, none⟩ (.slice none 0 0)).setCell ⟨w.heap.size + 1, 8, none⟩ (.int .i64 0)).setCell ⟨w.heap.size + 1, 9, none⟩ (.bool false)) = WF at YF FF ⊢
    obtain ⟨⟨v0, v1, v2, v3, v4, v5, v6, v7, v8, v9⟩, -⟩ := YF.cells
    refine bodyPost_ret (v := .tuple #[.agg #[.slice none 0 0, .slice none 0 0, .slice none 0 0, .slice none 0 0, .int .i64 0, .slice none 0 0, .int .i64 0, .slice none 0 0, .int .i64 0, .bool false], .bool false]) ?_ rfl ⟨_, rfl, Bv.zero _ _, FF⟩
    simp [results, Tryz.results17, go_sem, v0, v1, v2, v3, v4, v5, v6, v7, v8, v9]
  have hsome : stepGO ⟨C, ⟨p, cc, a⟩, os, i, false⟩ = some (stepGB ⟨C, ⟨p, cc, a⟩, os, i, false⟩) := by
    unfold stepGO; rw [eb]; rfl
  rw [hsome]
  obtain ⟨hg, -, -, -⟩ := bothB_iff.1 eb
  dsimp only at hg
  have hin := swI_in hg
  have hwf : (Lit.int .i64 (swI C ⟨p, cc, a⟩)).wf = true := WalkArith.wf_i64 (by have := gcB_sizes hg; omega)
  have hsw : swO C ⟨p, cc, a⟩ = swI C ⟨p, cc, a⟩ := by unfold swO; rw [if_pos hg]
  have CP := fun W lo v h => copyOfBoth_any W lo v ⟨C, ⟨p, cc, a⟩, os, i, false⟩ h b0 b1 b2 b3 b4 b5
  clear eb b0 b1 b2 b3 b4 b5 hsome hin
  unfold RetB at V
  unfold stepGB
  dsimp only
  cases hd : dokB C.h (swI C ⟨p, cc, a⟩)
  rotate_left
  · rw [if_pos rfl]
    go_enter Tryz.func17, Tryz.ntmps17
    go_wp2_with fail
    (try rw [hW])
    refine V.mono ?_; rintro e w0 ⟨rfl, hb0⟩
    have s0 := hb0.size
    have X0 := X.below hb0
    have Y0 := Y.below hb0
    have HB0 := HB.below hb0
    have BB0 := BB.trans (hb0.mono BB.size)
    clear x0 x1 x2 x3 x4 x5 x6 x7 x8 x9 V X Y HB HC HO BB
    obtain ⟨⟨x0, x1, x2, x3, x4, x5, x6, x7, x8, x9⟩, -⟩ := X0.cells
    go_wp2_with fail
    refine (CP _ lo _ HB0).mono ?_; rintro e w1 ⟨v1, rfl, HN, hb1⟩
    obtain ⟨D0, e0, d0, D1, e1, d1, D2, e2, d2, D3, e3, d3, D4, e4, d4, D5, e5, d5, rfl⟩ := HN.shape
    have s1 := hb1.size
    have CV2 := Blk10.new w1 (.slice D0 e0 d0) (.slice D1 e1 d1) (.slice D2 e2 d2) (.slice D3 e3 d3) (.int .i64 p) (.slice D4 e4 d4) (.int .i64 a) (.slice D5 e5 d5) (.int .i64 i) (.bool false) 32
    have X2 := (X0.below hb1).alloc (.cells #[.slice D0 e0 d0, .slice D1 e1 d1, .slice D2 e2 d2, .slice D3 e3 d3, .int .i64 p, .slice D4 e4 d4, .int .i64 a, .slice D5 e5 d5, .int .i64 i, .bool false] 32)
    have Y2 := (Y0.below hb1).alloc (.cells #[.slice D0 e0 d0, .slice D1 e1 d1, .slice D2 e2 d2, .slice D3 e3 d3, .int .i64 p, .slice D4 e4 d4, .int .i64 a, .slice D5 e5 d5, .int .i64 i, .bool false] 32)
    have HB2 := (HB0.below hb1).alloc (.cells #[.slice D0 e0 d0, .slice D1 e1 d1, .slice D2 e2 d2, .slice D3 e3 d3, .int .i64 p, .slice D4 e4 d4, .int .i64 a, .slice D5 e5 d5, .int .i64 i, .bool false] 32)
    have HN2 := HN.alloc (.cells #[.slice D0 e0 d0, .slice D1 e1 d1, .slice D2 e2 d2, .slice D3 e3 d3, .int .i64 p, .slice D4 e4 d4, .int .i64 a, .slice D5 e5 d5, .int .i64 i, .bool false] 32)
    have B2 := (BB0.trans (hb1.mono BB0.size)).alloc (by omega) (.cells #[.slice D0 e0 d0, .slice D1 e1 d1, .slice D2 e2 d2, .slice D3 e3 d3, .int .i64 p, .slice D4 e4 d4, .int .i64 a, .slice D5 e5 d5, .int .i64 i, .bool false] 32)
    have s2 : w1.heap.size < (w1.alloc (.cells #[.slice D0 e0 d0, .slice D1 e1 d1, .slice D2 e2 d2, .slice D3 e3 d3, .int .i64 p, .slice D4 e4 d4, .int .i64 a, .slice D5 e5 d5, .int .i64 i, .bool false] 32)).heap.size := by simp
    clear x0 x1 x2 x3 x4 x5 x6 x7 x8 x9 X0 Y0 HB0 HN CP BB0
    obtain ⟨⟨x0, x1, x2, x3, x4, x5, x6, x7, x8, x9⟩, ⟨xx0, xx1, xx2, xx3, xx4, xx5, xx6, xx7, xx8, xx9⟩⟩ := X2.cells
    go_wp2_with fail
    generalize w1.alloc (.cells #[.slice D0 e0 d0, .slice D1 e1 d1, .slice D2 e2 d2, .slice D3 e3 d3, .int .i64 p, .slice D4 e4 d4, .int .i64 a, .slice D5 e5 d5, .int .i64 i, .bool false] 32) = W2 at CV2 X2 Y2 HB2 HN2 B2 s2 x0 x1 x2 x3 x4 x5 x6 x7 x8 x9 xx0 xx1 xx2 xx3 xx4 xx5 xx6 xx7 xx8 xx9 ⊢
    have HCG : CGv W2 lo (.agg #[.slice A0 n0 c0, .slice A1 n1 c1, .slice A2 n2 c2, .slice A3 n3 c3]) (.agg #[.int .i64 p, .slice A4 n4 c4, .int .i64 a]) C ⟨p, cc, a⟩ := HB2.cg
    have HCv : Cv W2 lo (.agg #[.slice A0 n0 c0, .slice A1 n1 c1, .slice A2 n2 c2, .slice A3 n3 c3]) C := HB2.cg.cv
    have SO : ∀ w' : World, Below W2.heap.size W2 w' → w'.cell? ⟨w.heap.size, 0, none⟩ = some (.slice A0 n0 c0) ∧ w'.cell? ⟨w.heap.size, 1, none⟩ = some (.slice A1 n1 c1) ∧ w'.cell? ⟨w.heap.size, 2, none⟩ = some (.slice A2 n2 c2) ∧ w'.cell? ⟨w.heap.size, 3, none⟩ = some (.slice A3 n3 c3) ∧ w'.cell? ⟨w.heap.size, 4, none⟩ = some (.int .i64 p) ∧ w'.cell? ⟨w.heap.size, 5, none⟩ = some (.slice A4 n4 c4) ∧ w'.cell? ⟨w.heap.size, 6, none⟩ = some (.int .i64 a) := fun w' hb => by
      obtain ⟨⟨q0, q1, q2, q3, q4, q5, q6, q7, q8, q9⟩, _⟩ := (X2.below hb).cells
      exact ⟨q0, q1, q2, q3, q4, q5, q6⟩
    have HHv : Hv W2 lo (.agg #[.slice A0 n0 c0, .slice A1 n1 c1, .slice A2 n2 c2]) C.h := HB2.cg.cv.hvP
    have TSw := fun V (hV : CGv V lo (.agg #[.slice A0 n0 c0, .slice A1 n1 c1, .slice A2 n2 c2, .slice A3 n3 c3]) (.agg #[.int .i64 p, .slice A4 n4 c4, .int .i64 a]) C ⟨p, cc, a⟩) => implSwept_any V lo _ _ C ⟨p, cc, a⟩ hV
    rw [hsw] at TSw
    have TLi := fun V (hV : Hv V lo (.agg #[.slice A0 n0 c0, .slice A1 n1 c1, .slice A2 n2 c2]) C.h) => implDst_any V lo _ C.h hV _ hwf
    rw [hd] at TLi
    unfold RetI at TSw
    unfold RetIB at TLi
    go_region_held3 (fun w' => w'.cell? ⟨w.heap.size, 0, none⟩ = some (.slice A0 n0 c0) ∧ w'.cell? ⟨w.heap.size, 1, none⟩ = some (.slice A1 n1 c1) ∧ w'.cell? ⟨w.heap.size, 2, none⟩ = some (.slice A2 n2 c2) ∧ w'.cell? ⟨w.heap.size, 3, none⟩ = some (.slice A3 n3 c3) ∧ w'.cell? ⟨w.heap.size, 4, none⟩ = some (.int .i64 p) ∧ w'.cell? ⟨w.heap.size, 5, none⟩ = some (.slice A4 n4 c4) ∧ w'.cell? ⟨w.heap.size, 6, none⟩ = some (.int .i64 a))
      (((try dsimp only); (refine SO _ ?_); (repeat (with_reducible (first | exact Below.refl _ _ | exact hB4 | exact hB3 | refine B10_dr ?_ | refine B10_al ?_ _)))))
      (first
        | (go_at_call 19; (with_reducible refine Calls.mono (TSw _ ?_) ?_); (· repeat (with_reducible (first | exact HCG | refine CGv.drew ?_ | refine CGv.alloc ?_ _))); rintro e u3 ⟨rfl, hb3⟩; (have hB3 : Below W2.heap.size W2 u3 := (by refine B10_th ?_ hb3; repeat (with_reducible (first | exact Below.refl _ _ | refine B10_dr ?_ | refine B10_al ?_ _)))))
        | (go_at_call 47; (with_reducible refine Calls.mono (TLi _ ?_) ?_); (· repeat (with_reducible (first | exact HHv | refine Hv.drew ?_ | refine Hv.alloc ?_ _ | refine Hv.below ?_ hb3))); rintro e u4 ⟨rfl, hb4⟩; (have hB4 : Below W2.heap.size W2 u4 := (by refine B10_th ?_ hb4; repeat (with_reducible (first | exact Below.refl _ _ | exact hB3 | refine B10_dr ?_ | refine B10_al ?_ _)))); (obtain ⟨⟨q0, q1, q2, q3, q4, q5, q6, q7, q8, q9⟩, ⟨k0, k1, k2, k3, k4, k5, k6, k7, k8, k9⟩⟩ := (Y2.below hB4).cells); (obtain ⟨⟨c0, c1, c2, c3, c4, c5, c6, c7, c8, c9⟩, ⟨f0, f1, f2, f3, f4, f5, f6, f7, f8, f9⟩⟩ := (CV2.below hB4).cells)))
    all_goals
      (try rename_i hHeld); (try clear hHeld)
      have s4 := hB4.size
      have Y4 := (Y2.below hB4).other (p := ⟨w1.heap.size, 9, none⟩) (by show w.heap.size + 1 ≠ w1.heap.size; omega) (.bool true)
      have HN4 := Bv.lost ((HN2.below hB4).setT (CV2.below hB4) 9 (.bool true))
      have B4 := (B2.trans (hB4.mono B2.size)).setCell (p := ⟨w1.heap.size, 9, none⟩) (by show w.heap.size ≤ w1.heap.size; omega) (.bool true)
      have CV4 := (CV2.below hB4).set9 (.bool true)
      obtain ⟨⟨g0, g1, g2, g3, g4, g5, g6, g7, g8, g9⟩, ⟨gg0, gg1, gg2, gg3, gg4, gg5, gg6, gg7, gg8, gg9⟩⟩ := CV4.cells
      obtain ⟨⟨y0, y1, y2, y3, y4, y5, y6, y7, y8, y9⟩, ⟨yy0, yy1, yy2, yy3, yy4, yy5, yy6, yy7, yy8, yy9⟩⟩ := Y4.cells
      clear x0 x1 x2 x3 x4 x5 x6 x7 x8 x9 xx0 xx1 xx2 xx3 xx4 xx5 xx6 xx7 xx8 xx9 SO TSw TLi
      go_wp2_with fail
      have YF := Y4.set10 (.slice D0 e0 d0) (.slice D1 e1 d1) (.slice D2 e2 d2) (.slice D3 e3 d3) (.int .i64 p) (.slice D4 e4 d4) (.int .i64 a) (.slice D5 e5 d5) (.int .i64 i) (.bool true)
      have HF := HN4.low10 (c := w.heap.size + 1) (by omega) (.slice D0 e0 d0) (.slice D1 e1 d1) (.slice D2 e2 d2) (.slice D3 e3 d3) (.int .i64 p) (.slice D4 e4 d4) (.int .i64 a) (.slice D5 e5 d5) (.int .i64 i) (.bool true)
      have FF := below_set10 B4 (c := w.heap.size + 1) (by omega) (.slice D0 e0 d0) (.slice D1 e1 d1) (.slice D2 e2 d2) (.slice D3 e3 d3) (.int .i64 p) (.slice D4 e4 d4) (.int .i64 a) (.slice D5 e5 d5) (.int .i64 i) (.bool true)
      generalize (((((((((((u4.setCell ⟨w1.heap.size, 9, none⟩ (.bool true)).setCell ⟨w.heap.size + 1, 0, none⟩ (.slice D0 e0 d0)).setCell ⟨w.heap.size + 1, 1, none⟩ (.slice D1 e1 d1)).setCell ⟨w.heap.size + 1, 2, none⟩ (.slice D2 e2 d2)).setCell ⟨w.heap.size + 1, 3, none⟩ (.slice D3 e3 d3)).setCell ⟨w.heap.size + 1, 4, none⟩ (.int .i64 p)).setCell ⟨w.heap.size + 1, 5, none⟩ (.slice D4 e4 d4)).setCell ⟨w.heap.size + 1, 6, none⟩ (.int .i64 a)).setCell ⟨w.heap.size + 1, 7, none⟩ (.slice D5 e5 d5)).setCell ⟨w.heap.size + 1, 8, none⟩ (.int .i64 i)).setCell ⟨w.heap.size + 1, 9, none⟩ (.bool true)) = WF at YF HF FF ⊢
      obtain ⟨⟨v0, v1, v2, v3, v4, v5, v6, v7, v8, v9⟩, -⟩ := YF.cells
      refine bodyPost_ret (v := .tuple #[.agg #[.slice D0 e0 d0, .slice D1 e1 d1, .slice D2 e2 d2, .slice D3 e3 d3, .int .i64 p, .slice D4 e4 d4, .int .i64 a, .slice D5 e5 d5, .int .i64 i, .bool true], .bool true]) ?_ rfl ⟨_, rfl, HF.mono (by omega), FF⟩
      simp [results, Tryz.results17, go_sem, v0, v1, v2, v3, v4, v5, v6, v7, v8, v9]
  have hso : stepO C ⟨p, cc, a⟩ = some (stepG C ⟨p, cc, a⟩) := by unfold stepO; rw [if_pos (goB_of hg hd)]
  rw [if_neg (by decide)]
  go_enter Tryz.func17, Tryz.ntmps17
  go_wp2_with fail
  (try rw [hW])
  refine V.mono ?_; rintro e w0 ⟨rfl, hb0⟩
  have s0 := hb0.size
  have X0 := X.below hb0
  have Y0 := Y.below hb0
  have HB0 := HB.below hb0
  have BB0 := BB.trans (hb0.mono BB.size)
  clear x0 x1 x2 x3 x4 x5 x6 x7 x8 x9 V X Y HB HC HO BB
  obtain ⟨⟨x0, x1, x2, x3, x4, x5, x6, x7, x8, x9⟩, -⟩ := X0.cells
  go_wp2_with fail
  refine (CP _ lo _ HB0).mono ?_; rintro e w1 ⟨v1, rfl, HN, hb1⟩
  obtain ⟨D0, e0, d0, D1, e1, d1, D2, e2, d2, D3, e3, d3, D4, e4, d4, D5, e5, d5, rfl⟩ := HN.shape
  have s1 := hb1.size
  have CV2 := Blk10.new w1 (.slice D0 e0 d0) (.slice D1 e1 d1) (.slice D2 e2 d2) (.slice D3 e3 d3) (.int .i64 p) (.slice D4 e4 d4) (.int .i64 a) (.slice D5 e5 d5) (.int .i64 i) (.bool false) 32
  have X2 := (X0.below hb1).alloc (.cells #[.slice D0 e0 d0, .slice D1 e1 d1, .slice D2 e2 d2, .slice D3 e3 d3, .int .i64 p, .slice D4 e4 d4, .int .i64 a, .slice D5 e5 d5, .int .i64 i, .bool false] 32)
  have Y2 := (Y0.below hb1).alloc (.cells #[.slice D0 e0 d0, .slice D1 e1 d1, .slice D2 e2 d2, .slice D3 e3 d3, .int .i64 p, .slice D4 e4 d4, .int .i64 a, .slice D5 e5 d5, .int .i64 i, .bool false] 32)
  have HB2 := (HB0.below hb1).alloc (.cells #[.slice D0 e0 d0, .slice D1 e1 d1, .slice D2 e2 d2, .slice D3 e3 d3, .int .i64 p, .slice D4 e4 d4, .int .i64 a, .slice D5 e5 d5, .int .i64 i, .bool false] 32)
  have HN2 := HN.alloc (.cells #[.slice D0 e0 d0, .slice D1 e1 d1, .slice D2 e2 d2, .slice D3 e3 d3, .int .i64 p, .slice D4 e4 d4, .int .i64 a, .slice D5 e5 d5, .int .i64 i, .bool false] 32)
  have B2 := (BB0.trans (hb1.mono BB0.size)).alloc (by omega) (.cells #[.slice D0 e0 d0, .slice D1 e1 d1, .slice D2 e2 d2, .slice D3 e3 d3, .int .i64 p, .slice D4 e4 d4, .int .i64 a, .slice D5 e5 d5, .int .i64 i, .bool false] 32)
  have s2 : w1.heap.size < (w1.alloc (.cells #[.slice D0 e0 d0, .slice D1 e1 d1, .slice D2 e2 d2, .slice D3 e3 d3, .int .i64 p, .slice D4 e4 d4, .int .i64 a, .slice D5 e5 d5, .int .i64 i, .bool false] 32)).heap.size := by simp
  clear x0 x1 x2 x3 x4 x5 x6 x7 x8 x9 X0 Y0 HB0 HN CP BB0
  obtain ⟨⟨x0, x1, x2, x3, x4, x5, x6, x7, x8, x9⟩, ⟨xx0, xx1, xx2, xx3, xx4, xx5, xx6, xx7, xx8, xx9⟩⟩ := X2.cells
  go_wp2_with fail
  generalize w1.alloc (.cells #[.slice D0 e0 d0, .slice D1 e1 d1, .slice D2 e2 d2, .slice D3 e3 d3, .int .i64 p, .slice D4 e4 d4, .int .i64 a, .slice D5 e5 d5, .int .i64 i, .bool false] 32) = W2 at CV2 X2 Y2 HB2 HN2 B2 s2 x0 x1 x2 x3 x4 x5 x6 x7 x8 x9 xx0 xx1 xx2 xx3 xx4 xx5 xx6 xx7 xx8 xx9 ⊢
  have HCG : CGv W2 lo (.agg #[.slice A0 n0 c0, .slice A1 n1 c1, .slice A2 n2 c2, .slice A3 n3 c3]) (.agg #[.int .i64 p, .slice A4 n4 c4, .int .i64 a]) C ⟨p, cc, a⟩ := HB2.cg
  have HCv : Cv W2 lo (.agg #[.slice A0 n0 c0, .slice A1 n1 c1, .slice A2 n2 c2, .slice A3 n3 c3]) C := HB2.cg.cv
  have SO : ∀ w' : World, Below W2.heap.size W2 w' → w'.cell? ⟨w.heap.size, 0, none⟩ = some (.slice A0 n0 c0) ∧ w'.cell? ⟨w.heap.size, 1, none⟩ = some (.slice A1 n1 c1) ∧ w'.cell? ⟨w.heap.size, 2, none⟩ = some (.slice A2 n2 c2) ∧ w'.cell? ⟨w.heap.size, 3, none⟩ = some (.slice A3 n3 c3) ∧ w'.cell? ⟨w.heap.size, 4, none⟩ = some (.int .i64 p) ∧ w'.cell? ⟨w.heap.size, 5, none⟩ = some (.slice A4 n4 c4) ∧ w'.cell? ⟨w.heap.size, 6, none⟩ = some (.int .i64 a) := fun w' hb => by
    obtain ⟨⟨q0, q1, q2, q3, q4, q5, q6, q7, q8, q9⟩, _⟩ := (X2.below hb).cells
    exact ⟨q0, q1, q2, q3, q4, q5, q6⟩
  have HHv : Hv W2 lo (.agg #[.slice A0 n0 c0, .slice A1 n1 c1, .slice A2 n2 c2]) C.h := HB2.cg.cv.hvP
  have TSw := fun V (hV : CGv V lo (.agg #[.slice A0 n0 c0, .slice A1 n1 c1, .slice A2 n2 c2, .slice A3 n3 c3]) (.agg #[.int .i64 p, .slice A4 n4 c4, .int .i64 a]) C ⟨p, cc, a⟩) => implSwept_any V lo _ _ C ⟨p, cc, a⟩ hV
  rw [hsw] at TSw
  have TLi := fun V (hV : Hv V lo (.agg #[.slice A0 n0 c0, .slice A1 n1 c1, .slice A2 n2 c2]) C.h) => implDst_any V lo _ C.h hV _ hwf
  rw [hd] at TLi
  unfold RetI at TSw
  unfold RetIB at TLi
  go_region_held3 (fun w' => w'.cell? ⟨w.heap.size, 0, none⟩ = some (.slice A0 n0 c0) ∧ w'.cell? ⟨w.heap.size, 1, none⟩ = some (.slice A1 n1 c1) ∧ w'.cell? ⟨w.heap.size, 2, none⟩ = some (.slice A2 n2 c2) ∧ w'.cell? ⟨w.heap.size, 3, none⟩ = some (.slice A3 n3 c3) ∧ w'.cell? ⟨w.heap.size, 4, none⟩ = some (.int .i64 p) ∧ w'.cell? ⟨w.heap.size, 5, none⟩ = some (.slice A4 n4 c4) ∧ w'.cell? ⟨w.heap.size, 6, none⟩ = some (.int .i64 a))
    (((try dsimp only); (refine SO _ ?_); (repeat (with_reducible (first | exact Below.refl _ _ | exact hB4 | exact hB3 | refine B10_dr ?_ | refine B10_al ?_ _)))))
    (first
      | (go_at_call 19; (with_reducible refine Calls.mono (TSw _ ?_) ?_); (· repeat (with_reducible (first | exact HCG | refine CGv.drew ?_ | refine CGv.alloc ?_ _))); rintro e u3 ⟨rfl, hb3⟩; (have hB3 : Below W2.heap.size W2 u3 := (by refine B10_th ?_ hb3; repeat (with_reducible (first | exact Below.refl _ _ | refine B10_dr ?_ | refine B10_al ?_ _)))))
      | (go_at_call 47; (with_reducible refine Calls.mono (TLi _ ?_) ?_); (· repeat (with_reducible (first | exact HHv | refine Hv.drew ?_ | refine Hv.alloc ?_ _ | refine Hv.below ?_ hb3))); rintro e u4 ⟨rfl, hb4⟩; (have hB4 : Below W2.heap.size W2 u4 := (by refine B10_th ?_ hb4; repeat (with_reducible (first | exact Below.refl _ _ | exact hB3 | refine B10_dr ?_ | refine B10_al ?_ _)))); (obtain ⟨⟨q0, q1, q2, q3, q4, q5, q6, q7, q8, q9⟩, ⟨k0, k1, k2, k3, k4, k5, k6, k7, k8, k9⟩⟩ := (Y2.below hB4).cells); (obtain ⟨⟨c0, c1, c2, c3, c4, c5, c6, c7, c8, c9⟩, ⟨f0, f1, f2, f3, f4, f5, f6, f7, f8, f9⟩⟩ := (CV2.below hB4).cells)))
  all_goals
    (try rename_i hHeld); (try clear hHeld)
    have TT := implStepGc_any u4 lo _ _ C ⟨p, cc, a⟩ (HCG.below hB4)
    unfold OptCG at TT
    rw [hso] at TT
    dsimp only [Option.isSome_some, Option.getD_some] at TT
    generalize hst : stepG C ⟨p, cc, a⟩ = SG at TT ⊢
    obtain ⟨C2, p2, cc2, a2⟩ := SG
    dsimp only at TT ⊢
    have s4 := hB4.size
    have HN4 := HN2.below hB4
    have B4 := B2.trans (hB4.mono B2.size)
    have Y4 := Y2.below hB4
    have CV4 := CV2.below hB4
    clear x0 x1 x2 x3 x4 x5 x6 x7 x8 x9 xx0 xx1 xx2 xx3 xx4 xx5 xx6 xx7 xx8 xx9 SO TSw TLi
    obtain ⟨⟨x0, x1, x2, x3, x4, x5, x6, x7, x8, x9⟩, ⟨xx0, xx1, xx2, xx3, xx4, xx5, xx6, xx7, xx8, xx9⟩⟩ := (X2.below hB4).cells
    go_wp2_with fail
    refine TT.mono ?_; rintro e w5 ⟨vs, vg, rfl, K, hb5⟩
    obtain ⟨S0, t0, r0, S1, t1, r1, S2, t2, r2, S3, t3, r3, S4, t4, r4, p2', cc2', a2', eG, rfl, rfl, _⟩ := CGv.open_ K
    cases eG
    have s5 := hb5.size
    have HN5 := HN4.below hb5
    have K5 := K
    have B5 := B4.trans (hb5.mono B4.size)
    have Y5 := Y4.below hb5
    have CV5 := CV4.below hb5
    clear x0 x1 x2 x3 x4 x5 x6 x7 x8 x9 xx0 xx1 xx2 xx3 xx4 xx5 xx6 xx7 xx8 xx9 q0 q1 q2 q3 q4 q5 q6 q7 q8 q9 k0 k1 k2 k3 k4 k5 k6 k7 k8 k9 c0 c1 c2 c3 c4 c5 c6 c7 c8 c9 f0 f1 f2 f3 f4 f5 f6 f7 f8 f9 TT
    obtain ⟨⟨g0, g1, g2, g3, g4, g5, g6, g7, g8, g9⟩, ⟨gg0, gg1, gg2, gg3, gg4, gg5, gg6, gg7, gg8, gg9⟩⟩ := CV5.cells
    obtain ⟨⟨y0, y1, y2, y3, y4, y5, y6, y7, y8, y9⟩, ⟨yy0, yy1, yy2, yy3, yy4, yy5, yy6, yy7, yy8, yy9⟩⟩ := Y5.cells
    have HNB := Bv.withCG HN5 (K5.mono (by omega))
    have H0 := HNB
    have C0 := CV5
    have H1 := H0.setT C0 0 (.slice S0 t0 r0)
    have C1 := C0.set0 (.slice S0 t0 r0)
    have H2 := H1.setT C1 1 (.slice S1 t1 r1)
    have C2 := C1.set1 (.slice S1 t1 r1)
    have H3 := H2.setT C2 2 (.slice S2 t2 r2)
    have C3 := C2.set2 (.slice S2 t2 r2)
    have H4 := H3.setT C3 3 (.slice S3 t3 r3)
    have C4 := C3.set3 (.slice S3 t3 r3)
    have H5 := H4.setT C4 4 (.int .i64 p2)
    have C5 := C4.set4 (.int .i64 p2)
    have H6 := H5.setT C5 5 (.slice S4 t4 r4)
    have C6 := C5.set5 (.slice S4 t4 r4)
    have H7 := H6.setT C6 6 (.int .i64 a2)
    have C7 := C6.set6 (.int .i64 a2)
    have Y6 := Y5.far4 (c := w1.heap.size) (by omega) (.slice S0 t0 r0) (.slice S1 t1 r1) (.slice S2 t2 r2) (.slice S3 t3 r3)
    have Y7 := Y6.far3 (c := w1.heap.size) (by omega) (.int .i64 p2) (.slice S4 t4 r4) (.int .i64 a2)
    have B7 := below_set3b (below_set4b B5 (c := w1.heap.size) (by omega) (.slice S0 t0 r0) (.slice S1 t1 r1) (.slice S2 t2 r2) (.slice S3 t3 r3)) (c := w1.heap.size) (by omega) (.int .i64 p2) (.slice S4 t4 r4) (.int .i64 a2)
    have s7 : w1.heap.size < w5.heap.size := by omega
    clear K5 HN5 B5 HN4 B4 Y4 CV4 HCG HCv hb5 X2 CV2 Y2 HB2 HN2 B2
    obtain ⟨⟨h0, h1, h2, h3, h4, h5, h6, h7, h8, h9⟩, ⟨hh0, hh1, hh2, hh3, hh4, hh5, hh6, hh7, hh8, hh9⟩⟩ := C4.cells
    obtain ⟨⟨o0, o1, o2, o3, o4, o5, o6, o7, o8, o9⟩, -⟩ := C7.cells
    obtain ⟨⟨m0, m1, m2, m3, m4, m5, m6, m7, m8, m9⟩, ⟨mm0, mm1, mm2, mm3, mm4, mm5, mm6, mm7, mm8, mm9⟩⟩ := Y7.cells
    go_wp2_with fail
    have YF := Y7.set10 (.slice S0 t0 r0) (.slice S1 t1 r1) (.slice S2 t2 r2) (.slice S3 t3 r3) (.int .i64 p2) (.slice S4 t4 r4) (.int .i64 a2) (.slice D5 e5 d5) (.int .i64 i) (.bool false)
    have HF := H7.low10 (c := w.heap.size + 1) (by omega) (.slice S0 t0 r0) (.slice S1 t1 r1) (.slice S2 t2 r2) (.slice S3 t3 r3) (.int .i64 p2) (.slice S4 t4 r4) (.int .i64 a2) (.slice D5 e5 d5) (.int .i64 i) (.bool false)
    have FF := below_set10 B7 (c := w.heap.size + 1) (by omega) (.slice S0 t0 r0) (.slice S1 t1 r1) (.slice S2 t2 r2) (.slice S3 t3 r3) (.int .i64 p2) (.slice S4 t4 r4) (.int .i64 a2) (.slice D5 e5 d5) (.int .i64 i) (.bool false)
    generalize (((((((((((((((((w5.setCell ⟨w1.heap.size, 0, none⟩ (.slice S0 t0 r0)).setCell ⟨w1.heap.size, 1, none⟩ (.slice S1 t1 r1)).setCell ⟨w1.heap.size, 2, none⟩ (.slice S2 t2 r2)).setCell ⟨w1.heap.size, 3, none⟩ (.slice S3 t3 r3)).setCell ⟨w1.heap.size, 4, none⟩ (.int .i64 p2)).setCell ⟨w1.heap.size, 5, none⟩ (.slice S4 t4 r4)).setCell ⟨w1.heap.size, 6, none⟩ (.int .i64 a2)).setCell ⟨w.heap.size + 1, 0, none⟩ (.slice S0 t0 r0)).setCell ⟨w.heap.size + 1, 1, none⟩ (.slice S1 t1 r1)).setCell ⟨w.heap.size + 1, 2, none⟩ (.slice S2 t2 r2)).setCell ⟨w.heap.size + 1, 3, none⟩ (.slice S3 t3 r3)).setCell ⟨w.heap.size + 1, 4, none⟩ (.int .i64 p2)).setCell ⟨w.heap.size + 1, 5, none⟩ (.slice S4 t4 r4)).setCell ⟨w.heap.size + 1, 6, none⟩ (.int .i64 a2)).setCell ⟨w.heap.size + 1, 7, none⟩ (.slice D5 e5 d5)).setCell ⟨w.heap.size + 1, 8, none⟩ (.int .i64 i)).setCell ⟨w.heap.size + 1, 9, none⟩ (.bool false)) = WF at YF HF FF ⊢
    obtain ⟨⟨v0, v1, v2, v3, v4, v5, v6, v7, v8, v9⟩, -⟩ := YF.cells
    have HG9 : Bv WF w.heap.size (.agg #[.slice S0 t0 r0, .slice S1 t1 r1, .slice S2 t2 r2, .slice S3 t3 r3, .int .i64 p2, .slice S4 t4 r4, .int .i64 a2, .slice D5 e5 d5, .int .i64 i, .bool false]) ⟨(stepG C ⟨p, cc, a⟩).1, (stepG C ⟨p, cc, a⟩).2, os, i, false⟩ := by rw [hst]; exact HF.mono (show w.heap.size ≤ w0.heap.size by omega)
    refine bodyPost_ret (v := .tuple #[.agg #[.slice S0 t0 r0, .slice S1 t1 r1, .slice S2 t2 r2, .slice S3 t3 r3, .int .i64 p2, .slice S4 t4 r4, .int .i64 a2, .slice D5 e5 d5, .int .i64 i, .bool false], .bool true]) ?_ rfl ⟨_, rfl, HG9, FF⟩
    simp [results, Tryz.results17, go_sem, v0, v1, v2, v3, v4, v5, v6, v7, v8, v9]

end Go.Proofs.YtfoimicbmkiigaaGreat

