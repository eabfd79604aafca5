/- MarkAll of spec. -/
import Derived.Test.YtmngkjcdaaladaaSStep
import Derived.Deep.LoopGhost
namespace Go.Proofs.Ytmngkjcdaaladaa
open Go.RowKit

theorem count_set2 : ∀ (c : List Int) (k : Nat) (x y : Int), c[k]? = some x → (c.set k y).count 2 + (if x = 2 then 1 else 0) = c.count 2 + (if y = 2 then 1 else 0)
  | [], _, _, _, h => by simp at h
  | a :: r, 0, x, y, h => by
    simp at h; subst h
    simp only [List.set_cons_zero, List.count_cons, beq_iff_eq]; omega
  | a :: r, k + 1, x, y, h => by
    have ih := count_set2 r k x y (by simpa using h)
    simp only [List.set_cons_succ, List.count_cons]; omega
theorem shade_count (c : List Int) (k : Int) : (shade c k).count 2 = c.count 2 := by
  unfold shade
  split
  · rename_i h
    have := count_set2 c k.toNat 0 1 h.2
    simpa using this
  · rfl
theorem shade_keep {c : List Int} {j : Nat} (k : Int) (h : c[j]? = some 1) : (shade c k)[j]? = some 1 := by
  unfold shade
  split
  · rename_i h9
    rw [List.getElem?_set_ne (fun e => by rw [e, h] at h9; simp at h9)]; exact h
  · exact h
theorem black_count {c : List Int} {k : Nat} (h : Hp) (hk : c[k]? = some 1) : (blackC h c k).count 2 = c.count 2 + 1 := by
  have h1 := count_set2 (shade (shade c (h.l.getD k 0)) (h.r.getD k 0)) k 1 2 (shade_keep _ (shade_keep _ hk))
  rw [shade_count, shade_count] at h1
  simpa [blackC] using h1
def allN (h : Hp) : Nat → List Int → List Int
  | 0, c => c
  | n + 1, c => if firstOf c 1 = -1 then c else allN h n (blackC h c (firstOf c 1).toNat)
/-- What is left when no cell is gray. -/
def allL (h : Hp) (c : List Int) : List Int := allN h (c.length - c.count 2) c
theorem all_done {h : Hp} {c : List Int} (e : firstOf c 1 = -1) : allL h c = c := by
  unfold allL
  cases c.length - c.count 2 with
  | zero => rfl
  | succ n => simp [allN, e]
theorem black_less {c : List Int} {k : Nat} (h : Hp) (hk : c[k]? = some 1) : (blackC h c k).length - (blackC h c k).count 2 + 1 = c.length - c.count 2 := by
  have h1 := black_count h hk
  have h2 : (blackC h c k).count 2 ≤ (blackC h c k).length := List.count_le_length
  have h3 := blackC_len h c k
  omega
theorem all_step {h : Hp} {c : List Int} {k : Nat} (e : firstOf c 1 = k) (hk : c[k]? = some 1) : allL h (blackC h c k) = allL h c := by
  have h1 := black_less h hk
  unfold allL
  rw [← h1]
  show _ = if firstOf c 1 = -1 then c else allN h ((blackC h c k).length - (blackC h c k).count 2) (blackC h c (firstOf c 1).toNat)
  rw [if_neg (by omega), e]; rfl
def allO (C : Cp) : Option Cp := if cvB C = true then some ⟨C.h, allL C.h C.c⟩ else none
theorem cvB_black {h : Hp} {c : List Int} (k : Nat) (hc : cvB ⟨h, c⟩ = true) : cvB ⟨h, blackC h c k⟩ = true := by
  obtain ⟨h1, h2, h3⟩ := cvB_parts hc
  simp only [cvB, Bool.and_eq_true, decide_eq_true_eq, List.all_eq_true, colB]
  exact ⟨⟨h1, by rw [blackC_len]; exact h2⟩, blackC_valid h k h3⟩
theorem Cv.set_far {w : World} {lo : Nat} {v0 v1 v2 v3 : Value} {C : Cp} (hv : Cv w lo (.agg #[v0, v1, v2, v3]) C) {p : Addr} (f : v0.ownBlock ≠ some p.block ∧ v1.ownBlock ≠ some p.block ∧ v2.ownBlock ≠ some p.block ∧ v3.ownBlock ≠ some p.block) (u : Value) : Cv (w.setCell p u) lo (.agg #[v0, v1, v2, v3]) C := by
  obtain ⟨_, _, _, _, e, ⟨_, _, _, e', r0, r1, r2, a⟩, r3, b⟩ := hv
  cases e; cases e'
  exact ⟨_, _, _, _, rfl, ⟨_, _, _, rfl, r0.other f.1 u, r1.other f.2.1 u, r2.other f.2.2.1 u, a⟩, r3.other f.2.2.2 u, b⟩
theorem Blk4.set4 {w : World} {b : Nat} {x y z u : Value} {t : TypeId} (h : Blk4 w b x y z u t) (x' y' z' u' : Value) : Blk4 ((((w.setCell ⟨b, 0, none⟩ x').setCell ⟨b, 1, none⟩ y').setCell ⟨b, 2, none⟩ z').setCell ⟨b, 3, none⟩ u') b x' y' z' u' t := by
  unfold Blk4 at h ⊢; simp [World.setCell, Array.getElem?_modify, h]

set_option maxRecDepth 100000 in
set_option maxHeartbeats 3000000 in
theorem specMarkAll_any (w : World) (lo : Nat) (v : Value) (C : Cp) (hv : Cv w lo v C) :
    Calls Try.prog 24 #[v] w (OptCv w (allO C)) := by
  have hvo := hv
  obtain ⟨A0, n0, c0, A1, n1, c1, A2, n2, c2, A3, n3, c3, rfl, hh, _, ⟨l0, l1, l2, l3⟩, _⟩ := hvo.open_
  have P := Blk4.new w (.slice A0 n0 c0) (.slice A1 n1 c1) (.slice A2 n2 c2) (.slice A3 n3 c3) 27
  have X := P.alloc (.cells #[.slice none 0 0, .slice none 0 0, .slice none 0 0, .slice none 0 0] 27)
  have Y := Blk4.new_at (w := w.alloc (.cells #[.slice A0 n0 c0, .slice A1 n1 c1, .slice A2 n2 c2, .slice A3 n3 c3] 27)) (b := w.heap.size + 1) (by simp) (.slice none 0 0) (.slice none 0 0) (.slice none 0 0) (.slice none 0 0) 27
  have VV := (hv.alloc (.cells #[.slice A0 n0 c0, .slice A1 n1 c1, .slice A2 n2 c2, .slice A3 n3 c3] 27)).alloc (.cells #[.slice none 0 0, .slice none 0 0, .slice none 0 0, .slice none 0 0] 27)
  have HH := (hh.alloc (.cells #[.slice A0 n0 c0, .slice A1 n1 c1, .slice A2 n2 c2, .slice A3 n3 c3] 27)).alloc (.cells #[.slice none 0 0, .slice none 0 0, .slice none 0 0, .slice none 0 0] 27)
  have BB : Below w.heap.size w ((w.alloc (.cells #[.slice A0 n0 c0, .slice A1 n1 c1, .slice A2 n2 c2, .slice A3 n3 c3] 27)).alloc (.cells #[.slice none 0 0, .slice none 0 0, .slice none 0 0, .slice none 0 0] 27)) := ((Below.refl _ _).alloc (Nat.le_refl _) _).alloc (by simp) _
  have sz : ((w.alloc (.cells #[.slice A0 n0 c0, .slice A1 n1 c1, .slice A2 n2 c2, .slice A3 n3 c3] 27)).alloc (.cells #[.slice none 0 0, .slice none 0 0, .slice none 0 0, .slice none 0 0] 27)).heap.size = w.heap.size + 2 := by simp
  go_enter Try.func24, Try.ntmps24
  go_wp2_with fail
  generalize (w.alloc (.cells #[.slice A0 n0 c0, .slice A1 n1 c1, .slice A2 n2 c2, .slice A3 n3 c3] 27)).alloc (.cells #[.slice none 0 0, .slice none 0 0, .slice none 0 0, .slice none 0 0] 27) = W at X Y VV HH BB sz ⊢
  obtain ⟨x0, x1, x2, x3, _⟩ := X.cells
  have V := specColoredValid_any _ _ _ _ VV
  rcases ev : cvB C
  · rw [ev] at V
    have hf : Hid (allO C = none) := by unfold Hid allO; rw [ev]; simp
    go_wp2_with fail
    refine V.mono ?_; rintro e w1 ⟨rfl, hb1⟩
    obtain ⟨y0, y1, y2, y3, f0, f1, f2, f3⟩ := (Y.below hb1).cells
    obtain ⟨hZ, hB⟩ := zero_done (w := w) (b := w.heap.size + 1) (by omega) (BB.trans (hb1.mono (by omega)))
    go_wp2_with fail
    rw [hf.out]
    refine bodyPost_ret (v := .tuple #[.agg #[.slice none 0 0, .slice none 0 0, .slice none 0 0, .slice none 0 0], .bool false]) ?_ rfl ⟨_, rfl, hZ, hB⟩
    simp [results, Try.results24, go_sem, y0, y1, y2, y3]
  · rw [ev] at V
    have hf : Hid (allO C = some ⟨C.h, allL C.h C.c⟩) := by unfold Hid allO; rw [if_pos ev]
    obtain ⟨hvh, hlen, _⟩ := cvB_parts ev
    have h1n := hvB_len hvh
    go_wp2_with fail
    refine V.mono ?_; rintro e w2 ⟨rfl, hb2⟩
    have X2 := X.below hb2
    have B2 := BB.trans (hb2.mono (by omega))
    have Y2 := Y.below hb2
    have Cc := l3Copy_any w2 _ _ _ (VV.below hb2) ev
    have z2 : w.heap.size + 2 ≤ w2.heap.size := by have := hb2.size; omega
    obtain ⟨q0, q1, q2, q3, _⟩ := X2.cells
    clear V x0 x1 x2 x3 VV hb2 X Y
    go_wp2_with fail
    refine Cc.mono ?_; rintro e w3 ⟨vv, rfl, hD, hb3⟩
    have hDo := hD
    obtain ⟨D0, m0, d0, D1, m1, d1, D2, m2, d2, D3, m3, d3, rfl, _, ⟨s0, s1, s2, s3⟩, ⟨_, _, _, t3⟩, _⟩ := hDo.open_
    have t3' := t3.out
    obtain ⟨g, rfl, hlg, hg⟩ := s3.at_ (k := 0) (by omega)
    have z3 := hb3.size
    obtain ⟨Bk, hBk⟩ : ∃ Bk, Bk = w3.heap.size := ⟨_, rfl⟩
    have B3 := (B2.trans (hb3.mono (by omega))).alloc (Nat.le_trans B2.size z3) (.cells #[.slice D0 m0 d0, .slice D1 m1 d1, .slice D2 m2 d2, .slice (some ⟨g, 0, none⟩) m3 d3] 27)
    have Y3 := (Y2.below hb3).alloc (.cells #[.slice D0 m0 d0, .slice D1 m1 d1, .slice D2 m2 d2, .slice (some ⟨g, 0, none⟩) m3 d3] 27)
    have Z3 := Blk4.new_at (w := w3) hBk (.slice D0 m0 d0) (.slice D1 m1 d1) (.slice D2 m2 d2) (.slice (some ⟨g, 0, none⟩) m3 d3) 27
    have V3 := hD.alloc (.cells #[.slice D0 m0 d0, .slice D1 m1 d1, .slice D2 m2 d2, .slice (some ⟨g, 0, none⟩) m3 d3] 27)
    have ff := And.intro (s0.nown (b := Bk) (by omega)) (And.intro (s1.nown (b := Bk) (by omega)) (And.intro (s2.nown (b := Bk) (by omega)) (s3.nown (b := Bk) (by omega))))
    clear hb3 B2 X2 Y2 q0 q1 q2 q3 Cc hD hDo s0 s1 s2 s3 t3
    go_wp2_with fail
    generalize w3.alloc (.cells #[.slice D0 m0 d0, .slice D1 m1 d1, .slice D2 m2 d2, .slice (some ⟨g, 0, none⟩) m3 d3] 27) = W3 at *
    rw [← hBk]
    rw [← hBk] at z3 hg
    clear hBk
    go_loopg [11] (C.c.length - C.c.count 2) (fun gk _ wr => ∃ cur : List Int, Blk4 wr (w.heap.size + 1) (.slice none 0 0) (.slice none 0 0) (.slice none 0 0) (.slice none 0 0) 27 ∧ Blk4 wr Bk (.slice D0 m0 d0) (.slice D1 m1 d1) (.slice D2 m2 d2) (.slice (some ⟨g, 0, none⟩) m3 d3) 27 ∧ Cv wr w2.heap.size (.agg #[.slice D0 m0 d0, .slice D1 m1 d1, .slice D2 m2 d2, .slice (some ⟨g, 0, none⟩) m3 d3]) ⟨C.h, cur⟩ ∧ Hid (cvB ⟨C.h, cur⟩ = true) ∧ Hid (allL C.h cur = allL C.h C.c) ∧ Hid (gk = cur.length - cur.count 2) ∧ Below w.heap.size w wr)
    case atStart => exact ⟨C.c, Y3, Z3, V3, ev, rfl, rfl, B3⟩
    case round =>
      clear Y3 Z3 V3 B3
      obtain ⟨cur, Y3, Z3, V3, hcv, hal, hgk, B3⟩ := hrel
      obtain ⟨z0, z1, z2', z3', h0, h1, h2, h3⟩ := Z3.cells
      have F := l3First_any wr _ _ _ V3 1
      rcases first_cases cur 1 with e1 | ⟨j, e1, hj, hjc⟩
      · simp only at F
        rw [e1] at F
        go_wp2_with fail
        refine F.mono ?_; rintro e w4 ⟨rfl, hb4⟩
        have CC0 := V3.below hb4
        have hfin : allL C.h C.c = cur := by rw [← hal.out]; exact all_done e1
        have CC : Cv w4 w2.heap.size (.agg #[.slice D0 m0 d0, .slice D1 m1 d1, .slice D2 m2 d2, .slice (some ⟨g, 0, none⟩) m3 d3]) ⟨C.h, allL C.h C.c⟩ := by rw [hfin]; exact CC0
        obtain ⟨y0, y1, y2, y3, f0, f1, f2, f3⟩ := (Y3.below hb4).cells
        obtain ⟨u0, u1, u2, u3, _⟩ := (Z3.below hb4).cells
        have B4 := B3.trans (hb4.mono B3.size)
        have lb : w.heap.size + 1 < w2.heap.size := by omega
        have CF := ((((CC.set_low (p := ⟨w.heap.size + 1, 0, none⟩) lb (.slice D0 m0 d0)).set_low (p := ⟨w.heap.size + 1, 1, none⟩) lb (.slice D1 m1 d1)).set_low (p := ⟨w.heap.size + 1, 2, none⟩) lb (.slice D2 m2 d2)).set_low (p := ⟨w.heap.size + 1, 3, none⟩) lb (.slice (some ⟨g, 0, none⟩) m3 d3)).mono (lo' := w.heap.size) (by omega)
        have BF := ((((B4.setCell (p := ⟨w.heap.size + 1, 0, none⟩) (by simp) (.slice D0 m0 d0)).setCell (p := ⟨w.heap.size + 1, 1, none⟩) (by simp) (.slice D1 m1 d1)).setCell (p := ⟨w.heap.size + 1, 2, none⟩) (by simp) (.slice D2 m2 d2)).setCell (p := ⟨w.heap.size + 1, 3, none⟩) (by simp) (.slice (some ⟨g, 0, none⟩) m3 d3))
        clear Y3 Z3 V3 CC CC0 B3 B4 F
        go_wp2_with fail
        rw [hf.out]
        refine bodyPost_ret (v := .tuple #[.agg #[.slice D0 m0 d0, .slice D1 m1 d1, .slice D2 m2 d2, .slice (some ⟨g, 0, none⟩) m3 d3], .bool true]) ?_ rfl ⟨_, rfl, CF, BF⟩
        simp [results, Try.results24, go_sem, y0, y1, y2, y3]
      · simp only at F
        rw [e1] at F
        go_wp2_with fail
        refine F.mono ?_; rintro e w4 ⟨rfl, hb4⟩
        have V4 := V3.below hb4
        have Y4 := Y3.below hb4
        have Z4 := Z3.below hb4
        have B4 := B3.trans (hb4.mono B3.size)
        have F4 := l3First_any w4.drew _ _ _ V4.drew 1
        simp only at F4
        rw [e1] at F4
        have nBk : Bk ≠ g := by omega
        have nb1 : w.heap.size + 1 ≠ g := by omega
        have hjC : j < (Cp.mk C.h cur).c.length := hj
        clear Y3 Z3 V3 B3 F z0 z1 z2' z3' h0 h1 h2 h3 hb4
        obtain ⟨z0, z1, z2', z3', h0, h1, h2, h3⟩ := Z4.cells
        have hcv' := hcv.out
        have nBb : w.heap.size + 1 ≠ Bk := by omega
        go_wp2_with fail
        go_region_held3 (fun w' => w'.cell? ⟨Bk, 0, none⟩ = some (.slice D0 m0 d0) ∧ w'.cell? ⟨Bk, 1, none⟩ = some (.slice D1 m1 d1) ∧ w'.cell? ⟨Bk, 2, none⟩ = some (.slice D2 m2 d2) ∧ w'.cell? ⟨Bk, 3, none⟩ = some (.slice (some ⟨g, 0, none⟩) m3 d3))
          (((try dsimp only); (repeat' apply And.intro) <;> (with_reducible (first | exact t0 | exact t1 | exact t2 | exact t3 | exact s0 | exact s1 | exact s2 | exact s3 | exact p0 | exact p1 | exact p2 | exact p3 | exact cellD z0 | exact cellD z1 | exact cellD z2' | exact cellD z3' | exact z0 | exact z1 | exact z2' | exact z3'))))
          (first
            | (go_at_call 42; (with_reducible refine F4.mono ?_); rintro e w5 ⟨rfl, hb5⟩; (have V5 := V4.drew.below hb5); (have Z5 := (Blk4.below (w := w4.drew) (by exact Z4) hb5)); (obtain ⟨p0, p1, p2, p3, _⟩ := Z5.cells))
            | (go_at_call 44; (with_reducible refine (l3Black_any w5 w2.heap.size _ _ _ _ _ _ _ _ _ _ _ _ _ V5 hcv' j hjC).mono ?_); rintro e w6 ⟨rfl, V6, hg6⟩; (have Z6 := Z5.kept hg6 nBk); (obtain ⟨s0, s1, s2, s3, k0, k1, k2, k3⟩ := Z6.cells); (obtain ⟨t0, t1, t2, t3, _⟩ := (Z6.set4 (.slice D0 m0 d0) (.slice D1 m1 d1) (.slice D2 m2 d2) (.slice (some ⟨g, 0, none⟩) m3 d3)).cells)))
        rename_i hHeld
        clear hHeld
        have Y6 := (Blk4.below (w := w4.drew) (by exact Y4) hb5).kept hg6 nb1
        have B5 := (Below.drew B4).trans (hb5.mono (Below.drew B4).size)
        have B6 := B5.trans (below_row' hg6 (by omega) B5.size)
        have Z7 := Z6.set4 (.slice D0 m0 d0) (.slice D1 m1 d1) (.slice D2 m2 d2) (.slice (some ⟨g, 0, none⟩) m3 d3)
        have Y7 := ((((Y6.other (p := ⟨Bk, 0, none⟩) (by simpa using nBb) (.slice D0 m0 d0)).other (p := ⟨Bk, 1, none⟩) (by simpa using nBb) (.slice D1 m1 d1)).other (p := ⟨Bk, 2, none⟩) (by simpa using nBb) (.slice D2 m2 d2)).other (p := ⟨Bk, 3, none⟩) (by simpa using nBb) (.slice (some ⟨g, 0, none⟩) m3 d3))
        have V7 := ((((V6.set_far (p := ⟨Bk, 0, none⟩) ff (.slice D0 m0 d0)).set_far (p := ⟨Bk, 1, none⟩) ff (.slice D1 m1 d1)).set_far (p := ⟨Bk, 2, none⟩) ff (.slice D2 m2 d2)).set_far (p := ⟨Bk, 3, none⟩) ff (.slice (some ⟨g, 0, none⟩) m3 d3))
        have B7 := ((((B6.setCell (p := ⟨Bk, 0, none⟩) (by simp; omega) (.slice D0 m0 d0)).setCell (p := ⟨Bk, 1, none⟩) (by simp; omega) (.slice D1 m1 d1)).setCell (p := ⟨Bk, 2, none⟩) (by simp; omega) (.slice D2 m2 d2)).setCell (p := ⟨Bk, 3, none⟩) (by simp; omega) (.slice (some ⟨g, 0, none⟩) m3 d3))
        clear Y4 Z4 V4 B4 B5 B6 Z5 Z6 Y6 V5 V6 hb5 hg6 F4 z0 z1 z2' z3' h0 h1 h2 h3 p0 p1 p2 p3 s0 s1 s2 s3 k0 k1 k2 k3 t0 t1 t2 t3
        go_wp2_with fail
        go_roundg ((blackC C.h cur j).length - (blackC C.h cur j).count 2)
        case measure => have h8 := black_less C.h hjc; have h9 := hgk.out; omega
        case rel => exact ⟨blackC C.h cur j, Y7, Z7, V7, cvB_black j hcv.out, (all_step e1 hjc).trans hal.out, rfl, B7⟩
end Go.Proofs.Ytmngkjcdaaladaa
