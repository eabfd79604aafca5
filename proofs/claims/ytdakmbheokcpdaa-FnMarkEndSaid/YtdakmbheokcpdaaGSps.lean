import Derived.Test.YtdakmbheokcpdaaGStepS
import Derived.Test.YtdakmbheokcpdaaGMets
import Derived.OrdersHeld
import Derived.Deep.RegionHeld3
import Derived.Test.YtdakmbheokcpdaaGcs
/- StepGc and RunGc of spec. -/
namespace Go.Proofs.Ytdakmbheokcpdaa
open Go.RowKit

/-- What is left at a return: both results. -/
def PostR (w : World) (b : Nat) (C : Cp) (G : Gp) (w' : World) : Prop := ∃ k0 k1 k2 k3 r, Blk4 w' b k0 k1 k2 k3 27 ∧ Blk3 w' (b + 1) (.int .i64 G.p) r (.int .i64 G.a) 29 ∧ CGv w' w.heap.size (.agg #[k0, k1, k2, k3]) (.agg #[.int .i64 G.p, r, .int .i64 G.a]) C G ∧ Below w.heap.size w w'
theorem PostR.drew {w w' : World} {b : Nat} {C : Cp} {G : Gp} (h : PostR w b C G w') : PostR w b C G w'.drew := by
  obtain ⟨k0, k1, k2, k3, r, a, b, d, g⟩ := h
  exact ⟨k0, k1, k2, k3, r, a, b, d.drew, g.drew⟩
theorem Blk4.set4R {w : World} {b : Nat} {x y z u : Value} {t : TypeId} (h : Blk4 w b x y z u t) (x' y' z' u' : Value) : Blk4 ((((w.setCell ⟨b, 0, none⟩ x').setCell ⟨b, 1, none⟩ y').setCell ⟨b, 2, none⟩ z').setCell ⟨b, 3, none⟩ u') b x' y' z' u' t := by
  unfold Blk4 at h ⊢; simp [World.setCell, Array.getElem?_modify, h]
theorem Blk3.set3R {w : World} {b : Nat} {x y z : Value} {t : TypeId} (h : Blk3 w b x y z t) (x' y' z' : Value) : Blk3 (((w.setCell ⟨b, 0, none⟩ x').setCell ⟨b, 1, none⟩ y').setCell ⟨b, 2, none⟩ z') b x' y' z' t := by
  unfold Blk3 at h ⊢; simp [World.setCell, Array.getElem?_modify, h]
theorem PostR.of {w wr : World} {b lo : Nat} {v0 v1 v2 v3 r z0 z1 z2 z3 u0 u1 u2 : Value} {C : Cp} {x y : Int} {cc : List Int} (h1 : Blk4 wr b z0 z1 z2 z3 27) (h2 : Blk3 wr (b + 1) u0 u1 u2 29) (hc : CGv wr lo (.agg #[v0, v1, v2, v3]) (.agg #[.int .i64 x, r, .int .i64 y]) C ⟨x, cc, y⟩) (hl : b + 1 < lo) (hw : w.heap.size ≤ b) (hB : Below w.heap.size w wr) :
    PostR w b C ⟨x, cc, y⟩ (((((((wr.setCell ⟨b, 0, none⟩ v0).setCell ⟨b, 1, none⟩ v1).setCell ⟨b, 2, none⟩ v2).setCell ⟨b, 3, none⟩ v3).setCell ⟨b + 1, 0, none⟩ (.int .i64 x)).setCell ⟨b + 1, 1, none⟩ r).setCell ⟨b + 1, 2, none⟩ (.int .i64 y)) := by
  have n1 : b ≠ b + 1 := by omega
  have l1 : b < lo := by omega
  refine ⟨v0, v1, v2, v3, r, ?_, ?_, ?_, ?_⟩
  · exact ((((h1.set4R _ _ _ _).otherS n1 0 _).otherS n1 1 _).otherS n1 2 _)
  · exact Blk3.set3R ((((h2.otherS n1.symm 0 _).otherS n1.symm 1 _).otherS n1.symm 2 _).otherS n1.symm 3 _) _ _ _
  · exact (((((((hc.setS l1 0 _).setS l1 1 _).setS l1 2 _).setS l1 3 _).setS hl 0 _).setS hl 1 _).setS hl 2 _).mono (by omega)
  · have hw1 : w.heap.size ≤ b + 1 := by omega
    exact BS_set (BS_set (BS_set (BS_set (BS_set (BS_set (BS_set hB hw 0 _) hw 1 _) hw 2 _) hw 3 _) hw1 0 _) hw1 1 _) hw1 2 _
theorem BR_dr {w w' : World} (h : Below w.heap.size w w') : Below w.heap.size w w'.drew := h.drew
theorem Cv.rows4 {w : World} {lo : Nat} {v0 v1 v2 v3 : Value} {C : Cp} (h : Cv w lo (.agg #[v0, v1, v2, v3]) C) : Row w lo v0 C.h.l ∧ Row w lo v1 C.h.r ∧ Row w lo v2 C.h.t ∧ Row w lo v3 C.c := by
  obtain ⟨_, _, _, _, e, ⟨_, _, _, e', r0, r1, r2, _⟩, r3, _⟩ := h
  cases e; cases e'
  exact ⟨r0, r1, r2, r3⟩
theorem lenH {w : World} {lo n c : Nat} {A : Option Addr} {xs : List Int} (h : Row w lo (.slice A n c) xs) : Hid (xs.length = n) := by
  obtain ⟨_, _, e, _⟩ := h.form
  cases e; rfl
theorem BR_th {w w' w'' : World} (h : Below w.heap.size w w') (k : Below w'.heap.size w' w'') : Below w.heap.size w w'' := h.trans (k.mono h.size)
theorem atIn_B (w : World) (lo : Nat) (A : Option Addr) (n c : Nat) (xs : List Int) (h : Row w lo (.slice A n c) xs) (l : Hid (xs.length = n)) (hm : n ≤ 9223372036854775807) (x : Int) (hx : x ∈ xs) : Calls Try.prog 43 #[.slice A n c, .int .i64 x] w fun e w' => ∃ k : Nat, e = .returned (.int .i64 (k : Int)) ∧ Below w.heap.size w w' :=
  (l4At_in w lo A n c xs h l hm x hx).mono fun _ _ ⟨⟨k, he⟩, nq, hw⟩ => ⟨k, he, by rw [hw]; exact below_drewN (Below.refl _ _) _⟩
theorem atNot_B (w : World) (lo : Nat) (A : Option Addr) (n c : Nat) (xs : List Int) (h : Row w lo (.slice A n c) xs) (l : Hid (xs.length = n)) (hm : n ≤ 9223372036854775807) (x : Int) (hx : x ∉ xs) : Calls Try.prog 43 #[.slice A n c, .int .i64 x] w (RetI w (-1)) :=
  (l4At_not w lo A n c xs h l hm x hx).mono fun _ _ ⟨he, nq, hw⟩ => ⟨he, by rw [hw]; exact below_drewN (Below.refl _ _) _⟩
theorem bad_iff {C : Cp} {G : Gp} : badB C G = true ↔ swI C G ≠ -1 ∧ swI C G ∈ C.h.t := by unfold badB; exact decide_eq_true_iff
theorem stepO_bad {C : Cp} {G : Gp} (h : goB C G = false) : stepO C G = none := by unfold stepO; rw [if_neg (by rw [h]; decide)]
theorem stepO_go {C : Cp} {G : Gp} (h : goB C G = true) : stepO C G = some (stepG C G) := by unfold stepO; rw [if_pos h]
theorem goB_bad {C : Cp} {G : Gp} (h : badB C G = true) : goB C G = false := by unfold goB; rw [h]; simp

set_option maxRecDepth 100000 in
set_option maxHeartbeats 6000000 in
theorem specStepGc_any (w : World) (lo : Nat) (vs vg : Value) (C : Cp) (G : Gp) (h : CGv w lo vs vg C G) (b0 : C.h.l.length ≤ 1048576) (b1 : C.h.r.length ≤ 1048576) (b2 : C.h.t.length ≤ 1048576) (b3 : C.c.length ≤ 1048576) : Calls Try.prog 11 #[vs, vg] w (OptCG w (stepO C G)) := by
  obtain ⟨A0, n0, c0, A1, n1, c1, A2, n2, c2, A3, n3, c3, A4, n4, c4, p, cc, a, rfl, rfl, rfl, hv, hk, ⟨r0, r1, r2, r3, r4⟩, ⟨l0, l1, l2, l3, l4⟩, ⟨m0, m1, m2, m3, m4⟩⟩ := h.open_
  have hf4 := own_neR (b := w.heap.size) r4 (.inr (Nat.le_refl _))
  have X := (((Blk4.new w (.slice A0 n0 c0) (.slice A1 n1 c1) (.slice A2 n2 c2) (.slice A3 n3 c3) 27).alloc (.cells #[.int .i64 p, .slice A4 n4 c4, .int .i64 a] 29)).alloc (.cells #[.slice none 0 0, .slice none 0 0, .slice none 0 0, .slice none 0 0] 27)).alloc (.cells #[.int .i64 0, .slice none 0 0, .int .i64 0] 29)
  have Y := ((Blk3.new_at (w := (w.alloc (.cells #[.slice A0 n0 c0, .slice A1 n1 c1, .slice A2 n2 c2, .slice A3 n3 c3] 27))) (b := w.heap.size + 1) (by simp) (.int .i64 p) (.slice A4 n4 c4) (.int .i64 a) 29).alloc (.cells #[.slice none 0 0, .slice none 0 0, .slice none 0 0, .slice none 0 0] 27)).alloc (.cells #[.int .i64 0, .slice none 0 0, .int .i64 0] 29)
  have Z := (Blk4.new_at (w := ((w.alloc (.cells #[.slice A0 n0 c0, .slice A1 n1 c1, .slice A2 n2 c2, .slice A3 n3 c3] 27)).alloc (.cells #[.int .i64 p, .slice A4 n4 c4, .int .i64 a] 29))) (b := w.heap.size + 1 + 1) (by simp) (.slice none 0 0) (.slice none 0 0) (.slice none 0 0) (.slice none 0 0) 27).alloc (.cells #[.int .i64 0, .slice none 0 0, .int .i64 0] 29)
  have U := Blk3.new_at (w := (((w.alloc (.cells #[.slice A0 n0 c0, .slice A1 n1 c1, .slice A2 n2 c2, .slice A3 n3 c3] 27)).alloc (.cells #[.int .i64 p, .slice A4 n4 c4, .int .i64 a] 29)).alloc (.cells #[.slice none 0 0, .slice none 0 0, .slice none 0 0, .slice none 0 0] 27))) (b := w.heap.size + 1 + 1 + 1) (by simp) (.int .i64 0) (.slice none 0 0) (.int .i64 0) 29
  have HH := (((h.alloc (.cells #[.slice A0 n0 c0, .slice A1 n1 c1, .slice A2 n2 c2, .slice A3 n3 c3] 27)).alloc (.cells #[.int .i64 p, .slice A4 n4 c4, .int .i64 a] 29)).alloc (.cells #[.slice none 0 0, .slice none 0 0, .slice none 0 0, .slice none 0 0] 27)).alloc (.cells #[.int .i64 0, .slice none 0 0, .int .i64 0] 29)
  have BB : Below w.heap.size w ((((w.alloc (.cells #[.slice A0 n0 c0, .slice A1 n1 c1, .slice A2 n2 c2, .slice A3 n3 c3] 27)).alloc (.cells #[.int .i64 p, .slice A4 n4 c4, .int .i64 a] 29)).alloc (.cells #[.slice none 0 0, .slice none 0 0, .slice none 0 0, .slice none 0 0] 27)).alloc (.cells #[.int .i64 0, .slice none 0 0, .int .i64 0] 29)) := BS_al (BS_al (BS_al (BS_al (Below.refl _ _) (Nat.le_refl _) _) (Nat.le_refl _) _) (Nat.le_refl _) _) (Nat.le_refl _) _
  have sz : ((((w.alloc (.cells #[.slice A0 n0 c0, .slice A1 n1 c1, .slice A2 n2 c2, .slice A3 n3 c3] 27)).alloc (.cells #[.int .i64 p, .slice A4 n4 c4, .int .i64 a] 29)).alloc (.cells #[.slice none 0 0, .slice none 0 0, .slice none 0 0, .slice none 0 0] 27)).alloc (.cells #[.int .i64 0, .slice none 0 0, .int .i64 0] 29)).heap.size = w.heap.size + 4 := by simp
  clear hv hk r0 r1 r2 r3 r4 h l0 l1 l2 l3 l4 m0 m1 m2 m3 m4
  go_enter Try.func11, Try.ntmps11
  go_wp2_with fail
  generalize ((((w.alloc (.cells #[.slice A0 n0 c0, .slice A1 n1 c1, .slice A2 n2 c2, .slice A3 n3 c3] 27)).alloc (.cells #[.int .i64 p, .slice A4 n4 c4, .int .i64 a] 29)).alloc (.cells #[.slice none 0 0, .slice none 0 0, .slice none 0 0, .slice none 0 0] 27)).alloc (.cells #[.int .i64 0, .slice none 0 0, .int .i64 0] 29)) = W at X Y Z U HH BB sz ⊢
  have szW : w.heap.size + 4 ≤ W.heap.size := by omega
  replace HH : CGv W (min lo w.heap.size) _ _ _ _ := HH.mono (Nat.min_le_left _ _)
  have hlo : min lo w.heap.size ≤ W.heap.size := by omega
  generalize min lo w.heap.size = lo at HH hlo
  clear sz
  obtain ⟨x0, x1, x2, x3, _⟩ := X.cells
  have OW := ownStore_any W lo _ C HH.cv b0 b1 b2 b3
  go_wp2_with fail
  refine OW.mono ?_; rintro e w1 ⟨vs, rfl, hD, hb1⟩
  obtain ⟨B0, i0, f0, B1, i1, f1, B2, i2, f2, B3, i3, f3, rfl⟩ := hD.letters
  have z1 := hb1.size
  have CG0 := CGv.mk' (lo := lo) ((HH.gv).mono (Nat.le_refl _)) hD hlo hb1
  have fr : FarG (.slice B0 i0 f0) (.slice B1 i1 f1) (.slice B2 i2 f2) (.slice B3 i3 f3) (.slice A4 n4 c4) w.heap.size := farG_of hD (by omega) hf4
  have CG1 := (((CG0.setFar (p := ⟨w.heap.size, 0, none⟩) fr (.slice B0 i0 f0)).setFar (p := ⟨w.heap.size, 1, none⟩) fr (.slice B1 i1 f1)).setFar (p := ⟨w.heap.size, 2, none⟩) fr (.slice B2 i2 f2)).setFar (p := ⟨w.heap.size, 3, none⟩) fr (.slice B3 i3 f3)
  have X1 := (X.below hb1).set4R (.slice B0 i0 f0) (.slice B1 i1 f1) (.slice B2 i2 f2) (.slice B3 i3 f3)
  have q1 : w.heap.size + 1 ≠ w.heap.size := by omega
  have q2 : w.heap.size + 1 + 1 ≠ w.heap.size := by omega
  have q3 : w.heap.size + 1 + 1 + 1 ≠ w.heap.size := by omega
  have Y1 := ((((Y.below hb1).otherS q1 0 (.slice B0 i0 f0)).otherS q1 1 (.slice B1 i1 f1)).otherS q1 2 (.slice B2 i2 f2)).otherS q1 3 (.slice B3 i3 f3)
  have Z1 := ((((Z.below hb1).otherS q2 0 (.slice B0 i0 f0)).otherS q2 1 (.slice B1 i1 f1)).otherS q2 2 (.slice B2 i2 f2)).otherS q2 3 (.slice B3 i3 f3)
  have U1 := ((((U.below hb1).otherS q3 0 (.slice B0 i0 f0)).otherS q3 1 (.slice B1 i1 f1)).otherS q3 2 (.slice B2 i2 f2)).otherS q3 3 (.slice B3 i3 f3)
  have BB1 : Below w.heap.size w ((((w1.setCell ⟨w.heap.size, 0, none⟩ (.slice B0 i0 f0)).setCell ⟨w.heap.size, 1, none⟩ (.slice B1 i1 f1)).setCell ⟨w.heap.size, 2, none⟩ (.slice B2 i2 f2)).setCell ⟨w.heap.size, 3, none⟩ (.slice B3 i3 f3)) := BS_set (BS_set (BS_set (BS_set (BB.trans (hb1.mono (by omega))) (Nat.le_refl _) 0 _) (Nat.le_refl _) 1 _) (Nat.le_refl _) 2 _) (Nat.le_refl _) 3 _
  have sz1 : ((((w1.setCell ⟨w.heap.size, 0, none⟩ (.slice B0 i0 f0)).setCell ⟨w.heap.size, 1, none⟩ (.slice B1 i1 f1)).setCell ⟨w.heap.size, 2, none⟩ (.slice B2 i2 f2)).setCell ⟨w.heap.size, 3, none⟩ (.slice B3 i3 f3)).heap.size = w1.heap.size := by rw [setSize, setSize, setSize, setSize]
  obtain ⟨e0, e1, e2, e3, g0, g1, g2, g3⟩ := (X.below hb1).cells
  have hxl := (X.below hb1).lt
  generalize hW1 : ((((w1.setCell ⟨w.heap.size, 0, none⟩ (.slice B0 i0 f0)).setCell ⟨w.heap.size, 1, none⟩ (.slice B1 i1 f1)).setCell ⟨w.heap.size, 2, none⟩ (.slice B2 i2 f2)).setCell ⟨w.heap.size, 3, none⟩ (.slice B3 i3 f3)) = W1 at CG1 X1 Y1 Z1 U1 BB1 sz1
  have szw : w.heap.size + 4 ≤ W1.heap.size := by omega
  clear x0 x1 x2 x3 X Y Z U HH BB OW hD hb1 CG0 sz1
  obtain ⟨x0, x1, x2, x3, _⟩ := X1.cells
  obtain ⟨y0, y1, y2, _⟩ := Y1.cells
  have V := specGcValid_any _ _ _ _ _ _ CG1
  rcases ev : gcB C ⟨p, cc, a⟩
  · rw [ev] at V
    have hgo : goB C ⟨p, cc, a⟩ = false := by unfold goB; rw [ev]; rfl
    have hf : Hid (stepO C ⟨p, cc, a⟩ = none) := stepO_bad hgo
    clear ev hgo
    go_wp2_with fail
    (try rw [hW1])
    refine V.mono ?_; rintro e w2 ⟨rfl, hb2⟩
    obtain ⟨z0, z1, z2, z3, f0, f1, f2, f3⟩ := (Z1.below hb2).cells
    obtain ⟨u0, u1, u2, h0, h1, h2⟩ := (U1.below hb2).cells
    obtain ⟨hZ, hB⟩ := sg_done (w := w) (bS := w.heap.size + 1 + 1) (bG := w.heap.size + 1 + 1 + 1) (C := Cp.zero) (G := Gp.zero) (CGv.zero w2 w.heap.size) (Nat.le_refl _) (farG_nil _) (farG_nil _) (by omega) (by omega) (BB1.trans (hb2.mono (by omega))) (.slice none 0 0) (.slice none 0 0) (.slice none 0 0) (.slice none 0 0) (.int .i64 0) (.slice none 0 0) (.int .i64 0)
    go_wp2_with fail
    rw [hf.out]
    refine bodyPost_ret (v := .tuple #[.agg #[.slice none 0 0, .slice none 0 0, .slice none 0 0, .slice none 0 0], .agg #[.int .i64 0, .slice none 0 0, .int .i64 0], .bool false]) ?_ rfl ⟨_, _, rfl, hZ, hB⟩
    simp [results, Try.results11, go_sem, z0, z1, z2, z3, u0, u1, u2]
  rw [ev] at V
  go_wp2_with fail
  (try rw [hW1])
  refine V.mono ?_; rintro e w2 ⟨rfl, hb2⟩
  have X2 := X1.below hb2
  have Y2 := Y1.below hb2
  have Z2 := Z1.below hb2
  have U2 := U1.below hb2
  have CG2 := CG1.below hb2
  have BB2 := BB1.trans (hb2.mono (by omega))
  have z2 := hb2.size
  clear x0 x1 x2 x3 y0 y1 y2 e0 e1 e2 e3 g0 g1 g2 g3 X1 Y1 Z1 U1 CG1 BB1 hb2 hW1 hxl
  have SW := fun V h9 => l6Swept_any V lo (.agg #[.slice B0 i0 f0, .slice B1 i1 f1, .slice B2 i2 f2, .slice B3 i3 f3]) (.agg #[.int .i64 p, .slice A4 n4 c4, .int .i64 a]) C ⟨p, cc, a⟩ h9 ev
  have ST := fun V h9 => l6Step_any V lo (.agg #[.slice B0 i0 f0, .slice B1 i1 f1, .slice B2 i2 f2, .slice B3 i3 f3]) (.agg #[.int .i64 p, .slice A4 n4 c4, .int .i64 a]) C ⟨p, cc, a⟩ h9 ev
  obtain ⟨zz1, ⟨zz2, zz3⟩, zz4, zz5, zz6⟩ := gcB_sizes ev
  have hbd := @bad_iff C ⟨p, cc, a⟩
  have hgo : goB C ⟨p, cc, a⟩ = !badB C ⟨p, cc, a⟩ := by unfold goB; rw [ev]; rfl
  have RT : Row w2 lo (.slice B2 i2 f2) C.h.t := (Cv.rows4 CG2.cv).2.2.1
  have hnR : Hid (C.h.t.length = i2) := lenH RT
  have hi2 : i2 ≤ 9223372036854775807 := by have := hnR.out; omega
  have ATI := fun V h9 x => atIn_B V lo B2 i2 f2 C.h.t h9 hnR hi2 x
  have ATN := fun V h9 x => atNot_B V lo B2 i2 f2 C.h.t h9 hnR hi2 x
  generalize hBB : badB C ⟨p, cc, a⟩ = bad at hbd hgo
  have hgoH := Lib.hid hgo
  clear hgo zz1 zz4 zz5 zz6 hnR hi2
  generalize swI C ⟨p, cc, a⟩ = x at SW hbd
  obtain ⟨x0, x1, x2, x3, _⟩ := X2.cells
  obtain ⟨y0, y1, y2, _⟩ := Y2.cells
  go_wp2_with fail
  go_cut [30] from 9 (fun q w' => q = .bool bad ∧ Below w2.heap.size w2 w')
  case first =>
    have SO : ∀ w' : World, Below w2.heap.size w2 w' → w'.cell? ⟨w.heap.size, 0, none⟩ = some (.slice B0 i0 f0) ∧ w'.cell? ⟨w.heap.size, 1, none⟩ = some (.slice B1 i1 f1) ∧ w'.cell? ⟨w.heap.size, 2, none⟩ = some (.slice B2 i2 f2) ∧ w'.cell? ⟨w.heap.size, 3, none⟩ = some (.slice B3 i3 f3) ∧ w'.cell? ⟨w.heap.size + 1, 0, none⟩ = some (.int .i64 p) ∧ w'.cell? ⟨w.heap.size + 1, 1, none⟩ = some (.slice A4 n4 c4) ∧ w'.cell? ⟨w.heap.size + 1, 2, none⟩ = some (.int .i64 a) := fun w' hb => ⟨(X2.below hb).cells.1, (X2.below hb).cells.2.1, (X2.below hb).cells.2.2.1, (X2.below hb).cells.2.2.2.1, (Y2.below hb).cells.1, (Y2.below hb).cells.2.1, (Y2.below hb).cells.2.2.1⟩
    by_cases hin : x ∈ C.h.t
    · have hbx : (x != -1) = bad := by
        rcases bad
        · simp only [bne, Bool.not_eq_false', beq_iff_eq]
          exact Classical.byContradiction fun hne => by have := hbd.2 ⟨hne, hin⟩; cases this
        · have := (hbd.1 rfl).1
          simpa [bne] using this
      have hge : ∀ k : Nat, decide ((0 : Int) ≤ (k : Int)) = true := fun k => by simp
      clear hbd ATN
      go_region_held3 (fun w' => w'.cell? ⟨w.heap.size, 0, none⟩ = some (.slice B0 i0 f0) ∧ w'.cell? ⟨w.heap.size, 1, none⟩ = some (.slice B1 i1 f1) ∧ w'.cell? ⟨w.heap.size, 2, none⟩ = some (.slice B2 i2 f2) ∧ w'.cell? ⟨w.heap.size, 3, none⟩ = some (.slice B3 i3 f3) ∧ w'.cell? ⟨w.heap.size + 1, 0, none⟩ = some (.int .i64 p) ∧ w'.cell? ⟨w.heap.size + 1, 1, none⟩ = some (.slice A4 n4 c4) ∧ w'.cell? ⟨w.heap.size + 1, 2, none⟩ = some (.int .i64 a))
        (((try dsimp only); (refine SO _ ?_); (repeat (with_reducible (first | exact Below.refl _ _ | exact hRs | refine Below.drew ?_ | refine BR_dr ?_)))))
        (first
          | (go_at_call 44; (refine Calls.mono (SW _ (CGv.below CG2 ?_)) ?_); (· repeat (with_reducible (first | exact Below.refl _ _ | exact hRs | refine Below.drew ?_ | refine BR_dr ?_))); rintro e ws ⟨rfl, hbs⟩; (have hRs : Below w2.heap.size w2 ws := (by refine BR_th ?_ hbs; repeat (with_reducible (first | exact Below.refl _ _ | exact hRs | refine Below.drew ?_ | refine BR_dr ?_)))))
          | (go_at_call 43; (refine Calls.mono (ATI _ (Row.below RT ?_) x hin) ?_); (· repeat (with_reducible (first | exact Below.refl _ _ | exact hRs | refine Below.drew ?_ | refine BR_dr ?_))); rintro e wa ⟨k, rfl, hba⟩; (have hRs : Below w2.heap.size w2 wa := (by refine BR_th ?_ hba; repeat (with_reducible (first | exact Below.refl _ _ | exact hRs | refine Below.drew ?_ | refine BR_dr ?_))))))
      all_goals
        (try rename_i hHeld); (try clear hHeld)
        go_wp2_with fail
        go_meet
        case rel => exact ⟨by rw [← hbx], hRs⟩
    · have hbf : bad = false := by
        rcases bad
        · rfl
        · exact absurd (hbd.1 rfl).2 hin
      subst hbf
      clear hbd ATI
      refine wp_region_held_drew (S := fun w' => w'.cell? ⟨w.heap.size, 0, none⟩ = some (.slice B0 i0 f0) ∧ w'.cell? ⟨w.heap.size, 1, none⟩ = some (.slice B1 i1 f1) ∧ w'.cell? ⟨w.heap.size, 2, none⟩ = some (.slice B2 i2 f2) ∧ w'.cell? ⟨w.heap.size, 3, none⟩ = some (.slice B3 i3 f3) ∧ w'.cell? ⟨w.heap.size + 1, 0, none⟩ = some (.int .i64 p) ∧ w'.cell? ⟨w.heap.size + 1, 1, none⟩ = some (.slice A4 n4 c4) ∧ w'.cell? ⟨w.heap.size + 1, 2, none⟩ = some (.int .i64 a)) (by kernel_rfl) ?_ (fun hHeld => ?_)
      · exact SO _ (BR_dr (Below.refl _ _))
      refine wpAnyH_take (i := 0) (oi := ?oim0) (v := ?vm0) ?him0 (by kernel_rfl) (by kernel_rfl) (by kernel_rfl) ?hQm0 ?hym0 (by assumption) ?_
      case him0 => simp only [List.getElem?_toArray, List.getElem?_cons_zero]; rfl
      case hQm0 => exact fun _ _ _ h => h
      case hym0 => refine Or.inl ⟨by rfl, ?_⟩; intro w9 hSw; (try dsimp only at hSw); go_simp; (try with_reducible rfl)
      try simp only [Act.put, List.setIfInBounds_toArray, List.set_cons_zero, List.set_cons_succ]
      refine wpAnyH_take (i := 1) (oi := ?oim1) (v := ?vm1) ?him1 (by kernel_rfl) (by kernel_rfl) (by kernel_rfl) ?hQm1 ?hym1 (by assumption) ?_
      case him1 => simp only [List.getElem?_toArray, List.getElem?_cons_zero, List.getElem?_cons_succ]; rfl
      case hQm1 => exact fun _ _ _ h => h
      case hym1 => refine Or.inl ⟨by rfl, ?_⟩; intro w9 hSw; (try dsimp only at hSw); go_simp; (try with_reducible rfl)
      try simp only [Act.put, List.setIfInBounds_toArray, List.set_cons_zero, List.set_cons_succ]
      refine wpAnyH_take (i := 2) (oi := ?oim2) (v := ?vm2) ?him2 (by kernel_rfl) (by kernel_rfl) (by kernel_rfl) ?hQm2 ?hym2 (by assumption) ?_
      case him2 => simp only [List.getElem?_toArray, List.getElem?_cons_zero, List.getElem?_cons_succ]; rfl
      case hQm2 => exact fun _ _ _ h => h
      case hym2 => refine Or.inl ⟨by rfl, ?_⟩; intro w9 hSw; (try dsimp only at hSw); go_simp; (try with_reducible rfl)
      try simp only [Act.put, List.setIfInBounds_toArray, List.set_cons_zero, List.set_cons_succ]
      refine wpAnyH_take (i := 3) (oi := ?oim3) (v := ?vm3) ?him3 (by kernel_rfl) (by kernel_rfl) (by kernel_rfl) ?hQm3 ?hym3 (by assumption) ?_
      case him3 => simp only [List.getElem?_toArray, List.getElem?_cons_zero, List.getElem?_cons_succ]; rfl
      case hQm3 => exact fun _ _ _ h => h
      case hym3 => refine Or.inl ⟨by rfl, ?_⟩; intro w9 hSw; (try dsimp only at hSw); go_simp; (try with_reducible rfl)
      try simp only [Act.put, List.setIfInBounds_toArray, List.set_cons_zero, List.set_cons_succ]
      refine wpAnyH_take (i := 4) (oi := ?oim4) (v := ?vm4) ?him4 (by kernel_rfl) (by kernel_rfl) (by kernel_rfl) ?hQm4 ?hym4 (by assumption) ?_
      case him4 => simp only [List.getElem?_toArray, List.getElem?_cons_zero, List.getElem?_cons_succ]; rfl
      case hQm4 => exact fun _ _ _ h => h
      case hym4 => refine Or.inl ⟨by rfl, ?_⟩; intro w9 hSw; (try dsimp only at hSw); go_simp; (try with_reducible rfl)
      try simp only [Act.put, List.setIfInBounds_toArray, List.set_cons_zero, List.set_cons_succ]
      refine wpAnyH_ready (rs := [5]) (by kernel_rfl) (by simp) ?_
      refine AllReadyH.cons (o := ?oom5) ?hom5 (fun K hK => ?_) AllReadyH.nil
      case hom5 => simp only [List.getElem?_toArray, List.getElem?_cons_zero, List.getElem?_cons_succ]; rfl
      go_simp
      refine (SW _ (CGv.drew CG2)).mono ?_; rintro e ws ⟨rfl, hbs⟩
      have hRs : Below w2.heap.size w2 ws := BR_th (BR_dr (Below.refl _ _)) hbs
      go_wp2_with fail
      refine hK.out _ _ ?hSm5 (fun hHeld5 => ?_)
      case hSm5 => exact SO _ hRs
      clear hK K
      try simp only [Act.put, List.setIfInBounds_toArray, List.set_cons_zero, List.set_cons_succ]
      refine wpAnyH_ready (rs := [6]) (by kernel_rfl) (by simp) ?_
      refine AllReadyH.cons (o := ?oom6) ?hom6 (fun K hK => ?_) AllReadyH.nil
      case hom6 => simp only [List.getElem?_toArray, List.getElem?_cons_zero, List.getElem?_cons_succ]; rfl
      go_simp
      refine (ATN _ (Row.below RT hRs) x hin).mono ?_; rintro e wa ⟨rfl, hba⟩
      have hRa : Below w2.heap.size w2 wa := BR_th (hRs) hba
      go_wp2_with fail
      refine hK.out _ _ ?hSm6 (fun hHeld6 => ?_)
      case hSm6 => exact SO _ hRa
      clear hK K
      try simp only [Act.put, List.setIfInBounds_toArray, List.set_cons_zero, List.set_cons_succ]
      refine wpAnyH_take (i := 7) (oi := ?oim7) (v := ?vm7) ?him7 (by kernel_rfl) (by kernel_rfl) (by kernel_rfl) ?hQm7 ?hym7 (by assumption) ?_
      case him7 => simp only [List.getElem?_toArray, List.getElem?_cons_zero, List.getElem?_cons_succ]; rfl
      case hQm7 => exact fun _ _ _ h => h
      case hym7 => refine Or.inl ⟨by rfl, ?_⟩; intro w9 hSw; (try dsimp only at hSw); go_simp; (try with_reducible rfl)
      try simp only [Act.put, List.setIfInBounds_toArray, List.set_cons_zero, List.set_cons_succ]
      refine wpAnyH_take (i := 8) (oi := ?oim8) (v := ?vm8) ?him8 (by kernel_rfl) (by kernel_rfl) (by kernel_rfl) ?hQm8 ?hym8 (by assumption) ?_
      case him8 => simp only [List.getElem?_toArray, List.getElem?_cons_zero, List.getElem?_cons_succ]; rfl
      case hQm8 => exact fun _ _ _ h => h
      case hym8 => refine Or.inl ⟨by rfl, ?_⟩; intro w9 hSw; (try dsimp only at hSw); go_simp; (try with_reducible rfl)
      try simp only [Act.put, List.setIfInBounds_toArray, List.set_cons_zero, List.set_cons_succ]
      refine wpAnyH_take (i := 9) (oi := ?oim9) (v := undef) ?him9 (by kernel_rfl) (by kernel_rfl) (by kernel_rfl) ?hQm9 ?hym9 (by assumption) ?_
      case him9 => simp only [List.getElem?_toArray, List.getElem?_cons_zero, List.getElem?_cons_succ]; rfl
      case hQm9 => exact fun _ _ _ h => h
      case hym9 => exact Or.inr ⟨by rfl, rfl⟩
      try simp only [Act.put, List.setIfInBounds_toArray, List.set_cons_zero, List.set_cons_succ]
      refine wpAnyH_take (i := 10) (oi := ?oim10) (v := undef) ?him10 (by kernel_rfl) (by kernel_rfl) (by kernel_rfl) ?hQm10 ?hym10 (by assumption) ?_
      case him10 => simp only [List.getElem?_toArray, List.getElem?_cons_zero, List.getElem?_cons_succ]; rfl
      case hQm10 => exact fun _ _ _ h => h
      case hym10 => exact Or.inr ⟨by rfl, rfl⟩
      try simp only [Act.put, List.setIfInBounds_toArray, List.set_cons_zero, List.set_cons_succ]
      refine wpAnyH_take (i := 11) (oi := ?oim11) (v := undef) ?him11 (by kernel_rfl) (by kernel_rfl) (by kernel_rfl) ?hQm11 ?hym11 (by assumption) ?_
      case him11 => simp only [List.getElem?_toArray, List.getElem?_cons_zero, List.getElem?_cons_succ]; rfl
      case hQm11 => exact fun _ _ _ h => h
      case hym11 => exact Or.inr ⟨by rfl, rfl⟩
      try simp only [Act.put, List.setIfInBounds_toArray, List.set_cons_zero, List.set_cons_succ]
      refine wpAnyH_take (i := 12) (oi := ?oim12) (v := undef) ?him12 (by kernel_rfl) (by kernel_rfl) (by kernel_rfl) ?hQm12 ?hym12 (by assumption) ?_
      case him12 => simp only [List.getElem?_toArray, List.getElem?_cons_zero, List.getElem?_cons_succ]; rfl
      case hQm12 => exact fun _ _ _ h => h
      case hym12 => exact Or.inr ⟨by rfl, rfl⟩
      try simp only [Act.put, List.setIfInBounds_toArray, List.set_cons_zero, List.set_cons_succ]
      refine wpAnyH_take (i := 13) (oi := ?oim13) (v := ?vm13) ?him13 (by kernel_rfl) (by kernel_rfl) (by kernel_rfl) ?hQm13 ?hym13 (by assumption) ?_
      case him13 => simp only [List.getElem?_toArray, List.getElem?_cons_zero, List.getElem?_cons_succ]; rfl
      case hQm13 => exact fun _ _ _ h => h
      case hym13 => refine Or.inl ⟨by rfl, ?_⟩; intro w9 hSw; (try dsimp only at hSw); go_simp; (try with_reducible rfl)
      try simp only [Act.put, List.setIfInBounds_toArray, List.set_cons_zero, List.set_cons_succ]
      refine wpAnyH_done (by kernel_rfl) ?_ _
      go_wp2_with fail
      go_meet
      case rel => exact ⟨rfl, hRa⟩
  case rest =>
    obtain ⟨rfl, hbc⟩ := hcut
    have X3 := X2.below hbc
    have Y3 := Y2.below hbc
    have Z3 := Z2.below hbc
    have U3 := U2.below hbc
    have CG3 := CG2.below hbc
    have BB3 := BB2.trans (hbc.mono (by omega))
    have z3 := hbc.size
    clear x0 x1 x2 x3 y0 y1 y2 X2 Y2 Z2 U2 CG2 BB2 hbc SW ATI ATN hbd
    rcases bad
    · have hgo : goB C ⟨p, cc, a⟩ = true := by rw [hgoH.out]; rfl
      have hf : Hid (stepO C ⟨p, cc, a⟩ = some (stepG C ⟨p, cc, a⟩)) := stepO_go hgo
      have ST := l6Step_any wc lo _ _ C ⟨p, cc, a⟩ CG3 ev
      generalize stepG C ⟨p, cc, a⟩ = sg at hf ST
      obtain ⟨C2, G2⟩ := sg
      dsimp only at ST
      obtain ⟨x0, x1, x2, x3, _⟩ := X3.cells
      obtain ⟨y0, y1, y2, _⟩ := Y3.cells
      clear hgo hgoH hBB ev RT
      go_wp2_with fail
      refine ST.mono ?_; rintro e w5 ⟨vs, vg, rfl, hc5, hb5⟩
      obtain ⟨D0, m0, d0, D1, m1, d1, D2, m2, d2, D3, m3, d3, D4, m4, d4, p5, cc5, a5, rfl, rfl, rfl, _⟩ := hc5.open_
      have z5 := hb5.size
      have R1 := ((Z3.below hb5).alloc (.cells #[.slice D0 m0 d0, .slice D1 m1 d1, .slice D2 m2 d2, .slice D3 m3 d3] 27)).alloc (.cells #[.int .i64 p5, .slice D4 m4 d4, .int .i64 a5] 29)
      have R2 := ((U3.below hb5).alloc (.cells #[.slice D0 m0 d0, .slice D1 m1 d1, .slice D2 m2 d2, .slice D3 m3 d3] 27)).alloc (.cells #[.int .i64 p5, .slice D4 m4 d4, .int .i64 a5] 29)
      have X1 := (Blk4.new w5 (.slice D0 m0 d0) (.slice D1 m1 d1) (.slice D2 m2 d2) (.slice D3 m3 d3) 27).alloc (.cells #[.int .i64 p5, .slice D4 m4 d4, .int .i64 a5] 29)
      have Y1 := Blk3.new_at (w := w5.alloc (.cells #[.slice D0 m0 d0, .slice D1 m1 d1, .slice D2 m2 d2, .slice D3 m3 d3] 27)) (b := w5.heap.size + 1) (by simp) (.int .i64 p5) (.slice D4 m4 d4) (.int .i64 a5) 29
      have CG1 := (hc5.alloc (.cells #[.slice D0 m0 d0, .slice D1 m1 d1, .slice D2 m2 d2, .slice D3 m3 d3] 27)).alloc (.cells #[.int .i64 p5, .slice D4 m4 d4, .int .i64 a5] 29)
      have B1 := BS_al (BS_al (BB3.trans (hb5.mono (by omega))) (Nat.le_refl _) (.cells #[.slice D0 m0 d0, .slice D1 m1 d1, .slice D2 m2 d2, .slice D3 m3 d3] 27)) (Nat.le_refl _) (.cells #[.int .i64 p5, .slice D4 m4 d4, .int .i64 a5] 29)
      have d1_ : w5.heap.size ≠ w.heap.size + 1 + 1 := by omega
      have d2_ : w5.heap.size ≠ w.heap.size + 1 + 1 + 1 := by omega
      have d3_ : w5.heap.size + 1 ≠ w.heap.size + 1 + 1 := by omega
      have d4_ : w5.heap.size + 1 ≠ w.heap.size + 1 + 1 + 1 := by omega
      have hl : w.heap.size + 1 + 1 + 1 < wc.heap.size := by omega
      have hl2 : w.heap.size ≤ w.heap.size + 1 + 1 := by omega
      generalize hW2 : (w5.alloc (.cells #[.slice D0 m0 d0, .slice D1 m1 d1, .slice D2 m2 d2, .slice D3 m3 d3] 27)).alloc (.cells #[.int .i64 p5, .slice D4 m4 d4, .int .i64 a5] 29) = W5 at R1 R2 X1 Y1 CG1 B1
      clear x0 x1 x2 x3 y0 y1 y2 X3 Y3 Z3 U3 CG3 BB3 hc5 ST hb5
      go_wp2_with fail
      (try rw [hW2])
      obtain ⟨r0, r1, r2, r3, r4, r5, r6, r7⟩ := R1.cells
      obtain ⟨s0, s1, s2, s3, s4, s5⟩ := R2.cells
      generalize w5.heap.size = bs at X1 Y1 d1_ d2_ d3_ d4_ z5 ⊢
      have SO : ∀ w' : World, Blk4 w' bs (.slice D0 m0 d0) (.slice D1 m1 d1) (.slice D2 m2 d2) (.slice D3 m3 d3) 27 → Blk3 w' (bs + 1) (.int .i64 p5) (.slice D4 m4 d4) (.int .i64 a5) 29 → w'.cell? ⟨bs, 0, none⟩ = some (.slice D0 m0 d0) ∧ w'.cell? ⟨bs, 1, none⟩ = some (.slice D1 m1 d1) ∧ w'.cell? ⟨bs, 2, none⟩ = some (.slice D2 m2 d2) ∧ w'.cell? ⟨bs, 3, none⟩ = some (.slice D3 m3 d3) ∧ w'.cell? ⟨bs + 1, 0, none⟩ = some (.int .i64 p5) ∧ w'.cell? ⟨bs + 1, 1, none⟩ = some (.slice D4 m4 d4) ∧ w'.cell? ⟨bs + 1, 2, none⟩ = some (.int .i64 a5) := fun w' hX hY => ⟨hX.cells.1, hX.cells.2.1, hX.cells.2.2.1, hX.cells.2.2.2.1, hY.cells.1, hY.cells.2.1, hY.cells.2.2.1⟩
      go_cut [6] from 7 (fun q w' => q = .bool true ∧ PostR w (w.heap.size + 1 + 1) C2 ⟨p5, cc5, a5⟩ w')
      case first =>
        go_region_held3 (fun w' => w'.cell? ⟨bs, 0, none⟩ = some (.slice D0 m0 d0) ∧ w'.cell? ⟨bs, 1, none⟩ = some (.slice D1 m1 d1) ∧ w'.cell? ⟨bs, 2, none⟩ = some (.slice D2 m2 d2) ∧ w'.cell? ⟨bs, 3, none⟩ = some (.slice D3 m3 d3) ∧ w'.cell? ⟨bs + 1, 0, none⟩ = some (.int .i64 p5) ∧ w'.cell? ⟨bs + 1, 1, none⟩ = some (.slice D4 m4 d4) ∧ w'.cell? ⟨bs + 1, 2, none⟩ = some (.int .i64 a5))
          (((try dsimp only); (refine SO _ ?_ ?_); (· repeat (with_reducible (first | exact X1 | refine Blk4.drewS ?_ | refine Blk4.otherS ?_ d1_ _ _ | refine Blk4.otherS ?_ d2_ _ _))); (· repeat (with_reducible (first | exact Y1 | refine Blk3.drewS ?_ | refine Blk3.otherS ?_ d3_ _ _ | refine Blk3.otherS ?_ d4_ _ _)))))
          (fail)
        all_goals
          (try rename_i hHeld); (try clear hHeld)
          go_wp2_with fail
          go_meet
          case rel => exact ⟨rfl, PostR.drew (PostR.of R1 R2 CG1 hl hl2 B1)⟩
      case rest =>
        obtain ⟨rfl, k0, k1, k2, k3, r, hZ, hU, hCG, hBw⟩ := hcut
        obtain ⟨z0, z1', z2', z3', _⟩ := hZ.cells
        obtain ⟨q0, q1, q2, _⟩ := hU.cells
        clear r0 r1 r2 r3 r4 r5 r6 r7 s0 s1 s2 s3 s4 s5 X1 Y1 R1 R2 CG1 B1 hW2
        go_wp2_with fail
        rw [hf.out]
        refine bodyPost_ret (v := .tuple #[.agg #[k0, k1, k2, k3], .agg #[.int .i64 p5, r, .int .i64 a5], .bool true]) ?_ rfl ⟨_, _, rfl, hCG, hBw⟩
        simp [results, Try.results11, go_sem, z0, z1', z2', z3', q0, q1, q2]
    · have hgo : goB C ⟨p, cc, a⟩ = false := by rw [hgoH.out]; rfl
      have hf : Hid (stepO C ⟨p, cc, a⟩ = none) := stepO_bad hgo
      clear hgo hgoH hBB ev RT
      obtain ⟨z0, z1, z2, z3, f0, f1, f2, f3⟩ := (Z3).cells
      obtain ⟨u0, u1, u2, h0, h1, h2⟩ := (U3).cells
      obtain ⟨hZ, hB⟩ := sg_done (w := w) (bS := w.heap.size + 1 + 1) (bG := w.heap.size + 1 + 1 + 1) (C := Cp.zero) (G := Gp.zero) (CGv.zero wc w.heap.size) (Nat.le_refl _) (farG_nil _) (farG_nil _) (by omega) (by omega) (BB3) (.slice none 0 0) (.slice none 0 0) (.slice none 0 0) (.slice none 0 0) (.int .i64 0) (.slice none 0 0) (.int .i64 0)
      go_wp2_with fail
      rw [hf.out]
      refine bodyPost_ret (v := .tuple #[.agg #[.slice none 0 0, .slice none 0 0, .slice none 0 0, .slice none 0 0], .agg #[.int .i64 0, .slice none 0 0, .int .i64 0], .bool false]) ?_ rfl ⟨_, _, rfl, hZ, hB⟩
      simp [results, Try.results11, go_sem, z0, z1, z2, z3, u0, u1, u2]
end Go.Proofs.Ytdakmbheokcpdaa

/- RunGc of spec. -/
namespace Go.Proofs.Ytdakmbheokcpdaa
open Go.RowKit

theorem stepG_short {C : Cp} {G : Gp} (h : goB C G = true) : (stepG C G).1.h.l.length ≤ 1048576 ∧ (stepG C G).1.h.r.length ≤ 1048576 ∧ (stepG C G).1.h.t.length ≤ 1048576 ∧ (stepG C G).1.c.length ≤ 1048576 := by
  have hv := step_valid h
  obtain ⟨_, h2, h3, _, h5⟩ := gcB_sizes hv
  have hC := (gcB_iff.1 hv).1
  have h9 := (stoB_parts hC).2.1
  omega

set_option maxRecDepth 100000 in
set_option maxHeartbeats 6000000 in
theorem specRunGc_any (w : World) (lo : Nat) (vs vg : Value) (C : Cp) (G : Gp) (h : CGv w lo vs vg C G) (b0 : C.h.l.length ≤ 1048576) (b1 : C.h.r.length ≤ 1048576) (b2 : C.h.t.length ≤ 1048576) (b3 : C.c.length ≤ 1048576) : Calls Try.prog 36 #[vs, vg] w (OptCGN w (runO C G)) := by
  obtain ⟨A0, n0, c0, A1, n1, c1, A2, n2, c2, A3, n3, c3, A4, n4, c4, p, cc, a, rfl, rfl, rfl, hv, hk, ⟨r0, r1, r2, r3, r4⟩, ⟨l0, l1, l2, l3, l4⟩, ⟨m0, m1, m2, m3, m4⟩⟩ := h.open_
  have hf4 := own_neR (b := w.heap.size) r4 (.inr (Nat.le_refl _))
  have X := (((Blk4.new w (.slice A0 n0 c0) (.slice A1 n1 c1) (.slice A2 n2 c2) (.slice A3 n3 c3) 27).alloc (.cells #[.int .i64 p, .slice A4 n4 c4, .int .i64 a] 29)).alloc (.cells #[.slice none 0 0, .slice none 0 0, .slice none 0 0, .slice none 0 0] 27)).alloc (.cells #[.int .i64 0, .slice none 0 0, .int .i64 0] 29)
  have Y := ((Blk3.new_at (w := (w.alloc (.cells #[.slice A0 n0 c0, .slice A1 n1 c1, .slice A2 n2 c2, .slice A3 n3 c3] 27))) (b := w.heap.size + 1) (by simp) (.int .i64 p) (.slice A4 n4 c4) (.int .i64 a) 29).alloc (.cells #[.slice none 0 0, .slice none 0 0, .slice none 0 0, .slice none 0 0] 27)).alloc (.cells #[.int .i64 0, .slice none 0 0, .int .i64 0] 29)
  have Z := (Blk4.new_at (w := ((w.alloc (.cells #[.slice A0 n0 c0, .slice A1 n1 c1, .slice A2 n2 c2, .slice A3 n3 c3] 27)).alloc (.cells #[.int .i64 p, .slice A4 n4 c4, .int .i64 a] 29))) (b := w.heap.size + 1 + 1) (by simp) (.slice none 0 0) (.slice none 0 0) (.slice none 0 0) (.slice none 0 0) 27).alloc (.cells #[.int .i64 0, .slice none 0 0, .int .i64 0] 29)
  have U := Blk3.new_at (w := (((w.alloc (.cells #[.slice A0 n0 c0, .slice A1 n1 c1, .slice A2 n2 c2, .slice A3 n3 c3] 27)).alloc (.cells #[.int .i64 p, .slice A4 n4 c4, .int .i64 a] 29)).alloc (.cells #[.slice none 0 0, .slice none 0 0, .slice none 0 0, .slice none 0 0] 27))) (b := w.heap.size + 1 + 1 + 1) (by simp) (.int .i64 0) (.slice none 0 0) (.int .i64 0) 29
  have HH := (((h.alloc (.cells #[.slice A0 n0 c0, .slice A1 n1 c1, .slice A2 n2 c2, .slice A3 n3 c3] 27)).alloc (.cells #[.int .i64 p, .slice A4 n4 c4, .int .i64 a] 29)).alloc (.cells #[.slice none 0 0, .slice none 0 0, .slice none 0 0, .slice none 0 0] 27)).alloc (.cells #[.int .i64 0, .slice none 0 0, .int .i64 0] 29)
  have BB : Below w.heap.size w ((((w.alloc (.cells #[.slice A0 n0 c0, .slice A1 n1 c1, .slice A2 n2 c2, .slice A3 n3 c3] 27)).alloc (.cells #[.int .i64 p, .slice A4 n4 c4, .int .i64 a] 29)).alloc (.cells #[.slice none 0 0, .slice none 0 0, .slice none 0 0, .slice none 0 0] 27)).alloc (.cells #[.int .i64 0, .slice none 0 0, .int .i64 0] 29)) := BS_al (BS_al (BS_al (BS_al (Below.refl _ _) (Nat.le_refl _) _) (Nat.le_refl _) _) (Nat.le_refl _) _) (Nat.le_refl _) _
  have sz : ((((w.alloc (.cells #[.slice A0 n0 c0, .slice A1 n1 c1, .slice A2 n2 c2, .slice A3 n3 c3] 27)).alloc (.cells #[.int .i64 p, .slice A4 n4 c4, .int .i64 a] 29)).alloc (.cells #[.slice none 0 0, .slice none 0 0, .slice none 0 0, .slice none 0 0] 27)).alloc (.cells #[.int .i64 0, .slice none 0 0, .int .i64 0] 29)).heap.size = w.heap.size + 4 := by simp
  clear hv hk r0 r1 r2 r3 r4 h l0 l1 l2 l3 l4 m0 m1 m2 m3 m4
  go_enter Try.func36, Try.ntmps36
  go_wp2_with fail
  generalize ((((w.alloc (.cells #[.slice A0 n0 c0, .slice A1 n1 c1, .slice A2 n2 c2, .slice A3 n3 c3] 27)).alloc (.cells #[.int .i64 p, .slice A4 n4 c4, .int .i64 a] 29)).alloc (.cells #[.slice none 0 0, .slice none 0 0, .slice none 0 0, .slice none 0 0] 27)).alloc (.cells #[.int .i64 0, .slice none 0 0, .int .i64 0] 29)) = W at X Y Z U HH BB sz ⊢
  have szW : w.heap.size + 4 ≤ W.heap.size := by omega
  replace HH : CGv W (min lo w.heap.size) _ _ _ _ := HH.mono (Nat.min_le_left _ _)
  have hlo : min lo w.heap.size ≤ W.heap.size := by omega
  generalize min lo w.heap.size = lo at HH hlo
  clear sz
  obtain ⟨x0, x1, x2, x3, _⟩ := X.cells
  have OW := ownStore_any W lo _ C HH.cv b0 b1 b2 b3
  go_wp2_with fail
  refine OW.mono ?_; rintro e w1 ⟨vs, rfl, hD, hb1⟩
  obtain ⟨B0, i0, f0, B1, i1, f1, B2, i2, f2, B3, i3, f3, rfl⟩ := hD.letters
  have z1 := hb1.size
  have CG0 := CGv.mk' (lo := lo) ((HH.gv).mono (Nat.le_refl _)) hD hlo hb1
  have fr : FarG (.slice B0 i0 f0) (.slice B1 i1 f1) (.slice B2 i2 f2) (.slice B3 i3 f3) (.slice A4 n4 c4) w.heap.size := farG_of hD (by omega) hf4
  have CG1 := (((CG0.setFar (p := ⟨w.heap.size, 0, none⟩) fr (.slice B0 i0 f0)).setFar (p := ⟨w.heap.size, 1, none⟩) fr (.slice B1 i1 f1)).setFar (p := ⟨w.heap.size, 2, none⟩) fr (.slice B2 i2 f2)).setFar (p := ⟨w.heap.size, 3, none⟩) fr (.slice B3 i3 f3)
  have X1 := (X.below hb1).set4R (.slice B0 i0 f0) (.slice B1 i1 f1) (.slice B2 i2 f2) (.slice B3 i3 f3)
  have q1 : w.heap.size + 1 ≠ w.heap.size := by omega
  have q2 : w.heap.size + 1 + 1 ≠ w.heap.size := by omega
  have q3 : w.heap.size + 1 + 1 + 1 ≠ w.heap.size := by omega
  have Y1 := ((((Y.below hb1).otherS q1 0 (.slice B0 i0 f0)).otherS q1 1 (.slice B1 i1 f1)).otherS q1 2 (.slice B2 i2 f2)).otherS q1 3 (.slice B3 i3 f3)
  have Z1 := ((((Z.below hb1).otherS q2 0 (.slice B0 i0 f0)).otherS q2 1 (.slice B1 i1 f1)).otherS q2 2 (.slice B2 i2 f2)).otherS q2 3 (.slice B3 i3 f3)
  have U1 := ((((U.below hb1).otherS q3 0 (.slice B0 i0 f0)).otherS q3 1 (.slice B1 i1 f1)).otherS q3 2 (.slice B2 i2 f2)).otherS q3 3 (.slice B3 i3 f3)
  have BB1 : Below w.heap.size w ((((w1.setCell ⟨w.heap.size, 0, none⟩ (.slice B0 i0 f0)).setCell ⟨w.heap.size, 1, none⟩ (.slice B1 i1 f1)).setCell ⟨w.heap.size, 2, none⟩ (.slice B2 i2 f2)).setCell ⟨w.heap.size, 3, none⟩ (.slice B3 i3 f3)) := BS_set (BS_set (BS_set (BS_set (BB.trans (hb1.mono (by omega))) (Nat.le_refl _) 0 _) (Nat.le_refl _) 1 _) (Nat.le_refl _) 2 _) (Nat.le_refl _) 3 _
  have sz1 : ((((w1.setCell ⟨w.heap.size, 0, none⟩ (.slice B0 i0 f0)).setCell ⟨w.heap.size, 1, none⟩ (.slice B1 i1 f1)).setCell ⟨w.heap.size, 2, none⟩ (.slice B2 i2 f2)).setCell ⟨w.heap.size, 3, none⟩ (.slice B3 i3 f3)).heap.size = w1.heap.size := by rw [setSize, setSize, setSize, setSize]
  obtain ⟨e0, e1, e2, e3, g0, g1, g2, g3⟩ := (X.below hb1).cells
  have hxl := (X.below hb1).lt
  generalize hW1 : ((((w1.setCell ⟨w.heap.size, 0, none⟩ (.slice B0 i0 f0)).setCell ⟨w.heap.size, 1, none⟩ (.slice B1 i1 f1)).setCell ⟨w.heap.size, 2, none⟩ (.slice B2 i2 f2)).setCell ⟨w.heap.size, 3, none⟩ (.slice B3 i3 f3)) = W1 at CG1 X1 Y1 Z1 U1 BB1 sz1
  have szw : w.heap.size + 4 ≤ W1.heap.size := by omega
  clear x0 x1 x2 x3 X Y Z U HH BB OW hD hb1 CG0 sz1
  have CGL := CG1.mono (Nat.zero_le _)
  have hM : Hid (goB C ⟨p, cc, a⟩ = true → muG C ⟨p, cc, a⟩ ≤ 40) := fun h9 => by
    have h8 := (goB_iff.1 h9).1
    have := mu_le h8
    obtain ⟨_, _, _, _, _⟩ := gcB_sizes h8
    omega
  clear CG1 fr hlo
  go_wp2_with fail
  (try rw [hW1])
  go_loopw [8, 9, 10, 11] (fun i _ _ _ wr => ∃ (n : Nat) (C1 : Cp) (p1 a1 : Int) (c1 : List Int) (E0 : Option Addr) (u0 e0 : Nat) (E1 : Option Addr) (u1 e1 : Nat) (E2 : Option Addr) (u2 e2 : Nat) (E3 : Option Addr) (u3 e3 : Nat) (E4 : Option Addr) (u4 e4 : Nat), i = .int .i64 (n : Int) ∧ Hid (n + muG C1 ⟨p1, c1, a1⟩ ≤ muG C ⟨p, cc, a⟩) ∧ Hid (goB C1 ⟨p1, c1, a1⟩ = true → muG C ⟨p, cc, a⟩ ≤ 40) ∧ Hid (runN C1 ⟨p1, c1, a1⟩ (n : Int) = runO C ⟨p, cc, a⟩) ∧ Hid (C1.h.l.length ≤ 1048576 ∧ C1.h.r.length ≤ 1048576 ∧ C1.h.t.length ≤ 1048576 ∧ C1.c.length ≤ 1048576) ∧ CGv wr 0 (.agg #[.slice E0 u0 e0, .slice E1 u1 e1, .slice E2 u2 e2, .slice E3 u3 e3]) (.agg #[.int .i64 p1, .slice E4 u4 e4, .int .i64 a1]) C1 ⟨p1, c1, a1⟩ ∧ Blk4 wr w.heap.size (.slice E0 u0 e0) (.slice E1 u1 e1) (.slice E2 u2 e2) (.slice E3 u3 e3) 27 ∧ Blk3 wr (w.heap.size + 1) (.int .i64 p1) (.slice E4 u4 e4) (.int .i64 a1) 29 ∧ Blk4 wr (w.heap.size + 1 + 1) (.slice none 0 0) (.slice none 0 0) (.slice none 0 0) (.slice none 0 0) 27 ∧ Blk3 wr (w.heap.size + 1 + 1 + 1) (.int .i64 0) (.slice none 0 0) (.int .i64 0) 29 ∧ Below w.heap.size w wr ∧ w.heap.size + 4 ≤ wr.heap.size) (fun i _ _ _ _ => muG C ⟨p, cc, a⟩ - (intOf i).toNat)
  case atStart => exact ⟨0, C, p, a, cc, _, _, _, _, _, _, _, _, _, _, _, _, _, _, _, rfl, by unfold Hid; omega, hM, rfl, ⟨b0, b1, b2, b3⟩, CGL, X1, Y1, Z1, U1, BB1, szw⟩
  case round =>
    obtain ⟨n, C1, p1, a1, c1, E0, u0, e0, E1, u1, e1, E2, u2, e2, E3, u3, e3, E4, u4, e4, rfl, hmu, h40, hrun, hsh, CG1, X1, Y1, Z1, U1, BB1, szr⟩ := hrel
    obtain ⟨x0, x1, x2, x3, _⟩ := X1.cells
    obtain ⟨y0, y1, y2, _⟩ := Y1.cells
    have ST := specStepGc_any wr 0 _ _ C1 ⟨p1, c1, a1⟩ CG1 hsh.out.1 hsh.out.2.1 hsh.out.2.2.1 hsh.out.2.2.2
    rcases eg : goB C1 ⟨p1, c1, a1⟩
    · rw [stepO_bad eg] at ST
      have hf : Hid (runO C ⟨p, cc, a⟩ = none) := by unfold Hid; rw [← hrun.out]; exact runN_bad _ eg
      clear eg hrun hmu h40 hM CGL
      go_wp2_with fail
      refine ST.mono ?_; rintro e w2 ⟨vs, vg, rfl, hc2, hb2⟩
      simp only [Option.isSome_none, Option.getD_none] at hc2 ⊢
      obtain ⟨D0, m0, d0, D1, m1, d1, D2, m2, d2, D3, m3, d3, D4, m4, d4, p5, cc5, a5, hz, rfl, rfl, _⟩ := hc2.open_
      have zz2 := hb2.size
      have Z2 := ((Z1.below hb2).alloc (.cells #[.slice D0 m0 d0, .slice D1 m1 d1, .slice D2 m2 d2, .slice D3 m3 d3] 27)).alloc (.cells #[.int .i64 p5, .slice D4 m4 d4, .int .i64 a5] 29)
      have U2 := ((U1.below hb2).alloc (.cells #[.slice D0 m0 d0, .slice D1 m1 d1, .slice D2 m2 d2, .slice D3 m3 d3] 27)).alloc (.cells #[.int .i64 p5, .slice D4 m4 d4, .int .i64 a5] 29)
      have B2 := BS_al (BS_al (BB1.trans (hb2.mono (by omega))) (Nat.le_refl _) (.cells #[.slice D0 m0 d0, .slice D1 m1 d1, .slice D2 m2 d2, .slice D3 m3 d3] 27)) (Nat.le_refl _) (.cells #[.int .i64 p5, .slice D4 m4 d4, .int .i64 a5] 29)
      have sz5 : ((w2.alloc (.cells #[.slice D0 m0 d0, .slice D1 m1 d1, .slice D2 m2 d2, .slice D3 m3 d3] 27)).alloc (.cells #[.int .i64 p5, .slice D4 m4 d4, .int .i64 a5] 29)).heap.size = w2.heap.size + 2 := by simp
      clear hc2 hz x0 x1 x2 x3 y0 y1 y2 X1 Y1 Z1 U1 CG1 BB1
      obtain ⟨z0, z1, z2, z3, f0, f1, f2, f3⟩ := (Z2).cells
      obtain ⟨u0, u1, u2, h0, h1, h2⟩ := (U2).cells
      obtain ⟨hZ, hB⟩ := sg_done (w := w) (bS := w.heap.size + 1 + 1) (bG := w.heap.size + 1 + 1 + 1) (C := Cp.zero) (G := Gp.zero) (CGv.zero ((w2.alloc (.cells #[.slice D0 m0 d0, .slice D1 m1 d1, .slice D2 m2 d2, .slice D3 m3 d3] 27)).alloc (.cells #[.int .i64 p5, .slice D4 m4 d4, .int .i64 a5] 29)) w.heap.size) (Nat.le_refl _) (farG_nil _) (farG_nil _) (by omega) (by omega) (B2) (.slice none 0 0) (.slice none 0 0) (.slice none 0 0) (.slice none 0 0) (.int .i64 0) (.slice none 0 0) (.int .i64 0)
      go_wp2_with fail
      rw [hf.out]
      refine bodyPost_ret (v := .tuple #[.agg #[.slice none 0 0, .slice none 0 0, .slice none 0 0, .slice none 0 0], .agg #[.int .i64 0, .slice none 0 0, .int .i64 0], .int .i64 0, .bool false]) ?_ rfl ⟨_, _, rfl, hZ, hB⟩
      simp [results, Try.results36, go_sem, z0, z1, z2, z3, u0, u1, u2]
    · rw [stepO_go eg] at ST
      have hgo := eg
      have hsh2 := stepG_short hgo
      have hend : (stepG C1 ⟨p1, c1, a1⟩).2.p = 0 → runO C ⟨p, cc, a⟩ = some ((stepG C1 ⟨p1, c1, a1⟩).1, (stepG C1 ⟨p1, c1, a1⟩).2, (n : Int) + 1) := fun h0 => by rw [← hrun.out]; exact runN_end _ hgo h0
      have hon : (stepG C1 ⟨p1, c1, a1⟩).2.p ≠ 0 → runN (stepG C1 ⟨p1, c1, a1⟩).1 (stepG C1 ⟨p1, c1, a1⟩).2 ((n : Int) + 1) = runO C ⟨p, cc, a⟩ ∧ n + 1 + muG (stepG C1 ⟨p1, c1, a1⟩).1 (stepG C1 ⟨p1, c1, a1⟩).2 ≤ muG C ⟨p, cc, a⟩ := fun h0 => ⟨by rw [← hrun.out]; exact (runN_on _ hgo h0).symm, by have := mu_step hgo h0; have := hmu.out; omega⟩
      have hn40 : n ≤ 40 := by have := h40.out hgo; have := hmu.out; omega
      have hm40 := h40.out hgo
      have hmp : n < muG C ⟨p, cc, a⟩ := by have := mu_pos (goB_iff.1 hgo).1; have := hmu.out; omega
      generalize muG C ⟨p, cc, a⟩ = M at *
      generalize stepG C1 ⟨p1, c1, a1⟩ = sg at ST hsh2 hend hon
      obtain ⟨C2, G2⟩ := sg
      dsimp only at hsh2 hend hon
      have HE := Lib.hid hend
      have HO := Lib.hid hon
      have HS := Lib.hid hsh2
      clear eg hgo hrun hmu h40 hM CGL hend hon hsh2
      go_wp2_with fail
      refine ST.mono ?_; rintro e w2 ⟨vs, vg, rfl, hc2, hb2⟩
      simp only [Option.isSome_some, Option.getD_some] at hc2 ⊢
      obtain ⟨D0, m0, d0, D1, m1, d1, D2, m2, d2, D3, m3, d3, D4, m4, d4, p5, cc5, a5, rfl, rfl, rfl, _⟩ := hc2.open_
      have zz2 := hb2.size
      have X2 := ((X1.below hb2).alloc (.cells #[.slice D0 m0 d0, .slice D1 m1 d1, .slice D2 m2 d2, .slice D3 m3 d3] 27)).alloc (.cells #[.int .i64 p5, .slice D4 m4 d4, .int .i64 a5] 29)
      have Y2 := ((Y1.below hb2).alloc (.cells #[.slice D0 m0 d0, .slice D1 m1 d1, .slice D2 m2 d2, .slice D3 m3 d3] 27)).alloc (.cells #[.int .i64 p5, .slice D4 m4 d4, .int .i64 a5] 29)
      have Z2 := ((Z1.below hb2).alloc (.cells #[.slice D0 m0 d0, .slice D1 m1 d1, .slice D2 m2 d2, .slice D3 m3 d3] 27)).alloc (.cells #[.int .i64 p5, .slice D4 m4 d4, .int .i64 a5] 29)
      have U2 := ((U1.below hb2).alloc (.cells #[.slice D0 m0 d0, .slice D1 m1 d1, .slice D2 m2 d2, .slice D3 m3 d3] 27)).alloc (.cells #[.int .i64 p5, .slice D4 m4 d4, .int .i64 a5] 29)
      have N2 := (Blk4.new w2 (.slice D0 m0 d0) (.slice D1 m1 d1) (.slice D2 m2 d2) (.slice D3 m3 d3) 27).alloc (.cells #[.int .i64 p5, .slice D4 m4 d4, .int .i64 a5] 29)
      have H2 := Blk3.new_at (w := w2.alloc (.cells #[.slice D0 m0 d0, .slice D1 m1 d1, .slice D2 m2 d2, .slice D3 m3 d3] 27)) (b := w2.heap.size + 1) (by simp) (.int .i64 p5) (.slice D4 m4 d4) (.int .i64 a5) 29
      have CG2 := (hc2.alloc (.cells #[.slice D0 m0 d0, .slice D1 m1 d1, .slice D2 m2 d2, .slice D3 m3 d3] 27)).alloc (.cells #[.int .i64 p5, .slice D4 m4 d4, .int .i64 a5] 29)
      have B2 := BS_al (BS_al (BB1.trans (hb2.mono (by omega))) (Nat.le_refl _) (.cells #[.slice D0 m0 d0, .slice D1 m1 d1, .slice D2 m2 d2, .slice D3 m3 d3] 27)) (Nat.le_refl _) (.cells #[.int .i64 p5, .slice D4 m4 d4, .int .i64 a5] 29)
      have sz5 : ((w2.alloc (.cells #[.slice D0 m0 d0, .slice D1 m1 d1, .slice D2 m2 d2, .slice D3 m3 d3] 27)).alloc (.cells #[.int .i64 p5, .slice D4 m4 d4, .int .i64 a5] 29)).heap.size = w2.heap.size + 2 := by simp
      have szn : w2.heap.size + 2 ≤ ((w2.alloc (.cells #[.slice D0 m0 d0, .slice D1 m1 d1, .slice D2 m2 d2, .slice D3 m3 d3] 27)).alloc (.cells #[.int .i64 p5, .slice D4 m4 d4, .int .i64 a5] 29)).heap.size := by omega
      obtain ⟨x0', x1', x2', x3', f0, f1, f2, f3⟩ := X2.cells
      obtain ⟨y0', y1', y2', g0, g1, g2⟩ := Y2.cells
      obtain ⟨n0, n1, n2, n3, _⟩ := N2.cells
      obtain ⟨h0, h1, h2, _⟩ := H2.cells
      have q1 : w.heap.size ≠ w.heap.size + 1 := by omega
      have q2 : w.heap.size + 1 + 1 ≠ w.heap.size := by omega
      have q3 : w.heap.size + 1 + 1 ≠ w.heap.size + 1 := by omega
      have q4 : w.heap.size + 1 + 1 + 1 ≠ w.heap.size := by omega
      have q5 : w.heap.size + 1 + 1 + 1 ≠ w.heap.size + 1 := by omega
      have q6 : w.heap.size + 1 ≠ w.heap.size := by omega
      have k1 : w2.heap.size ≠ w.heap.size := by omega
      have k2 : w2.heap.size ≠ w.heap.size + 1 := by omega
      have k3 : w2.heap.size + 1 ≠ w.heap.size := by omega
      have k4 : w2.heap.size + 1 ≠ w.heap.size + 1 := by omega
      have l1 : w.heap.size < wr.heap.size := by omega
      have l2 : w.heap.size + 1 < wr.heap.size := by omega
      have t1 : w.heap.size ≤ w.heap.size + 1 := by omega
      have X6 := ((((X2.set4R (.slice D0 m0 d0) (.slice D1 m1 d1) (.slice D2 m2 d2) (.slice D3 m3 d3)).otherS q1 0 (.int .i64 p5)).otherS q1 1 (.slice D4 m4 d4)).otherS q1 2 (.int .i64 a5))
      have Y6 := Blk3.set3R ((((Y2.otherS q6 0 (.slice D0 m0 d0)).otherS q6 1 (.slice D1 m1 d1)).otherS q6 2 (.slice D2 m2 d2)).otherS q6 3 (.slice D3 m3 d3)) (.int .i64 p5) (.slice D4 m4 d4) (.int .i64 a5)
      have Z6 := ((((((Z2.otherS q2 0 (.slice D0 m0 d0)).otherS q2 1 (.slice D1 m1 d1)).otherS q2 2 (.slice D2 m2 d2)).otherS q2 3 (.slice D3 m3 d3)).otherS q3 0 (.int .i64 p5)).otherS q3 1 (.slice D4 m4 d4)).otherS q3 2 (.int .i64 a5)
      have U6 := ((((((U2.otherS q4 0 (.slice D0 m0 d0)).otherS q4 1 (.slice D1 m1 d1)).otherS q4 2 (.slice D2 m2 d2)).otherS q4 3 (.slice D3 m3 d3)).otherS q5 0 (.int .i64 p5)).otherS q5 1 (.slice D4 m4 d4)).otherS q5 2 (.int .i64 a5)
      have CG6 := ((((((CG2.setS l1 0 (.slice D0 m0 d0)).setS l1 1 (.slice D1 m1 d1)).setS l1 2 (.slice D2 m2 d2)).setS l1 3 (.slice D3 m3 d3)).setS l2 0 (.int .i64 p5)).setS l2 1 (.slice D4 m4 d4)).setS l2 2 (.int .i64 a5)
      have B6 : Below w.heap.size w ((((((((((w2.alloc (.cells #[.slice D0 m0 d0, .slice D1 m1 d1, .slice D2 m2 d2, .slice D3 m3 d3] 27)).alloc (.cells #[.int .i64 p5, .slice D4 m4 d4, .int .i64 a5] 29)).setCell ⟨w.heap.size, 0, none⟩ (.slice D0 m0 d0)).setCell ⟨w.heap.size, 1, none⟩ (.slice D1 m1 d1)).setCell ⟨w.heap.size, 2, none⟩ (.slice D2 m2 d2)).setCell ⟨w.heap.size, 3, none⟩ (.slice D3 m3 d3)).setCell ⟨w.heap.size + 1, 0, none⟩ (.int .i64 p5)).setCell ⟨w.heap.size + 1, 1, none⟩ (.slice D4 m4 d4)).setCell ⟨w.heap.size + 1, 2, none⟩ (.int .i64 a5))) := BS_set (BS_set (BS_set (BS_set (BS_set (BS_set (BS_set B2 (Nat.le_refl _) 0 _) (Nat.le_refl _) 1 _) (Nat.le_refl _) 2 _) (Nat.le_refl _) 3 _) t1 0 _) t1 1 _) t1 2 _
      have sz6 : ((((((((((w2.alloc (.cells #[.slice D0 m0 d0, .slice D1 m1 d1, .slice D2 m2 d2, .slice D3 m3 d3] 27)).alloc (.cells #[.int .i64 p5, .slice D4 m4 d4, .int .i64 a5] 29)).setCell ⟨w.heap.size, 0, none⟩ (.slice D0 m0 d0)).setCell ⟨w.heap.size, 1, none⟩ (.slice D1 m1 d1)).setCell ⟨w.heap.size, 2, none⟩ (.slice D2 m2 d2)).setCell ⟨w.heap.size, 3, none⟩ (.slice D3 m3 d3)).setCell ⟨w.heap.size + 1, 0, none⟩ (.int .i64 p5)).setCell ⟨w.heap.size + 1, 1, none⟩ (.slice D4 m4 d4)).setCell ⟨w.heap.size + 1, 2, none⟩ (.int .i64 a5))).heap.size = ((w2.alloc (.cells #[.slice D0 m0 d0, .slice D1 m1 d1, .slice D2 m2 d2, .slice D3 m3 d3] 27)).alloc (.cells #[.int .i64 p5, .slice D4 m4 d4, .int .i64 a5] 29)).heap.size := by simp only [setSize]
      obtain ⟨yv0, yv1, yv2, _⟩ := Y6.cells
      generalize hW6 : ((((((((((w2.alloc (.cells #[.slice D0 m0 d0, .slice D1 m1 d1, .slice D2 m2 d2, .slice D3 m3 d3] 27)).alloc (.cells #[.int .i64 p5, .slice D4 m4 d4, .int .i64 a5] 29)).setCell ⟨w.heap.size, 0, none⟩ (.slice D0 m0 d0)).setCell ⟨w.heap.size, 1, none⟩ (.slice D1 m1 d1)).setCell ⟨w.heap.size, 2, none⟩ (.slice D2 m2 d2)).setCell ⟨w.heap.size, 3, none⟩ (.slice D3 m3 d3)).setCell ⟨w.heap.size + 1, 0, none⟩ (.int .i64 p5)).setCell ⟨w.heap.size + 1, 1, none⟩ (.slice D4 m4 d4)).setCell ⟨w.heap.size + 1, 2, none⟩ (.int .i64 a5))) = W6 at X6 Y6 Z6 U6 CG6 B6 sz6
      have szf : w.heap.size + 4 ≤ W6.heap.size := by omega
      obtain ⟨xx0, xx1, xx2, xx3, _⟩ := X6.cells
      obtain ⟨yy0, yy1, yy2, _⟩ := Y6.cells
      have lx := X2.lt
      have ly := Y2.lt
      have lz := Z6.lt
      have lu := U6.lt
      have hw1 : IntKind.i64.wrap ((n : Int) + 1) = ((n + 1 : Nat) : Int) := by rw [IntWalk.i64_in _ (by omega)]; omega
      clear hc2 x0 x1 x2 x3 y0 y1 y2 X1 Y1 Z1 U1 CG1 BB1 CG2 X2 Y2 Z2 U2 N2 H2 B2 sz6 sz5 szn ST hb2
      rcases Decidable.em (p5 = 0) with hp0 | hp0
      · have hf : Hid (runO C ⟨p, cc, a⟩ = some (C2, ⟨p5, cc5, a5⟩, ((n + 1 : Nat) : Int))) := by unfold Hid; rw [HE.out hp0]; simp
        have hpe : (p5 == 0) = true := by rw [hp0]; rfl
        clear HE HO HS hp0
        go_wp2_with fail
        (try rw [hW6])
        obtain ⟨r0, r1, r2, r3, r4, r5, r6, r7⟩ := Z6.cells
        obtain ⟨s0, s1, s2, s3, s4, s5⟩ := U6.cells
        have hl : w.heap.size + 1 + 1 + 1 < wr.heap.size := by omega
        have hl2 : w.heap.size ≤ w.heap.size + 1 + 1 := by omega
        have SO : ∀ w' : World, Blk4 w' w.heap.size (.slice D0 m0 d0) (.slice D1 m1 d1) (.slice D2 m2 d2) (.slice D3 m3 d3) 27 → Blk3 w' (w.heap.size + 1) (.int .i64 p5) (.slice D4 m4 d4) (.int .i64 a5) 29 → w'.cell? ⟨w.heap.size, 0, none⟩ = some (.slice D0 m0 d0) ∧ w'.cell? ⟨w.heap.size, 1, none⟩ = some (.slice D1 m1 d1) ∧ w'.cell? ⟨w.heap.size, 2, none⟩ = some (.slice D2 m2 d2) ∧ w'.cell? ⟨w.heap.size, 3, none⟩ = some (.slice D3 m3 d3) ∧ w'.cell? ⟨w.heap.size + 1, 0, none⟩ = some (.int .i64 p5) ∧ w'.cell? ⟨w.heap.size + 1, 1, none⟩ = some (.slice D4 m4 d4) ∧ w'.cell? ⟨w.heap.size + 1, 2, none⟩ = some (.int .i64 a5) := fun w' hX hY => ⟨hX.cells.1, hX.cells.2.1, hX.cells.2.2.1, hX.cells.2.2.2.1, hY.cells.1, hY.cells.2.1, hY.cells.2.2.1⟩
        clear f0 f1 f2 f3 g0 g1 g2 n0 n1 n2 n3 h0 h1 h2 x0' x1' x2' x3' y0' y1' y2' hW6
        go_cut [6, 7] from 8 (fun q q' w' => q = .int .i64 ((n + 1 : Nat) : Int) ∧ q' = .bool true ∧ PostR w (w.heap.size + 1 + 1) C2 ⟨p5, cc5, a5⟩ w')
        case first =>
          go_region_held3 (fun w' => w'.cell? ⟨w.heap.size, 0, none⟩ = some (.slice D0 m0 d0) ∧ w'.cell? ⟨w.heap.size, 1, none⟩ = some (.slice D1 m1 d1) ∧ w'.cell? ⟨w.heap.size, 2, none⟩ = some (.slice D2 m2 d2) ∧ w'.cell? ⟨w.heap.size, 3, none⟩ = some (.slice D3 m3 d3) ∧ w'.cell? ⟨w.heap.size + 1, 0, none⟩ = some (.int .i64 p5) ∧ w'.cell? ⟨w.heap.size + 1, 1, none⟩ = some (.slice D4 m4 d4) ∧ w'.cell? ⟨w.heap.size + 1, 2, none⟩ = some (.int .i64 a5))
            (((try dsimp only); (refine SO _ ?_ ?_); (· repeat (with_reducible (first | exact X6 | refine Blk4.drewS ?_ | refine Blk4.otherS ?_ q2.symm _ _ | refine Blk4.otherS ?_ q4.symm _ _))); (· repeat (with_reducible (first | exact Y6 | refine Blk3.drewS ?_ | refine Blk3.otherS ?_ q3.symm _ _ | refine Blk3.otherS ?_ q5.symm _ _)))))
            (fail)
          all_goals
            (try rename_i hHeld); (try clear hHeld)
            go_wp2_with fail
            go_meet
            case rel => exact ⟨rfl, rfl, PostR.drew (PostR.of Z6 U6 CG6 hl hl2 B6)⟩
        case rest =>
          obtain ⟨rfl, rfl, k0, k1, k2, k3, r, hZ, hU, hCG, hBw⟩ := hcut
          obtain ⟨z0, z1', z2', z3', _⟩ := hZ.cells
          obtain ⟨q0, q1, q2, _⟩ := hU.cells
          clear r0 r1 r2 r3 r4 r5 r6 r7 s0 s1 s2 s3 s4 s5 X6 Y6 Z6 U6 CG6 B6
          go_wp2_with fail
          rw [hf.out]
          refine bodyPost_ret (v := .tuple #[.agg #[k0, k1, k2, k3], .agg #[.int .i64 p5, r, .int .i64 a5], .int .i64 ((n + 1 : Nat) : Int), .bool true]) ?_ rfl ⟨_, _, rfl, hCG, hBw⟩
          simp [results, Try.results36, go_sem, z0, z1', z2', z3', q0, q1, q2]
      · have hpe : (p5 == 0) = false := by rw [beq_eq_false_iff_ne]; exact hp0
        obtain ⟨ho1, ho2⟩ := HO.out hp0
        have HR := Lib.hid ho1
        have HM := Lib.hid ho2
        clear HE HO ho1 ho2
        go_wp2_with fail
        (try rw [hW6])
        go_roundw
        case rel => exact ⟨n + 1, C2, p5, a5, cc5, _, _, _, _, _, _, _, _, _, _, _, _, _, _, _, rfl, HM, Lib.hid (fun _ => hm40), HR, HS, CG6.mono (Nat.zero_le _), X6, Y6, Z6, U6, B6, szf⟩
        case measure => simp [intOf]; omega
end Go.Proofs.Ytdakmbheokcpdaa

