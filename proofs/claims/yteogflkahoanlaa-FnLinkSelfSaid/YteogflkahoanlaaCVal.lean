/- NewCounted, CountedValid, CountedSame, CyclesOf, of impl and of spec. -/
import Derived.Test.YteogflkahoanlaaDv
import Derived.Test.YteogflkahoanlaaCntI
import Derived.Test.YteogflkahoanlaaSCnt
import Derived.Test.YteogflkahoanlaaIStos
import Derived.Test.YteogflkahoanlaaStoKs
import Derived.Deep.RegionHeld3
import Derived.Deep.RegionLaw
namespace Go.Proofs.Yteogflkahoanlaa
open Go.RowKit

def newDO (C : Cp) : Option Dp := if stoB C = true then some ⟨C, cntO C.h⟩ else none
def sameD (a b : Dp) : Bool := sameC a.C b.C && decide (a.n = b.n)
theorem sameD_self (a : Dp) : sameD a a = true := by unfold sameD; simp [sameC_self]
def cycL (D : Dp) : List Int := if dpB D = true then leakL D.C else []
set_option maxRecDepth 100000 in
set_option maxHeartbeats 2000000 in
theorem implNewCounted_any (w : World) (lo : Nat) (v : Value) (C : Cp) (hv : Cv w lo v C) : Calls Try.prog 34 #[v] w (OptDv w (newDO C)) := by
  have hvo := hv
  obtain ⟨A0, n0, c0, A1, n1, c1, A2, n2, c2, A3, n3, c3, rfl, hh, ⟨r0, r1, r2, r3⟩, ⟨l0, l1, l2, l3⟩, ⟨mm0, mm1, mm2, mm3⟩, _⟩ := hvo.open_
  have X := (Blk4.new w (.slice A0 n0 c0) (.slice A1 n1 c1) (.slice A2 n2 c2) (.slice A3 n3 c3) 27).alloc (.cells #[.slice none 0 0, .slice none 0 0, .slice none 0 0, .slice none 0 0, .slice none 0 0] 29)
  have Y := Blk5.new_at (w := w.alloc (.cells #[.slice A0 n0 c0, .slice A1 n1 c1, .slice A2 n2 c2, .slice A3 n3 c3] 27)) (b := w.heap.size + 1) (by simp) (.slice none 0 0) (.slice none 0 0) (.slice none 0 0) (.slice none 0 0) (.slice none 0 0) 29
  have VV := (hv.alloc (.cells #[.slice A0 n0 c0, .slice A1 n1 c1, .slice A2 n2 c2, .slice A3 n3 c3] 27)).alloc (.cells #[.slice none 0 0, .slice none 0 0, .slice none 0 0, .slice none 0 0, .slice none 0 0] 29)
  have HH := (hh.alloc (.cells #[.slice A0 n0 c0, .slice A1 n1 c1, .slice A2 n2 c2, .slice A3 n3 c3] 27)).alloc (.cells #[.slice none 0 0, .slice none 0 0, .slice none 0 0, .slice none 0 0, .slice none 0 0] 29)
  have BB : Below w.heap.size w ((w.alloc (.cells #[.slice A0 n0 c0, .slice A1 n1 c1, .slice A2 n2 c2, .slice A3 n3 c3] 27)).alloc (.cells #[.slice none 0 0, .slice none 0 0, .slice none 0 0, .slice none 0 0, .slice none 0 0] 29)) := ((Below.refl _ _).alloc (Nat.le_refl _) _).alloc (by simp) _
  have sz : w.heap.size + 2 ≤ ((w.alloc (.cells #[.slice A0 n0 c0, .slice A1 n1 c1, .slice A2 n2 c2, .slice A3 n3 c3] 27)).alloc (.cells #[.slice none 0 0, .slice none 0 0, .slice none 0 0, .slice none 0 0, .slice none 0 0] 29)).heap.size := by simp
  clear hv hh r0 r1 r2 r3
  generalize hW : (w.alloc (.cells #[.slice A0 n0 c0, .slice A1 n1 c1, .slice A2 n2 c2, .slice A3 n3 c3] 27)).alloc (.cells #[.slice none 0 0, .slice none 0 0, .slice none 0 0, .slice none 0 0, .slice none 0 0] 29) = W at X Y VV HH BB sz
  obtain ⟨x0, x1, x2, x3, -⟩ := X.cells
  have V := implStoreValid_any W lo _ C VV
  rcases ev : stoB C
  · have hf : Hid (newDO C = none) := by unfold Hid newDO; rw [ev]; rfl
    rw [ev] at V
    clear ev
    go_enter Try.func34, Try.ntmps34
    go_wp2_with fail
    (try rw [hW])
    refine V.mono ?_; rintro e w1 ⟨rfl, hb1⟩
    obtain ⟨y0, y1, y2, y3, y4, f0, f1, f2, f3, f4⟩ := (Y.below hb1).cells
    obtain ⟨hZ, hB⟩ := dv_zero (w := w) (b := w.heap.size + 1) (by omega) (BB.trans (hb1.mono BB.size))
    go_wp2_with fail
    rw [hf.out]
    refine bodyPost_ret (v := .tuple #[.agg #[.slice none 0 0, .slice none 0 0, .slice none 0 0, .slice none 0 0, .slice none 0 0], .bool false]) ?_ rfl ⟨_, rfl, hZ, hB⟩
    simp [results, Try.results34, go_sem, y0, y1, y2, y3, y4]
  · have hf : Hid (newDO C = some ⟨C, cntO C.h⟩) := by unfold Hid newDO; rw [ev]; rfl
    rw [ev] at V
    have evs := ev
    clear ev
    go_enter Try.func34, Try.ntmps34
    go_wp2_with fail
    (try rw [hW])
    refine V.mono ?_; rintro e w1 ⟨rfl, hb1⟩
    have X1 := X.below hb1
    have Y1 := Y.below hb1
    have VV1 := VV.below hb1
    have HH1 := HH.below hb1
    have B1 := BB.trans (hb1.mono BB.size)
    have z1 : w.heap.size + 2 ≤ w1.heap.size := by have := hb1.size; omega
    have lX : w.heap.size < w.heap.size + 1 := by omega
    have SO : ∀ w' : World, Below (w.heap.size + 1) w1 w' → w'.cell? ⟨w.heap.size, 0, none⟩ = some (.slice A0 n0 c0) ∧ w'.cell? ⟨w.heap.size, 1, none⟩ = some (.slice A1 n1 c1) ∧ w'.cell? ⟨w.heap.size, 2, none⟩ = some (.slice A2 n2 c2) ∧ w'.cell? ⟨w.heap.size, 3, none⟩ = some (.slice A3 n3 c3) := fun w' hb => ⟨(X1.farB hb lX).cells.1, (X1.farB hb lX).cells.2.1, (X1.farB hb lX).cells.2.2.1, (X1.farB hb lX).cells.2.2.2.1⟩
    obtain ⟨p0, p1, p2, p3, -⟩ := X1.cells
    clear x0 x1 x2 x3 X Y VV HH
    have CP := copyS_valid w1.drew lo _ C VV1.drew evs
    go_wp2_with fail
    go_region_held3 (fun w' => w'.cell? ⟨w.heap.size, 0, none⟩ = some (.slice A0 n0 c0) ∧ w'.cell? ⟨w.heap.size, 1, none⟩ = some (.slice A1 n1 c1) ∧ w'.cell? ⟨w.heap.size, 2, none⟩ = some (.slice A2 n2 c2) ∧ w'.cell? ⟨w.heap.size, 3, none⟩ = some (.slice A3 n3 c3))
      (((try dsimp only); (refine SO _ ?_); (repeat (with_reducible (first | exact Below.refl _ _ | exact hS3 | exact hS2 | refine Below.drew ?_ | refine B5_lo ?_ _ _)))))
      (first
        | (go_at_call 59; (with_reducible refine CP.mono ?_); rintro e w2 ⟨vv, rfl, HD, hb2⟩; (have hR2 : Below w1.heap.size w1 w2 := B5_th (B5_dr (Below.refl _ _)) hb2); (have hS2 : Below (w.heap.size + 1) w1 w2 := hR2.mono (by omega)); (have HDo := HD); (obtain ⟨B0, u0, e0, B1', u1, e1, B2, u2, e2, B3, u3, e3, rfl, -⟩ := HDo.open_))
        | (go_at_call 37; (with_reducible refine (implCountsOf_any w2 lo _ C.h (HH1.below hR2)).mono ?_); rintro e w3 ⟨A5, k5, rfl, R5, hb3⟩; (have hR3 : Below w1.heap.size w1 w3 := B5_th hR2 hb3); (have hS3 : Below (w.heap.size + 1) w1 w3 := hR3.mono (by omega)); (obtain ⟨y0, y1, y2, y3, y4, f0, f1, f2, f3, f4⟩ := (Y1.below hR3).cells)))
    all_goals
      rename_i hHeld
      clear hHeld
      have DD := Dv.mk (lo := w1.heap.size) HD R5 hR2.size hb3
      obtain ⟨hZ, hB⟩ := dv_done (w := w) (b := w.heap.size + 1) DD (by omega) (by omega) (B1.trans (hR3.mono B1.size)) (.slice B0 u0 e0) (.slice B1' u1 e1) (.slice B2 u2 e2) (.slice B3 u3 e3) (.slice A5 (cntO C.h).length k5)
      clear DD HD R5 SO X1 Y1 p0 p1 p2 p3
      go_wp2_with fail
      rw [hf.out]
      refine bodyPost_ret (v := .tuple #[.agg #[.slice B0 u0 e0, .slice B1' u1 e1, .slice B2 u2 e2, .slice B3 u3 e3, .slice A5 (cntO C.h).length k5], .bool true]) ?_ rfl ⟨_, rfl, hZ, hB⟩
      simp [results, Try.results34, go_sem, y0, y1, y2, y3, y4]

set_option maxRecDepth 100000 in
set_option maxHeartbeats 2000000 in
theorem specNewCounted_any (w : World) (lo : Nat) (v : Value) (C : Cp) (hv : Cv w lo v C) : Calls Try.prog 35 #[v] w (OptDv w (newDO C)) := by
  have hvo := hv
  obtain ⟨A0, n0, c0, A1, n1, c1, A2, n2, c2, A3, n3, c3, rfl, hh, ⟨r0, r1, r2, r3⟩, ⟨l0, l1, l2, l3⟩, ⟨mm0, mm1, mm2, mm3⟩, _⟩ := hvo.open_
  have X := (Blk4.new w (.slice A0 n0 c0) (.slice A1 n1 c1) (.slice A2 n2 c2) (.slice A3 n3 c3) 27).alloc (.cells #[.slice none 0 0, .slice none 0 0, .slice none 0 0, .slice none 0 0, .slice none 0 0] 29)
  have Y := Blk5.new_at (w := w.alloc (.cells #[.slice A0 n0 c0, .slice A1 n1 c1, .slice A2 n2 c2, .slice A3 n3 c3] 27)) (b := w.heap.size + 1) (by simp) (.slice none 0 0) (.slice none 0 0) (.slice none 0 0) (.slice none 0 0) (.slice none 0 0) 29
  have VV := (hv.alloc (.cells #[.slice A0 n0 c0, .slice A1 n1 c1, .slice A2 n2 c2, .slice A3 n3 c3] 27)).alloc (.cells #[.slice none 0 0, .slice none 0 0, .slice none 0 0, .slice none 0 0, .slice none 0 0] 29)
  have HH := (hh.alloc (.cells #[.slice A0 n0 c0, .slice A1 n1 c1, .slice A2 n2 c2, .slice A3 n3 c3] 27)).alloc (.cells #[.slice none 0 0, .slice none 0 0, .slice none 0 0, .slice none 0 0, .slice none 0 0] 29)
  have BB : Below w.heap.size w ((w.alloc (.cells #[.slice A0 n0 c0, .slice A1 n1 c1, .slice A2 n2 c2, .slice A3 n3 c3] 27)).alloc (.cells #[.slice none 0 0, .slice none 0 0, .slice none 0 0, .slice none 0 0, .slice none 0 0] 29)) := ((Below.refl _ _).alloc (Nat.le_refl _) _).alloc (by simp) _
  have sz : w.heap.size + 2 ≤ ((w.alloc (.cells #[.slice A0 n0 c0, .slice A1 n1 c1, .slice A2 n2 c2, .slice A3 n3 c3] 27)).alloc (.cells #[.slice none 0 0, .slice none 0 0, .slice none 0 0, .slice none 0 0, .slice none 0 0] 29)).heap.size := by simp
  clear hv hh r0 r1 r2 r3
  generalize hW : (w.alloc (.cells #[.slice A0 n0 c0, .slice A1 n1 c1, .slice A2 n2 c2, .slice A3 n3 c3] 27)).alloc (.cells #[.slice none 0 0, .slice none 0 0, .slice none 0 0, .slice none 0 0, .slice none 0 0] 29) = W at X Y VV HH BB sz
  obtain ⟨x0, x1, x2, x3, -⟩ := X.cells
  have V := specStoreValid_any W lo _ C VV
  rcases ev : stoB C
  · have hf : Hid (newDO C = none) := by unfold Hid newDO; rw [ev]; rfl
    rw [ev] at V
    clear ev
    go_enter Try.func35, Try.ntmps35
    go_wp2_with fail
    (try rw [hW])
    refine V.mono ?_; rintro e w1 ⟨rfl, hb1⟩
    obtain ⟨y0, y1, y2, y3, y4, f0, f1, f2, f3, f4⟩ := (Y.below hb1).cells
    obtain ⟨hZ, hB⟩ := dv_zero (w := w) (b := w.heap.size + 1) (by omega) (BB.trans (hb1.mono BB.size))
    go_wp2_with fail
    rw [hf.out]
    refine bodyPost_ret (v := .tuple #[.agg #[.slice none 0 0, .slice none 0 0, .slice none 0 0, .slice none 0 0, .slice none 0 0], .bool false]) ?_ rfl ⟨_, rfl, hZ, hB⟩
    simp [results, Try.results35, go_sem, y0, y1, y2, y3, y4]
  · have hf : Hid (newDO C = some ⟨C, cntO C.h⟩) := by unfold Hid newDO; rw [ev]; rfl
    rw [ev] at V
    have evs := ev
    clear ev
    go_enter Try.func35, Try.ntmps35
    go_wp2_with fail
    (try rw [hW])
    refine V.mono ?_; rintro e w1 ⟨rfl, hb1⟩
    have X1 := X.below hb1
    have Y1 := Y.below hb1
    have VV1 := VV.below hb1
    have HH1 := HH.below hb1
    have B1 := BB.trans (hb1.mono BB.size)
    have z1 : w.heap.size + 2 ≤ w1.heap.size := by have := hb1.size; omega
    have lX : w.heap.size < w.heap.size + 1 := by omega
    have SO : ∀ w' : World, Below (w.heap.size + 1) w1 w' → w'.cell? ⟨w.heap.size, 0, none⟩ = some (.slice A0 n0 c0) ∧ w'.cell? ⟨w.heap.size, 1, none⟩ = some (.slice A1 n1 c1) ∧ w'.cell? ⟨w.heap.size, 2, none⟩ = some (.slice A2 n2 c2) ∧ w'.cell? ⟨w.heap.size, 3, none⟩ = some (.slice A3 n3 c3) := fun w' hb => ⟨(X1.farB hb lX).cells.1, (X1.farB hb lX).cells.2.1, (X1.farB hb lX).cells.2.2.1, (X1.farB hb lX).cells.2.2.2.1⟩
    obtain ⟨p0, p1, p2, p3, -⟩ := X1.cells
    clear x0 x1 x2 x3 X Y VV HH
    have CP := l4Copy_any w1.drew lo _ C VV1.drew evs
    go_wp2_with fail
    go_region_held3 (fun w' => w'.cell? ⟨w.heap.size, 0, none⟩ = some (.slice A0 n0 c0) ∧ w'.cell? ⟨w.heap.size, 1, none⟩ = some (.slice A1 n1 c1) ∧ w'.cell? ⟨w.heap.size, 2, none⟩ = some (.slice A2 n2 c2) ∧ w'.cell? ⟨w.heap.size, 3, none⟩ = some (.slice A3 n3 c3))
      (((try dsimp only); (refine SO _ ?_); (repeat (with_reducible (first | exact Below.refl _ _ | exact hS3 | exact hS2 | refine Below.drew ?_ | refine B5_lo ?_ _ _)))))
      (first
        | (go_at_call 61; (with_reducible refine CP.mono ?_); rintro e w2 ⟨vv, rfl, HD, hb2⟩; (have hR2 : Below w1.heap.size w1 w2 := B5_th (B5_dr (Below.refl _ _)) hb2); (have hS2 : Below (w.heap.size + 1) w1 w2 := hR2.mono (by omega)); (have HDo := HD); (obtain ⟨B0, u0, e0, B1', u1, e1, B2, u2, e2, B3, u3, e3, rfl, -⟩ := HDo.open_))
        | (go_at_call 62; (with_reducible refine (specCountsOf_any w2 lo _ C.h (HH1.below hR2)).mono ?_); rintro e w3 ⟨A5, k5, rfl, R5, hb3⟩; (have hR3 : Below w1.heap.size w1 w3 := B5_th hR2 hb3); (have hS3 : Below (w.heap.size + 1) w1 w3 := hR3.mono (by omega)); (obtain ⟨y0, y1, y2, y3, y4, f0, f1, f2, f3, f4⟩ := (Y1.below hR3).cells)))
    all_goals
      rename_i hHeld
      clear hHeld
      have DD := Dv.mk (lo := w1.heap.size) HD R5 hR2.size hb3
      obtain ⟨hZ, hB⟩ := dv_done (w := w) (b := w.heap.size + 1) DD (by omega) (by omega) (B1.trans (hR3.mono B1.size)) (.slice B0 u0 e0) (.slice B1' u1 e1) (.slice B2 u2 e2) (.slice B3 u3 e3) (.slice A5 (cntO C.h).length k5)
      clear DD HD R5 SO X1 Y1 p0 p1 p2 p3
      go_wp2_with fail
      rw [hf.out]
      refine bodyPost_ret (v := .tuple #[.agg #[.slice B0 u0 e0, .slice B1' u1 e1, .slice B2 u2 e2, .slice B3 u3 e3, .slice A5 (cntO C.h).length k5], .bool true]) ?_ rfl ⟨_, rfl, hZ, hB⟩
      simp [results, Try.results35, go_sem, y0, y1, y2, y3, y4]

set_option maxRecDepth 100000 in
set_option maxHeartbeats 2000000 in
theorem implCountedValid_any (w : World) (lo : Nat) (v : Value) (D : Dp) (hv : Dv w lo v D) : Calls Try.prog 20 #[v] w (RetB w (dpB D)) := by
  obtain ⟨A0, n0, c0, A1, n1, c1, A2, n2, c2, A3, n3, c3, A4, n4, c4, rfl, hc, hh, ⟨r0, r1, r2, r3, r4⟩, ⟨l0, l1, l2, l3, l4⟩, ⟨m0, m1, m2, m3, m4⟩, -⟩ := hv.open_
  have X := Blk5.new w (.slice A0 n0 c0) (.slice A1 n1 c1) (.slice A2 n2 c2) (.slice A3 n3 c3) (.slice A4 n4 c4) 29
  have HC := hc.alloc (.cells #[.slice A0 n0 c0, .slice A1 n1 c1, .slice A2 n2 c2, .slice A3 n3 c3, .slice A4 n4 c4] 29)
  have HH := hh.alloc (.cells #[.slice A0 n0 c0, .slice A1 n1 c1, .slice A2 n2 c2, .slice A3 n3 c3, .slice A4 n4 c4] 29)
  have R4 := r4.alloc (.cells #[.slice A0 n0 c0, .slice A1 n1 c1, .slice A2 n2 c2, .slice A3 n3 c3, .slice A4 n4 c4] 29)
  have BB : Below w.heap.size w (w.alloc (.cells #[.slice A0 n0 c0, .slice A1 n1 c1, .slice A2 n2 c2, .slice A3 n3 c3, .slice A4 n4 c4] 29)) := (Below.refl _ _).alloc (Nat.le_refl _) _
  clear hc hh r0 r1 r2 r3 r4 hv
  generalize hW : w.alloc (.cells #[.slice A0 n0 c0, .slice A1 n1 c1, .slice A2 n2 c2, .slice A3 n3 c3, .slice A4 n4 c4] 29) = W at X HC HH R4 BB
  obtain ⟨x0, x1, x2, x3, x4, -⟩ := X.cells
  have V := implStoreValid_any W.drew lo _ D.C HC.drew
  rcases ev : stoB D.C
  · have hf : Hid (dpB D = false) := by unfold Hid dpB; rw [ev]; rfl
    rw [ev] at V
    clear ev HC HH R4
    go_enter Try.func20, Try.ntmps20
    go_wp2_with fail
    (try rw [hW])
    have SO : ∀ w' : World, Below W.heap.size W w' → w'.cell? ⟨w.heap.size, 0, none⟩ = some (.slice A0 n0 c0) ∧ w'.cell? ⟨w.heap.size, 1, none⟩ = some (.slice A1 n1 c1) ∧ w'.cell? ⟨w.heap.size, 2, none⟩ = some (.slice A2 n2 c2) ∧ w'.cell? ⟨w.heap.size, 3, none⟩ = some (.slice A3 n3 c3) ∧ w'.cell? ⟨w.heap.size, 4, none⟩ = some (.slice A4 n4 c4) := fun w' hb => ⟨(X.below hb).cells.1, (X.below hb).cells.2.1, (X.below hb).cells.2.2.1, (X.below hb).cells.2.2.2.1, (X.below hb).cells.2.2.2.2.1⟩
    refine wp_region_held_drew (S := fun w' => w'.cell? ⟨w.heap.size, 0, none⟩ = some (.slice A0 n0 c0) ∧ w'.cell? ⟨w.heap.size, 1, none⟩ = some (.slice A1 n1 c1) ∧ w'.cell? ⟨w.heap.size, 2, none⟩ = some (.slice A2 n2 c2) ∧ w'.cell? ⟨w.heap.size, 3, none⟩ = some (.slice A3 n3 c3) ∧ w'.cell? ⟨w.heap.size, 4, none⟩ = some (.slice A4 n4 c4)) (by kernel_rfl) ?_ (fun hHeld => ?_)
    · exact SO W.drew (B5_dr (Below.refl _ _))
    refine wpAnyH_take (i := 0) (oi := ?oim0) (v := ?vm0) ?him0 (by kernel_rfl) (by kernel_rfl) (by kernel_rfl) ?hQm0 ?hym0 (by assumption) ?_
    case him0 => simp only [List.getElem?_toArray, List.getElem?_cons_zero]; rfl
    case hQm0 => exact fun _ _ _ h => h
    case hym0 => refine Or.inl ⟨by rfl, ?_⟩; intro w9 hSw; (try dsimp only at hSw); go_simp; (try with_reducible rfl)
    try simp only [Act.put, List.setIfInBounds_toArray, List.set_cons_zero, List.set_cons_succ]
    refine wpAnyH_take (i := 1) (oi := ?oim1) (v := ?vm1) ?him1 (by kernel_rfl) (by kernel_rfl) (by kernel_rfl) ?hQm1 ?hym1 (by assumption) ?_
    case him1 => simp only [List.getElem?_toArray, List.getElem?_cons_zero, List.getElem?_cons_succ]; rfl
    case hQm1 => exact fun _ _ _ h => h
    case hym1 => refine Or.inl ⟨by rfl, ?_⟩; intro w9 hSw; (try dsimp only at hSw); go_simp; (try with_reducible rfl)
    try simp only [Act.put, List.setIfInBounds_toArray, List.set_cons_zero, List.set_cons_succ]
    refine wpAnyH_ready (rs := [2]) (by kernel_rfl) (by simp) ?_
    refine AllReadyH.cons (o := ?oom2) ?hom2 (fun K hK => ?_) AllReadyH.nil
    case hom2 => simp only [List.getElem?_toArray, List.getElem?_cons_zero, List.getElem?_cons_succ]; rfl
    go_simp
    refine V.mono ?_; rintro e w1 ⟨rfl, hb1⟩
    have hR1 : Below W.heap.size W w1 := B5_th (B5_dr (Below.refl _ _)) hb1
    go_wp2_with fail
    refine hK.out _ _ ?hSm2 (fun hHeld2 => ?_)
    case hSm2 => exact SO w1 hR1
    clear hK K
    try simp only [Act.put, List.setIfInBounds_toArray, List.set_cons_zero, List.set_cons_succ]
    refine wpAnyH_take (i := 3) (oi := ?oim3) (v := ?vm3) ?him3 (by kernel_rfl) (by kernel_rfl) (by kernel_rfl) ?hQm3 ?hym3 (by assumption) ?_
    case him3 => simp only [List.getElem?_toArray, List.getElem?_cons_zero, List.getElem?_cons_succ]; rfl
    case hQm3 => exact fun _ _ _ h => h
    case hym3 => refine Or.inl ⟨by rfl, ?_⟩; intro w9 hSw; (try dsimp only at hSw); go_simp; (try with_reducible rfl)
    try simp only [Act.put, List.setIfInBounds_toArray, List.set_cons_zero, List.set_cons_succ]
    refine wpAnyH_take (i := 4) (oi := ?oim4) (v := undef) ?him4 (by kernel_rfl) (by kernel_rfl) (by kernel_rfl) ?hQm4 ?hym4 (by assumption) ?_
    case him4 => simp only [List.getElem?_toArray, List.getElem?_cons_zero, List.getElem?_cons_succ]; rfl
    case hQm4 => exact fun _ _ _ h => h
    case hym4 => exact Or.inr ⟨by rfl, rfl⟩
    try simp only [Act.put, List.setIfInBounds_toArray, List.set_cons_zero, List.set_cons_succ]
    refine wpAnyH_take (i := 5) (oi := ?oim5) (v := undef) ?him5 (by kernel_rfl) (by kernel_rfl) (by kernel_rfl) ?hQm5 ?hym5 (by assumption) ?_
    case him5 => simp only [List.getElem?_toArray, List.getElem?_cons_zero, List.getElem?_cons_succ]; rfl
    case hQm5 => exact fun _ _ _ h => h
    case hym5 => exact Or.inr ⟨by rfl, rfl⟩
    try simp only [Act.put, List.setIfInBounds_toArray, List.set_cons_zero, List.set_cons_succ]
    refine wpAnyH_take (i := 6) (oi := ?oim6) (v := undef) ?him6 (by kernel_rfl) (by kernel_rfl) (by kernel_rfl) ?hQm6 ?hym6 (by assumption) ?_
    case him6 => simp only [List.getElem?_toArray, List.getElem?_cons_zero, List.getElem?_cons_succ]; rfl
    case hQm6 => exact fun _ _ _ h => h
    case hym6 => exact Or.inr ⟨by rfl, rfl⟩
    try simp only [Act.put, List.setIfInBounds_toArray, List.set_cons_zero, List.set_cons_succ]
    refine wpAnyH_take (i := 7) (oi := ?oim7) (v := undef) ?him7 (by kernel_rfl) (by kernel_rfl) (by kernel_rfl) ?hQm7 ?hym7 (by assumption) ?_
    case him7 => simp only [List.getElem?_toArray, List.getElem?_cons_zero, List.getElem?_cons_succ]; rfl
    case hQm7 => exact fun _ _ _ h => h
    case hym7 => exact Or.inr ⟨by rfl, rfl⟩
    try simp only [Act.put, List.setIfInBounds_toArray, List.set_cons_zero, List.set_cons_succ]
    refine wpAnyH_take (i := 8) (oi := ?oim8) (v := undef) ?him8 (by kernel_rfl) (by kernel_rfl) (by kernel_rfl) ?hQm8 ?hym8 (by assumption) ?_
    case him8 => simp only [List.getElem?_toArray, List.getElem?_cons_zero, List.getElem?_cons_succ]; rfl
    case hQm8 => exact fun _ _ _ h => h
    case hym8 => exact Or.inr ⟨by rfl, rfl⟩
    try simp only [Act.put, List.setIfInBounds_toArray, List.set_cons_zero, List.set_cons_succ]
    refine wpAnyH_take (i := 9) (oi := ?oim9) (v := undef) ?him9 (by kernel_rfl) (by kernel_rfl) (by kernel_rfl) ?hQm9 ?hym9 (by assumption) ?_
    case him9 => simp only [List.getElem?_toArray, List.getElem?_cons_zero, List.getElem?_cons_succ]; rfl
    case hQm9 => exact fun _ _ _ h => h
    case hym9 => exact Or.inr ⟨by rfl, rfl⟩
    try simp only [Act.put, List.setIfInBounds_toArray, List.set_cons_zero, List.set_cons_succ]
    refine wpAnyH_take (i := 10) (oi := ?oim10) (v := undef) ?him10 (by kernel_rfl) (by kernel_rfl) (by kernel_rfl) ?hQm10 ?hym10 (by assumption) ?_
    case him10 => simp only [List.getElem?_toArray, List.getElem?_cons_zero, List.getElem?_cons_succ]; rfl
    case hQm10 => exact fun _ _ _ h => h
    case hym10 => exact Or.inr ⟨by rfl, rfl⟩
    try simp only [Act.put, List.setIfInBounds_toArray, List.set_cons_zero, List.set_cons_succ]
    refine wpAnyH_take (i := 11) (oi := ?oim11) (v := ?vm11) ?him11 (by kernel_rfl) (by kernel_rfl) (by kernel_rfl) ?hQm11 ?hym11 (by assumption) ?_
    case him11 => simp only [List.getElem?_toArray, List.getElem?_cons_zero, List.getElem?_cons_succ]; rfl
    case hQm11 => exact fun _ _ _ h => h
    case hym11 => refine Or.inl ⟨by rfl, ?_⟩; intro w9 hSw; (try dsimp only at hSw); go_simp; (try with_reducible rfl)
    try simp only [Act.put, List.setIfInBounds_toArray, List.set_cons_zero, List.set_cons_succ]
    refine wpAnyH_take (i := 12) (oi := ?oim12) (v := ?vm12) ?him12 (by kernel_rfl) (by kernel_rfl) (by kernel_rfl) ?hQm12 ?hym12 (by assumption) ?_
    case him12 => simp only [List.getElem?_toArray, List.getElem?_cons_zero, List.getElem?_cons_succ]; rfl
    case hQm12 => exact fun _ _ _ h => h
    case hym12 => refine Or.inl ⟨by rfl, ?_⟩; intro w9 hSw; (try dsimp only at hSw); go_simp; (try with_reducible rfl)
    try simp only [Act.put, List.setIfInBounds_toArray, List.set_cons_zero, List.set_cons_succ]
    refine wpAnyH_done (by kernel_rfl) ?_ _
    go_wp2_with fail
    go_ret
    exact ⟨ret_bool hf.out.symm, BB.trans (hR1.mono BB.size)⟩
  · have hf : Hid (dpB D = decide (D.n = cntO D.C.h)) := by unfold Hid dpB; rw [ev]; rfl
    rw [ev] at V
    clear ev
    have SO : ∀ w' : World, Below W.heap.size W w' → w'.cell? ⟨w.heap.size, 0, none⟩ = some (.slice A0 n0 c0) ∧ w'.cell? ⟨w.heap.size, 1, none⟩ = some (.slice A1 n1 c1) ∧ w'.cell? ⟨w.heap.size, 2, none⟩ = some (.slice A2 n2 c2) ∧ w'.cell? ⟨w.heap.size, 3, none⟩ = some (.slice A3 n3 c3) ∧ w'.cell? ⟨w.heap.size, 4, none⟩ = some (.slice A4 n4 c4) := fun w' hb => ⟨(X.below hb).cells.1, (X.below hb).cells.2.1, (X.below hb).cells.2.2.1, (X.below hb).cells.2.2.2.1, (X.below hb).cells.2.2.2.2.1⟩
    go_enter Try.func20, Try.ntmps20
    go_wp2_with fail
    (try rw [hW])
    go_region_held3 (fun w' => w'.cell? ⟨w.heap.size, 0, none⟩ = some (.slice A0 n0 c0) ∧ w'.cell? ⟨w.heap.size, 1, none⟩ = some (.slice A1 n1 c1) ∧ w'.cell? ⟨w.heap.size, 2, none⟩ = some (.slice A2 n2 c2) ∧ w'.cell? ⟨w.heap.size, 3, none⟩ = some (.slice A3 n3 c3) ∧ w'.cell? ⟨w.heap.size, 4, none⟩ = some (.slice A4 n4 c4))
      (((try dsimp only); (refine SO _ ?_); (repeat (with_reducible (first | exact Below.refl _ _ | exact hR3 | exact hR2 | exact hR1 | refine B5_dr ?_ | refine B5_al ?_ _)))))
      (first
        | (go_at_call 40; (with_reducible refine V.mono ?_); rintro e w1 ⟨rfl, hb1⟩; (have hR1 : Below W.heap.size W w1 := B5_th (B5_dr (Below.refl _ _)) hb1))
        | (go_at_call 37; (with_reducible refine (implCountsOf_any w1 lo _ D.C.h (HH.below hR1)).mono ?_); rintro e w2 ⟨A5, k5, rfl, R5, hb2⟩; (have hR2 : Below W.heap.size W w2 := B5_th hR1 hb2); (have hl5 : (cntO D.C.h).length ≤ 9223372036854775807 := (by obtain ⟨_, _, _, q1, q2⟩ := R5.form; unfold maxLen at q2; omega)))
        | (go_at_call 51; (with_reducible refine (slicesEqual_any w2 lo w1.heap.size A4 A5 n4 c4 _ k5 D.n (cntO D.C.h) (R4.below hR2) l4.out m4 R5 rfl hl5).mono ?_); rintro e w3 ⟨rfl, q3, rfl⟩; (have hR3 : Below W.heap.size W (w2.drewN q3) := below_drewN hR2 q3)))
    all_goals
      rename_i hHeld
      clear hHeld
      go_wp2_with fail
      go_ret
      exact ⟨ret_bool hf.out.symm, BB.trans (hR3.mono BB.size)⟩

set_option maxRecDepth 100000 in
set_option maxHeartbeats 2000000 in
theorem specCountedValid_any (w : World) (lo : Nat) (v : Value) (D : Dp) (hv : Dv w lo v D) : Calls Try.prog 39 #[v] w (RetB w (dpB D)) := by
  obtain ⟨A0, n0, c0, A1, n1, c1, A2, n2, c2, A3, n3, c3, A4, n4, c4, rfl, hc, hh, ⟨r0, r1, r2, r3, r4⟩, ⟨l0, l1, l2, l3, l4⟩, ⟨m0, m1, m2, m3, m4⟩, -⟩ := hv.open_
  have X := Blk5.new w (.slice A0 n0 c0) (.slice A1 n1 c1) (.slice A2 n2 c2) (.slice A3 n3 c3) (.slice A4 n4 c4) 29
  have HC := hc.alloc (.cells #[.slice A0 n0 c0, .slice A1 n1 c1, .slice A2 n2 c2, .slice A3 n3 c3, .slice A4 n4 c4] 29)
  have HH := hh.alloc (.cells #[.slice A0 n0 c0, .slice A1 n1 c1, .slice A2 n2 c2, .slice A3 n3 c3, .slice A4 n4 c4] 29)
  have R4 := r4.alloc (.cells #[.slice A0 n0 c0, .slice A1 n1 c1, .slice A2 n2 c2, .slice A3 n3 c3, .slice A4 n4 c4] 29)
  have BB : Below w.heap.size w (w.alloc (.cells #[.slice A0 n0 c0, .slice A1 n1 c1, .slice A2 n2 c2, .slice A3 n3 c3, .slice A4 n4 c4] 29)) := (Below.refl _ _).alloc (Nat.le_refl _) _
  clear hc hh r0 r1 r2 r3 r4 hv
  generalize hW : w.alloc (.cells #[.slice A0 n0 c0, .slice A1 n1 c1, .slice A2 n2 c2, .slice A3 n3 c3, .slice A4 n4 c4] 29) = W at X HC HH R4 BB
  obtain ⟨x0, x1, x2, x3, x4, -⟩ := X.cells
  have V := specStoreValid_any W.drew lo _ D.C HC.drew
  rcases ev : stoB D.C
  · have hf : Hid (dpB D = false) := by unfold Hid dpB; rw [ev]; rfl
    rw [ev] at V
    clear ev HC HH R4
    go_enter Try.func39, Try.ntmps39
    go_wp2_with fail
    (try rw [hW])
    have SO : ∀ w' : World, Below W.heap.size W w' → w'.cell? ⟨w.heap.size, 0, none⟩ = some (.slice A0 n0 c0) ∧ w'.cell? ⟨w.heap.size, 1, none⟩ = some (.slice A1 n1 c1) ∧ w'.cell? ⟨w.heap.size, 2, none⟩ = some (.slice A2 n2 c2) ∧ w'.cell? ⟨w.heap.size, 3, none⟩ = some (.slice A3 n3 c3) ∧ w'.cell? ⟨w.heap.size, 4, none⟩ = some (.slice A4 n4 c4) := fun w' hb => ⟨(X.below hb).cells.1, (X.below hb).cells.2.1, (X.below hb).cells.2.2.1, (X.below hb).cells.2.2.2.1, (X.below hb).cells.2.2.2.2.1⟩
    refine wp_region_held_drew (S := fun w' => w'.cell? ⟨w.heap.size, 0, none⟩ = some (.slice A0 n0 c0) ∧ w'.cell? ⟨w.heap.size, 1, none⟩ = some (.slice A1 n1 c1) ∧ w'.cell? ⟨w.heap.size, 2, none⟩ = some (.slice A2 n2 c2) ∧ w'.cell? ⟨w.heap.size, 3, none⟩ = some (.slice A3 n3 c3) ∧ w'.cell? ⟨w.heap.size, 4, none⟩ = some (.slice A4 n4 c4)) (by kernel_rfl) ?_ (fun hHeld => ?_)
    · exact SO W.drew (B5_dr (Below.refl _ _))
    refine wpAnyH_take (i := 0) (oi := ?oim0) (v := ?vm0) ?him0 (by kernel_rfl) (by kernel_rfl) (by kernel_rfl) ?hQm0 ?hym0 (by assumption) ?_
    case him0 => simp only [List.getElem?_toArray, List.getElem?_cons_zero]; rfl
    case hQm0 => exact fun _ _ _ h => h
    case hym0 => refine Or.inl ⟨by rfl, ?_⟩; intro w9 hSw; (try dsimp only at hSw); go_simp; (try with_reducible rfl)
    try simp only [Act.put, List.setIfInBounds_toArray, List.set_cons_zero, List.set_cons_succ]
    refine wpAnyH_take (i := 1) (oi := ?oim1) (v := ?vm1) ?him1 (by kernel_rfl) (by kernel_rfl) (by kernel_rfl) ?hQm1 ?hym1 (by assumption) ?_
    case him1 => simp only [List.getElem?_toArray, List.getElem?_cons_zero, List.getElem?_cons_succ]; rfl
    case hQm1 => exact fun _ _ _ h => h
    case hym1 => refine Or.inl ⟨by rfl, ?_⟩; intro w9 hSw; (try dsimp only at hSw); go_simp; (try with_reducible rfl)
    try simp only [Act.put, List.setIfInBounds_toArray, List.set_cons_zero, List.set_cons_succ]
    refine wpAnyH_ready (rs := [2]) (by kernel_rfl) (by simp) ?_
    refine AllReadyH.cons (o := ?oom2) ?hom2 (fun K hK => ?_) AllReadyH.nil
    case hom2 => simp only [List.getElem?_toArray, List.getElem?_cons_zero, List.getElem?_cons_succ]; rfl
    go_simp
    refine V.mono ?_; rintro e w1 ⟨rfl, hb1⟩
    have hR1 : Below W.heap.size W w1 := B5_th (B5_dr (Below.refl _ _)) hb1
    go_wp2_with fail
    refine hK.out _ _ ?hSm2 (fun hHeld2 => ?_)
    case hSm2 => exact SO w1 hR1
    clear hK K
    try simp only [Act.put, List.setIfInBounds_toArray, List.set_cons_zero, List.set_cons_succ]
    refine wpAnyH_take (i := 3) (oi := ?oim3) (v := ?vm3) ?him3 (by kernel_rfl) (by kernel_rfl) (by kernel_rfl) ?hQm3 ?hym3 (by assumption) ?_
    case him3 => simp only [List.getElem?_toArray, List.getElem?_cons_zero, List.getElem?_cons_succ]; rfl
    case hQm3 => exact fun _ _ _ h => h
    case hym3 => refine Or.inl ⟨by rfl, ?_⟩; intro w9 hSw; (try dsimp only at hSw); go_simp; (try with_reducible rfl)
    try simp only [Act.put, List.setIfInBounds_toArray, List.set_cons_zero, List.set_cons_succ]
    refine wpAnyH_take (i := 4) (oi := ?oim4) (v := undef) ?him4 (by kernel_rfl) (by kernel_rfl) (by kernel_rfl) ?hQm4 ?hym4 (by assumption) ?_
    case him4 => simp only [List.getElem?_toArray, List.getElem?_cons_zero, List.getElem?_cons_succ]; rfl
    case hQm4 => exact fun _ _ _ h => h
    case hym4 => exact Or.inr ⟨by rfl, rfl⟩
    try simp only [Act.put, List.setIfInBounds_toArray, List.set_cons_zero, List.set_cons_succ]
    refine wpAnyH_take (i := 5) (oi := ?oim5) (v := undef) ?him5 (by kernel_rfl) (by kernel_rfl) (by kernel_rfl) ?hQm5 ?hym5 (by assumption) ?_
    case him5 => simp only [List.getElem?_toArray, List.getElem?_cons_zero, List.getElem?_cons_succ]; rfl
    case hQm5 => exact fun _ _ _ h => h
    case hym5 => exact Or.inr ⟨by rfl, rfl⟩
    try simp only [Act.put, List.setIfInBounds_toArray, List.set_cons_zero, List.set_cons_succ]
    refine wpAnyH_take (i := 6) (oi := ?oim6) (v := undef) ?him6 (by kernel_rfl) (by kernel_rfl) (by kernel_rfl) ?hQm6 ?hym6 (by assumption) ?_
    case him6 => simp only [List.getElem?_toArray, List.getElem?_cons_zero, List.getElem?_cons_succ]; rfl
    case hQm6 => exact fun _ _ _ h => h
    case hym6 => exact Or.inr ⟨by rfl, rfl⟩
    try simp only [Act.put, List.setIfInBounds_toArray, List.set_cons_zero, List.set_cons_succ]
    refine wpAnyH_take (i := 7) (oi := ?oim7) (v := undef) ?him7 (by kernel_rfl) (by kernel_rfl) (by kernel_rfl) ?hQm7 ?hym7 (by assumption) ?_
    case him7 => simp only [List.getElem?_toArray, List.getElem?_cons_zero, List.getElem?_cons_succ]; rfl
    case hQm7 => exact fun _ _ _ h => h
    case hym7 => exact Or.inr ⟨by rfl, rfl⟩
    try simp only [Act.put, List.setIfInBounds_toArray, List.set_cons_zero, List.set_cons_succ]
    refine wpAnyH_take (i := 8) (oi := ?oim8) (v := undef) ?him8 (by kernel_rfl) (by kernel_rfl) (by kernel_rfl) ?hQm8 ?hym8 (by assumption) ?_
    case him8 => simp only [List.getElem?_toArray, List.getElem?_cons_zero, List.getElem?_cons_succ]; rfl
    case hQm8 => exact fun _ _ _ h => h
    case hym8 => exact Or.inr ⟨by rfl, rfl⟩
    try simp only [Act.put, List.setIfInBounds_toArray, List.set_cons_zero, List.set_cons_succ]
    refine wpAnyH_take (i := 9) (oi := ?oim9) (v := undef) ?him9 (by kernel_rfl) (by kernel_rfl) (by kernel_rfl) ?hQm9 ?hym9 (by assumption) ?_
    case him9 => simp only [List.getElem?_toArray, List.getElem?_cons_zero, List.getElem?_cons_succ]; rfl
    case hQm9 => exact fun _ _ _ h => h
    case hym9 => exact Or.inr ⟨by rfl, rfl⟩
    try simp only [Act.put, List.setIfInBounds_toArray, List.set_cons_zero, List.set_cons_succ]
    refine wpAnyH_take (i := 10) (oi := ?oim10) (v := undef) ?him10 (by kernel_rfl) (by kernel_rfl) (by kernel_rfl) ?hQm10 ?hym10 (by assumption) ?_
    case him10 => simp only [List.getElem?_toArray, List.getElem?_cons_zero, List.getElem?_cons_succ]; rfl
    case hQm10 => exact fun _ _ _ h => h
    case hym10 => exact Or.inr ⟨by rfl, rfl⟩
    try simp only [Act.put, List.setIfInBounds_toArray, List.set_cons_zero, List.set_cons_succ]
    refine wpAnyH_take (i := 11) (oi := ?oim11) (v := ?vm11) ?him11 (by kernel_rfl) (by kernel_rfl) (by kernel_rfl) ?hQm11 ?hym11 (by assumption) ?_
    case him11 => simp only [List.getElem?_toArray, List.getElem?_cons_zero, List.getElem?_cons_succ]; rfl
    case hQm11 => exact fun _ _ _ h => h
    case hym11 => refine Or.inl ⟨by rfl, ?_⟩; intro w9 hSw; (try dsimp only at hSw); go_simp; (try with_reducible rfl)
    try simp only [Act.put, List.setIfInBounds_toArray, List.set_cons_zero, List.set_cons_succ]
    refine wpAnyH_take (i := 12) (oi := ?oim12) (v := ?vm12) ?him12 (by kernel_rfl) (by kernel_rfl) (by kernel_rfl) ?hQm12 ?hym12 (by assumption) ?_
    case him12 => simp only [List.getElem?_toArray, List.getElem?_cons_zero, List.getElem?_cons_succ]; rfl
    case hQm12 => exact fun _ _ _ h => h
    case hym12 => refine Or.inl ⟨by rfl, ?_⟩; intro w9 hSw; (try dsimp only at hSw); go_simp; (try with_reducible rfl)
    try simp only [Act.put, List.setIfInBounds_toArray, List.set_cons_zero, List.set_cons_succ]
    refine wpAnyH_done (by kernel_rfl) ?_ _
    go_wp2_with fail
    go_ret
    exact ⟨ret_bool hf.out.symm, BB.trans (hR1.mono BB.size)⟩
  · have hf : Hid (dpB D = decide (D.n = cntO D.C.h)) := by unfold Hid dpB; rw [ev]; rfl
    rw [ev] at V
    clear ev
    have SO : ∀ w' : World, Below W.heap.size W w' → w'.cell? ⟨w.heap.size, 0, none⟩ = some (.slice A0 n0 c0) ∧ w'.cell? ⟨w.heap.size, 1, none⟩ = some (.slice A1 n1 c1) ∧ w'.cell? ⟨w.heap.size, 2, none⟩ = some (.slice A2 n2 c2) ∧ w'.cell? ⟨w.heap.size, 3, none⟩ = some (.slice A3 n3 c3) ∧ w'.cell? ⟨w.heap.size, 4, none⟩ = some (.slice A4 n4 c4) := fun w' hb => ⟨(X.below hb).cells.1, (X.below hb).cells.2.1, (X.below hb).cells.2.2.1, (X.below hb).cells.2.2.2.1, (X.below hb).cells.2.2.2.2.1⟩
    go_enter Try.func39, Try.ntmps39
    go_wp2_with fail
    (try rw [hW])
    go_region_held3 (fun w' => w'.cell? ⟨w.heap.size, 0, none⟩ = some (.slice A0 n0 c0) ∧ w'.cell? ⟨w.heap.size, 1, none⟩ = some (.slice A1 n1 c1) ∧ w'.cell? ⟨w.heap.size, 2, none⟩ = some (.slice A2 n2 c2) ∧ w'.cell? ⟨w.heap.size, 3, none⟩ = some (.slice A3 n3 c3) ∧ w'.cell? ⟨w.heap.size, 4, none⟩ = some (.slice A4 n4 c4))
      (((try dsimp only); (refine SO _ ?_); (repeat (with_reducible (first | exact Below.refl _ _ | exact hR3 | exact hR2 | exact hR1 | refine B5_dr ?_ | refine B5_al ?_ _)))))
      (first
        | (go_at_call 60; (with_reducible refine V.mono ?_); rintro e w1 ⟨rfl, hb1⟩; (have hR1 : Below W.heap.size W w1 := B5_th (B5_dr (Below.refl _ _)) hb1))
        | (go_at_call 62; (with_reducible refine (specCountsOf_any w1 lo _ D.C.h (HH.below hR1)).mono ?_); rintro e w2 ⟨A5, k5, rfl, R5, hb2⟩; (have hR2 : Below W.heap.size W w2 := B5_th hR1 hb2); (have hl5 : (cntO D.C.h).length ≤ 9223372036854775807 := (by obtain ⟨_, _, _, q1, q2⟩ := R5.form; unfold maxLen at q2; omega)))
        | (go_at_call 67; (with_reducible refine (l1Ints_any w2 lo w1.heap.size A4 A5 n4 c4 _ k5 D.n (cntO D.C.h) (R4.below hR2) l4.out m4 R5 rfl hl5).mono ?_); rintro e w3 ⟨rfl, q3, rfl⟩; (have hR3 : Below W.heap.size W (w2.drewN q3) := below_drewN hR2 q3)))
    all_goals
      rename_i hHeld
      clear hHeld
      go_wp2_with fail
      go_ret
      exact ⟨ret_bool hf.out.symm, BB.trans (hR3.mono BB.size)⟩

set_option maxRecDepth 100000 in
set_option maxHeartbeats 2000000 in
theorem implCountedSame_any (w : World) (lo lo' : Nat) (v v' : Value) (a b : Dp) (hv : Dv w lo v a) (hv' : Dv w lo' v' b) : Calls Try.prog 18 #[v, v'] w (RetB w (sameD a b)) := by
  obtain ⟨A0, n0, c0, A1, n1, c1, A2, n2, c2, A3, n3, c3, A4, n4, c4, rfl, hc, -, ⟨-, -, -, -, r4⟩, ⟨-, -, -, -, l4⟩, ⟨-, -, -, -, m4⟩, -⟩ := hv.open_
  obtain ⟨A0', n0', c0', A1', n1', c1', A2', n2', c2', A3', n3', c3', A4', n4', c4', rfl, hc', -, ⟨-, -, -, -, r4'⟩, ⟨-, -, -, -, l4'⟩, ⟨-, -, -, -, m4'⟩, -⟩ := hv'.open_
  have X := (Blk5.new w (.slice A0 n0 c0) (.slice A1 n1 c1) (.slice A2 n2 c2) (.slice A3 n3 c3) (.slice A4 n4 c4) 29).alloc (.cells #[.slice A0' n0' c0', .slice A1' n1' c1', .slice A2' n2' c2', .slice A3' n3' c3', .slice A4' n4' c4'] 29)
  have Y := Blk5.new_at (w := w.alloc (.cells #[.slice A0 n0 c0, .slice A1 n1 c1, .slice A2 n2 c2, .slice A3 n3 c3, .slice A4 n4 c4] 29)) (b := w.heap.size + 1) (by simp) (.slice A0' n0' c0') (.slice A1' n1' c1') (.slice A2' n2' c2') (.slice A3' n3' c3') (.slice A4' n4' c4') 29
  have HC := (hc.alloc (.cells #[.slice A0 n0 c0, .slice A1 n1 c1, .slice A2 n2 c2, .slice A3 n3 c3, .slice A4 n4 c4] 29)).alloc (.cells #[.slice A0' n0' c0', .slice A1' n1' c1', .slice A2' n2' c2', .slice A3' n3' c3', .slice A4' n4' c4'] 29)
  have HC' := (hc'.alloc (.cells #[.slice A0 n0 c0, .slice A1 n1 c1, .slice A2 n2 c2, .slice A3 n3 c3, .slice A4 n4 c4] 29)).alloc (.cells #[.slice A0' n0' c0', .slice A1' n1' c1', .slice A2' n2' c2', .slice A3' n3' c3', .slice A4' n4' c4'] 29)
  have R := (r4.alloc (.cells #[.slice A0 n0 c0, .slice A1 n1 c1, .slice A2 n2 c2, .slice A3 n3 c3, .slice A4 n4 c4] 29)).alloc (.cells #[.slice A0' n0' c0', .slice A1' n1' c1', .slice A2' n2' c2', .slice A3' n3' c3', .slice A4' n4' c4'] 29)
  have R' := (r4'.alloc (.cells #[.slice A0 n0 c0, .slice A1 n1 c1, .slice A2 n2 c2, .slice A3 n3 c3, .slice A4 n4 c4] 29)).alloc (.cells #[.slice A0' n0' c0', .slice A1' n1' c1', .slice A2' n2' c2', .slice A3' n3' c3', .slice A4' n4' c4'] 29)
  have BB : Below w.heap.size w ((w.alloc (.cells #[.slice A0 n0 c0, .slice A1 n1 c1, .slice A2 n2 c2, .slice A3 n3 c3, .slice A4 n4 c4] 29)).alloc (.cells #[.slice A0' n0' c0', .slice A1' n1' c1', .slice A2' n2' c2', .slice A3' n3' c3', .slice A4' n4' c4'] 29)) := ((Below.refl _ _).alloc (Nat.le_refl _) _).alloc (by simp) _
  clear hc hc' r4 r4' hv hv'
  generalize hW : (w.alloc (.cells #[.slice A0 n0 c0, .slice A1 n1 c1, .slice A2 n2 c2, .slice A3 n3 c3, .slice A4 n4 c4] 29)).alloc (.cells #[.slice A0' n0' c0', .slice A1' n1' c1', .slice A2' n2' c2', .slice A3' n3' c3', .slice A4' n4' c4'] 29) = W at X Y HC HC' R R' BB
  obtain ⟨x0, x1, x2, x3, x4, -⟩ := X.cells
  obtain ⟨y0, y1, y2, y3, y4, -⟩ := Y.cells
  have E1 := implStoreSame_any W lo lo' _ _ a.C b.C HC HC'
  have E2 := fun W' (hb : Below W.heap.size W W') => slicesEqual_any W' lo lo' A4 A4' n4 c4 n4' c4' a.n b.n (R.below hb) l4.out m4 (R'.below hb) l4'.out m4'
  clear HC HC'
  rcases es : sameC a.C b.C
  · rw [es] at E1
    have hf : Hid (sameD a b = false) := by unfold Hid sameD; rw [es]; rfl
    clear es E2
    go_enter Try.func18, Try.ntmps18
    go_wp2_with fail
    (try rw [hW])
    refine E1.mono ?_; rintro e w1 ⟨rfl, hb1⟩
    go_wp2_with fail
    go_ret
    exact ⟨ret_bool hf.out.symm, BB.trans (hb1.mono BB.size)⟩
  · rw [es] at E1
    have hf : Hid (sameD a b = decide (a.n = b.n)) := by unfold Hid sameD; rw [es]; rfl
    clear es
    generalize decide (a.n = b.n) = q at E2 hf
    go_enter Try.func18, Try.ntmps18
    go_wp2_with fail
    (try rw [hW])
    refine E1.mono ?_; rintro e w1 ⟨rfl, hb1⟩
    obtain ⟨p0, p1, p2, p3, p4, -⟩ := (X.below hb1).cells
    obtain ⟨q0, q1, q2, q3, q4, -⟩ := (Y.below hb1).cells
    have B1 := BB.trans (hb1.mono BB.size)
    clear x0 x1 x2 x3 x4 y0 y1 y2 y3 y4 E1 X Y R R'
    go_wp2_with fail
    refine (E2 _ hb1).mono ?_; rintro e w2 ⟨rfl, nq, rfl⟩
    go_wp2_with fail
    go_ret
    exact ⟨ret_bool hf.out.symm, below_drewN B1 _⟩

set_option maxRecDepth 100000 in
set_option maxHeartbeats 2000000 in
theorem specCountedSame_any (w : World) (lo lo' : Nat) (v v' : Value) (a b : Dp) (hv : Dv w lo v a) (hv' : Dv w lo' v' b) : Calls Try.prog 42 #[v, v'] w (RetB w (sameD a b)) := by
  obtain ⟨A0, n0, c0, A1, n1, c1, A2, n2, c2, A3, n3, c3, A4, n4, c4, rfl, hc, -, ⟨-, -, -, -, r4⟩, ⟨-, -, -, -, l4⟩, ⟨-, -, -, -, m4⟩, -⟩ := hv.open_
  obtain ⟨A0', n0', c0', A1', n1', c1', A2', n2', c2', A3', n3', c3', A4', n4', c4', rfl, hc', -, ⟨-, -, -, -, r4'⟩, ⟨-, -, -, -, l4'⟩, ⟨-, -, -, -, m4'⟩, -⟩ := hv'.open_
  have X := (Blk5.new w (.slice A0 n0 c0) (.slice A1 n1 c1) (.slice A2 n2 c2) (.slice A3 n3 c3) (.slice A4 n4 c4) 29).alloc (.cells #[.slice A0' n0' c0', .slice A1' n1' c1', .slice A2' n2' c2', .slice A3' n3' c3', .slice A4' n4' c4'] 29)
  have Y := Blk5.new_at (w := w.alloc (.cells #[.slice A0 n0 c0, .slice A1 n1 c1, .slice A2 n2 c2, .slice A3 n3 c3, .slice A4 n4 c4] 29)) (b := w.heap.size + 1) (by simp) (.slice A0' n0' c0') (.slice A1' n1' c1') (.slice A2' n2' c2') (.slice A3' n3' c3') (.slice A4' n4' c4') 29
  have HC := (hc.alloc (.cells #[.slice A0 n0 c0, .slice A1 n1 c1, .slice A2 n2 c2, .slice A3 n3 c3, .slice A4 n4 c4] 29)).alloc (.cells #[.slice A0' n0' c0', .slice A1' n1' c1', .slice A2' n2' c2', .slice A3' n3' c3', .slice A4' n4' c4'] 29)
  have HC' := (hc'.alloc (.cells #[.slice A0 n0 c0, .slice A1 n1 c1, .slice A2 n2 c2, .slice A3 n3 c3, .slice A4 n4 c4] 29)).alloc (.cells #[.slice A0' n0' c0', .slice A1' n1' c1', .slice A2' n2' c2', .slice A3' n3' c3', .slice A4' n4' c4'] 29)
  have R := (r4.alloc (.cells #[.slice A0 n0 c0, .slice A1 n1 c1, .slice A2 n2 c2, .slice A3 n3 c3, .slice A4 n4 c4] 29)).alloc (.cells #[.slice A0' n0' c0', .slice A1' n1' c1', .slice A2' n2' c2', .slice A3' n3' c3', .slice A4' n4' c4'] 29)
  have R' := (r4'.alloc (.cells #[.slice A0 n0 c0, .slice A1 n1 c1, .slice A2 n2 c2, .slice A3 n3 c3, .slice A4 n4 c4] 29)).alloc (.cells #[.slice A0' n0' c0', .slice A1' n1' c1', .slice A2' n2' c2', .slice A3' n3' c3', .slice A4' n4' c4'] 29)
  have BB : Below w.heap.size w ((w.alloc (.cells #[.slice A0 n0 c0, .slice A1 n1 c1, .slice A2 n2 c2, .slice A3 n3 c3, .slice A4 n4 c4] 29)).alloc (.cells #[.slice A0' n0' c0', .slice A1' n1' c1', .slice A2' n2' c2', .slice A3' n3' c3', .slice A4' n4' c4'] 29)) := ((Below.refl _ _).alloc (Nat.le_refl _) _).alloc (by simp) _
  clear hc hc' r4 r4' hv hv'
  generalize hW : (w.alloc (.cells #[.slice A0 n0 c0, .slice A1 n1 c1, .slice A2 n2 c2, .slice A3 n3 c3, .slice A4 n4 c4] 29)).alloc (.cells #[.slice A0' n0' c0', .slice A1' n1' c1', .slice A2' n2' c2', .slice A3' n3' c3', .slice A4' n4' c4'] 29) = W at X Y HC HC' R R' BB
  obtain ⟨x0, x1, x2, x3, x4, -⟩ := X.cells
  obtain ⟨y0, y1, y2, y3, y4, -⟩ := Y.cells
  have E1 := specStoreSame_any W lo lo' _ _ a.C b.C HC HC'
  have E2 := fun W' (hb : Below W.heap.size W W') => l1Ints_any W' lo lo' A4 A4' n4 c4 n4' c4' a.n b.n (R.below hb) l4.out m4 (R'.below hb) l4'.out m4'
  clear HC HC'
  rcases es : sameC a.C b.C
  · rw [es] at E1
    have hf : Hid (sameD a b = false) := by unfold Hid sameD; rw [es]; rfl
    clear es E2
    go_enter Try.func42, Try.ntmps42
    go_wp2_with fail
    (try rw [hW])
    refine E1.mono ?_; rintro e w1 ⟨rfl, hb1⟩
    go_wp2_with fail
    go_ret
    exact ⟨ret_bool hf.out.symm, BB.trans (hb1.mono BB.size)⟩
  · rw [es] at E1
    have hf : Hid (sameD a b = decide (a.n = b.n)) := by unfold Hid sameD; rw [es]; rfl
    clear es
    generalize decide (a.n = b.n) = q at E2 hf
    go_enter Try.func42, Try.ntmps42
    go_wp2_with fail
    (try rw [hW])
    refine E1.mono ?_; rintro e w1 ⟨rfl, hb1⟩
    obtain ⟨p0, p1, p2, p3, p4, -⟩ := (X.below hb1).cells
    obtain ⟨q0, q1, q2, q3, q4, -⟩ := (Y.below hb1).cells
    have B1 := BB.trans (hb1.mono BB.size)
    clear x0 x1 x2 x3 x4 y0 y1 y2 y3 y4 E1 X Y R R'
    go_wp2_with fail
    refine (E2 _ hb1).mono ?_; rintro e w2 ⟨rfl, nq, rfl⟩
    go_wp2_with fail
    go_ret
    exact ⟨ret_bool hf.out.symm, below_drewN B1 _⟩

set_option maxRecDepth 100000 in
set_option maxHeartbeats 2000000 in
theorem implCyclesOf_any (w : World) (lo : Nat) (v : Value) (D : Dp) (hv : Dv w lo v D) : Calls Try.prog 29 #[v] w (NewRow w (cycL D)) := by
  have hvo := hv
  obtain ⟨A0, n0, c0, A1, n1, c1, A2, n2, c2, A3, n3, c3, A4, n4, c4, rfl, hc, hh, ⟨r0, r1, r2, r3, r4⟩, ⟨l0, l1, l2, l3, l4⟩, ⟨m0, m1, m2, m3, m4⟩, -⟩ := hvo.open_
  have X := Blk5.new w (.slice A0 n0 c0) (.slice A1 n1 c1) (.slice A2 n2 c2) (.slice A3 n3 c3) (.slice A4 n4 c4) 29
  have DV := hv.alloc (.cells #[.slice A0 n0 c0, .slice A1 n1 c1, .slice A2 n2 c2, .slice A3 n3 c3, .slice A4 n4 c4] 29)
  have HC := hc.alloc (.cells #[.slice A0 n0 c0, .slice A1 n1 c1, .slice A2 n2 c2, .slice A3 n3 c3, .slice A4 n4 c4] 29)
  have HH := hh.alloc (.cells #[.slice A0 n0 c0, .slice A1 n1 c1, .slice A2 n2 c2, .slice A3 n3 c3, .slice A4 n4 c4] 29)
  have R4 := r4.alloc (.cells #[.slice A0 n0 c0, .slice A1 n1 c1, .slice A2 n2 c2, .slice A3 n3 c3, .slice A4 n4 c4] 29)
  have BB : Below w.heap.size w (w.alloc (.cells #[.slice A0 n0 c0, .slice A1 n1 c1, .slice A2 n2 c2, .slice A3 n3 c3, .slice A4 n4 c4] 29)) := (Below.refl _ _).alloc (Nat.le_refl _) _
  clear hc hh r0 r1 r2 r3 r4 hv
  generalize hW : w.alloc (.cells #[.slice A0 n0 c0, .slice A1 n1 c1, .slice A2 n2 c2, .slice A3 n3 c3, .slice A4 n4 c4] 29) = W at X HC HH R4 BB DV
  obtain ⟨x0, x1, x2, x3, x4, -⟩ := X.cells
  have DD : Dv W lo (.agg #[.slice A0 n0 c0, .slice A1 n1 c1, .slice A2 n2 c2, .slice A3 n3 c3, .slice A4 n4 c4]) D := DV
  clear DV HH R4
  have V := implCountedValid_any W lo _ D DD
  rcases ev : dpB D
  · have hf : Hid (cycL D = []) := by unfold Hid cycL; rw [ev]; rfl
    rw [ev] at V
    clear ev
    go_enter Try.func29, Try.ntmps29
    go_wp2_with fail
    (try rw [hW])
    refine V.mono ?_; rintro e w1 ⟨rfl, hb1⟩
    have B1 := BB.trans (hb1.mono BB.size)
    go_wp2_with fail
    go_ret
    exact ⟨none, 0, by rw [hf.out]; rfl, by rw [hf.out]; exact Row.nil _ _, B1⟩
  · have hf : Hid (cycL D = leakL D.C) := by unfold Hid cycL; rw [ev]; rfl
    rw [ev] at V
    have evs := ev
    clear ev
    go_enter Try.func29, Try.ntmps29
    go_wp2_with fail
    (try rw [hW])
    refine V.mono ?_; rintro e w1 ⟨rfl, hb1⟩
    obtain ⟨p0, p1, p2, p3, p4, -⟩ := (X.below hb1).cells
    have B1 := BB.trans (hb1.mono BB.size)
    have L := implLeaked_any w1 lo _ D.C (HC.below hb1)
    generalize leakL D.C = xs at L hf
    clear x0 x1 x2 x3 x4
    go_wp2_with fail
    refine L.mono ?_; rintro e w2 ⟨A5, k5, rfl, R5, hb2⟩
    go_wp2_with fail
    go_ret
    exact ⟨A5, k5, by rw [hf.out]; rfl, by rw [hf.out]; exact R5.mono B1.size, B1.trans (hb2.mono B1.size)⟩

set_option maxRecDepth 100000 in
set_option maxHeartbeats 2000000 in
theorem specCyclesOf_any (w : World) (lo : Nat) (v : Value) (D : Dp) (hv : Dv w lo v D) : Calls Try.prog 31 #[v] w (NewRow w (cycL D)) := by
  have hvo := hv
  obtain ⟨A0, n0, c0, A1, n1, c1, A2, n2, c2, A3, n3, c3, A4, n4, c4, rfl, hc, hh, ⟨r0, r1, r2, r3, r4⟩, ⟨l0, l1, l2, l3, l4⟩, ⟨m0, m1, m2, m3, m4⟩, -⟩ := hvo.open_
  have X := Blk5.new w (.slice A0 n0 c0) (.slice A1 n1 c1) (.slice A2 n2 c2) (.slice A3 n3 c3) (.slice A4 n4 c4) 29
  have DV := hv.alloc (.cells #[.slice A0 n0 c0, .slice A1 n1 c1, .slice A2 n2 c2, .slice A3 n3 c3, .slice A4 n4 c4] 29)
  have HC := hc.alloc (.cells #[.slice A0 n0 c0, .slice A1 n1 c1, .slice A2 n2 c2, .slice A3 n3 c3, .slice A4 n4 c4] 29)
  have HH := hh.alloc (.cells #[.slice A0 n0 c0, .slice A1 n1 c1, .slice A2 n2 c2, .slice A3 n3 c3, .slice A4 n4 c4] 29)
  have R4 := r4.alloc (.cells #[.slice A0 n0 c0, .slice A1 n1 c1, .slice A2 n2 c2, .slice A3 n3 c3, .slice A4 n4 c4] 29)
  have BB : Below w.heap.size w (w.alloc (.cells #[.slice A0 n0 c0, .slice A1 n1 c1, .slice A2 n2 c2, .slice A3 n3 c3, .slice A4 n4 c4] 29)) := (Below.refl _ _).alloc (Nat.le_refl _) _
  clear hc hh r0 r1 r2 r3 r4 hv
  generalize hW : w.alloc (.cells #[.slice A0 n0 c0, .slice A1 n1 c1, .slice A2 n2 c2, .slice A3 n3 c3, .slice A4 n4 c4] 29) = W at X HC HH R4 BB DV
  obtain ⟨x0, x1, x2, x3, x4, -⟩ := X.cells
  have DD : Dv W lo (.agg #[.slice A0 n0 c0, .slice A1 n1 c1, .slice A2 n2 c2, .slice A3 n3 c3, .slice A4 n4 c4]) D := DV
  clear DV HH R4
  have V := specCountedValid_any W lo _ D DD
  rcases ev : dpB D
  · have hf : Hid (cycL D = []) := by unfold Hid cycL; rw [ev]; rfl
    rw [ev] at V
    clear ev
    go_enter Try.func31, Try.ntmps31
    go_wp2_with fail
    (try rw [hW])
    refine V.mono ?_; rintro e w1 ⟨rfl, hb1⟩
    have B1 := BB.trans (hb1.mono BB.size)
    go_wp2_with fail
    go_ret
    exact ⟨some ⟨w1.heap.size, 0, none⟩, 0, by rw [hf.out]; rfl, by rw [hf.out]; exact (Row.empty w1 w1.heap.size (Nat.le_refl _)).mono B1.size, B1.alloc B1.size _⟩
  · have hf : Hid (cycL D = leakL D.C) := by unfold Hid cycL; rw [ev]; rfl
    rw [ev] at V
    have evs := ev
    clear ev
    go_enter Try.func31, Try.ntmps31
    go_wp2_with fail
    (try rw [hW])
    refine V.mono ?_; rintro e w1 ⟨rfl, hb1⟩
    obtain ⟨p0, p1, p2, p3, p4, -⟩ := (X.below hb1).cells
    have B1 := BB.trans (hb1.mono BB.size)
    have L := specLeaked_any w1 lo _ D.C (HC.below hb1)
    generalize leakL D.C = xs at L hf
    clear x0 x1 x2 x3 x4
    go_wp2_with fail
    refine L.mono ?_; rintro e w2 ⟨A5, k5, rfl, R5, hb2⟩
    go_wp2_with fail
    go_ret
    exact ⟨A5, k5, by rw [hf.out]; rfl, by rw [hf.out]; exact R5.mono B1.size, B1.trans (hb2.mono B1.size)⟩

end Go.Proofs.Yteogflkahoanlaa
