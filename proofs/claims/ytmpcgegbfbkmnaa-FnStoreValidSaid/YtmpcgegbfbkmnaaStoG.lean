/- CollectStore of spec. -/
import Derived.Test.YtmpcgegbfbkmnaaStoKs
namespace Go.Proofs.Ytmpcgegbfbkmnaa
open Go.RowKit

def collectO (C : Cp) : Option Cp := if stoB C = true then some (clearC C (leakL C)) else none

set_option maxRecDepth 100000 in
set_option maxHeartbeats 4000000 in
theorem specCollect_any (w : World) (lo : Nat) (v : Value) (C : Cp) (hv : Cv w lo v C) :
    Calls Try.prog 17 #[v] w (OptCv w (collectO C)) := by
  have hvo := hv
  obtain ⟨A0, n0, c0, A1, n1, c1, A2, n2, c2, A3, n3, c3, rfl, _⟩ := hvo.open_
  have P := Blk4.new w (.slice A0 n0 c0) (.slice A1 n1 c1) (.slice A2 n2 c2) (.slice A3 n3 c3) 27
  have X := P.alloc (.cells #[.slice none 0 0, .slice none 0 0, .slice none 0 0, .slice none 0 0] 27)
  have Y := Blk4.new_at (w := w.alloc (.cells #[.slice A0 n0 c0, .slice A1 n1 c1, .slice A2 n2 c2, .slice A3 n3 c3] 27)) (b := w.heap.size + 1) (by simp) (.slice none 0 0) (.slice none 0 0) (.slice none 0 0) (.slice none 0 0) 27
  have VV := (hv.alloc (.cells #[.slice A0 n0 c0, .slice A1 n1 c1, .slice A2 n2 c2, .slice A3 n3 c3] 27)).alloc (.cells #[.slice none 0 0, .slice none 0 0, .slice none 0 0, .slice none 0 0] 27)
  have BB : Below w.heap.size w ((w.alloc (.cells #[.slice A0 n0 c0, .slice A1 n1 c1, .slice A2 n2 c2, .slice A3 n3 c3] 27)).alloc (.cells #[.slice none 0 0, .slice none 0 0, .slice none 0 0, .slice none 0 0] 27)) := ((Below.refl _ _).alloc (Nat.le_refl _) _).alloc (by simp) _
  have sz : ((w.alloc (.cells #[.slice A0 n0 c0, .slice A1 n1 c1, .slice A2 n2 c2, .slice A3 n3 c3] 27)).alloc (.cells #[.slice none 0 0, .slice none 0 0, .slice none 0 0, .slice none 0 0] 27)).heap.size = w.heap.size + 2 := by simp
  have V := specStoreValid_any _ _ _ _ VV
  clear P hv
  go_enter Try.func17, Try.ntmps17
  go_wp2_with fail
  generalize (w.alloc (.cells #[.slice A0 n0 c0, .slice A1 n1 c1, .slice A2 n2 c2, .slice A3 n3 c3] 27)).alloc (.cells #[.slice none 0 0, .slice none 0 0, .slice none 0 0, .slice none 0 0] 27) = W at X Y VV BB sz V ⊢
  rcases ev : stoB C
  · rw [ev] at V
    have hf : Hid (collectO C = none) := by unfold Hid collectO; rw [ev]; simp
    refine V.mono ?_; rintro e w1 ⟨rfl, hb1⟩
    obtain ⟨y0, y1, y2, y3, f0, f1, f2, f3⟩ := (Y.below hb1).cells
    obtain ⟨hZ, hB⟩ := zero_done (w := w) (b := w.heap.size + 1) (by omega) (BB.trans (hb1.mono (by omega)))
    go_wp2_with fail
    rw [hf.out]
    refine bodyPost_ret (v := .tuple #[.agg #[.slice none 0 0, .slice none 0 0, .slice none 0 0, .slice none 0 0], .bool false]) ?_ rfl ⟨_, rfl, hZ, hB⟩
    simp [results, Try.results17, go_sem, y0, y1, y2, y3]
  · rw [ev] at V
    have hf : Hid (collectO C = some (clearC C (leakL C))) := by unfold Hid collectO; rw [if_pos ev]
    have hlk : (leakL C).length ≤ 8 := by
      unfold leakL; rw [if_pos ev]
      exact Nat.le_trans (leakN_len _ _ _) (garb_len C.h)
    refine V.mono ?_; rintro e w1 ⟨rfl, hb1⟩
    have X1 := X.below hb1
    have Y1 := Y.below hb1
    have V1 := VV.below hb1
    have B1 := BB.trans (hb1.mono (by omega))
    have z1 : w.heap.size + 2 ≤ w1.heap.size := by have := hb1.size; omega
    have L := specLeaked_any w1.drew lo _ C V1.drew
    have K := fun W9 h8 A9 n9 c9 h9 h7 h6 => l4Clear_any W9 lo w1.drew.heap.size (.agg #[.slice A0 n0 c0, .slice A1 n1 c1, .slice A2 n2 c2, .slice A3 n3 c3]) C h8 ev A9 n9 c9 (leakL C) h9 h7 h6
    generalize leakL C = cs at L K hlk hf
    obtain ⟨x0, x1, x2, x3, _⟩ := X1.cells
    have hnb : w.heap.size + 1 ≠ w.heap.size := by omega
    clear V VV BB X Y hb1 ev
    go_wp2_with fail
    go_region_held3 (fun w' => w'.cell? ⟨w.heap.size, 0, none⟩ = some (.slice A0 n0 c0) ∧ w'.cell? ⟨w.heap.size, 1, none⟩ = some (.slice A1 n1 c1) ∧ w'.cell? ⟨w.heap.size, 2, none⟩ = some (.slice A2 n2 c2) ∧ w'.cell? ⟨w.heap.size, 3, none⟩ = some (.slice A3 n3 c3))
      (((try dsimp only); (repeat' apply And.intro) <;> (with_reducible (first | exact cellF4 s0 hnb _ _ _ _ | exact cellF4 s1 hnb _ _ _ _ | exact cellF4 s2 hnb _ _ _ _ | exact cellF4 s3 hnb _ _ _ _ | exact s0 | exact s1 | exact s2 | exact s3 | exact p0 | exact p1 | exact p2 | exact p3 | exact cellD x0 | exact cellD x1 | exact cellD x2 | exact cellD x3))))
      (first
        | (go_at_call 32; (with_reducible refine L.mono ?_); rintro e w2 ⟨E, q, rfl, hr, hb2⟩; (have X2 := Blk4.below (w := w1.drew) (by exact X1) hb2); (have V2 := V1.drew.below hb2); (have Y2 := Blk4.below (w := w1.drew) (by exact Y1) hb2); (have z2 := hb2.size); (obtain ⟨p0, p1, p2, p3, _⟩ := X2.cells))
        | (go_at_call 46; (with_reducible refine (K w2 V2 E cs.length q hr (Lib.hid rfl) hlk).mono ?_); rintro e w3 ⟨vv, rfl, hD, hb3⟩; (have X3 := X2.below hb3); (have Y3 := Y2.below hb3); (obtain ⟨s0, s1, s2, s3, _⟩ := X3.cells); (obtain ⟨y0, y1, y2, y3, f0, f1, f2, f3⟩ := Y3.cells); (have hDo := hD); (obtain ⟨B0, m0, d0, B1_, m1, d1, B2, m2, d2, B3, m3, d3, rfl, _⟩ := hDo.open_)))
    rename_i hHeld
    clear hHeld
    have hB3 : Below w.heap.size w w3 := ((Below.drew B1).trans (hb2.mono (by show w.heap.size ≤ w1.heap.size; omega))).trans (hb3.mono (by have h9 : w1.heap.size ≤ w2.heap.size := z2; omega))
    have lY : w.heap.size + 1 < w2.heap.size := by have h9 : w1.heap.size ≤ w2.heap.size := z2; omega
    have CF := ((((hD.set_low (p := ⟨w.heap.size + 1, 0, none⟩) lY (.slice B0 m0 d0)).set_low (p := ⟨w.heap.size + 1, 1, none⟩) lY (.slice B1_ m1 d1)).set_low (p := ⟨w.heap.size + 1, 2, none⟩) lY (.slice B2 m2 d2)).set_low (p := ⟨w.heap.size + 1, 3, none⟩) lY (.slice B3 m3 d3)).mono (lo' := w.heap.size) (by omega)
    have BF := (((hB3.setCell (p := ⟨w.heap.size + 1, 0, none⟩) (by simp) (.slice B0 m0 d0)).setCell (p := ⟨w.heap.size + 1, 1, none⟩) (by simp) (.slice B1_ m1 d1)).setCell (p := ⟨w.heap.size + 1, 2, none⟩) (by simp) (.slice B2 m2 d2)).setCell (p := ⟨w.heap.size + 1, 3, none⟩) (by simp) (.slice B3 m3 d3)
    clear s0 s1 s2 s3 p0 p1 p2 p3 x0 x1 x2 x3
    go_wp2_with fail
    rw [hf.out]
    refine bodyPost_ret (v := .tuple #[.agg #[.slice B0 m0 d0, .slice B1_ m1 d1, .slice B2 m2 d2, .slice B3 m3 d3], .bool true]) ?_ rfl ⟨_, rfl, CF, BF⟩
    simp [results, Try.results17, go_sem, y0, y1, y2, y3]
end Go.Proofs.Ytmpcgegbfbkmnaa
