/- FreeCell of spec. -/
import Derived.Test.YtmpcgegbfbkmnaaStoG
import Derived.Test.YtmpcgegbfbkmnaaWrong
namespace Go.Proofs.Ytmpcgegbfbkmnaa
open Go.RowKit

def freeO (C : Cp) (k : Int) : Option Cp := if k ∈ leakL C then some (clearC C [k]) else none
theorem leak_sto {C : Cp} {k : Int} (h : k ∈ leakL C) : stoB C = true := by
  rcases e : stoB C
  · unfold leakL at h; rw [e] at h; simp at h
  · rfl

set_option maxRecDepth 100000 in
set_option maxHeartbeats 4000000 in
theorem specFree_any (w : World) (lo : Nat) (v : Value) (C : Cp) (hv : Cv w lo v C) (k : Int) :
    Calls Try.prog 29 #[v, .int .i64 k] w (OptCv w (freeO C k)) := by
  have hvo := hv
  obtain ⟨A0, n0, c0, A1, n1, c1, A2, n2, c2, A3, n3, c3, rfl, hh, ⟨r0, r1, r2, r3⟩, ⟨l0, l1, l2, l3⟩, ⟨mm0, mm1, mm2, mm3⟩, _⟩ := hvo.open_
  have P := Blk4.new w (.slice A0 n0 c0) (.slice A1 n1 c1) (.slice A2 n2 c2) (.slice A3 n3 c3) 27
  have X := P.alloc (.cells #[.slice none 0 0, .slice none 0 0, .slice none 0 0, .slice none 0 0] 27)
  have Y := Blk4.new_at (w := w.alloc (.cells #[.slice A0 n0 c0, .slice A1 n1 c1, .slice A2 n2 c2, .slice A3 n3 c3] 27)) (b := w.heap.size + 1) (by simp) (.slice none 0 0) (.slice none 0 0) (.slice none 0 0) (.slice none 0 0) 27
  have VV := (hv.alloc (.cells #[.slice A0 n0 c0, .slice A1 n1 c1, .slice A2 n2 c2, .slice A3 n3 c3] 27)).alloc (.cells #[.slice none 0 0, .slice none 0 0, .slice none 0 0, .slice none 0 0] 27)
  have BB : Below w.heap.size w ((w.alloc (.cells #[.slice A0 n0 c0, .slice A1 n1 c1, .slice A2 n2 c2, .slice A3 n3 c3] 27)).alloc (.cells #[.slice none 0 0, .slice none 0 0, .slice none 0 0, .slice none 0 0] 27)) := ((Below.refl _ _).alloc (Nat.le_refl _) _).alloc (by simp) _
  have sz : ((w.alloc (.cells #[.slice A0 n0 c0, .slice A1 n1 c1, .slice A2 n2 c2, .slice A3 n3 c3] 27)).alloc (.cells #[.slice none 0 0, .slice none 0 0, .slice none 0 0, .slice none 0 0] 27)).heap.size = w.heap.size + 2 := by simp
  have L := specLeaked_any _ lo _ C VV
  clear hh r0 r1 r2 r3 P hv
  go_enter Try.func29, Try.ntmps29
  go_wp2_with fail
  generalize (w.alloc (.cells #[.slice A0 n0 c0, .slice A1 n1 c1, .slice A2 n2 c2, .slice A3 n3 c3] 27)).alloc (.cells #[.slice none 0 0, .slice none 0 0, .slice none 0 0, .slice none 0 0] 27) = W at X Y VV BB sz L ⊢
  refine L.mono ?_; rintro e w1 ⟨E, q, rfl, hr, hb1⟩
  have X1 := X.below hb1
  have Y1 := Y.below hb1
  have V1 := VV.below hb1
  have B1 := BB.trans (hb1.mono (by omega))
  have z1 : w.heap.size + 2 ≤ w1.heap.size := by have := hb1.size; omega
  have hlk : (leakL C).length ≤ 8 := by
    unfold leakL; split
    · exact Nat.le_trans (leakN_len _ _ _) (garb_len C.h)
    · simp
  by_cases hk : k ∈ leakL C
  · have hC := leak_sto hk
    have hf : Hid (freeO C k = some (clearC C [k])) := by unfold Hid freeO; rw [if_pos hk]
    have I := fun l9 => l4At_in w1 _ E _ q _ hr l9 (by omega) k hk
    have lg := Lib.hid (rfl : (leakL C).length = (leakL C).length)
    replace I := I lg
    generalize (leakL C).length = nl at I hr hlk
    have K := fun W9 h8 A9 n9 c9 l9 h9 h7 h6 => l4Clear_any W9 lo l9 (.agg #[.slice A0 n0 c0, .slice A1 n1 c1, .slice A2 n2 c2, .slice A3 n3 c3]) C h8 hC A9 n9 c9 [k] h9 h7 h6
    clear hk hC hb1 X Y VV L
    go_wp2_with fail
    refine I.mono ?_; rintro e w2 ⟨⟨j, rfl⟩, nq, hw⟩
    have X2 : Blk4 w2 w.heap.size (.slice A0 n0 c0) (.slice A1 n1 c1) (.slice A2 n2 c2) (.slice A3 n3 c3) 27 := by rw [hw]; exact X1
    have Y2 : Blk4 w2 (w.heap.size + 1) (.slice none 0 0) (.slice none 0 0) (.slice none 0 0) (.slice none 0 0) 27 := by rw [hw]; exact Y1
    have V2 : Cv w2 lo (.agg #[.slice A0 n0 c0, .slice A1 n1 c1, .slice A2 n2 c2, .slice A3 n3 c3]) C := by rw [hw]; exact V1.drewN _
    have B2 : Below w.heap.size w w2 := by rw [hw]; exact below_drewN B1 _
    have z2 : w.heap.size + 2 ≤ w2.heap.size := by rw [hw]; exact z1
    have hj : decide ((j : Int) < 0) = false := by simp
    clear hw X1 Y1 V1 B1 hr I
    obtain ⟨x0, x1, x2, x3, _⟩ := X2.cells
    have LT : Row (w2.alloc (.cells #[.int .i64 k] 3)) w2.heap.size (.slice (some ⟨w2.heap.size, 0, none⟩) 1 1) [k] := Row.lit_lo rfl w2.heap.size (Nat.le_refl _) [k] (by simp)
    have K2 := K _ (V2.alloc (.cells #[.int .i64 k] 3)) _ _ _ _ LT (Lib.hid rfl) (by omega)
    go_wp2_with fail
    refine K2.mono ?_; rintro e w3 ⟨vv, rfl, hD, hb3⟩
    have Y3 := (Y2.alloc (.cells #[.int .i64 k] 3)).below hb3
    have B3 := (B2.alloc (by omega) (.cells #[.int .i64 k] 3)).trans (hb3.mono (by simp; omega))
    have z3 : w2.heap.size + 1 ≤ w3.heap.size := by have := hb3.size; simp at this; omega
    obtain ⟨D0, m0, d0, D1, m1, d1, D2, m2, d2, D3, m3, d3, rfl, _⟩ := hD.open_
    obtain ⟨y0, y1, y2, y3, f0, f1, f2, f3⟩ := Y3.cells
    have lb : w.heap.size + 1 < (w2.alloc (.cells #[.int .i64 k] 3)).heap.size := by simp; omega
    have CF := ((((hD.set_low (p := ⟨w.heap.size + 1, 0, none⟩) lb (.slice D0 m0 d0)).set_low (p := ⟨w.heap.size + 1, 1, none⟩) lb (.slice D1 m1 d1)).set_low (p := ⟨w.heap.size + 1, 2, none⟩) lb (.slice D2 m2 d2)).set_low (p := ⟨w.heap.size + 1, 3, none⟩) lb (.slice D3 m3 d3)).mono (lo' := w.heap.size) (by omega)
    have BF := (((B3.setCell (p := ⟨w.heap.size + 1, 0, none⟩) (by simp) (.slice D0 m0 d0)).setCell (p := ⟨w.heap.size + 1, 1, none⟩) (by simp) (.slice D1 m1 d1)).setCell (p := ⟨w.heap.size + 1, 2, none⟩) (by simp) (.slice D2 m2 d2)).setCell (p := ⟨w.heap.size + 1, 3, none⟩) (by simp) (.slice D3 m3 d3)
    clear K2 K hD B3 Y3 V2
    go_wp2_with fail
    rw [hf.out]
    refine bodyPost_ret (v := .tuple #[.agg #[.slice D0 m0 d0, .slice D1 m1 d1, .slice D2 m2 d2, .slice D3 m3 d3], .bool true]) ?_ rfl ⟨_, rfl, CF, BF⟩
    simp [results, Try.results29, go_sem, y0, y1, y2, y3]
  · have hf : Hid (freeO C k = none) := by unfold Hid freeO; rw [if_neg hk]
    have I := fun l9 => l4At_not w1 _ E _ q _ hr l9 (by omega) k hk
    have lg := Lib.hid (rfl : (leakL C).length = (leakL C).length)
    replace I := I lg
    generalize (leakL C).length = nl at I hr hlk
    clear hk hb1 X Y VV L
    go_wp2_with fail
    refine I.mono ?_; rintro e w2 ⟨rfl, nq, hw⟩
    have Y2 : Blk4 w2 (w.heap.size + 1) (.slice none 0 0) (.slice none 0 0) (.slice none 0 0) (.slice none 0 0) 27 := by rw [hw]; exact Y1
    have B2 : Below w.heap.size w w2 := by rw [hw]; exact below_drewN B1 _
    clear hw
    obtain ⟨y0, y1, y2, y3, f0, f1, f2, f3⟩ := (Y2).cells
    obtain ⟨hZ, hB⟩ := zero_done (w := w) (b := w.heap.size + 1) (by omega) (B2)
    go_wp2_with fail
    rw [hf.out]
    refine bodyPost_ret (v := .tuple #[.agg #[.slice none 0 0, .slice none 0 0, .slice none 0 0, .slice none 0 0], .bool false]) ?_ rfl ⟨_, rfl, hZ, hB⟩
    simp [results, Try.results29, go_sem, y0, y1, y2, y3]
end Go.Proofs.Ytmpcgegbfbkmnaa
