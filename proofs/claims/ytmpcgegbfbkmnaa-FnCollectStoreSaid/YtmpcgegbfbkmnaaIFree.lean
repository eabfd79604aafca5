/- FreeCell of impl. -/
import Derived.Test.YtmpcgegbfbkmnaaIStoL
import Derived.Test.YtmpcgegbfbkmnaaIWith
import Derived.Test.YtmpcgegbfbkmnaaSFree
namespace Go.Proofs.Ytmpcgegbfbkmnaa
open Go.RowKit

theorem garb_lo {h : Hp} {x : Int} (hx : x ∈ garb h) : ∃ k : Nat, x = k ∧ k < (liveL h).length := by
  unfold garb garbN at hx
  rw [List.mem_map] at hx
  obtain ⟨k, hk, rfl⟩ := hx
  rw [List.mem_filter, List.mem_range] at hk
  exact ⟨k, rfl, hk.1⟩
theorem leak_in {C : Cp} {k : Int} (h : k ∈ leakL C) : k ∈ garb C.h := by
  unfold leakL leakN at h
  split at h
  · exact List.mem_of_mem_take (List.mem_filter.1 h).1
  · cases h
theorem leak_nat {C : Cp} {k : Int} (h : k ∈ leakL C) : ∃ j : Nat, k = j ∧ j < C.h.l.length := by
  obtain ⟨j, e, hj⟩ := garb_lo (leak_in h)
  rw [liveL_len (stoB_parts (leak_sto h)).1] at hj
  exact ⟨j, e, hj⟩

set_option maxRecDepth 100000 in
set_option maxHeartbeats 4000000 in
theorem implFree_any (w : World) (lo : Nat) (v : Value) (C : Cp) (hv : Cv w lo v C) (k : Int) :
    Calls Try.prog 28 #[v, .int .i64 k] w (OptCv w (freeO C k)) := by
  have hvo := hv
  obtain ⟨A0, n0, c0, A1, n1, c1, A2, n2, c2, A3, n3, c3, rfl, hh, ⟨r0, r1, r2, r3⟩, ⟨l0, l1, l2, l3⟩, ⟨mm0, mm1, mm2, mm3⟩, _⟩ := hvo.open_
  have P := Blk4.new w (.slice A0 n0 c0) (.slice A1 n1 c1) (.slice A2 n2 c2) (.slice A3 n3 c3) 27
  have X := P.alloc (.cells #[.slice none 0 0, .slice none 0 0, .slice none 0 0, .slice none 0 0] 27)
  have Y := Blk4.new_at (w := w.alloc (.cells #[.slice A0 n0 c0, .slice A1 n1 c1, .slice A2 n2 c2, .slice A3 n3 c3] 27)) (b := w.heap.size + 1) (by simp) (.slice none 0 0) (.slice none 0 0) (.slice none 0 0) (.slice none 0 0) 27
  have VV := (hv.alloc (.cells #[.slice A0 n0 c0, .slice A1 n1 c1, .slice A2 n2 c2, .slice A3 n3 c3] 27)).alloc (.cells #[.slice none 0 0, .slice none 0 0, .slice none 0 0, .slice none 0 0] 27)
  have BB : Below w.heap.size w ((w.alloc (.cells #[.slice A0 n0 c0, .slice A1 n1 c1, .slice A2 n2 c2, .slice A3 n3 c3] 27)).alloc (.cells #[.slice none 0 0, .slice none 0 0, .slice none 0 0, .slice none 0 0] 27)) := ((Below.refl _ _).alloc (Nat.le_refl _) _).alloc (by simp) _
  have sz : ((w.alloc (.cells #[.slice A0 n0 c0, .slice A1 n1 c1, .slice A2 n2 c2, .slice A3 n3 c3] 27)).alloc (.cells #[.slice none 0 0, .slice none 0 0, .slice none 0 0, .slice none 0 0] 27)).heap.size = w.heap.size + 2 := by simp
  have L := implLeaked_any _ lo _ C VV
  clear hh r0 r1 r2 r3 P hv
  go_enter Try.func28, Try.ntmps28
  go_wp2_with fail
  generalize (w.alloc (.cells #[.slice A0 n0 c0, .slice A1 n1 c1, .slice A2 n2 c2, .slice A3 n3 c3] 27)).alloc (.cells #[.slice none 0 0, .slice none 0 0, .slice none 0 0, .slice none 0 0] 27) = W at X Y VV BB sz L ⊢
  refine L.mono ?_; rintro e w1 ⟨E, q, rfl, hr, hb1⟩
  have X1 := X.below hb1
  have Y1 := Y.below hb1
  have V1 := VV.below hb1
  have B1 := BB.trans (hb1.mono (by omega))
  have z1 : w.heap.size + 2 ≤ w1.heap.size := by have := hb1.size; omega
  have hlk : (leakL C).length ≤ 8 := by
    unfold leakL; split
    · exact Nat.le_trans (leakN_len _ _ _) (garb_len C.h)
    · simp
  by_cases hk : k ∈ leakL C
  · have hC := leak_sto hk
    have hf : Hid (freeO C k = some (clearC C [k])) := by unfold Hid freeO; rw [if_pos hk]
    obtain ⟨j, rfl, hj⟩ := leak_nat hk
    have I := slicesContains_any w1 _ E _ q _ hr rfl (by omega) (j : Int)
    rw [show decide ((j : Int) ∈ leakL C) = true by simp [hk]] at I
    generalize (leakL C).length = nl at I hr hlk
    obtain ⟨hvh, hle, _⟩ := stoB_parts hC
    have h8 := hvB_len hvh
    have K := implWith_any w1 lo (.agg #[.slice A0 n0 c0, .slice A1 n1 c1, .slice A2 n2 c2, .slice A3 n3 c3]) C V1 hvh (by omega) j hj
    clear hk hC hb1 X Y VV L hvh hle h8
    obtain ⟨x0, x1, x2, x3, _⟩ := X1.cells
    go_wp2_with fail
    refine I.mono ?_; rintro e w2 ⟨rfl, rfl⟩
    go_wp2_with fail
    refine K.mono ?_; rintro e w3 ⟨vv, rfl, hD, hb3⟩
    have Y3 := Y1.below hb3
    have B3 := B1.trans (hb3.mono (by omega))
    obtain ⟨D0, m0, d0, D1, m1, d1, D2, m2, d2, D3, m3, d3, rfl, _⟩ := hD.open_
    obtain ⟨y0, y1, y2, y3, f0, f1, f2, f3⟩ := Y3.cells
    have lb : w.heap.size + 1 < w1.heap.size := by omega
    have CF := ((((hD.set_low (p := ⟨w.heap.size + 1, 0, none⟩) lb (.slice D0 m0 d0)).set_low (p := ⟨w.heap.size + 1, 1, none⟩) lb (.slice D1 m1 d1)).set_low (p := ⟨w.heap.size + 1, 2, none⟩) lb (.slice D2 m2 d2)).set_low (p := ⟨w.heap.size + 1, 3, none⟩) lb (.slice D3 m3 d3)).mono (lo' := w.heap.size) (by omega)
    have BF := (((B3.setCell (p := ⟨w.heap.size + 1, 0, none⟩) (by simp) (.slice D0 m0 d0)).setCell (p := ⟨w.heap.size + 1, 1, none⟩) (by simp) (.slice D1 m1 d1)).setCell (p := ⟨w.heap.size + 1, 2, none⟩) (by simp) (.slice D2 m2 d2)).setCell (p := ⟨w.heap.size + 1, 3, none⟩) (by simp) (.slice D3 m3 d3)
    clear K hD B3 Y3 V1 X1 Y1
    go_wp2_with fail
    rw [hf.out]
    refine bodyPost_ret (v := .tuple #[.agg #[.slice D0 m0 d0, .slice D1 m1 d1, .slice D2 m2 d2, .slice D3 m3 d3], .bool true]) ?_ rfl ⟨_, rfl, CF, BF⟩
    simp [results, Try.results28, go_sem, y0, y1, y2, y3]
  · have hf : Hid (freeO C k = none) := by unfold Hid freeO; rw [if_neg hk]
    have I := slicesContains_any w1 _ E _ q _ hr rfl (by omega) k
    rw [show decide (k ∈ leakL C) = false by simp [hk]] at I
    generalize (leakL C).length = nl at I hr hlk
    clear hk hb1 X Y VV L
    go_wp2_with fail
    refine I.mono ?_; rintro e w2 ⟨rfl, rfl⟩
    obtain ⟨y0, y1, y2, y3, f0, f1, f2, f3⟩ := (Y1).cells
    obtain ⟨hZ, hB⟩ := zero_done (w := w) (b := w.heap.size + 1) (by omega) (B1)
    go_wp2_with fail
    rw [hf.out]
    refine bodyPost_ret (v := .tuple #[.agg #[.slice none 0 0, .slice none 0 0, .slice none 0 0, .slice none 0 0], .bool false]) ?_ rfl ⟨_, rfl, hZ, hB⟩
    simp [results, Try.results28, go_sem, y0, y1, y2, y3]
end Go.Proofs.Ytmpcgegbfbkmnaa
