/- The law FnCountsSame, walked. -/
import Derived.Test.YteogflkahoanlaaLaws0
import Derived.Test.YteogflkahoanlaaWrgDs
import Derived.Test.YteogflkahoanlaaCVal
namespace Go.Proofs.Yteogflkahoanlaa
open Go.RowKit

theorem same_iff (D : Dp) (h : stoB D.C = true) : sameD ⟨D.C, cntO D.C.h⟩ D = dpB D := by
  unfold sameD dpB
  rw [sameC_self, h, Bool.true_and, Bool.true_and]
  by_cases e : D.n = cntO D.C.h
  · simp [e]
  · have e' : ¬ (cntO D.C.h = D.n) := fun h => e h.symm
    simp [e, e']
theorem cv_of {w : World} {lo : Nat} {a b c d e : Value} {D : Dp} (h : Dv w lo (.agg #[a, b, c, d, e]) D) : Cv w lo (.agg #[a, b, c, d]) D.C := h.cvn.1

set_option maxRecDepth 100000 in
set_option maxHeartbeats 4000000 in
theorem lawCountsSame_walk (w : World) (A : Option Addr) (n c : Nat) (h : Inp w A n c) :
    Calls Try.prog 14 #[.slice A n c] w (LawTrue w) := by
  by_cases hbig : 1048576 < n
  · go_enter Try.func14, Try.ntmps14
    go_wp2_with fail
    go_ret
    exact ⟨rfl, Below.refl _ _⟩
  go_enter Try.func14, Try.ntmps14
  go_wp2_with fail
  refine (drawCountedValid_any _ _ _ _ h).mono ?_; rintro e w1 ⟨v, D, rfl, HA, hb1⟩
  have BW1 : Below w.heap.size w w1 := (Below.refl w.heap.size w).trans (hb1.mono (Below.refl w.heap.size w).size)
  have zz1 : w.heap.size ≤ w1.heap.size := hb1.size
  have HAo := HA
  obtain ⟨A0, n0, c0, A1, n1, c1, A2, n2, c2, A3, n3, c3, A4, n4, c4, rfl, -⟩ := HAo.open_
  clear HAo
  have V := fun W lo v hW => implCountedValid_any W lo v D hW
  have U := fun W lo v hW => specCountedValid_any W lo v D hW
  have N := fun W lo v hW => implNewCounted_any W lo v D.C hW
  rcases hs : stoB D.C
  · have hd : dpB D = false := by unfold dpB; rw [hs]; rfl
    have hn : newDO D.C = none := by unfold newDO; rw [hs]; rfl
    rw [hd] at V U
    rw [hn] at N
    clear hs hd hn
    go_wp2_with fail
    refine (V _ _ _ (HA.alloc (.cells #[.slice A0 n0 c0, .slice A1 n1 c1, .slice A2 n2 c2, .slice A3 n3 c3, .slice A4 n4 c4] 29))).mono ?_; rintro e w2 ⟨rfl, hb2⟩
    have BW2 : Below w.heap.size w w2 := (BW1.alloc BW1.size (.cells #[.slice A0 n0 c0, .slice A1 n1 c1, .slice A2 n2 c2, .slice A3 n3 c3, .slice A4 n4 c4] 29)).trans (hb2.mono (BW1.alloc BW1.size (.cells #[.slice A0 n0 c0, .slice A1 n1 c1, .slice A2 n2 c2, .slice A3 n3 c3, .slice A4 n4 c4] 29)).size)
    have zz2 : w1.heap.size + 1 ≤ w2.heap.size := by have := hb2.size; simp at this; omega
    have HA_2 := Dv.below (by exact (HA.alloc (.cells #[.slice A0 n0 c0, .slice A1 n1 c1, .slice A2 n2 c2, .slice A3 n3 c3, .slice A4 n4 c4] 29))) hb2
    have X_2 := Blk5.below (by exact (Blk5.new w1 (.slice A0 n0 c0) (.slice A1 n1 c1) (.slice A2 n2 c2) (.slice A3 n3 c3) (.slice A4 n4 c4) 29)) hb2
    obtain ⟨cX_2_0, cX_2_1, cX_2_2, cX_2_3, cX_2_4, -⟩ := X_2.cells
    have lX_2 := X_2.lt
    go_wp2_with fail
    refine (N _ _ _ (cv_of HA_2)).mono ?_; rintro e w3 ⟨vHB, rfl, HB, hb3⟩
    simp only [Option.isSome_none, Option.getD_none] at HB ⊢
    have HBo := HB
    obtain ⟨B0, k0, d0, B1, k1, d1, B2, k2, d2, B3, k3, d3, B4, k4, d4, rfl, -⟩ := HBo.open_
    clear HBo
    have BW3 : Below w.heap.size w w3 := BW2.trans (hb3.mono BW2.size)
    have zz3 : w2.heap.size ≤ w3.heap.size := hb3.size
    have HA_3 := Dv.below (by exact HA_2) hb3
    have X_3 := Blk5.below (by exact X_2) hb3
    obtain ⟨cX_3_0, cX_3_1, cX_3_2, cX_3_3, cX_3_4, -⟩ := X_3.cells
    have lX_3 := X_3.lt
    go_wp2_with fail
    refine (U _ _ _ (HA_3.alloc (.cells #[.slice B0 k0 d0, .slice B1 k1 d1, .slice B2 k2 d2, .slice B3 k3 d3, .slice B4 k4 d4] 29))).mono ?_; rintro e w4 ⟨rfl, hb4⟩
    have BW4 : Below w.heap.size w w4 := (BW3.alloc BW3.size (.cells #[.slice B0 k0 d0, .slice B1 k1 d1, .slice B2 k2 d2, .slice B3 k3 d3, .slice B4 k4 d4] 29)).trans (hb4.mono (BW3.alloc BW3.size (.cells #[.slice B0 k0 d0, .slice B1 k1 d1, .slice B2 k2 d2, .slice B3 k3 d3, .slice B4 k4 d4] 29)).size)
    have zz4 : w3.heap.size + 1 ≤ w4.heap.size := by have := hb4.size; simp at this; omega
    have HA_4 := Dv.below (by exact (HA_3.alloc (.cells #[.slice B0 k0 d0, .slice B1 k1 d1, .slice B2 k2 d2, .slice B3 k3 d3, .slice B4 k4 d4] 29))) hb4
    have X_4 := Blk5.below (by exact (X_3.alloc (.cells #[.slice B0 k0 d0, .slice B1 k1 d1, .slice B2 k2 d2, .slice B3 k3 d3, .slice B4 k4 d4] 29))) hb4
    obtain ⟨cX_4_0, cX_4_1, cX_4_2, cX_4_3, cX_4_4, -⟩ := X_4.cells
    have lX_4 := X_4.lt
    have HB_4 := Dv.below (by exact (HB.alloc (.cells #[.slice B0 k0 d0, .slice B1 k1 d1, .slice B2 k2 d2, .slice B3 k3 d3, .slice B4 k4 d4] 29))) hb4
    have P_4 := Blk5.below (by exact (Blk5.new w3 (.slice B0 k0 d0) (.slice B1 k1 d1) (.slice B2 k2 d2) (.slice B3 k3 d3) (.slice B4 k4 d4) 29)) hb4
    obtain ⟨cP_4_0, cP_4_1, cP_4_2, cP_4_3, cP_4_4, -⟩ := P_4.cells
    have lP_4 := P_4.lt
    go_wp2_with fail
    go_ret
    exact ⟨rfl, BW4⟩
  · have hn : newDO D.C = some ⟨D.C, cntO D.C.h⟩ := by unfold newDO; rw [if_pos hs]
    have hsame := Lib.hid (same_iff D hs)
    rw [hn] at N
    clear hs hn
    generalize hgd : dpB D = d at V U hsame
    have hdd : (d == d) = true := by simp
    go_wp2_with fail
    refine (V _ _ _ (HA.alloc (.cells #[.slice A0 n0 c0, .slice A1 n1 c1, .slice A2 n2 c2, .slice A3 n3 c3, .slice A4 n4 c4] 29))).mono ?_; rintro e w2 ⟨rfl, hb2⟩
    have BW2 : Below w.heap.size w w2 := (BW1.alloc BW1.size (.cells #[.slice A0 n0 c0, .slice A1 n1 c1, .slice A2 n2 c2, .slice A3 n3 c3, .slice A4 n4 c4] 29)).trans (hb2.mono (BW1.alloc BW1.size (.cells #[.slice A0 n0 c0, .slice A1 n1 c1, .slice A2 n2 c2, .slice A3 n3 c3, .slice A4 n4 c4] 29)).size)
    have zz2 : w1.heap.size + 1 ≤ w2.heap.size := by have := hb2.size; simp at this; omega
    have HA_2 := Dv.below (by exact (HA.alloc (.cells #[.slice A0 n0 c0, .slice A1 n1 c1, .slice A2 n2 c2, .slice A3 n3 c3, .slice A4 n4 c4] 29))) hb2
    have X_2 := Blk5.below (by exact (Blk5.new w1 (.slice A0 n0 c0) (.slice A1 n1 c1) (.slice A2 n2 c2) (.slice A3 n3 c3) (.slice A4 n4 c4) 29)) hb2
    obtain ⟨cX_2_0, cX_2_1, cX_2_2, cX_2_3, cX_2_4, -⟩ := X_2.cells
    have lX_2 := X_2.lt
    go_wp2_with fail
    refine (N _ _ _ (cv_of HA_2)).mono ?_; rintro e w3 ⟨vHB, rfl, HB, hb3⟩
    simp only [Option.isSome_some, Option.getD_some] at HB ⊢
    have HBo := HB
    obtain ⟨B0, k0, d0, B1, k1, d1, B2, k2, d2, B3, k3, d3, B4, k4, d4, rfl, -⟩ := HBo.open_
    clear HBo
    have BW3 : Below w.heap.size w w3 := BW2.trans (hb3.mono BW2.size)
    have zz3 : w2.heap.size ≤ w3.heap.size := hb3.size
    have HA_3 := Dv.below (by exact HA_2) hb3
    have X_3 := Blk5.below (by exact X_2) hb3
    obtain ⟨cX_3_0, cX_3_1, cX_3_2, cX_3_3, cX_3_4, -⟩ := X_3.cells
    have lX_3 := X_3.lt
    go_wp2_with fail
    refine (U _ _ _ (HA_3.alloc (.cells #[.slice B0 k0 d0, .slice B1 k1 d1, .slice B2 k2 d2, .slice B3 k3 d3, .slice B4 k4 d4] 29))).mono ?_; rintro e w4 ⟨rfl, hb4⟩
    have BW4 : Below w.heap.size w w4 := (BW3.alloc BW3.size (.cells #[.slice B0 k0 d0, .slice B1 k1 d1, .slice B2 k2 d2, .slice B3 k3 d3, .slice B4 k4 d4] 29)).trans (hb4.mono (BW3.alloc BW3.size (.cells #[.slice B0 k0 d0, .slice B1 k1 d1, .slice B2 k2 d2, .slice B3 k3 d3, .slice B4 k4 d4] 29)).size)
    have zz4 : w3.heap.size + 1 ≤ w4.heap.size := by have := hb4.size; simp at this; omega
    have HA_4 := Dv.below (by exact (HA_3.alloc (.cells #[.slice B0 k0 d0, .slice B1 k1 d1, .slice B2 k2 d2, .slice B3 k3 d3, .slice B4 k4 d4] 29))) hb4
    have X_4 := Blk5.below (by exact (X_3.alloc (.cells #[.slice B0 k0 d0, .slice B1 k1 d1, .slice B2 k2 d2, .slice B3 k3 d3, .slice B4 k4 d4] 29))) hb4
    obtain ⟨cX_4_0, cX_4_1, cX_4_2, cX_4_3, cX_4_4, -⟩ := X_4.cells
    have lX_4 := X_4.lt
    have HB_4 := Dv.below (by exact (HB.alloc (.cells #[.slice B0 k0 d0, .slice B1 k1 d1, .slice B2 k2 d2, .slice B3 k3 d3, .slice B4 k4 d4] 29))) hb4
    have P_4 := Blk5.below (by exact (Blk5.new w3 (.slice B0 k0 d0) (.slice B1 k1 d1) (.slice B2 k2 d2) (.slice B3 k3 d3) (.slice B4 k4 d4) 29)) hb4
    obtain ⟨cP_4_0, cP_4_1, cP_4_2, cP_4_3, cP_4_4, -⟩ := P_4.cells
    have lP_4 := P_4.lt
    have E1 := implCountedSame_any _ _ _ _ _ _ _ HB_4 HA_4
    rw [hsame.out] at E1
    go_wp2_with fail
    refine (E1).mono ?_; rintro e w5 ⟨rfl, hb5⟩
    have BW5 : Below w.heap.size w w5 := BW4.trans (hb5.mono BW4.size)
    have zz5 : w4.heap.size ≤ w5.heap.size := hb5.size
    have HA_5 := Dv.below (by exact HA_4) hb5
    have X_5 := Blk5.below (by exact X_4) hb5
    obtain ⟨cX_5_0, cX_5_1, cX_5_2, cX_5_3, cX_5_4, -⟩ := X_5.cells
    have lX_5 := X_5.lt
    have HB_5 := Dv.below (by exact HB_4) hb5
    have P_5 := Blk5.below (by exact P_4) hb5
    obtain ⟨cP_5_0, cP_5_1, cP_5_2, cP_5_3, cP_5_4, -⟩ := P_5.cells
    have lP_5 := P_5.lt
    go_wp2_with fail
    go_ret
    exact ⟨rfl, BW5⟩
end Go.Proofs.Yteogflkahoanlaa
