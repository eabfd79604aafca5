/- The exact law of FormatHeap, walked. -/
import Derived.Test.YtpimndfafibgeaaExactA
import Derived.Test.YtpimndfafibgeaaSFmt
namespace Go.Proofs.Ytpimndfafibgeaa
open Go.RowKit

set_option maxRecDepth 100000 in
set_option maxHeartbeats 2000000 in
theorem lawExactFormatHeap_walk (w : World) (v : Value) (h : Hp) (hv : HIn w v h) : Calls Try.prog 7 #[v] w (LawTrue w) := by
  obtain ⟨ha, m0, m1, m2⟩ := hv
  have ha2 := ha
  obtain ⟨A0, c0, A1, c1, A2, c2, rfl, _, _, _⟩ := ha2
  have SZ := szHeap_any (w.alloc (.cells #[.slice A0 h.l.length c0, .slice A1 h.r.length c1, .slice A2 h.t.length c2] 37)) A0 A1 A2 h.l.length c0 h.r.length c1 h.t.length c2 1048576 (by omega) (by omega) m0 m1 m2
  by_cases hsz : ((h.l.length + h.r.length + h.t.length : Nat) : Int) ≤ 1048576
  · have hszv : szV (h.l.length + h.r.length + h.t.length) 1048576 = 1048576 - ((h.l.length + h.r.length + h.t.length : Nat) : Int) := by unfold szV; rw [if_pos hsz]
    rw [hszv] at SZ
    have b0 : h.l.length ≤ 1048576 := by omega
    have b1 : h.r.length ≤ 1048576 := by omega
    have b2 : h.t.length ≤ 1048576 := by omega
    have s0 : ¬ (1048576 - ((h.l.length + h.r.length + h.t.length : Nat) : Int) < 0) := by omega
    generalize 1048576 - ((h.l.length + h.r.length + h.t.length : Nat) : Int) = sz at SZ s0
    clear hszv hsz m0 m1 m2
    have T := fun W (hW : HArg W w.heap.size (.agg #[.slice A0 h.l.length c0, .slice A1 h.r.length c1, .slice A2 h.t.length c2]) h) (hB : w.heap.size ≤ W.heap.size) => toHeap_any W w.heap.size hB _ h hW b0 b1 b2
    have S := fun W v hW => specFmt_any W w.heap.size v h hW
    have I := fun W v hW => implFmt_any W w.heap.size v h hW
    generalize fmtL h = r0 at S I
    go_enter Try.func7, Try.ntmps7
    go_wp2_with fail
    refine SZ.mono ?_; rintro e w1 ⟨rfl, hb1⟩
    have BW1 : Below w.heap.size w w1 := ((Below.refl w.heap.size w).alloc (Below.refl w.heap.size w).size (.cells #[.slice A0 h.l.length c0, .slice A1 h.r.length c1, .slice A2 h.t.length c2] 37)).trans (hb1.mono ((Below.refl w.heap.size w).alloc (Below.refl w.heap.size w).size (.cells #[.slice A0 h.l.length c0, .slice A1 h.r.length c1, .slice A2 h.t.length c2] 37)).size)
    have zz1 := hb1.size
    have AH_1 := HArg.below (by exact (ha.alloc (Below.refl w.heap.size w).size (.cells #[.slice A0 h.l.length c0, .slice A1 h.r.length c1, .slice A2 h.t.length c2] 37))) (hb1.mono ((Below.refl w.heap.size w).alloc (Below.refl w.heap.size w).size (.cells #[.slice A0 h.l.length c0, .slice A1 h.r.length c1, .slice A2 h.t.length c2] 37)).size)
    have P_1 := Blk3.below (by exact (Blk3.new w (.slice A0 h.l.length c0) (.slice A1 h.r.length c1) (.slice A2 h.t.length c2) 37)) hb1
    obtain ⟨cP_1_0, cP_1_1, cP_1_2, _⟩ := P_1.cells
    have lP_1 := P_1.lt
    go_wp2_with fail
    refine (T _ AH_1 BW1.size).mono ?_; rintro e w2 ⟨vH2, rfl, H2, hb2⟩
    have BW2 : Below w.heap.size w w2 := BW1.trans (hb2.mono BW1.size)
    have zz2 := hb2.size
    have AH_2 := HArg.below (by exact AH_1) (hb2.mono BW1.size)
    have P_2 := Blk3.below (by exact P_1) hb2
    obtain ⟨cP_2_0, cP_2_1, cP_2_2, _⟩ := P_2.cells
    have lP_2 := P_2.lt
    go_wp2_with fail
    refine (S _ _ (H2.mono BW1.size)).mono ?_; rintro e w3 ⟨rfl, hb3⟩
    have BW3 : Below w.heap.size w w3 := BW2.trans (hb3.mono BW2.size)
    have zz3 := hb3.size
    have AH_3 := HArg.below (by exact AH_2) (hb3.mono BW2.size)
    have P_3 := Blk3.below (by exact P_2) hb3
    obtain ⟨cP_3_0, cP_3_1, cP_3_2, _⟩ := P_3.cells
    have lP_3 := P_3.lt
    have H2_3 := Hv.below (by exact H2) hb3
    go_wp2_with fail
    refine (T _ AH_3 BW3.size).mono ?_; rintro e w4 ⟨vH4, rfl, H4, hb4⟩
    have BW4 : Below w.heap.size w w4 := BW3.trans (hb4.mono BW3.size)
    have zz4 := hb4.size
    have AH_4 := HArg.below (by exact AH_3) (hb4.mono BW3.size)
    have P_4 := Blk3.below (by exact P_3) hb4
    obtain ⟨cP_4_0, cP_4_1, cP_4_2, _⟩ := P_4.cells
    have lP_4 := P_4.lt
    obtain ⟨xA0, xn0, xk0, xA1, xn1, xk1, xA2, xn2, xk2, rfl, _⟩ := Hv.open_ H4
    go_wp2_with fail
    refine (I _ _ ((H4.alloc (.cells #[.slice xA0 xn0 xk0, .slice xA1 xn1 xk1, .slice xA2 xn2 xk2] 25)).mono BW3.size)).mono ?_; rintro e w5 ⟨rfl, hb5⟩
    have BW5 : Below w.heap.size w w5 := (BW4.alloc BW4.size (.cells #[.slice xA0 xn0 xk0, .slice xA1 xn1 xk1, .slice xA2 xn2 xk2] 25)).trans (hb5.mono (BW4.alloc BW4.size (.cells #[.slice xA0 xn0 xk0, .slice xA1 xn1 xk1, .slice xA2 xn2 xk2] 25)).size)
    have zz5 := hb5.size
    have AH_5 := HArg.below (by exact (AH_4.alloc BW4.size (.cells #[.slice xA0 xn0 xk0, .slice xA1 xn1 xk1, .slice xA2 xn2 xk2] 25))) (hb5.mono (BW4.alloc BW4.size (.cells #[.slice xA0 xn0 xk0, .slice xA1 xn1 xk1, .slice xA2 xn2 xk2] 25)).size)
    have P_5 := Blk3.below (by exact (P_4.alloc (.cells #[.slice xA0 xn0 xk0, .slice xA1 xn1 xk1, .slice xA2 xn2 xk2] 25))) hb5
    obtain ⟨cP_5_0, cP_5_1, cP_5_2, _⟩ := P_5.cells
    have lP_5 := P_5.lt
    have H4_5 := Hv.below (by exact (H4.alloc (.cells #[.slice xA0 xn0 xk0, .slice xA1 xn1 xk1, .slice xA2 xn2 xk2] 25))) hb5
    have X_5 := Blk3.below (by exact (Blk3.new w4 (.slice xA0 xn0 xk0) (.slice xA1 xn1 xk1) (.slice xA2 xn2 xk2) 25)) hb5
    obtain ⟨cX_5_0, cX_5_1, cX_5_2, _⟩ := X_5.cells
    have lX_5 := X_5.lt
    go_wp2_with fail
    go_region_held3 (fun w' => w'.cell? ⟨w4.heap.size, 0, none⟩ = some (.slice xA0 xn0 xk0) ∧ w'.cell? ⟨w4.heap.size, 1, none⟩ = some (.slice xA1 xn1 xk1) ∧ w'.cell? ⟨w4.heap.size, 2, none⟩ = some (.slice xA2 xn2 xk2) ∧ w'.cell? ⟨w.heap.size, 0, none⟩ = some (.slice A0 h.l.length c0) ∧ w'.cell? ⟨w.heap.size, 1, none⟩ = some (.slice A1 h.r.length c1) ∧ w'.cell? ⟨w.heap.size, 2, none⟩ = some (.slice A2 h.t.length c2))
      (((try dsimp only); (repeat' apply And.intro) <;> (with_reducible (first | exact cP_7_2 | exact cP_7_1 | exact cP_7_0 | exact cX_7_2 | exact cX_7_1 | exact cX_7_0 | exact cP_6_2 | exact cP_6_1 | exact cP_6_0 | exact cX_6_2 | exact cX_6_1 | exact cX_6_0 | exact cellD cP_5_2 | exact cellD cP_5_1 | exact cellD cP_5_0 | exact cellD cX_5_2 | exact cellD cX_5_1 | exact cellD cX_5_0 | exact cP_5_2 | exact cP_5_1 | exact cP_5_0 | exact cX_5_2 | exact cX_5_1 | exact cX_5_0))))
      (first
        | (go_at_call 21; (with_reducible refine (T _ (AH_5.drew) (Below.drew BW5).size).mono ?_); rintro e w6 ⟨vv6, rfl, HN6, hb6⟩; have BW6 : Below w.heap.size w w6 := (Below.drew BW5).trans (hb6.mono (Below.drew BW5).size); have zz6 := hb6.size; have AH_6 := HArg.below (by exact (AH_5.drew)) (hb6.mono (Below.drew BW5).size); have P_6 := Blk3.below (by exact (P_5.drew)) hb6; obtain ⟨cP_6_0, cP_6_1, cP_6_2, _⟩ := P_6.cells; have lP_6 := P_6.lt; have H4_6 := Hv.below (by exact (H4_5.drew)) hb6; have X_6 := Blk3.below (by exact (X_5.drew)) hb6; obtain ⟨cX_6_0, cX_6_1, cX_6_2, _⟩ := X_6.cells; have lX_6 := X_6.lt)
        | (go_at_call 22; (with_reducible refine (eqHeap_same _ _ _ _ _ _ H4_6 HN6).mono ?_); rintro e w7 ⟨rfl, hb7⟩; have BW7 : Below w.heap.size w w7 := BW6.trans (hb7.mono BW6.size); have zz7 := hb7.size; have AH_7 := HArg.below (by exact AH_6) (hb7.mono BW6.size); have P_7 := Blk3.below (by exact P_6) hb7; obtain ⟨cP_7_0, cP_7_1, cP_7_2, _⟩ := P_7.cells; have lP_7 := P_7.lt; have H4_7 := Hv.below (by exact H4_6) hb7; have X_7 := Blk3.below (by exact X_6) hb7; obtain ⟨cX_7_0, cX_7_1, cX_7_2, _⟩ := X_7.cells; have lX_7 := X_7.lt))
    rename_i hHeldw7
    clear hHeldw7
    go_wp2_with fail
    go_ret
    exact ⟨rfl, BW7⟩
  · have hszv : szV (h.l.length + h.r.length + h.t.length) 1048576 = -1 := by unfold szV; rw [if_neg hsz]
    rw [hszv] at SZ
    clear hsz hszv
    go_enter Try.func7, Try.ntmps7
    go_wp2_with fail
    refine SZ.mono ?_; rintro e w1 ⟨rfl, hb1⟩
    go_wp2_with fail
    go_ret
    exact ⟨rfl, ((Below.refl _ _).alloc (Nat.le_refl _) _).trans (hb1.mono (by simp))⟩
end Go.Proofs.Ytpimndfafibgeaa
