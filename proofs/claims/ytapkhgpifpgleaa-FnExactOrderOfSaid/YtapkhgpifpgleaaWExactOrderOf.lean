/- The exact law of OrderOf, walked. -/
import Derived.Test.YtapkhgpifpgleaaExacts
import Derived.Test.YtapkhgpifpgleaaOrdW
namespace Go.Proofs.Ytapkhgpifpgleaa
open Go.RowKit

set_option maxRecDepth 100000 in
set_option maxHeartbeats 3000000 in
theorem lawExactOrderOf_walk (w : World) (v : Value) (h : Hp) (hv : HIn w v h) : Calls Try.prog 3 #[v] w (LawTrue w) := by
  obtain ⟨ha, m0, m1, m2⟩ := hv
  have ha2 := ha
  obtain ⟨A0, c0, A1, c1, A2, c2, rfl, _, _, _⟩ := ha2
  have SZ := szHeap_any (w.alloc (.cells #[.slice A0 h.l.length c0, .slice A1 h.r.length c1, .slice A2 h.t.length c2] 24)) A0 A1 A2 h.l.length c0 h.r.length c1 h.t.length c2 1048576 (by omega) (by omega) m0 m1 m2
  by_cases hsz : ((h.l.length + h.r.length + h.t.length : Nat) : Int) ≤ 1048576
  · have hszv : szV (h.l.length + h.r.length + h.t.length) 1048576 = 1048576 - ((h.l.length + h.r.length + h.t.length : Nat) : Int) := by unfold szV; rw [if_pos hsz]
    rw [hszv] at SZ
    have b0 : h.l.length ≤ 1048576 := by omega
    have b1 : h.r.length ≤ 1048576 := by omega
    have b2 : h.t.length ≤ 1048576 := by omega
    have s0 : ¬ (1048576 - ((h.l.length + h.r.length + h.t.length : Nat) : Int) < 0) := by omega
    generalize 1048576 - ((h.l.length + h.r.length + h.t.length : Nat) : Int) = sz at SZ s0
    clear hszv hsz m0 m1 m2
    have T := fun W (hW : HArg W w.heap.size (.agg #[.slice A0 h.l.length c0, .slice A1 h.r.length c1, .slice A2 h.t.length c2]) h) (hB : w.heap.size ≤ W.heap.size) => toHeap_any W w.heap.size hB _ h hW b0 b1 b2
    obtain ⟨N1, n1, n2, MX⟩ := markX h b0 b1 b2
    have sh : (order h).length ≤ 1048576 := Nat.le_trans (order_len0 h) b0
    have S := fun W lo v hW => specOrder_any W lo v h hW 
    have I := fun W lo v hW => implOrder_any W lo v h hW 
    generalize order h = xs at S I sh
    obtain ⟨N2, n3, n4, MG, QG⟩ := markR1 xs sh
    clear sh
    go_enter Try.func3, Try.ntmps3
    go_wp2_with fail
    refine SZ.mono ?_; rintro e w1 ⟨rfl, hb1⟩
    have BW1 : Below w.heap.size w w1 := ((Below.refl w.heap.size w).alloc (Below.refl w.heap.size w).size (.cells #[.slice A0 h.l.length c0, .slice A1 h.r.length c1, .slice A2 h.t.length c2] 24)).trans (hb1.mono ((Below.refl w.heap.size w).alloc (Below.refl w.heap.size w).size (.cells #[.slice A0 h.l.length c0, .slice A1 h.r.length c1, .slice A2 h.t.length c2] 24)).size)
    have zz1 : w.heap.size + 1 ≤ w1.heap.size := by have := hb1.size; simp at this; omega
    have AH_1 := HArg.below (by exact (ha.alloc (Below.refl w.heap.size w).size (.cells #[.slice A0 h.l.length c0, .slice A1 h.r.length c1, .slice A2 h.t.length c2] 24))) (hb1.mono ((Below.refl w.heap.size w).alloc (Below.refl w.heap.size w).size (.cells #[.slice A0 h.l.length c0, .slice A1 h.r.length c1, .slice A2 h.t.length c2] 24)).size)
    have P_1 := Blk3.below (by exact (Blk3.new w (.slice A0 h.l.length c0) (.slice A1 h.r.length c1) (.slice A2 h.t.length c2) 24)) hb1
    obtain ⟨cP_1_0, cP_1_1, cP_1_2, _⟩ := P_1.cells
    have lP_1 := P_1.lt
    go_wp2_with fail
    refine (T _ AH_1 BW1.size).mono ?_; rintro e w2 ⟨v, rfl, H2, hb2⟩
    have BW2 : Below w.heap.size w w2 := BW1.trans (hb2.mono BW1.size)
    have zz2 : w1.heap.size ≤ w2.heap.size := hb2.size
    have AH_2 := HArg.below (by exact AH_1) (hb2.mono BW1.size)
    have P_2 := Blk3.below (by exact P_1) hb2
    obtain ⟨cP_2_0, cP_2_1, cP_2_2, _⟩ := P_2.cells
    have lP_2 := P_2.lt
    have H2o := H2
    go_wp2_with fail
    refine (S _ _ _ H2).mono ?_; rintro e w3 ⟨AR3, kR3, rfl, R3, hb3⟩
    have BW3 : Below w.heap.size w w3 := BW2.trans (hb3.mono BW2.size)
    have zz3 : w2.heap.size ≤ w3.heap.size := hb3.size
    have AH_3 := HArg.below (by exact AH_2) (hb3.mono BW2.size)
    have P_3 := Blk3.below (by exact P_2) hb3
    obtain ⟨cP_3_0, cP_3_1, cP_3_2, _⟩ := P_3.cells
    have lP_3 := P_3.lt
    have H2_3 := Hv.below (by exact H2) hb3
    have R3o := R3
    go_wp2_with fail
    refine (T _ AH_3 BW3.size).mono ?_; rintro e w4 ⟨v, rfl, H4, hb4⟩
    have BW4 : Below w.heap.size w w4 := BW3.trans (hb4.mono BW3.size)
    have zz4 : w3.heap.size ≤ w4.heap.size := hb4.size
    have AH_4 := HArg.below (by exact AH_3) (hb4.mono BW3.size)
    have P_4 := Blk3.below (by exact P_3) hb4
    obtain ⟨cP_4_0, cP_4_1, cP_4_2, _⟩ := P_4.cells
    have lP_4 := P_4.lt
    have R3_4 := Row.below (by exact R3) hb4
    have H4o := H4
    obtain ⟨xA0, xn0, xk0, xA1, xn1, xk1, xA2, xn2, xk2, rfl, _⟩ := Hv.open_ H4
    go_wp2_with fail
    refine (I _ _ _ (H4.alloc (.cells #[.slice xA0 xn0 xk0, .slice xA1 xn1 xk1, .slice xA2 xn2 xk2] 27))).mono ?_; rintro e w5 ⟨AR5, kR5, rfl, R5, hb5⟩
    have BW5 : Below w.heap.size w w5 := (BW4.alloc BW4.size (.cells #[.slice xA0 xn0 xk0, .slice xA1 xn1 xk1, .slice xA2 xn2 xk2] 27)).trans (hb5.mono (BW4.alloc BW4.size (.cells #[.slice xA0 xn0 xk0, .slice xA1 xn1 xk1, .slice xA2 xn2 xk2] 27)).size)
    have zz5 : w4.heap.size + 1 ≤ w5.heap.size := by have := hb5.size; simp at this; omega
    have AH_5 := HArg.below (by exact (AH_4.alloc BW4.size (.cells #[.slice xA0 xn0 xk0, .slice xA1 xn1 xk1, .slice xA2 xn2 xk2] 27))) (hb5.mono (BW4.alloc BW4.size (.cells #[.slice xA0 xn0 xk0, .slice xA1 xn1 xk1, .slice xA2 xn2 xk2] 27)).size)
    have P_5 := Blk3.below (by exact (P_4.alloc (.cells #[.slice xA0 xn0 xk0, .slice xA1 xn1 xk1, .slice xA2 xn2 xk2] 27))) hb5
    obtain ⟨cP_5_0, cP_5_1, cP_5_2, _⟩ := P_5.cells
    have lP_5 := P_5.lt
    have R3_5 := Row.below (by exact (R3_4.alloc (.cells #[.slice xA0 xn0 xk0, .slice xA1 xn1 xk1, .slice xA2 xn2 xk2] 27))) hb5
    have H4_5 := Hv.below (by exact (H4.alloc (.cells #[.slice xA0 xn0 xk0, .slice xA1 xn1 xk1, .slice xA2 xn2 xk2] 27))) hb5
    have X_5 := Blk3.below (by exact (Blk3.new w4 (.slice xA0 xn0 xk0) (.slice xA1 xn1 xk1) (.slice xA2 xn2 xk2) 27)) hb5
    obtain ⟨cX_5_0, cX_5_1, cX_5_2, _⟩ := X_5.cells
    have lX_5 := X_5.lt
    replace R5 := Row.mono R5 (lo' := w4.heap.size + 1) (by simp)
    have R5o := R5
    go_wp2_with fail
    refine (eqIntS_same _ _ _ _ _ _ _ _ R5 R3_5).mono ?_; rintro e w6 ⟨rfl, hb6⟩
    have BW6 : Below w.heap.size w w6 := BW5.trans (hb6.mono BW5.size)
    have zz6 : w5.heap.size ≤ w6.heap.size := hb6.size
    have AH_6 := HArg.below (by exact AH_5) (hb6.mono BW5.size)
    have P_6 := Blk3.below (by exact P_5) hb6
    obtain ⟨cP_6_0, cP_6_1, cP_6_2, _⟩ := P_6.cells
    have lP_6 := P_6.lt
    have R3_6 := Row.below (by exact R3_5) hb6
    have H4_6 := Hv.below (by exact H4_5) hb6
    have X_6 := Blk3.below (by exact X_5) hb6
    obtain ⟨cX_6_0, cX_6_1, cX_6_2, _⟩ := X_6.cells
    have lX_6 := X_6.lt
    have R5_6 := Row.below (by exact R5) hb6
    go_wp2_with fail
    go_region_held3 (fun w' => w'.cell? ⟨w4.heap.size, 0, none⟩ = some (.slice xA0 xn0 xk0) ∧ w'.cell? ⟨w4.heap.size, 1, none⟩ = some (.slice xA1 xn1 xk1) ∧ w'.cell? ⟨w4.heap.size, 2, none⟩ = some (.slice xA2 xn2 xk2) ∧ w'.cell? ⟨w.heap.size, 0, none⟩ = some (.slice A0 h.l.length c0) ∧ w'.cell? ⟨w.heap.size, 1, none⟩ = some (.slice A1 h.r.length c1) ∧ w'.cell? ⟨w.heap.size, 2, none⟩ = some (.slice A2 h.t.length c2))
      (((try dsimp only); (repeat' apply And.intro) <;> (with_reducible (first | exact cP_8_2 | exact cP_8_1 | exact cP_8_0 | exact cX_8_2 | exact cX_8_1 | exact cX_8_0 | exact cP_7_2 | exact cP_7_1 | exact cP_7_0 | exact cX_7_2 | exact cX_7_1 | exact cX_7_0 | exact cellD cP_6_2 | exact cellD cP_6_1 | exact cellD cP_6_0 | exact cellD cX_6_2 | exact cellD cX_6_1 | exact cellD cX_6_0 | exact cP_6_2 | exact cP_6_1 | exact cP_6_0 | exact cX_6_2 | exact cX_6_1 | exact cX_6_0))))
      (first
        | (go_at_call 14; (with_reducible refine (T _ (AH_6.drew) (Below.drew BW6).size).mono ?_); rintro e w7 ⟨v7, rfl, HN7, hb7⟩; have BW7 : Below w.heap.size w w7 := (Below.drew BW6).trans (hb7.mono (Below.drew BW6).size); have zz7 : w6.heap.size ≤ w7.heap.size := hb7.size; have AH_7 := HArg.below (by exact (AH_6.drew)) (hb7.mono (Below.drew BW6).size); have P_7 := Blk3.below (by exact (P_6.drew)) hb7; obtain ⟨cP_7_0, cP_7_1, cP_7_2, _⟩ := P_7.cells; have lP_7 := P_7.lt; have R3_7 := Row.below (by exact (R3_6.drew)) hb7; have H4_7 := Hv.below (by exact (H4_6.drew)) hb7; have X_7 := Blk3.below (by exact (X_6.drew)) hb7; obtain ⟨cX_7_0, cX_7_1, cX_7_2, _⟩ := X_7.cells; have lX_7 := X_7.lt; have R5_7 := Row.below (by exact (R5_6.drew)) hb7)
        | (go_at_call 17; (with_reducible refine (eqHeap_same _ _ _ _ _ _ H4_7 HN7).mono ?_); rintro e w8 ⟨rfl, hb8⟩; have BW8 : Below w.heap.size w w8 := BW7.trans (hb8.mono BW7.size); have zz8 : w7.heap.size ≤ w8.heap.size := hb8.size; have AH_8 := HArg.below (by exact AH_7) (hb8.mono BW7.size); have P_8 := Blk3.below (by exact P_7) hb8; obtain ⟨cP_8_0, cP_8_1, cP_8_2, _⟩ := P_8.cells; have lP_8 := P_8.lt; have R3_8 := Row.below (by exact R3_7) hb8; have H4_8 := Hv.below (by exact H4_7) hb8; have X_8 := Blk3.below (by exact X_7) hb8; obtain ⟨cX_8_0, cX_8_1, cX_8_2, _⟩ := X_8.cells; have lX_8 := X_8.lt; have R5_8 := Row.below (by exact R5_7) hb8; have HN7_8 := Hv.below (by exact HN7) hb8))
    rename_i hHeld1
    clear hHeld1
    go_wp2_with fail
    refine (MX _ _ _ H4_8 (by omega)).mono ?_; rintro e w9 ⟨rfl, HM4, hb9, fr9⟩
    have BW9 : Below w.heap.size w w9 := BW8.trans (hb9.mono (by omega))
    have zz9 : w8.heap.size ≤ w9.heap.size := hb9.size
    have AH_9 := HArg.below AH_8 (hb9.mono (by omega))
    have P_9 := Blk3.frame P_8 fr9 (notIn_old H4o (by omega))
    obtain ⟨cP_9_0, cP_9_1, cP_9_2, _⟩ := P_9.cells
    have lP_9 := P_9.lt
    have X_9 := Blk3.frame X_8 fr9 (notIn_new H4o (by omega))
    obtain ⟨cX_9_0, cX_9_1, cX_9_2, _⟩ := X_9.cells
    have lX_9 := X_9.lt
    have R3_9 := Row.far R3_8 hb9 (fun k e => by have := (R3o.lt k e).2; omega)
    have R5_9 := Row.keptNot R5_8 fr9 (fun b e => notIn_new H4o (by have := (R5o.lt b e).1; omega))
    go_wp2_with fail
    refine (eqIntS_same _ _ _ _ _ _ _ _ R5_9 R3_9).mono ?_; rintro e w10 ⟨rfl, hb10⟩
    have BW10 : Below w.heap.size w w10 := BW9.trans (hb10.mono BW9.size)
    have zz10 : w9.heap.size ≤ w10.heap.size := hb10.size
    have AH_10 := HArg.below (by exact AH_9) (hb10.mono BW9.size)
    have P_10 := Blk3.below (by exact P_9) hb10
    obtain ⟨cP_10_0, cP_10_1, cP_10_2, _⟩ := P_10.cells
    have lP_10 := P_10.lt
    have R3_10 := Row.below (by exact R3_9) hb10
    have R5_10 := Row.below (by exact R5_9) hb10
    go_wp2_with fail
    refine (MG _ _ _ _ R5_10).mono ?_; rintro e w11 ⟨rfl, RM5, hb11⟩
    have zz11 : w10.heap.size ≤ w11.heap.size := hb11.size
    have BW11 : Below w.heap.size w w11 := BW10.trans ((R5_10.belowLo (by omega) hb11).mono (by omega))
    have AH_11 := HArg.below AH_10 ((R5_10.belowLo (by omega) hb11).mono (by omega))
    have P_11 := Blk3.keptR P_10 hb11 (fun e => by have := (R5_10.lt _ e.symm).1; omega)
    obtain ⟨cP_11_0, cP_11_1, cP_11_2, _⟩ := P_11.cells
    have lP_11 := P_11.lt
    have R3_11 := Row.kept R3_10 hb11 (row_apart R3o R5_10 (by omega))
    go_wp2_with fail
    refine (QG _ _ _ _ RM5).mono ?_; rintro e w12 ⟨rfl, hb12⟩
    have BW12 : Below w.heap.size w w12 := BW11.trans (hb12.mono BW11.size)
    have zz12 : w11.heap.size ≤ w12.heap.size := hb12.size
    have AH_12 := HArg.below (by exact AH_11) (hb12.mono BW11.size)
    have P_12 := Blk3.below (by exact P_11) hb12
    obtain ⟨cP_12_0, cP_12_1, cP_12_2, _⟩ := P_12.cells
    have lP_12 := P_12.lt
    have R3_12 := Row.below (by exact R3_11) hb12
    have R5_12 := Row.below (by exact RM5) hb12
    go_wp2_with fail
    refine (T _ AH_12 BW12.size).mono ?_; rintro e w13 ⟨v, rfl, H13, hb13⟩
    have BW13 : Below w.heap.size w w13 := BW12.trans (hb13.mono BW12.size)
    have zz13 : w12.heap.size ≤ w13.heap.size := hb13.size
    have AH_13 := HArg.below (by exact AH_12) (hb13.mono BW12.size)
    have P_13 := Blk3.below (by exact P_12) hb13
    obtain ⟨cP_13_0, cP_13_1, cP_13_2, _⟩ := P_13.cells
    have lP_13 := P_13.lt
    have R3_13 := Row.below (by exact R3_12) hb13
    have R5_13 := Row.below (by exact R5_12) hb13
    have H13o := H13
    go_wp2_with fail
    refine (I _ _ _ H13).mono ?_; rintro e w14 ⟨AR14, kR14, rfl, R14, hb14⟩
    have BW14 : Below w.heap.size w w14 := BW13.trans (hb14.mono BW13.size)
    have zz14 : w13.heap.size ≤ w14.heap.size := hb14.size
    have AH_14 := HArg.below (by exact AH_13) (hb14.mono BW13.size)
    have P_14 := Blk3.below (by exact P_13) hb14
    obtain ⟨cP_14_0, cP_14_1, cP_14_2, _⟩ := P_14.cells
    have lP_14 := P_14.lt
    have R3_14 := Row.below (by exact R3_13) hb14
    have R5_14 := Row.below (by exact R5_13) hb14
    have H13_14 := Hv.below (by exact H13) hb14
    have R14o := R14
    go_wp2_with fail
    refine (eqIntS_same _ _ _ _ _ _ _ _ R14 R3_14).mono ?_; rintro e w15 ⟨rfl, hb15⟩
    have BW15 : Below w.heap.size w w15 := BW14.trans (hb15.mono BW14.size)
    have zz15 : w14.heap.size ≤ w15.heap.size := hb15.size
    have AH_15 := HArg.below (by exact AH_14) (hb15.mono BW14.size)
    have R3_15 := Row.below (by exact R3_14) hb15
    have R5_15 := Row.below (by exact R5_14) hb15
    have R14_15 := Row.below (by exact R14) hb15
    go_wp2_with fail
    refine (QG _ _ _ _ R5_15).mono ?_; rintro e w16 ⟨rfl, hb16⟩
    have BW16 : Below w.heap.size w w16 := BW15.trans (hb16.mono BW15.size)
    have zz16 : w15.heap.size ≤ w16.heap.size := hb16.size
    have AH_16 := HArg.below (by exact AH_15) (hb16.mono BW15.size)
    have R3_16 := Row.below (by exact R3_15) hb16
    have R5_16 := Row.below (by exact R5_15) hb16
    have R14_16 := Row.below (by exact R14_15) hb16
    go_wp2_with fail
    go_ret
    exact ⟨rfl, BW16⟩
  · have hszv : szV (h.l.length + h.r.length + h.t.length) 1048576 = -1 := by unfold szV; rw [if_neg hsz]
    rw [hszv] at SZ
    clear hsz hszv
    go_enter Try.func3, Try.ntmps3
    go_wp2_with fail
    refine SZ.mono ?_; rintro e w1 ⟨rfl, hb1⟩
    go_wp2_with fail
    go_ret
    exact ⟨rfl, ((Below.refl _ _).alloc (Nat.le_refl _) _).trans (hb1.mono (by simp))⟩
end Go.Proofs.Ytapkhgpifpgleaa
