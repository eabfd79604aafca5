/- The exact law of CopyHeap, walked. -/
import Derived.Test.YtapkhgpifpgleaaExactK
import Derived.Test.YtapkhgpifpgleaaCopyT
namespace Go.Proofs.Ytapkhgpifpgleaa
open Go.RowKit

theorem copyV_short (h : Hp) : (copyV h).l.length ≤ 1048576 ∧ (copyV h).r.length ≤ 1048576 ∧ (copyV h).t.length ≤ 1048576 ∧ (whereV h).length ≤ 1048576 := by
  unfold copyV whereV
  cases e : hvB h
  · simp [Hp.zero]
  · have h1 := hvB_len (copy_valid e)
    have h2 := where_len h
    have h3 := hvB_len e
    simp only [if_true]
    omega

set_option maxRecDepth 100000 in
set_option maxHeartbeats 4000000 in
theorem lawExactCopyHeap_walk (w : World) (v : Value) (h : Hp) (hv : HIn w v h) : Calls Try.prog 4 #[v] w (LawTrue w) := by
  obtain ⟨ha, m0, m1, m2⟩ := hv
  have ha2 := ha
  obtain ⟨A0, c0, A1, c1, A2, c2, rfl, _, _, _⟩ := ha2
  have SZ := szHeap_any (w.alloc (.cells #[.slice A0 h.l.length c0, .slice A1 h.r.length c1, .slice A2 h.t.length c2] 24)) A0 A1 A2 h.l.length c0 h.r.length c1 h.t.length c2 1048576 (by omega) (by omega) m0 m1 m2
  by_cases hsz : ((h.l.length + h.r.length + h.t.length : Nat) : Int) ≤ 1048576
  · have hszv : szV (h.l.length + h.r.length + h.t.length) 1048576 = 1048576 - ((h.l.length + h.r.length + h.t.length : Nat) : Int) := by unfold szV; rw [if_pos hsz]
    rw [hszv] at SZ
    have b0 : h.l.length ≤ 1048576 := by omega
    have b1 : h.r.length ≤ 1048576 := by omega
    have b2 : h.t.length ≤ 1048576 := by omega
    have s0 : ¬ (1048576 - ((h.l.length + h.r.length + h.t.length : Nat) : Int) < 0) := by omega
    generalize 1048576 - ((h.l.length + h.r.length + h.t.length : Nat) : Int) = sz at SZ s0
    clear hszv hsz m0 m1 m2
    have T := fun W (hW : HArg W w.heap.size (.agg #[.slice A0 h.l.length c0, .slice A1 h.r.length c1, .slice A2 h.t.length c2]) h) (hB : w.heap.size ≤ W.heap.size) => toHeap_any W w.heap.size hB _ h hW b0 b1 b2
    obtain ⟨N1, n1, n2, MX⟩ := markX h b0 b1 b2
    have sh := copyV_short h
    have S := fun W lo v hW => specCopy_any W lo v h hW
    have I := fun W lo v hW => implCopy_any W lo v h hW
    generalize copyV h = hr at S I sh
    generalize whereV h = rs at S I sh
    generalize hvB h = ok at S I
    obtain ⟨N2, M2, ms, ⟨n3b, n4b, n4, _⟩, MG, MR, QG, QR⟩ := markHQ hr rs sh.1 sh.2.1 sh.2.2.1 sh.2.2.2
    have hneO : (ok != ok) = false := by simp
    clear sh
    go_enter Try.func4, Try.ntmps4
    go_wp2_with fail
    refine SZ.mono ?_; rintro e w1 ⟨rfl, hb1⟩
    have BW1 : Below w.heap.size w w1 := ((Below.refl w.heap.size w).alloc (Below.refl w.heap.size w).size (.cells #[.slice A0 h.l.length c0, .slice A1 h.r.length c1, .slice A2 h.t.length c2] 24)).trans (hb1.mono ((Below.refl w.heap.size w).alloc (Below.refl w.heap.size w).size (.cells #[.slice A0 h.l.length c0, .slice A1 h.r.length c1, .slice A2 h.t.length c2] 24)).size)
    have zz1 : w.heap.size + 1 ≤ w1.heap.size := by have := hb1.size; simp at this; omega
    have AH_1 := HArg.below (by exact (ha.alloc (Below.refl w.heap.size w).size (.cells #[.slice A0 h.l.length c0, .slice A1 h.r.length c1, .slice A2 h.t.length c2] 24))) (hb1.mono ((Below.refl w.heap.size w).alloc (Below.refl w.heap.size w).size (.cells #[.slice A0 h.l.length c0, .slice A1 h.r.length c1, .slice A2 h.t.length c2] 24)).size)
    have P_1 := Blk3.below (by exact (Blk3.new w (.slice A0 h.l.length c0) (.slice A1 h.r.length c1) (.slice A2 h.t.length c2) 24)) hb1
    obtain ⟨cP_1_0, cP_1_1, cP_1_2, _⟩ := P_1.cells
    have lP_1 := P_1.lt
    go_wp2_with fail
    refine (T _ AH_1 BW1.size).mono ?_; rintro e w2 ⟨v, rfl, HA, hb2⟩
    have BW2 : Below w.heap.size w w2 := BW1.trans (hb2.mono BW1.size)
    have zz2 : w1.heap.size ≤ w2.heap.size := hb2.size
    have AH_2 := HArg.below (by exact AH_1) (hb2.mono BW1.size)
    have P_2 := Blk3.below (by exact P_1) hb2
    obtain ⟨cP_2_0, cP_2_1, cP_2_2, _⟩ := P_2.cells
    have lP_2 := P_2.lt
    have HAo := HA
    go_wp2_with fail
    refine (S _ _ _ HA).mono ?_; rintro e w3 ⟨v, AS, kS, rfl, HS, RS, NIS, hb3⟩
    have BW3 : Below w.heap.size w w3 := BW2.trans (hb3.mono BW2.size)
    have zz3 : w2.heap.size ≤ w3.heap.size := hb3.size
    have AH_3 := HArg.below (by exact AH_2) (hb3.mono BW2.size)
    have P_3 := Blk3.below (by exact P_2) hb3
    obtain ⟨cP_3_0, cP_3_1, cP_3_2, _⟩ := P_3.cells
    have lP_3 := P_3.lt
    have HA_3 := Hv.below (by exact HA) hb3
    have HSo := HS
    have RSo := RS
    obtain ⟨sA0, sn0, sk0, sA1, sn1, sk1, sA2, sn2, sk2, rfl, _⟩ := Hv.open_ HS
    go_wp2_with fail
    refine (T _ (AH_3.alloc BW3.size (.cells #[.slice sA0 sn0 sk0, .slice sA1 sn1 sk1, .slice sA2 sn2 sk2] 27)) (BW3.alloc BW3.size (.cells #[.slice sA0 sn0 sk0, .slice sA1 sn1 sk1, .slice sA2 sn2 sk2] 27)).size).mono ?_; rintro e w4 ⟨v, rfl, HX, hb4⟩
    have BW4 : Below w.heap.size w w4 := (BW3.alloc BW3.size (.cells #[.slice sA0 sn0 sk0, .slice sA1 sn1 sk1, .slice sA2 sn2 sk2] 27)).trans (hb4.mono (BW3.alloc BW3.size (.cells #[.slice sA0 sn0 sk0, .slice sA1 sn1 sk1, .slice sA2 sn2 sk2] 27)).size)
    have zz4 : w3.heap.size + 1 ≤ w4.heap.size := by have := hb4.size; simp at this; omega
    have AH_4 := HArg.below (by exact (AH_3.alloc BW3.size (.cells #[.slice sA0 sn0 sk0, .slice sA1 sn1 sk1, .slice sA2 sn2 sk2] 27))) (hb4.mono (BW3.alloc BW3.size (.cells #[.slice sA0 sn0 sk0, .slice sA1 sn1 sk1, .slice sA2 sn2 sk2] 27)).size)
    have P_4 := Blk3.below (by exact (P_3.alloc (.cells #[.slice sA0 sn0 sk0, .slice sA1 sn1 sk1, .slice sA2 sn2 sk2] 27))) hb4
    obtain ⟨cP_4_0, cP_4_1, cP_4_2, _⟩ := P_4.cells
    have lP_4 := P_4.lt
    have HS_4 := Hv.below (by exact (HS.alloc (.cells #[.slice sA0 sn0 sk0, .slice sA1 sn1 sk1, .slice sA2 sn2 sk2] 27))) hb4
    have RS_4 := Row.below (by exact (RS.alloc (.cells #[.slice sA0 sn0 sk0, .slice sA1 sn1 sk1, .slice sA2 sn2 sk2] 27))) hb4
    have SB_4 := Blk3.below (by exact (Blk3.new w3 (.slice sA0 sn0 sk0) (.slice sA1 sn1 sk1) (.slice sA2 sn2 sk2) 27)) hb4
    obtain ⟨cSB_4_0, cSB_4_1, cSB_4_2, _⟩ := SB_4.cells
    have lSB_4 := SB_4.lt
    replace HX := Hv.mono HX (lo' := w3.heap.size + 1) (by simp)
    have HXo := HX
    obtain ⟨xA0, xn0, xk0, xA1, xn1, xk1, xA2, xn2, xk2, rfl, _⟩ := Hv.open_ HX
    go_wp2_with fail
    refine (I _ _ _ (HX.alloc (.cells #[.slice xA0 xn0 xk0, .slice xA1 xn1 xk1, .slice xA2 xn2 xk2] 27))).mono ?_; rintro e w5 ⟨v, AG, kG, rfl, HG, RG, NIG, hb5⟩
    have BW5 : Below w.heap.size w w5 := (BW4.alloc BW4.size (.cells #[.slice xA0 xn0 xk0, .slice xA1 xn1 xk1, .slice xA2 xn2 xk2] 27)).trans (hb5.mono (BW4.alloc BW4.size (.cells #[.slice xA0 xn0 xk0, .slice xA1 xn1 xk1, .slice xA2 xn2 xk2] 27)).size)
    have zz5 : w4.heap.size + 1 ≤ w5.heap.size := by have := hb5.size; simp at this; omega
    have AH_5 := HArg.below (by exact (AH_4.alloc BW4.size (.cells #[.slice xA0 xn0 xk0, .slice xA1 xn1 xk1, .slice xA2 xn2 xk2] 27))) (hb5.mono (BW4.alloc BW4.size (.cells #[.slice xA0 xn0 xk0, .slice xA1 xn1 xk1, .slice xA2 xn2 xk2] 27)).size)
    have P_5 := Blk3.below (by exact (P_4.alloc (.cells #[.slice xA0 xn0 xk0, .slice xA1 xn1 xk1, .slice xA2 xn2 xk2] 27))) hb5
    obtain ⟨cP_5_0, cP_5_1, cP_5_2, _⟩ := P_5.cells
    have lP_5 := P_5.lt
    have HS_5 := Hv.below (by exact (HS_4.alloc (.cells #[.slice xA0 xn0 xk0, .slice xA1 xn1 xk1, .slice xA2 xn2 xk2] 27))) hb5
    have RS_5 := Row.below (by exact (RS_4.alloc (.cells #[.slice xA0 xn0 xk0, .slice xA1 xn1 xk1, .slice xA2 xn2 xk2] 27))) hb5
    have SB_5 := Blk3.below (by exact (SB_4.alloc (.cells #[.slice xA0 xn0 xk0, .slice xA1 xn1 xk1, .slice xA2 xn2 xk2] 27))) hb5
    obtain ⟨cSB_5_0, cSB_5_1, cSB_5_2, _⟩ := SB_5.cells
    have lSB_5 := SB_5.lt
    have HX_5 := Hv.below (by exact (HX.alloc (.cells #[.slice xA0 xn0 xk0, .slice xA1 xn1 xk1, .slice xA2 xn2 xk2] 27))) hb5
    have X_5 := Blk3.below (by exact (Blk3.new w4 (.slice xA0 xn0 xk0) (.slice xA1 xn1 xk1) (.slice xA2 xn2 xk2) 27)) hb5
    obtain ⟨cX_5_0, cX_5_1, cX_5_2, _⟩ := X_5.cells
    have lX_5 := X_5.lt
    replace HG := Hv.mono HG (lo' := w4.heap.size + 1) (by simp)
    replace RG := Row.mono RG (lo' := w4.heap.size + 1) (by simp)
    have HGo := HG
    have RGo := RG
    obtain ⟨gA0, gn0, gk0, gA1, gn1, gk1, gA2, gn2, gk2, rfl, _⟩ := Hv.open_ HG
    go_wp2_with fail
    refine (eqHeap_same _ _ _ _ _ _ (HG.alloc (.cells #[.slice gA0 gn0 gk0, .slice gA1 gn1 gk1, .slice gA2 gn2 gk2] 27)) (HS_5.alloc (.cells #[.slice gA0 gn0 gk0, .slice gA1 gn1 gk1, .slice gA2 gn2 gk2] 27))).mono ?_; rintro e w6 ⟨rfl, hb6⟩
    have BW6 : Below w.heap.size w w6 := (BW5.alloc BW5.size (.cells #[.slice gA0 gn0 gk0, .slice gA1 gn1 gk1, .slice gA2 gn2 gk2] 27)).trans (hb6.mono (BW5.alloc BW5.size (.cells #[.slice gA0 gn0 gk0, .slice gA1 gn1 gk1, .slice gA2 gn2 gk2] 27)).size)
    have zz6 : w5.heap.size + 1 ≤ w6.heap.size := by have := hb6.size; simp at this; omega
    have AH_6 := HArg.below (by exact (AH_5.alloc BW5.size (.cells #[.slice gA0 gn0 gk0, .slice gA1 gn1 gk1, .slice gA2 gn2 gk2] 27))) (hb6.mono (BW5.alloc BW5.size (.cells #[.slice gA0 gn0 gk0, .slice gA1 gn1 gk1, .slice gA2 gn2 gk2] 27)).size)
    have P_6 := Blk3.below (by exact (P_5.alloc (.cells #[.slice gA0 gn0 gk0, .slice gA1 gn1 gk1, .slice gA2 gn2 gk2] 27))) hb6
    obtain ⟨cP_6_0, cP_6_1, cP_6_2, _⟩ := P_6.cells
    have lP_6 := P_6.lt
    have HS_6 := Hv.below (by exact (HS_5.alloc (.cells #[.slice gA0 gn0 gk0, .slice gA1 gn1 gk1, .slice gA2 gn2 gk2] 27))) hb6
    have RS_6 := Row.below (by exact (RS_5.alloc (.cells #[.slice gA0 gn0 gk0, .slice gA1 gn1 gk1, .slice gA2 gn2 gk2] 27))) hb6
    have SB_6 := Blk3.below (by exact (SB_5.alloc (.cells #[.slice gA0 gn0 gk0, .slice gA1 gn1 gk1, .slice gA2 gn2 gk2] 27))) hb6
    obtain ⟨cSB_6_0, cSB_6_1, cSB_6_2, _⟩ := SB_6.cells
    have lSB_6 := SB_6.lt
    have HX_6 := Hv.below (by exact (HX_5.alloc (.cells #[.slice gA0 gn0 gk0, .slice gA1 gn1 gk1, .slice gA2 gn2 gk2] 27))) hb6
    have X_6 := Blk3.below (by exact (X_5.alloc (.cells #[.slice gA0 gn0 gk0, .slice gA1 gn1 gk1, .slice gA2 gn2 gk2] 27))) hb6
    obtain ⟨cX_6_0, cX_6_1, cX_6_2, _⟩ := X_6.cells
    have lX_6 := X_6.lt
    have HG_6 := Hv.below (by exact (HG.alloc (.cells #[.slice gA0 gn0 gk0, .slice gA1 gn1 gk1, .slice gA2 gn2 gk2] 27))) hb6
    have RG_6 := Row.below (by exact (RG.alloc (.cells #[.slice gA0 gn0 gk0, .slice gA1 gn1 gk1, .slice gA2 gn2 gk2] 27))) hb6
    have G_6 := Blk3.below (by exact (Blk3.new w5 (.slice gA0 gn0 gk0) (.slice gA1 gn1 gk1) (.slice gA2 gn2 gk2) 27)) hb6
    obtain ⟨cG_6_0, cG_6_1, cG_6_2, _⟩ := G_6.cells
    have lG_6 := G_6.lt
    go_wp2_with fail
    refine (eqIntS_same _ _ _ _ _ _ _ _ RG_6 RS_6).mono ?_; rintro e w7 ⟨rfl, hb7⟩
    have BW7 : Below w.heap.size w w7 := BW6.trans (hb7.mono BW6.size)
    have zz7 : w6.heap.size ≤ w7.heap.size := hb7.size
    have AH_7 := HArg.below (by exact AH_6) (hb7.mono BW6.size)
    have P_7 := Blk3.below (by exact P_6) hb7
    obtain ⟨cP_7_0, cP_7_1, cP_7_2, _⟩ := P_7.cells
    have lP_7 := P_7.lt
    have HS_7 := Hv.below (by exact HS_6) hb7
    have RS_7 := Row.below (by exact RS_6) hb7
    have SB_7 := Blk3.below (by exact SB_6) hb7
    obtain ⟨cSB_7_0, cSB_7_1, cSB_7_2, _⟩ := SB_7.cells
    have lSB_7 := SB_7.lt
    have HX_7 := Hv.below (by exact HX_6) hb7
    have X_7 := Blk3.below (by exact X_6) hb7
    obtain ⟨cX_7_0, cX_7_1, cX_7_2, _⟩ := X_7.cells
    have lX_7 := X_7.lt
    have HG_7 := Hv.below (by exact HG_6) hb7
    have RG_7 := Row.below (by exact RG_6) hb7
    have G_7 := Blk3.below (by exact G_6) hb7
    obtain ⟨cG_7_0, cG_7_1, cG_7_2, _⟩ := G_7.cells
    have lG_7 := G_7.lt
    go_wp2_with fail
    go_region_held3 (fun w' => w'.cell? ⟨w4.heap.size, 0, none⟩ = some (.slice xA0 xn0 xk0) ∧ w'.cell? ⟨w4.heap.size, 1, none⟩ = some (.slice xA1 xn1 xk1) ∧ w'.cell? ⟨w4.heap.size, 2, none⟩ = some (.slice xA2 xn2 xk2) ∧ w'.cell? ⟨w.heap.size, 0, none⟩ = some (.slice A0 h.l.length c0) ∧ w'.cell? ⟨w.heap.size, 1, none⟩ = some (.slice A1 h.r.length c1) ∧ w'.cell? ⟨w.heap.size, 2, none⟩ = some (.slice A2 h.t.length c2))
      (((try dsimp only); (repeat' apply And.intro) <;> (with_reducible (first | exact cP_9_2 | exact cP_9_1 | exact cP_9_0 | exact cX_9_2 | exact cX_9_1 | exact cX_9_0 | exact cP_8_2 | exact cP_8_1 | exact cP_8_0 | exact cX_8_2 | exact cX_8_1 | exact cX_8_0 | exact cellD cP_7_2 | exact cellD cP_7_1 | exact cellD cP_7_0 | exact cellD cX_7_2 | exact cellD cX_7_1 | exact cellD cX_7_0 | exact cP_7_2 | exact cP_7_1 | exact cP_7_0 | exact cX_7_2 | exact cX_7_1 | exact cX_7_0))))
      (first
        | (go_at_call 14; (with_reducible refine (T _ (AH_7.drew) (Below.drew BW7).size).mono ?_); rintro e w8 ⟨v7, rfl, HN7, hb8⟩; have BW8 : Below w.heap.size w w8 := (Below.drew BW7).trans (hb8.mono (Below.drew BW7).size); have zz8 : w7.heap.size ≤ w8.heap.size := hb8.size; have AH_8 := HArg.below (by exact (AH_7.drew)) (hb8.mono (Below.drew BW7).size); have P_8 := Blk3.below (by exact (P_7.drew)) hb8; obtain ⟨cP_8_0, cP_8_1, cP_8_2, _⟩ := P_8.cells; have lP_8 := P_8.lt; have HS_8 := Hv.below (by exact (HS_7.drew)) hb8; have RS_8 := Row.below (by exact (RS_7.drew)) hb8; have SB_8 := Blk3.below (by exact (SB_7.drew)) hb8; obtain ⟨cSB_8_0, cSB_8_1, cSB_8_2, _⟩ := SB_8.cells; have lSB_8 := SB_8.lt; have HX_8 := Hv.below (by exact (HX_7.drew)) hb8; have X_8 := Blk3.below (by exact (X_7.drew)) hb8; obtain ⟨cX_8_0, cX_8_1, cX_8_2, _⟩ := X_8.cells; have lX_8 := X_8.lt; have HG_8 := Hv.below (by exact (HG_7.drew)) hb8; have RG_8 := Row.below (by exact (RG_7.drew)) hb8; have G_8 := Blk3.below (by exact (G_7.drew)) hb8; obtain ⟨cG_8_0, cG_8_1, cG_8_2, _⟩ := G_8.cells; have lG_8 := G_8.lt)
        | (go_at_call 17; (with_reducible refine (eqHeap_same _ _ _ _ _ _ HX_8 HN7).mono ?_); rintro e w9 ⟨rfl, hb9⟩; have BW9 : Below w.heap.size w w9 := BW8.trans (hb9.mono BW8.size); have zz9 : w8.heap.size ≤ w9.heap.size := hb9.size; have AH_9 := HArg.below (by exact AH_8) (hb9.mono BW8.size); have P_9 := Blk3.below (by exact P_8) hb9; obtain ⟨cP_9_0, cP_9_1, cP_9_2, _⟩ := P_9.cells; have lP_9 := P_9.lt; have HS_9 := Hv.below (by exact HS_8) hb9; have RS_9 := Row.below (by exact RS_8) hb9; have SB_9 := Blk3.below (by exact SB_8) hb9; obtain ⟨cSB_9_0, cSB_9_1, cSB_9_2, _⟩ := SB_9.cells; have lSB_9 := SB_9.lt; have HX_9 := Hv.below (by exact HX_8) hb9; have X_9 := Blk3.below (by exact X_8) hb9; obtain ⟨cX_9_0, cX_9_1, cX_9_2, _⟩ := X_9.cells; have lX_9 := X_9.lt; have HG_9 := Hv.below (by exact HG_8) hb9; have RG_9 := Row.below (by exact RG_8) hb9; have G_9 := Blk3.below (by exact G_8) hb9; obtain ⟨cG_9_0, cG_9_1, cG_9_2, _⟩ := G_9.cells; have lG_9 := G_9.lt; have HN7_9 := Hv.below (by exact HN7) hb9))
    rename_i hHeld1
    clear hHeld1
    go_wp2_with fail
    refine (MX _ _ _ HX_9 (by omega)).mono ?_; rintro e w10 ⟨rfl, HMX, hb10, frhb10⟩
    have BW10 : Below w.heap.size w w10 := BW9.trans (hb10.mono (by omega))
    have zz10 : w9.heap.size ≤ w10.heap.size := hb10.size
    have AH_10 := HArg.below AH_9 (hb10.mono (by omega))
    have P_10 := Blk3.frame P_9 frhb10 (notIn_old HXo (by omega))
    obtain ⟨cP_10_0, cP_10_1, cP_10_2, _⟩ := P_10.cells
    have lP_10 := P_10.lt
    have HS_10 := Hv.keptFar HS_9 hb10 HSo (by omega)
    have SB_10 := Blk3.frame SB_9 frhb10 (notIn_old HXo (by omega))
    obtain ⟨cSB_10_0, cSB_10_1, cSB_10_2, _⟩ := SB_10.cells
    have lSB_10 := SB_10.lt
    have X_10 := Blk3.frame X_9 frhb10 (notIn_new HXo (by omega))
    obtain ⟨cX_10_0, cX_10_1, cX_10_2, _⟩ := X_10.cells
    have lX_10 := X_10.lt
    have HG_10 := Hv.keptNot HG_9 frhb10 (fun b h1 _ => notIn_new HXo (by omega))
    have G_10 := Blk3.frame G_9 frhb10 (notIn_new HXo (by omega))
    obtain ⟨cG_10_0, cG_10_1, cG_10_2, _⟩ := G_10.cells
    have lG_10 := G_10.lt
    have RS_10 := Row.far RS_9 hb10 (fun k e => by have := (RSo.lt k e).2; omega)
    have RG_10 := Row.keptNot RG_9 frhb10 (fun b e => notIn_new HXo (by have := (RGo.lt b e).1; omega))
    go_wp2_with fail
    refine (eqHeap_same _ _ _ _ _ _ HG_10 HS_10).mono ?_; rintro e w11 ⟨rfl, hb11⟩
    have BW11 : Below w.heap.size w w11 := BW10.trans (hb11.mono BW10.size)
    have zz11 : w10.heap.size ≤ w11.heap.size := hb11.size
    have AH_11 := HArg.below (by exact AH_10) (hb11.mono BW10.size)
    have P_11 := Blk3.below (by exact P_10) hb11
    obtain ⟨cP_11_0, cP_11_1, cP_11_2, _⟩ := P_11.cells
    have lP_11 := P_11.lt
    have HS_11 := Hv.below (by exact HS_10) hb11
    have RS_11 := Row.below (by exact RS_10) hb11
    have SB_11 := Blk3.below (by exact SB_10) hb11
    obtain ⟨cSB_11_0, cSB_11_1, cSB_11_2, _⟩ := SB_11.cells
    have lSB_11 := SB_11.lt
    have HG_11 := Hv.below (by exact HG_10) hb11
    have RG_11 := Row.below (by exact RG_10) hb11
    have G_11 := Blk3.below (by exact G_10) hb11
    obtain ⟨cG_11_0, cG_11_1, cG_11_2, _⟩ := G_11.cells
    have lG_11 := G_11.lt
    go_wp2_with fail
    refine (eqIntS_same _ _ _ _ _ _ _ _ RG_11 RS_11).mono ?_; rintro e w12 ⟨rfl, hb12⟩
    have BW12 : Below w.heap.size w w12 := BW11.trans (hb12.mono BW11.size)
    have zz12 : w11.heap.size ≤ w12.heap.size := hb12.size
    have AH_12 := HArg.below (by exact AH_11) (hb12.mono BW11.size)
    have P_12 := Blk3.below (by exact P_11) hb12
    obtain ⟨cP_12_0, cP_12_1, cP_12_2, _⟩ := P_12.cells
    have lP_12 := P_12.lt
    have HS_12 := Hv.below (by exact HS_11) hb12
    have RS_12 := Row.below (by exact RS_11) hb12
    have SB_12 := Blk3.below (by exact SB_11) hb12
    obtain ⟨cSB_12_0, cSB_12_1, cSB_12_2, _⟩ := SB_12.cells
    have lSB_12 := SB_12.lt
    have HG_12 := Hv.below (by exact HG_11) hb12
    have RG_12 := Row.below (by exact RG_11) hb12
    have G_12 := Blk3.below (by exact G_11) hb12
    obtain ⟨cG_12_0, cG_12_1, cG_12_2, _⟩ := G_12.cells
    have lG_12 := G_12.lt
    go_wp2_with fail
    refine (MG _ _ _ HG_12 (by omega)).mono ?_; rintro e w13 ⟨rfl, HMG, hb13, frhb13⟩
    have BW13 : Below w.heap.size w w13 := BW12.trans (hb13.mono (by omega))
    have zz13 : w12.heap.size ≤ w13.heap.size := hb13.size
    have AH_13 := HArg.below AH_12 (hb13.mono (by omega))
    have P_13 := Blk3.frame P_12 frhb13 (notIn_old HGo (by omega))
    obtain ⟨cP_13_0, cP_13_1, cP_13_2, _⟩ := P_13.cells
    have lP_13 := P_13.lt
    have HS_13 := Hv.keptFar HS_12 hb13 HSo (by omega)
    have SB_13 := Blk3.frame SB_12 frhb13 (notIn_old HGo (by omega))
    obtain ⟨cSB_13_0, cSB_13_1, cSB_13_2, _⟩ := SB_13.cells
    have lSB_13 := SB_13.lt
    have G_13 := Blk3.frame G_12 frhb13 (notIn_new HGo (by omega))
    obtain ⟨cG_13_0, cG_13_1, cG_13_2, _⟩ := G_13.cells
    have lG_13 := G_13.lt
    have RS_13 := Row.far RS_12 hb13 (fun k e => by have := (RSo.lt k e).2; omega)
    have RG_13 := Row.keptNot RG_12 frhb13 NIG
    go_wp2_with fail
    refine (MR _ _ _ _ RG_13).mono ?_; rintro e w14 ⟨rfl, RMG, hb14⟩
    have zz14 : w13.heap.size ≤ w14.heap.size := hb14.size
    have BW14 : Below w.heap.size w w14 := BW13.trans ((RG_13.belowLo (by omega) hb14).mono (by omega))
    have AH_14 := HArg.below AH_13 ((RG_13.belowLo (by omega) hb14).mono (by omega))
    have P_14 := Blk3.keptR P_13 hb14 (fun e => by have := (RGo.lt _ e.symm).1; omega)
    obtain ⟨cP_14_0, cP_14_1, cP_14_2, _⟩ := P_14.cells
    have lP_14 := P_14.lt
    have HS_14 := Hv.keptFar HS_13 (RG_13.belowLo (by omega) hb14) HSo (by omega)
    have RS_14 := Row.kept RS_13 hb14 (row_apart RSo RG_13 (by omega))
    have SB_14 := Blk3.keptR SB_13 hb14 (fun e => by have := (RGo.lt _ e.symm).1; omega)
    obtain ⟨cSB_14_0, cSB_14_1, cSB_14_2, _⟩ := SB_14.cells
    have lSB_14 := SB_14.lt
    have HG_14 := Hv.keptN HMG hb14 NIG
    have G_14 := Blk3.keptR G_13 hb14 (fun e => by have := (RGo.lt _ e.symm).2; omega)
    obtain ⟨cG_14_0, cG_14_1, cG_14_2, _⟩ := G_14.cells
    have lG_14 := G_14.lt
    go_wp2_with fail
    refine (QG _ _ _ HG_14).mono ?_; rintro e w15 ⟨rfl, hb15⟩
    have BW15 : Below w.heap.size w w15 := BW14.trans (hb15.mono BW14.size)
    have zz15 : w14.heap.size ≤ w15.heap.size := hb15.size
    have AH_15 := HArg.below (by exact AH_14) (hb15.mono BW14.size)
    have P_15 := Blk3.below (by exact P_14) hb15
    obtain ⟨cP_15_0, cP_15_1, cP_15_2, _⟩ := P_15.cells
    have lP_15 := P_15.lt
    have HS_15 := Hv.below (by exact HS_14) hb15
    have RS_15 := Row.below (by exact RS_14) hb15
    have SB_15 := Blk3.below (by exact SB_14) hb15
    obtain ⟨cSB_15_0, cSB_15_1, cSB_15_2, _⟩ := SB_15.cells
    have lSB_15 := SB_15.lt
    have HG_15 := Hv.below (by exact HG_14) hb15
    have RG_15 := Row.below (by exact RMG) hb15
    have G_15 := Blk3.below (by exact G_14) hb15
    obtain ⟨cG_15_0, cG_15_1, cG_15_2, _⟩ := G_15.cells
    have lG_15 := G_15.lt
    go_wp2_with fail
    refine (QR _ _ _ _ RG_15).mono ?_; rintro e w16 ⟨rfl, hb16⟩
    have BW16 : Below w.heap.size w w16 := BW15.trans (hb16.mono BW15.size)
    have zz16 : w15.heap.size ≤ w16.heap.size := hb16.size
    have AH_16 := HArg.below (by exact AH_15) (hb16.mono BW15.size)
    have P_16 := Blk3.below (by exact P_15) hb16
    obtain ⟨cP_16_0, cP_16_1, cP_16_2, _⟩ := P_16.cells
    have lP_16 := P_16.lt
    have HS_16 := Hv.below (by exact HS_15) hb16
    have RS_16 := Row.below (by exact RS_15) hb16
    have SB_16 := Blk3.below (by exact SB_15) hb16
    obtain ⟨cSB_16_0, cSB_16_1, cSB_16_2, _⟩ := SB_16.cells
    have lSB_16 := SB_16.lt
    have HG_16 := Hv.below (by exact HG_15) hb16
    have RG_16 := Row.below (by exact RG_15) hb16
    have G_16 := Blk3.below (by exact G_15) hb16
    obtain ⟨cG_16_0, cG_16_1, cG_16_2, _⟩ := G_16.cells
    have lG_16 := G_16.lt
    go_wp2_with fail
    refine (T _ AH_16 BW16.size).mono ?_; rintro e w17 ⟨v, rfl, HB, hb17⟩
    have BW17 : Below w.heap.size w w17 := BW16.trans (hb17.mono BW16.size)
    have zz17 : w16.heap.size ≤ w17.heap.size := hb17.size
    have AH_17 := HArg.below (by exact AH_16) (hb17.mono BW16.size)
    have P_17 := Blk3.below (by exact P_16) hb17
    obtain ⟨cP_17_0, cP_17_1, cP_17_2, _⟩ := P_17.cells
    have lP_17 := P_17.lt
    have HS_17 := Hv.below (by exact HS_16) hb17
    have RS_17 := Row.below (by exact RS_16) hb17
    have SB_17 := Blk3.below (by exact SB_16) hb17
    obtain ⟨cSB_17_0, cSB_17_1, cSB_17_2, _⟩ := SB_17.cells
    have lSB_17 := SB_17.lt
    have HG_17 := Hv.below (by exact HG_16) hb17
    have RG_17 := Row.below (by exact RG_16) hb17
    have G_17 := Blk3.below (by exact G_16) hb17
    obtain ⟨cG_17_0, cG_17_1, cG_17_2, _⟩ := G_17.cells
    have lG_17 := G_17.lt
    have HBo := HB
    go_wp2_with fail
    refine (I _ _ _ HB).mono ?_; rintro e w18 ⟨v, AK, kK, rfl, HK, RK, NIK, hb18⟩
    have BW18 : Below w.heap.size w w18 := BW17.trans (hb18.mono BW17.size)
    have zz18 : w17.heap.size ≤ w18.heap.size := hb18.size
    have AH_18 := HArg.below (by exact AH_17) (hb18.mono BW17.size)
    have P_18 := Blk3.below (by exact P_17) hb18
    obtain ⟨cP_18_0, cP_18_1, cP_18_2, _⟩ := P_18.cells
    have lP_18 := P_18.lt
    have HS_18 := Hv.below (by exact HS_17) hb18
    have RS_18 := Row.below (by exact RS_17) hb18
    have SB_18 := Blk3.below (by exact SB_17) hb18
    obtain ⟨cSB_18_0, cSB_18_1, cSB_18_2, _⟩ := SB_18.cells
    have lSB_18 := SB_18.lt
    have HG_18 := Hv.below (by exact HG_17) hb18
    have RG_18 := Row.below (by exact RG_17) hb18
    have G_18 := Blk3.below (by exact G_17) hb18
    obtain ⟨cG_18_0, cG_18_1, cG_18_2, _⟩ := G_18.cells
    have lG_18 := G_18.lt
    have HB_18 := Hv.below (by exact HB) hb18
    have HKo := HK
    have RKo := RK
    obtain ⟨kA0, kn0, kk0, kA1, kn1, kk1, kA2, kn2, kk2, rfl, _⟩ := Hv.open_ HK
    go_wp2_with fail
    refine (eqHeap_same _ _ _ _ _ _ (HK.alloc (.cells #[.slice kA0 kn0 kk0, .slice kA1 kn1 kk1, .slice kA2 kn2 kk2] 27)) (HS_18.alloc (.cells #[.slice kA0 kn0 kk0, .slice kA1 kn1 kk1, .slice kA2 kn2 kk2] 27))).mono ?_; rintro e w19 ⟨rfl, hb19⟩
    have BW19 : Below w.heap.size w w19 := (BW18.alloc BW18.size (.cells #[.slice kA0 kn0 kk0, .slice kA1 kn1 kk1, .slice kA2 kn2 kk2] 27)).trans (hb19.mono (BW18.alloc BW18.size (.cells #[.slice kA0 kn0 kk0, .slice kA1 kn1 kk1, .slice kA2 kn2 kk2] 27)).size)
    have zz19 : w18.heap.size + 1 ≤ w19.heap.size := by have := hb19.size; simp at this; omega
    have AH_19 := HArg.below (by exact (AH_18.alloc BW18.size (.cells #[.slice kA0 kn0 kk0, .slice kA1 kn1 kk1, .slice kA2 kn2 kk2] 27))) (hb19.mono (BW18.alloc BW18.size (.cells #[.slice kA0 kn0 kk0, .slice kA1 kn1 kk1, .slice kA2 kn2 kk2] 27)).size)
    have HS_19 := Hv.below (by exact (HS_18.alloc (.cells #[.slice kA0 kn0 kk0, .slice kA1 kn1 kk1, .slice kA2 kn2 kk2] 27))) hb19
    have RS_19 := Row.below (by exact (RS_18.alloc (.cells #[.slice kA0 kn0 kk0, .slice kA1 kn1 kk1, .slice kA2 kn2 kk2] 27))) hb19
    have SB_19 := Blk3.below (by exact (SB_18.alloc (.cells #[.slice kA0 kn0 kk0, .slice kA1 kn1 kk1, .slice kA2 kn2 kk2] 27))) hb19
    obtain ⟨cSB_19_0, cSB_19_1, cSB_19_2, _⟩ := SB_19.cells
    have lSB_19 := SB_19.lt
    have HG_19 := Hv.below (by exact (HG_18.alloc (.cells #[.slice kA0 kn0 kk0, .slice kA1 kn1 kk1, .slice kA2 kn2 kk2] 27))) hb19
    have RG_19 := Row.below (by exact (RG_18.alloc (.cells #[.slice kA0 kn0 kk0, .slice kA1 kn1 kk1, .slice kA2 kn2 kk2] 27))) hb19
    have G_19 := Blk3.below (by exact (G_18.alloc (.cells #[.slice kA0 kn0 kk0, .slice kA1 kn1 kk1, .slice kA2 kn2 kk2] 27))) hb19
    obtain ⟨cG_19_0, cG_19_1, cG_19_2, _⟩ := G_19.cells
    have lG_19 := G_19.lt
    have HK_19 := Hv.below (by exact (HK.alloc (.cells #[.slice kA0 kn0 kk0, .slice kA1 kn1 kk1, .slice kA2 kn2 kk2] 27))) hb19
    have RK_19 := Row.below (by exact (RK.alloc (.cells #[.slice kA0 kn0 kk0, .slice kA1 kn1 kk1, .slice kA2 kn2 kk2] 27))) hb19
    have KB_19 := Blk3.below (by exact (Blk3.new w18 (.slice kA0 kn0 kk0) (.slice kA1 kn1 kk1) (.slice kA2 kn2 kk2) 27)) hb19
    obtain ⟨cKB_19_0, cKB_19_1, cKB_19_2, _⟩ := KB_19.cells
    have lKB_19 := KB_19.lt
    go_wp2_with fail
    refine (eqIntS_same _ _ _ _ _ _ _ _ RK_19 RS_19).mono ?_; rintro e w20 ⟨rfl, hb20⟩
    have BW20 : Below w.heap.size w w20 := BW19.trans (hb20.mono BW19.size)
    have zz20 : w19.heap.size ≤ w20.heap.size := hb20.size
    have AH_20 := HArg.below (by exact AH_19) (hb20.mono BW19.size)
    have HS_20 := Hv.below (by exact HS_19) hb20
    have RS_20 := Row.below (by exact RS_19) hb20
    have SB_20 := Blk3.below (by exact SB_19) hb20
    obtain ⟨cSB_20_0, cSB_20_1, cSB_20_2, _⟩ := SB_20.cells
    have lSB_20 := SB_20.lt
    have HG_20 := Hv.below (by exact HG_19) hb20
    have RG_20 := Row.below (by exact RG_19) hb20
    have G_20 := Blk3.below (by exact G_19) hb20
    obtain ⟨cG_20_0, cG_20_1, cG_20_2, _⟩ := G_20.cells
    have lG_20 := G_20.lt
    have HK_20 := Hv.below (by exact HK_19) hb20
    have RK_20 := Row.below (by exact RK_19) hb20
    have KB_20 := Blk3.below (by exact KB_19) hb20
    obtain ⟨cKB_20_0, cKB_20_1, cKB_20_2, _⟩ := KB_20.cells
    have lKB_20 := KB_20.lt
    go_wp2_with fail
    refine (QG _ _ _ HG_20).mono ?_; rintro e w21 ⟨rfl, hb21⟩
    have BW21 : Below w.heap.size w w21 := BW20.trans (hb21.mono BW20.size)
    have zz21 : w20.heap.size ≤ w21.heap.size := hb21.size
    have AH_21 := HArg.below (by exact AH_20) (hb21.mono BW20.size)
    have HS_21 := Hv.below (by exact HS_20) hb21
    have RS_21 := Row.below (by exact RS_20) hb21
    have SB_21 := Blk3.below (by exact SB_20) hb21
    obtain ⟨cSB_21_0, cSB_21_1, cSB_21_2, _⟩ := SB_21.cells
    have lSB_21 := SB_21.lt
    have HG_21 := Hv.below (by exact HG_20) hb21
    have RG_21 := Row.below (by exact RG_20) hb21
    have G_21 := Blk3.below (by exact G_20) hb21
    obtain ⟨cG_21_0, cG_21_1, cG_21_2, _⟩ := G_21.cells
    have lG_21 := G_21.lt
    have HK_21 := Hv.below (by exact HK_20) hb21
    have RK_21 := Row.below (by exact RK_20) hb21
    have KB_21 := Blk3.below (by exact KB_20) hb21
    obtain ⟨cKB_21_0, cKB_21_1, cKB_21_2, _⟩ := KB_21.cells
    have lKB_21 := KB_21.lt
    go_wp2_with fail
    refine (QR _ _ _ _ RG_21).mono ?_; rintro e w22 ⟨rfl, hb22⟩
    have BW22 : Below w.heap.size w w22 := BW21.trans (hb22.mono BW21.size)
    have zz22 : w21.heap.size ≤ w22.heap.size := hb22.size
    have AH_22 := HArg.below (by exact AH_21) (hb22.mono BW21.size)
    have HS_22 := Hv.below (by exact HS_21) hb22
    have RS_22 := Row.below (by exact RS_21) hb22
    have SB_22 := Blk3.below (by exact SB_21) hb22
    obtain ⟨cSB_22_0, cSB_22_1, cSB_22_2, _⟩ := SB_22.cells
    have lSB_22 := SB_22.lt
    have HG_22 := Hv.below (by exact HG_21) hb22
    have RG_22 := Row.below (by exact RG_21) hb22
    have G_22 := Blk3.below (by exact G_21) hb22
    obtain ⟨cG_22_0, cG_22_1, cG_22_2, _⟩ := G_22.cells
    have lG_22 := G_22.lt
    have HK_22 := Hv.below (by exact HK_21) hb22
    have RK_22 := Row.below (by exact RK_21) hb22
    have KB_22 := Blk3.below (by exact KB_21) hb22
    obtain ⟨cKB_22_0, cKB_22_1, cKB_22_2, _⟩ := KB_22.cells
    have lKB_22 := KB_22.lt
    go_wp2_with fail
    go_ret
    exact ⟨rfl, BW22⟩
  · have hszv : szV (h.l.length + h.r.length + h.t.length) 1048576 = -1 := by unfold szV; rw [if_neg hsz]
    rw [hszv] at SZ
    clear hsz hszv
    go_enter Try.func4, Try.ntmps4
    go_wp2_with fail
    refine SZ.mono ?_; rintro e w1 ⟨rfl, hb1⟩
    go_wp2_with fail
    go_ret
    exact ⟨rfl, ((Below.refl _ _).alloc (Nat.le_refl _) _).trans (hb1.mono (by simp))⟩
end Go.Proofs.Ytapkhgpifpgleaa
