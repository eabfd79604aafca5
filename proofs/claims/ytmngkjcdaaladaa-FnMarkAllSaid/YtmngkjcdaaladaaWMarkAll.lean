/- The law FnMarkAll, walked. -/
import Derived.Test.YtmngkjcdaaladaaCaseC
import Derived.Test.YtmngkjcdaaladaaPureD
import Derived.Test.YtmngkjcdaaladaaWLaw
import Derived.Test.YtmngkjcdaaladaaIAll
import Derived.Test.YtmngkjcdaaladaaICol2
import Derived.Test.YtmngkjcdaaladaaIHolds
namespace Go.Proofs.Ytmngkjcdaaladaa
open Go.RowKit

set_option maxRecDepth 100000 in
set_option maxHeartbeats 4000000 in
theorem lawMarkAll_walk (w : World) (A : Option Addr) (n c : Nat) (h : Inp w A n c) :
    Calls Try.prog 4 #[.slice A n c] w (LawTrue w) := by
  by_cases hbig : 1048576 < n
  · go_enter Try.func4, Try.ntmps4
    go_wp2_with fail
    go_ret
    exact ⟨rfl, Below.refl _ _⟩
  go_enter Try.func4, Try.ntmps4
  go_wp2_with fail
  refine (drawMarkAll_any _ _ _ _ h).mono ?_; rintro e w1 ⟨v, C, rfl, HA, hb1⟩
  have BW1 : Below w.heap.size w w1 := (Below.refl w.heap.size w).trans (hb1.mono (Below.refl w.heap.size w).size)
  have zz1 : w.heap.size ≤ w1.heap.size := hb1.size
  have HAo := HA
  obtain ⟨A0, n0, c0, A1, n1, c1, A2, n2, c2, A3, n3, c3, rfl, hh, ⟨r0, r1, r2, r3⟩, ⟨l0, l1, l2, l3⟩, ⟨mm0, mm1, mm2, mm3⟩, _⟩ := HAo.open_
  have I := fun W lo v hW => implMarkAll_any W lo v C hW
  have S := fun W lo v hW => specMarkAll_any W lo v C hW
  rcases ho : allO C with _ | C2
  · rw [ho] at I S
    go_wp2_with fail
    refine (I _ _ _ (HA.alloc (.cells #[.slice A0 n0 c0, .slice A1 n1 c1, .slice A2 n2 c2, .slice A3 n3 c3] 27))).mono ?_; rintro e w2 ⟨v, rfl, HB, hb2⟩
    simp only [Option.isSome_none, Option.getD_none] at HB ⊢
    have HBb := HB
    obtain ⟨B0, k0, d0, B1, k1, d1, B2, k2, d2, B3, k3, d3, rfl, _, ⟨_, _, _, br3⟩, ⟨_, _, _, bl3⟩, _⟩ := HBb.open_
    have BW2 : Below w.heap.size w w2 := (BW1.alloc BW1.size (.cells #[.slice A0 n0 c0, .slice A1 n1 c1, .slice A2 n2 c2, .slice A3 n3 c3] 27)).trans (hb2.mono (BW1.alloc BW1.size (.cells #[.slice A0 n0 c0, .slice A1 n1 c1, .slice A2 n2 c2, .slice A3 n3 c3] 27)).size)
    have zz2 : w1.heap.size + 1 ≤ w2.heap.size := by have := hb2.size; simp at this; omega
    have HA_2 := Cv.below (by exact (HA.alloc (.cells #[.slice A0 n0 c0, .slice A1 n1 c1, .slice A2 n2 c2, .slice A3 n3 c3] 27))) hb2
    have X_2 := Blk4.below (by exact (Blk4.new w1 (.slice A0 n0 c0) (.slice A1 n1 c1) (.slice A2 n2 c2) (.slice A3 n3 c3) 27)) hb2
    obtain ⟨cX_2_0, cX_2_1, cX_2_2, cX_2_3, _⟩ := X_2.cells
    have lX_2 := X_2.lt
    go_wp2_with fail
    refine (S _ _ _ (HA_2.alloc (.cells #[.slice B0 k0 d0, .slice B1 k1 d1, .slice B2 k2 d2, .slice B3 k3 d3] 27))).mono ?_; rintro e w3 ⟨v, rfl, HC, hb3⟩
    simp only [Option.isSome_none, Option.getD_none] at HC ⊢
    have HCb := HC
    obtain ⟨C0, m0, e0, C1, m1, e1, C2, m2, e2, C3, m3, e3, rfl, _⟩ := HCb.open_
    have BW3 : Below w.heap.size w w3 := (BW2.alloc BW2.size (.cells #[.slice B0 k0 d0, .slice B1 k1 d1, .slice B2 k2 d2, .slice B3 k3 d3] 27)).trans (hb3.mono (BW2.alloc BW2.size (.cells #[.slice B0 k0 d0, .slice B1 k1 d1, .slice B2 k2 d2, .slice B3 k3 d3] 27)).size)
    have zz3 : w2.heap.size + 1 ≤ w3.heap.size := by have := hb3.size; simp at this; omega
    have HA_3 := Cv.below (by exact (HA_2.alloc (.cells #[.slice B0 k0 d0, .slice B1 k1 d1, .slice B2 k2 d2, .slice B3 k3 d3] 27))) hb3
    have X_3 := Blk4.below (by exact (X_2.alloc (.cells #[.slice B0 k0 d0, .slice B1 k1 d1, .slice B2 k2 d2, .slice B3 k3 d3] 27))) hb3
    obtain ⟨cX_3_0, cX_3_1, cX_3_2, cX_3_3, _⟩ := X_3.cells
    have lX_3 := X_3.lt
    have HB_3 := Cv.below (by exact (HB.alloc (.cells #[.slice B0 k0 d0, .slice B1 k1 d1, .slice B2 k2 d2, .slice B3 k3 d3] 27))) hb3
    have P_3 := Blk4.below (by exact (Blk4.new w2 (.slice B0 k0 d0) (.slice B1 k1 d1) (.slice B2 k2 d2) (.slice B3 k3 d3) 27)) hb3
    obtain ⟨cP_3_0, cP_3_1, cP_3_2, cP_3_3, _⟩ := P_3.cells
    have lP_3 := P_3.lt
    have E1 := implColoredSame_any _ _ _ _ _ _ _ (HB_3.alloc (.cells #[.slice C0 m0 e0, .slice C1 m1 e1, .slice C2 m2 e2, .slice C3 m3 e3] 27)) (HC.alloc (.cells #[.slice C0 m0 e0, .slice C1 m1 e1, .slice C2 m2 e2, .slice C3 m3 e3] 27))
    rw [sameC_self] at E1
    go_wp2_with fail
    refine (E1).mono ?_; rintro e w4 ⟨rfl, hb4⟩
    have BW4 : Below w.heap.size w w4 := (BW3.alloc BW3.size (.cells #[.slice C0 m0 e0, .slice C1 m1 e1, .slice C2 m2 e2, .slice C3 m3 e3] 27)).trans (hb4.mono (BW3.alloc BW3.size (.cells #[.slice C0 m0 e0, .slice C1 m1 e1, .slice C2 m2 e2, .slice C3 m3 e3] 27)).size)
    have zz4 : w3.heap.size + 1 ≤ w4.heap.size := by have := hb4.size; simp at this; omega
    have HA_4 := Cv.below (by exact (HA_3.alloc (.cells #[.slice C0 m0 e0, .slice C1 m1 e1, .slice C2 m2 e2, .slice C3 m3 e3] 27))) hb4
    have X_4 := Blk4.below (by exact (X_3.alloc (.cells #[.slice C0 m0 e0, .slice C1 m1 e1, .slice C2 m2 e2, .slice C3 m3 e3] 27))) hb4
    obtain ⟨cX_4_0, cX_4_1, cX_4_2, cX_4_3, _⟩ := X_4.cells
    have lX_4 := X_4.lt
    have HB_4 := Cv.below (by exact (HB_3.alloc (.cells #[.slice C0 m0 e0, .slice C1 m1 e1, .slice C2 m2 e2, .slice C3 m3 e3] 27))) hb4
    have P_4 := Blk4.below (by exact (P_3.alloc (.cells #[.slice C0 m0 e0, .slice C1 m1 e1, .slice C2 m2 e2, .slice C3 m3 e3] 27))) hb4
    obtain ⟨cP_4_0, cP_4_1, cP_4_2, cP_4_3, _⟩ := P_4.cells
    have lP_4 := P_4.lt
    have HC_4 := Cv.below (by exact (HC.alloc (.cells #[.slice C0 m0 e0, .slice C1 m1 e1, .slice C2 m2 e2, .slice C3 m3 e3] 27))) hb4
    have Q_4 := Blk4.below (by exact (Blk4.new w3 (.slice C0 m0 e0) (.slice C1 m1 e1) (.slice C2 m2 e2) (.slice C3 m3 e3) 27)) hb4
    obtain ⟨cQ_4_0, cQ_4_1, cQ_4_2, cQ_4_3, _⟩ := Q_4.cells
    have lQ_4 := Q_4.lt
    have E2 := implColoredSame_any _ _ _ _ _ _ _ HB_4 HC_4
    rw [sameC_self] at E2
    go_wp2_with fail
    refine (E2).mono ?_; rintro e w5 ⟨rfl, hb5⟩
    have BW5 : Below w.heap.size w w5 := BW4.trans (hb5.mono BW4.size)
    have zz5 : w4.heap.size ≤ w5.heap.size := hb5.size
    have HA_5 := Cv.below (by exact HA_4) hb5
    have X_5 := Blk4.below (by exact X_4) hb5
    obtain ⟨cX_5_0, cX_5_1, cX_5_2, cX_5_3, _⟩ := X_5.cells
    have lX_5 := X_5.lt
    have HB_5 := Cv.below (by exact HB_4) hb5
    have P_5 := Blk4.below (by exact P_4) hb5
    obtain ⟨cP_5_0, cP_5_1, cP_5_2, cP_5_3, _⟩ := P_5.cells
    have lP_5 := P_5.lt
    have HC_5 := Cv.below (by exact HC_4) hb5
    have Q_5 := Blk4.below (by exact Q_4) hb5
    obtain ⟨cQ_5_0, cQ_5_1, cQ_5_2, cQ_5_3, _⟩ := Q_5.cells
    have lQ_5 := Q_5.lt
    go_wp2_with fail
    go_ret
    exact ⟨rfl, BW5⟩
  · rw [ho] at I S
    obtain ⟨hv, hC2, hv2⟩ := allO_parts ho
    have hlen := l3.out
    have L2 : C2.c.length = n3 := by rw [hC2]; show (allL C.h C.c).length = _; rw [allL_len]; exact hlen
    have hblk : Hid (∀ (i : Nat) y, C.c[i]? = some y → y ≠ 0 → C2.c[i]? = some 2) := fun i y hi hy => by
      rw [hC2]; exact all_black hv hi hy
    have h2h : C2.h = C.h := by rw [hC2]
    have HO2 : Hid (allO C2 = some C2) := by
      unfold Hid; rw [allO_of hv2]
      rw [hC2]; simp [all_twice]
    have J1 := fun W lo v hW => implCountColor_any W lo v C2 hW 1
    have hz : C2.c.count 1 = 0 := by rw [hC2]; exact count_zero_of (first_no (all_nogray _ _))
    rw [countO_valid hv2, hz] at J1
    have H1 := fun W lo v hW => implColorHolds_any W lo v C hW
    have H2 := fun W lo v hW => implColorHolds_any W lo v C2 hW
    have hh2 : Hid (holdsB C = true → holdsB C2 = true) := fun e => (holdsB_iff hv2).2 (by rw [hC2]; exact all_holds ((holdsB_iff hv).1 e))
    have R2 := fun W lo v hW => implMarkAll_any W lo v C2 hW
    clear hC2 hv hv2 ho hz
    go_wp2_with fail
    refine (I _ _ _ (HA.alloc (.cells #[.slice A0 n0 c0, .slice A1 n1 c1, .slice A2 n2 c2, .slice A3 n3 c3] 27))).mono ?_; rintro e w2 ⟨v, rfl, HB, hb2⟩
    simp only [Option.isSome_some, Option.getD_some] at HB ⊢
    have HBb := HB
    obtain ⟨B0, k0, d0, B1, k1, d1, B2, k2, d2, B3, k3, d3, rfl, _, ⟨_, _, _, br3⟩, ⟨_, _, _, bl3⟩, _⟩ := HBb.open_
    have BW2 : Below w.heap.size w w2 := (BW1.alloc BW1.size (.cells #[.slice A0 n0 c0, .slice A1 n1 c1, .slice A2 n2 c2, .slice A3 n3 c3] 27)).trans (hb2.mono (BW1.alloc BW1.size (.cells #[.slice A0 n0 c0, .slice A1 n1 c1, .slice A2 n2 c2, .slice A3 n3 c3] 27)).size)
    have zz2 : w1.heap.size + 1 ≤ w2.heap.size := by have := hb2.size; simp at this; omega
    have HA_2 := Cv.below (by exact (HA.alloc (.cells #[.slice A0 n0 c0, .slice A1 n1 c1, .slice A2 n2 c2, .slice A3 n3 c3] 27))) hb2
    have X_2 := Blk4.below (by exact (Blk4.new w1 (.slice A0 n0 c0) (.slice A1 n1 c1) (.slice A2 n2 c2) (.slice A3 n3 c3) 27)) hb2
    obtain ⟨cX_2_0, cX_2_1, cX_2_2, cX_2_3, _⟩ := X_2.cells
    have lX_2 := X_2.lt
    go_wp2_with fail
    refine (S _ _ _ (HA_2.alloc (.cells #[.slice B0 k0 d0, .slice B1 k1 d1, .slice B2 k2 d2, .slice B3 k3 d3] 27))).mono ?_; rintro e w3 ⟨v, rfl, HC, hb3⟩
    simp only [Option.isSome_some, Option.getD_some] at HC ⊢
    have HCb := HC
    obtain ⟨C0, m0, e0, C1, m1, e1, C2, m2, e2, C3, m3, e3, rfl, _⟩ := HCb.open_
    have BW3 : Below w.heap.size w w3 := (BW2.alloc BW2.size (.cells #[.slice B0 k0 d0, .slice B1 k1 d1, .slice B2 k2 d2, .slice B3 k3 d3] 27)).trans (hb3.mono (BW2.alloc BW2.size (.cells #[.slice B0 k0 d0, .slice B1 k1 d1, .slice B2 k2 d2, .slice B3 k3 d3] 27)).size)
    have zz3 : w2.heap.size + 1 ≤ w3.heap.size := by have := hb3.size; simp at this; omega
    have HA_3 := Cv.below (by exact (HA_2.alloc (.cells #[.slice B0 k0 d0, .slice B1 k1 d1, .slice B2 k2 d2, .slice B3 k3 d3] 27))) hb3
    have X_3 := Blk4.below (by exact (X_2.alloc (.cells #[.slice B0 k0 d0, .slice B1 k1 d1, .slice B2 k2 d2, .slice B3 k3 d3] 27))) hb3
    obtain ⟨cX_3_0, cX_3_1, cX_3_2, cX_3_3, _⟩ := X_3.cells
    have lX_3 := X_3.lt
    have HB_3 := Cv.below (by exact (HB.alloc (.cells #[.slice B0 k0 d0, .slice B1 k1 d1, .slice B2 k2 d2, .slice B3 k3 d3] 27))) hb3
    have P_3 := Blk4.below (by exact (Blk4.new w2 (.slice B0 k0 d0) (.slice B1 k1 d1) (.slice B2 k2 d2) (.slice B3 k3 d3) 27)) hb3
    obtain ⟨cP_3_0, cP_3_1, cP_3_2, cP_3_3, _⟩ := P_3.cells
    have lP_3 := P_3.lt
    have E1 := implColoredSame_any _ _ _ _ _ _ _ (HB_3.alloc (.cells #[.slice C0 m0 e0, .slice C1 m1 e1, .slice C2 m2 e2, .slice C3 m3 e3] 27)) (HC.alloc (.cells #[.slice C0 m0 e0, .slice C1 m1 e1, .slice C2 m2 e2, .slice C3 m3 e3] 27))
    rw [sameC_self] at E1
    go_wp2_with fail
    refine (E1).mono ?_; rintro e w4 ⟨rfl, hb4⟩
    have BW4 : Below w.heap.size w w4 := (BW3.alloc BW3.size (.cells #[.slice C0 m0 e0, .slice C1 m1 e1, .slice C2 m2 e2, .slice C3 m3 e3] 27)).trans (hb4.mono (BW3.alloc BW3.size (.cells #[.slice C0 m0 e0, .slice C1 m1 e1, .slice C2 m2 e2, .slice C3 m3 e3] 27)).size)
    have zz4 : w3.heap.size + 1 ≤ w4.heap.size := by have := hb4.size; simp at this; omega
    have HA_4 := Cv.below (by exact (HA_3.alloc (.cells #[.slice C0 m0 e0, .slice C1 m1 e1, .slice C2 m2 e2, .slice C3 m3 e3] 27))) hb4
    have X_4 := Blk4.below (by exact (X_3.alloc (.cells #[.slice C0 m0 e0, .slice C1 m1 e1, .slice C2 m2 e2, .slice C3 m3 e3] 27))) hb4
    obtain ⟨cX_4_0, cX_4_1, cX_4_2, cX_4_3, _⟩ := X_4.cells
    have lX_4 := X_4.lt
    have HB_4 := Cv.below (by exact (HB_3.alloc (.cells #[.slice C0 m0 e0, .slice C1 m1 e1, .slice C2 m2 e2, .slice C3 m3 e3] 27))) hb4
    have P_4 := Blk4.below (by exact (P_3.alloc (.cells #[.slice C0 m0 e0, .slice C1 m1 e1, .slice C2 m2 e2, .slice C3 m3 e3] 27))) hb4
    obtain ⟨cP_4_0, cP_4_1, cP_4_2, cP_4_3, _⟩ := P_4.cells
    have lP_4 := P_4.lt
    have HC_4 := Cv.below (by exact (HC.alloc (.cells #[.slice C0 m0 e0, .slice C1 m1 e1, .slice C2 m2 e2, .slice C3 m3 e3] 27))) hb4
    have Q_4 := Blk4.below (by exact (Blk4.new w3 (.slice C0 m0 e0) (.slice C1 m1 e1) (.slice C2 m2 e2) (.slice C3 m3 e3) 27)) hb4
    obtain ⟨cQ_4_0, cQ_4_1, cQ_4_2, cQ_4_3, _⟩ := Q_4.cells
    have lQ_4 := Q_4.lt
    obtain ⟨rA, lA⟩ := (HA_4).last'
    obtain ⟨rB, lB⟩ := (HB_4).last'
    clear I S E1
    go_wp2_with fail
    go_loop [8] (fun i => ∃ k : Nat, k ≤ n3 ∧ i = .int .i64 k) (fun i => n3 - (intOf i).toNat)
    case atStart => exact ⟨0, Nat.zero_le _, rfl⟩
    case round =>
      obtain ⟨k, hk, rfl⟩ := hrel
      by_cases hlt : k < n3
      · obtain ⟨gA, y, rfl, _, _, hy, hcA, _⟩ := rA.get (k := k) (by omega)
        have hki : (k : Int) < (n3 : Int) := by omega
        by_cases hy0 : y = 0
        · subst hy0
          clear hy
          go_wp2_with fail
          go_round
          case rel => exact ⟨k + 1, by omega, by go_num⟩
          case measure => simp [intOf]; omega
        · have hy1 : (y != 0) = true := by simp [hy0]
          obtain ⟨gB, z, rfl, _, _, hz, hcB, _⟩ := rB.get (k := k) (by omega)
          have ez := hz.out
          rw [hblk.out k y hy.out hy0] at ez
          obtain rfl : z = 2 := by simpa using ez.symm
          have hkk : (k : Int) < (k3 : Int) := by omega
          clear hy hz ez
          go_wp2_with fail
          go_round
          case rel => exact ⟨k + 1, by omega, by go_num⟩
          case measure => simp [intOf]; omega
      · obtain rfl : n3 = k := by omega
        have AG := R2 _ _ _ HB_4
        rw [HO2.out] at AG
        go_wp2_with fail
        refine AG.mono ?_; rintro e w5 ⟨v, rfl, HR, hb5⟩
        simp only [Option.isSome_some, Option.getD_some] at HR ⊢
        have HRb := HR
        obtain ⟨E0, s0, f0, E1_, s1, f1, E2, s2, f2, E3, s3, f3, rfl, _⟩ := HRb.open_
        have BW5 : Below w.heap.size w w5 := BW4.trans (hb5.mono BW4.size)
        have zz5 : w4.heap.size ≤ w5.heap.size := hb5.size
        have HA_5 := Cv.below (by exact HA_4) hb5
        have X_5 := Blk4.below (by exact X_4) hb5
        obtain ⟨cX_5_0, cX_5_1, cX_5_2, cX_5_3, _⟩ := X_5.cells
        have lX_5 := X_5.lt
        have HB_5 := Cv.below (by exact HB_4) hb5
        have P_5 := Blk4.below (by exact P_4) hb5
        obtain ⟨cP_5_0, cP_5_1, cP_5_2, cP_5_3, _⟩ := P_5.cells
        have lP_5 := P_5.lt
        have HC_5 := Cv.below (by exact HC_4) hb5
        have Q_5 := Blk4.below (by exact Q_4) hb5
        obtain ⟨cQ_5_0, cQ_5_1, cQ_5_2, cQ_5_3, _⟩ := Q_5.cells
        have lQ_5 := Q_5.lt
        go_wp2_with fail
        refine (J1 _ _ _ (HB_5.alloc (.cells #[.slice E0 s0 f0, .slice E1_ s1 f1, .slice E2 s2 f2, .slice E3 s3 f3] 27))).mono ?_; rintro e w6 ⟨rfl, hb6⟩
        have BW6 : Below w.heap.size w w6 := (BW5.alloc BW5.size (.cells #[.slice E0 s0 f0, .slice E1_ s1 f1, .slice E2 s2 f2, .slice E3 s3 f3] 27)).trans (hb6.mono (BW5.alloc BW5.size (.cells #[.slice E0 s0 f0, .slice E1_ s1 f1, .slice E2 s2 f2, .slice E3 s3 f3] 27)).size)
        have zz6 : w5.heap.size + 1 ≤ w6.heap.size := by have := hb6.size; simp at this; omega
        have HA_6 := Cv.below (by exact (HA_5.alloc (.cells #[.slice E0 s0 f0, .slice E1_ s1 f1, .slice E2 s2 f2, .slice E3 s3 f3] 27))) hb6
        have X_6 := Blk4.below (by exact (X_5.alloc (.cells #[.slice E0 s0 f0, .slice E1_ s1 f1, .slice E2 s2 f2, .slice E3 s3 f3] 27))) hb6
        obtain ⟨cX_6_0, cX_6_1, cX_6_2, cX_6_3, _⟩ := X_6.cells
        have lX_6 := X_6.lt
        have HB_6 := Cv.below (by exact (HB_5.alloc (.cells #[.slice E0 s0 f0, .slice E1_ s1 f1, .slice E2 s2 f2, .slice E3 s3 f3] 27))) hb6
        have P_6 := Blk4.below (by exact (P_5.alloc (.cells #[.slice E0 s0 f0, .slice E1_ s1 f1, .slice E2 s2 f2, .slice E3 s3 f3] 27))) hb6
        obtain ⟨cP_6_0, cP_6_1, cP_6_2, cP_6_3, _⟩ := P_6.cells
        have lP_6 := P_6.lt
        have HC_6 := Cv.below (by exact (HC_5.alloc (.cells #[.slice E0 s0 f0, .slice E1_ s1 f1, .slice E2 s2 f2, .slice E3 s3 f3] 27))) hb6
        have Q_6 := Blk4.below (by exact (Q_5.alloc (.cells #[.slice E0 s0 f0, .slice E1_ s1 f1, .slice E2 s2 f2, .slice E3 s3 f3] 27))) hb6
        obtain ⟨cQ_6_0, cQ_6_1, cQ_6_2, cQ_6_3, _⟩ := Q_6.cells
        have lQ_6 := Q_6.lt
        have HR_6 := Cv.below (by exact (HR.alloc (.cells #[.slice E0 s0 f0, .slice E1_ s1 f1, .slice E2 s2 f2, .slice E3 s3 f3] 27))) hb6
        have R_6 := Blk4.below (by exact (Blk4.new w5 (.slice E0 s0 f0) (.slice E1_ s1 f1) (.slice E2 s2 f2) (.slice E3 s3 f3) 27)) hb6
        obtain ⟨cR_6_0, cR_6_1, cR_6_2, cR_6_3, _⟩ := R_6.cells
        have lR_6 := R_6.lt
        have E2 := implColoredSame_any _ _ _ _ _ _ _ HR_6 HB_6
        rw [sameC_self] at E2
        go_wp2_with fail
        refine (E2).mono ?_; rintro e w7 ⟨rfl, hb7⟩
        have BW7 : Below w.heap.size w w7 := BW6.trans (hb7.mono BW6.size)
        have zz7 : w6.heap.size ≤ w7.heap.size := hb7.size
        have HA_7 := Cv.below (by exact HA_6) hb7
        have X_7 := Blk4.below (by exact X_6) hb7
        obtain ⟨cX_7_0, cX_7_1, cX_7_2, cX_7_3, _⟩ := X_7.cells
        have lX_7 := X_7.lt
        have HB_7 := Cv.below (by exact HB_6) hb7
        have P_7 := Blk4.below (by exact P_6) hb7
        obtain ⟨cP_7_0, cP_7_1, cP_7_2, cP_7_3, _⟩ := P_7.cells
        have lP_7 := P_7.lt
        have HC_7 := Cv.below (by exact HC_6) hb7
        have Q_7 := Blk4.below (by exact Q_6) hb7
        obtain ⟨cQ_7_0, cQ_7_1, cQ_7_2, cQ_7_3, _⟩ := Q_7.cells
        have lQ_7 := Q_7.lt
        have HR_7 := Cv.below (by exact HR_6) hb7
        have R_7 := Blk4.below (by exact R_6) hb7
        obtain ⟨cR_7_0, cR_7_1, cR_7_2, cR_7_3, _⟩ := R_7.cells
        have lR_7 := R_7.lt
        rcases e1 : holdsB C
        · rw [e1] at H1
          clear e1 hh2
          go_wp2_with fail
          refine (H1 _ _ _ HA_7).mono ?_; rintro e w8 ⟨rfl, hb8⟩
          have BW8 : Below w.heap.size w w8 := BW7.trans (hb8.mono BW7.size)
          have zz8 : w7.heap.size ≤ w8.heap.size := hb8.size
          have HA_8 := Cv.below (by exact HA_7) hb8
          have X_8 := Blk4.below (by exact X_7) hb8
          obtain ⟨cX_8_0, cX_8_1, cX_8_2, cX_8_3, _⟩ := X_8.cells
          have lX_8 := X_8.lt
          have HB_8 := Cv.below (by exact HB_7) hb8
          have P_8 := Blk4.below (by exact P_7) hb8
          obtain ⟨cP_8_0, cP_8_1, cP_8_2, cP_8_3, _⟩ := P_8.cells
          have lP_8 := P_8.lt
          have HC_8 := Cv.below (by exact HC_7) hb8
          have Q_8 := Blk4.below (by exact Q_7) hb8
          obtain ⟨cQ_8_0, cQ_8_1, cQ_8_2, cQ_8_3, _⟩ := Q_8.cells
          have lQ_8 := Q_8.lt
          have HR_8 := Cv.below (by exact HR_7) hb8
          have R_8 := Blk4.below (by exact R_7) hb8
          obtain ⟨cR_8_0, cR_8_1, cR_8_2, cR_8_3, _⟩ := R_8.cells
          have lR_8 := R_8.lt
          go_wp2_with fail
          go_ret
          exact ⟨rfl, BW8⟩
        · rw [e1] at H1
          rw [hh2.out e1] at H2
          clear e1 hh2
          go_wp2_with fail
          refine (H1 _ _ _ HA_7).mono ?_; rintro e w8 ⟨rfl, hb8⟩
          have BW8 : Below w.heap.size w w8 := BW7.trans (hb8.mono BW7.size)
          have zz8 : w7.heap.size ≤ w8.heap.size := hb8.size
          have HA_8 := Cv.below (by exact HA_7) hb8
          have X_8 := Blk4.below (by exact X_7) hb8
          obtain ⟨cX_8_0, cX_8_1, cX_8_2, cX_8_3, _⟩ := X_8.cells
          have lX_8 := X_8.lt
          have HB_8 := Cv.below (by exact HB_7) hb8
          have P_8 := Blk4.below (by exact P_7) hb8
          obtain ⟨cP_8_0, cP_8_1, cP_8_2, cP_8_3, _⟩ := P_8.cells
          have lP_8 := P_8.lt
          have HC_8 := Cv.below (by exact HC_7) hb8
          have Q_8 := Blk4.below (by exact Q_7) hb8
          obtain ⟨cQ_8_0, cQ_8_1, cQ_8_2, cQ_8_3, _⟩ := Q_8.cells
          have lQ_8 := Q_8.lt
          have HR_8 := Cv.below (by exact HR_7) hb8
          have R_8 := Blk4.below (by exact R_7) hb8
          obtain ⟨cR_8_0, cR_8_1, cR_8_2, cR_8_3, _⟩ := R_8.cells
          have lR_8 := R_8.lt
          go_wp2_with fail
          refine (H2 _ _ _ HB_8).mono ?_; rintro e w9 ⟨rfl, hb9⟩
          have BW9 : Below w.heap.size w w9 := BW8.trans (hb9.mono BW8.size)
          have zz9 : w8.heap.size ≤ w9.heap.size := hb9.size
          have HA_9 := Cv.below (by exact HA_8) hb9
          have X_9 := Blk4.below (by exact X_8) hb9
          obtain ⟨cX_9_0, cX_9_1, cX_9_2, cX_9_3, _⟩ := X_9.cells
          have lX_9 := X_9.lt
          have HB_9 := Cv.below (by exact HB_8) hb9
          have P_9 := Blk4.below (by exact P_8) hb9
          obtain ⟨cP_9_0, cP_9_1, cP_9_2, cP_9_3, _⟩ := P_9.cells
          have lP_9 := P_9.lt
          have HC_9 := Cv.below (by exact HC_8) hb9
          have Q_9 := Blk4.below (by exact Q_8) hb9
          obtain ⟨cQ_9_0, cQ_9_1, cQ_9_2, cQ_9_3, _⟩ := Q_9.cells
          have lQ_9 := Q_9.lt
          have HR_9 := Cv.below (by exact HR_8) hb9
          have R_9 := Blk4.below (by exact R_8) hb9
          obtain ⟨cR_9_0, cR_9_1, cR_9_2, cR_9_3, _⟩ := R_9.cells
          have lR_9 := R_9.lt
          go_wp2_with fail
          go_ret
          exact ⟨rfl, BW9⟩
end Go.Proofs.Ytmngkjcdaaladaa
