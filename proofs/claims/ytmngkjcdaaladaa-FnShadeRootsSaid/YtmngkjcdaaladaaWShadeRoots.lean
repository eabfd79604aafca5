/- The law FnShadeRoots, walked. -/
import Derived.Test.YtmngkjcdaaladaaCaseC
import Derived.Test.YtmngkjcdaaladaaPureD
import Derived.Test.YtmngkjcdaaladaaWLaw
import Derived.Test.YtmngkjcdaaladaaICol2
import Derived.Test.YtmngkjcdaaladaaIRoots
namespace Go.Proofs.Ytmngkjcdaaladaa
open Go.RowKit

theorem sameCE (w : World) (lo lo' : Nat) (v v' : Value) (a : Cp) (hv : Cv w lo v a) (hv' : Cv w lo' v' a) : Calls Try.prog 18 #[v, v'] w (RetB w true) := by
  have E := implColoredSame_any w lo lo' v v' a a hv hv'
  rwa [sameC_self] at E

set_option maxRecDepth 100000 in
set_option maxHeartbeats 4000000 in
theorem lawShadeRoots_walk (w : World) (A : Option Addr) (n c : Nat) (h : Inp w A n c) :
    Calls Try.prog 5 #[.slice A n c] w (LawTrue w) := by
  by_cases hbig : 1048576 < n
  · go_enter Try.func5, Try.ntmps5
    go_wp2_with fail
    go_ret
    exact ⟨rfl, Below.refl _ _⟩
  go_enter Try.func5, Try.ntmps5
  go_wp2_with fail
  refine (drawShadeRoots_any _ _ _ _ h).mono ?_; rintro e w1 ⟨v, C, rfl, HA, hb1⟩
  have BW1 : Below w.heap.size w w1 := (Below.refl w.heap.size w).trans (hb1.mono (Below.refl w.heap.size w).size)
  have zz1 : w.heap.size ≤ w1.heap.size := hb1.size
  have HAo := HA
  obtain ⟨A0, n0, c0, A1, n1, c1, A2, n2, c2, A3, n3, c3, rfl, hh, ⟨r0, r1, r2, r3⟩, ⟨l0, l1, l2, l3⟩, ⟨mm0, mm1, mm2, mm3⟩, _⟩ := HAo.open_
  have I := fun W lo v hW => implShadeRoots_any W lo v C hW
  have S := fun W lo v hW => specShadeRoots_any W lo v C hW
  rcases ho : rootsO C with _ | C2
  · rw [ho] at I S
    go_wp2_with fail
    refine (I _ _ _ (HA.alloc (.cells #[.slice A0 n0 c0, .slice A1 n1 c1, .slice A2 n2 c2, .slice A3 n3 c3] 27))).mono ?_; rintro e w2 ⟨v, rfl, HB, hb2⟩
    simp only [Option.isSome_none, Option.getD_none] at HB ⊢
    have HBb := HB
    obtain ⟨B0, k0, d0, B1, k1, d1, B2, k2, d2, B3, k3, d3, rfl, _, ⟨_, _, _, br3⟩, ⟨_, _, _, bl3⟩, _⟩ := HBb.open_
    have BW2 : Below w.heap.size w w2 := (BW1.alloc BW1.size (.cells #[.slice A0 n0 c0, .slice A1 n1 c1, .slice A2 n2 c2, .slice A3 n3 c3] 27)).trans (hb2.mono (BW1.alloc BW1.size (.cells #[.slice A0 n0 c0, .slice A1 n1 c1, .slice A2 n2 c2, .slice A3 n3 c3] 27)).size)
    have zz2 : w1.heap.size + 1 ≤ w2.heap.size := by have := hb2.size; simp at this; omega
    have HA_2 := Cv.below (by exact (HA.alloc (.cells #[.slice A0 n0 c0, .slice A1 n1 c1, .slice A2 n2 c2, .slice A3 n3 c3] 27))) hb2
    have X_2 := Blk4.below (by exact (Blk4.new w1 (.slice A0 n0 c0) (.slice A1 n1 c1) (.slice A2 n2 c2) (.slice A3 n3 c3) 27)) hb2
    obtain ⟨cX_2_0, cX_2_1, cX_2_2, cX_2_3, _⟩ := X_2.cells
    have lX_2 := X_2.lt
    go_wp2_with fail
    refine (S _ _ _ (HA_2.alloc (.cells #[.slice B0 k0 d0, .slice B1 k1 d1, .slice B2 k2 d2, .slice B3 k3 d3] 27))).mono ?_; rintro e w3 ⟨v, rfl, HC, hb3⟩
    simp only [Option.isSome_none, Option.getD_none] at HC ⊢
    have HCb := HC
    obtain ⟨K0, m0, e0, K1, m1, e1, K2, m2, e2, K3, m3, e3, rfl, _⟩ := HCb.open_
    have BW3 : Below w.heap.size w w3 := (BW2.alloc BW2.size (.cells #[.slice B0 k0 d0, .slice B1 k1 d1, .slice B2 k2 d2, .slice B3 k3 d3] 27)).trans (hb3.mono (BW2.alloc BW2.size (.cells #[.slice B0 k0 d0, .slice B1 k1 d1, .slice B2 k2 d2, .slice B3 k3 d3] 27)).size)
    have zz3 : w2.heap.size + 1 ≤ w3.heap.size := by have := hb3.size; simp at this; omega
    have HA_3 := Cv.below (by exact (HA_2.alloc (.cells #[.slice B0 k0 d0, .slice B1 k1 d1, .slice B2 k2 d2, .slice B3 k3 d3] 27))) hb3
    have X_3 := Blk4.below (by exact (X_2.alloc (.cells #[.slice B0 k0 d0, .slice B1 k1 d1, .slice B2 k2 d2, .slice B3 k3 d3] 27))) hb3
    obtain ⟨cX_3_0, cX_3_1, cX_3_2, cX_3_3, _⟩ := X_3.cells
    have lX_3 := X_3.lt
    have HB_3 := Cv.below (by exact (HB.alloc (.cells #[.slice B0 k0 d0, .slice B1 k1 d1, .slice B2 k2 d2, .slice B3 k3 d3] 27))) hb3
    have P_3 := Blk4.below (by exact (Blk4.new w2 (.slice B0 k0 d0) (.slice B1 k1 d1) (.slice B2 k2 d2) (.slice B3 k3 d3) 27)) hb3
    obtain ⟨cP_3_0, cP_3_1, cP_3_2, cP_3_3, _⟩ := P_3.cells
    have lP_3 := P_3.lt
    have E1 := implColoredSame_any _ _ _ _ _ _ _ (HB_3.alloc (.cells #[.slice K0 m0 e0, .slice K1 m1 e1, .slice K2 m2 e2, .slice K3 m3 e3] 27)) (HC.alloc (.cells #[.slice K0 m0 e0, .slice K1 m1 e1, .slice K2 m2 e2, .slice K3 m3 e3] 27))
    rw [sameC_self] at E1
    go_wp2_with fail
    refine (E1).mono ?_; rintro e w4 ⟨rfl, hb4⟩
    have BW4 : Below w.heap.size w w4 := (BW3.alloc BW3.size (.cells #[.slice K0 m0 e0, .slice K1 m1 e1, .slice K2 m2 e2, .slice K3 m3 e3] 27)).trans (hb4.mono (BW3.alloc BW3.size (.cells #[.slice K0 m0 e0, .slice K1 m1 e1, .slice K2 m2 e2, .slice K3 m3 e3] 27)).size)
    have zz4 : w3.heap.size + 1 ≤ w4.heap.size := by have := hb4.size; simp at this; omega
    have HA_4 := Cv.below (by exact (HA_3.alloc (.cells #[.slice K0 m0 e0, .slice K1 m1 e1, .slice K2 m2 e2, .slice K3 m3 e3] 27))) hb4
    have X_4 := Blk4.below (by exact (X_3.alloc (.cells #[.slice K0 m0 e0, .slice K1 m1 e1, .slice K2 m2 e2, .slice K3 m3 e3] 27))) hb4
    obtain ⟨cX_4_0, cX_4_1, cX_4_2, cX_4_3, _⟩ := X_4.cells
    have lX_4 := X_4.lt
    have HB_4 := Cv.below (by exact (HB_3.alloc (.cells #[.slice K0 m0 e0, .slice K1 m1 e1, .slice K2 m2 e2, .slice K3 m3 e3] 27))) hb4
    have P_4 := Blk4.below (by exact (P_3.alloc (.cells #[.slice K0 m0 e0, .slice K1 m1 e1, .slice K2 m2 e2, .slice K3 m3 e3] 27))) hb4
    obtain ⟨cP_4_0, cP_4_1, cP_4_2, cP_4_3, _⟩ := P_4.cells
    have lP_4 := P_4.lt
    have HC_4 := Cv.below (by exact (HC.alloc (.cells #[.slice K0 m0 e0, .slice K1 m1 e1, .slice K2 m2 e2, .slice K3 m3 e3] 27))) hb4
    have Q_4 := Blk4.below (by exact (Blk4.new w3 (.slice K0 m0 e0) (.slice K1 m1 e1) (.slice K2 m2 e2) (.slice K3 m3 e3) 27)) hb4
    obtain ⟨cQ_4_0, cQ_4_1, cQ_4_2, cQ_4_3, _⟩ := Q_4.cells
    have lQ_4 := Q_4.lt
    have E2 := implColoredSame_any _ _ _ _ _ _ _ HB_4 HC_4
    rw [sameC_self] at E2
    go_wp2_with fail
    refine (E2).mono ?_; rintro e w5 ⟨rfl, hb5⟩
    have BW5 : Below w.heap.size w w5 := BW4.trans (hb5.mono BW4.size)
    have zz5 : w4.heap.size ≤ w5.heap.size := hb5.size
    have HA_5 := Cv.below (by exact HA_4) hb5
    have X_5 := Blk4.below (by exact X_4) hb5
    obtain ⟨cX_5_0, cX_5_1, cX_5_2, cX_5_3, _⟩ := X_5.cells
    have lX_5 := X_5.lt
    have HB_5 := Cv.below (by exact HB_4) hb5
    have P_5 := Blk4.below (by exact P_4) hb5
    obtain ⟨cP_5_0, cP_5_1, cP_5_2, cP_5_3, _⟩ := P_5.cells
    have lP_5 := P_5.lt
    have HC_5 := Cv.below (by exact HC_4) hb5
    have Q_5 := Blk4.below (by exact Q_4) hb5
    obtain ⟨cQ_5_0, cQ_5_1, cQ_5_2, cQ_5_3, _⟩ := Q_5.cells
    have lQ_5 := Q_5.lt
    go_wp2_with fail
    go_ret
    exact ⟨rfl, BW5⟩
  · rw [ho] at I S
    obtain ⟨hv, hC2, hv2⟩ := rootsO_parts ho
    obtain ⟨hvh, hcl, hcol⟩ := cvB_parts hv
    obtain ⟨_, _, _, hpt⟩ := hvB_parts hvh
    have h8 := hvB_len hvh
    have hlen := l3.out
    have hlt2 := l2.out
    have ho2 : rootsO C2 = some C2 := by rw [(cvB_roots hv2).1, hC2]; simp [shadeAll_twice]
    have L2 : C2.c.length = n3 := by rw [hC2]; show (shadeAll C.c C.h.t).length = _; rw [shadeAll_len]; exact hlen
    have hcnt : C2.c.count 2 = C.c.count 2 := by rw [hC2]; exact shadeAll_count _ _
    have hto : Hid (∀ i : Nat, ∀ y, C.h.t[i]? = some y → -1 ≤ y ∧ y < n3 ∧ ∀ k : Nat, y = k → C2.c[k]? ≠ some 0) := fun i y hi => by
      have hm := List.mem_of_getElem? hi
      rw [List.all_eq_true] at hpt
      have h9 := hpt y hm
      simp only [ptB, decide_eq_true_eq] at h9
      refine ⟨h9.1, by omega, fun k e hz => ?_⟩
      rw [hC2] at hz
      exact (shadeAll_white hz).2 y hm e
    have V2 := fun W lo v hW => implColoredValid_any W lo v C2 hW
    have JX := fun W lo v hW => implCountColor_any W lo v C2 hW 2
    have JC := fun W lo v hW => implCountColor_any W lo v C hW 2
    rw [countO_valid hv2, hcnt] at JX
    rw [countO_valid hv] at JC
    rw [hv2] at V2
    generalize C.c.count 2 = q2 at JX JC
    have hqq : ((q2 : Int) == (q2 : Int)) = true := by simp
    have R2 := fun W lo v hW => implShadeRoots_any W lo v C2 hW
    have HO2 := Lib.hid ho2
    clear hC2 hv hv2 hvh hcol hpt ho ho2 hcnt
    go_wp2_with fail
    refine (I _ _ _ (HA.alloc (.cells #[.slice A0 n0 c0, .slice A1 n1 c1, .slice A2 n2 c2, .slice A3 n3 c3] 27))).mono ?_; rintro e w2 ⟨v, rfl, HB, hb2⟩
    simp only [Option.isSome_some, Option.getD_some] at HB ⊢
    have HBb := HB
    obtain ⟨B0, k0, d0, B1, k1, d1, B2, k2, d2, B3, k3, d3, rfl, _, ⟨_, _, _, br3⟩, ⟨_, _, _, bl3⟩, _⟩ := HBb.open_
    have BW2 : Below w.heap.size w w2 := (BW1.alloc BW1.size (.cells #[.slice A0 n0 c0, .slice A1 n1 c1, .slice A2 n2 c2, .slice A3 n3 c3] 27)).trans (hb2.mono (BW1.alloc BW1.size (.cells #[.slice A0 n0 c0, .slice A1 n1 c1, .slice A2 n2 c2, .slice A3 n3 c3] 27)).size)
    have zz2 : w1.heap.size + 1 ≤ w2.heap.size := by have := hb2.size; simp at this; omega
    have HA_2 := Cv.below (by exact (HA.alloc (.cells #[.slice A0 n0 c0, .slice A1 n1 c1, .slice A2 n2 c2, .slice A3 n3 c3] 27))) hb2
    have X_2 := Blk4.below (by exact (Blk4.new w1 (.slice A0 n0 c0) (.slice A1 n1 c1) (.slice A2 n2 c2) (.slice A3 n3 c3) 27)) hb2
    obtain ⟨cX_2_0, cX_2_1, cX_2_2, cX_2_3, _⟩ := X_2.cells
    have lX_2 := X_2.lt
    go_wp2_with fail
    refine (S _ _ _ (HA_2.alloc (.cells #[.slice B0 k0 d0, .slice B1 k1 d1, .slice B2 k2 d2, .slice B3 k3 d3] 27))).mono ?_; rintro e w3 ⟨v, rfl, HC, hb3⟩
    simp only [Option.isSome_some, Option.getD_some] at HC ⊢
    have HCb := HC
    obtain ⟨K0, m0, e0, K1, m1, e1, K2, m2, e2, K3, m3, e3, rfl, _⟩ := HCb.open_
    have BW3 : Below w.heap.size w w3 := (BW2.alloc BW2.size (.cells #[.slice B0 k0 d0, .slice B1 k1 d1, .slice B2 k2 d2, .slice B3 k3 d3] 27)).trans (hb3.mono (BW2.alloc BW2.size (.cells #[.slice B0 k0 d0, .slice B1 k1 d1, .slice B2 k2 d2, .slice B3 k3 d3] 27)).size)
    have zz3 : w2.heap.size + 1 ≤ w3.heap.size := by have := hb3.size; simp at this; omega
    have HA_3 := Cv.below (by exact (HA_2.alloc (.cells #[.slice B0 k0 d0, .slice B1 k1 d1, .slice B2 k2 d2, .slice B3 k3 d3] 27))) hb3
    have X_3 := Blk4.below (by exact (X_2.alloc (.cells #[.slice B0 k0 d0, .slice B1 k1 d1, .slice B2 k2 d2, .slice B3 k3 d3] 27))) hb3
    obtain ⟨cX_3_0, cX_3_1, cX_3_2, cX_3_3, _⟩ := X_3.cells
    have lX_3 := X_3.lt
    have HB_3 := Cv.below (by exact (HB.alloc (.cells #[.slice B0 k0 d0, .slice B1 k1 d1, .slice B2 k2 d2, .slice B3 k3 d3] 27))) hb3
    have P_3 := Blk4.below (by exact (Blk4.new w2 (.slice B0 k0 d0) (.slice B1 k1 d1) (.slice B2 k2 d2) (.slice B3 k3 d3) 27)) hb3
    obtain ⟨cP_3_0, cP_3_1, cP_3_2, cP_3_3, _⟩ := P_3.cells
    have lP_3 := P_3.lt
    have E1 := implColoredSame_any _ _ _ _ _ _ _ (HB_3.alloc (.cells #[.slice K0 m0 e0, .slice K1 m1 e1, .slice K2 m2 e2, .slice K3 m3 e3] 27)) (HC.alloc (.cells #[.slice K0 m0 e0, .slice K1 m1 e1, .slice K2 m2 e2, .slice K3 m3 e3] 27))
    rw [sameC_self] at E1
    go_wp2_with fail
    refine (E1).mono ?_; rintro e w4 ⟨rfl, hb4⟩
    have BW4 : Below w.heap.size w w4 := (BW3.alloc BW3.size (.cells #[.slice K0 m0 e0, .slice K1 m1 e1, .slice K2 m2 e2, .slice K3 m3 e3] 27)).trans (hb4.mono (BW3.alloc BW3.size (.cells #[.slice K0 m0 e0, .slice K1 m1 e1, .slice K2 m2 e2, .slice K3 m3 e3] 27)).size)
    have zz4 : w3.heap.size + 1 ≤ w4.heap.size := by have := hb4.size; simp at this; omega
    have HA_4 := Cv.below (by exact (HA_3.alloc (.cells #[.slice K0 m0 e0, .slice K1 m1 e1, .slice K2 m2 e2, .slice K3 m3 e3] 27))) hb4
    have X_4 := Blk4.below (by exact (X_3.alloc (.cells #[.slice K0 m0 e0, .slice K1 m1 e1, .slice K2 m2 e2, .slice K3 m3 e3] 27))) hb4
    obtain ⟨cX_4_0, cX_4_1, cX_4_2, cX_4_3, _⟩ := X_4.cells
    have lX_4 := X_4.lt
    have HB_4 := Cv.below (by exact (HB_3.alloc (.cells #[.slice K0 m0 e0, .slice K1 m1 e1, .slice K2 m2 e2, .slice K3 m3 e3] 27))) hb4
    have P_4 := Blk4.below (by exact (P_3.alloc (.cells #[.slice K0 m0 e0, .slice K1 m1 e1, .slice K2 m2 e2, .slice K3 m3 e3] 27))) hb4
    obtain ⟨cP_4_0, cP_4_1, cP_4_2, cP_4_3, _⟩ := P_4.cells
    have lP_4 := P_4.lt
    have HC_4 := Cv.below (by exact (HC.alloc (.cells #[.slice K0 m0 e0, .slice K1 m1 e1, .slice K2 m2 e2, .slice K3 m3 e3] 27))) hb4
    have Q_4 := Blk4.below (by exact (Blk4.new w3 (.slice K0 m0 e0) (.slice K1 m1 e1) (.slice K2 m2 e2) (.slice K3 m3 e3) 27)) hb4
    obtain ⟨cQ_4_0, cQ_4_1, cQ_4_2, cQ_4_3, _⟩ := Q_4.cells
    have lQ_4 := Q_4.lt
    obtain ⟨_, _, _, _, _, _, _, _, _, _, _, _, evA, _, ⟨_, _, rT, _⟩, _⟩ := (HA_4).open_
    cases evA
    obtain ⟨rB, lB⟩ := (HB_4).last'
    clear I S
    go_wp2_with fail
    go_loop [8] (fun i => ∃ k : Nat, k ≤ n2 ∧ i = .int .i64 k) (fun i => n2 - (intOf i).toNat)
    case atStart => exact ⟨0, Nat.zero_le _, rfl⟩
    case round =>
      obtain ⟨k, hk, rfl⟩ := hrel
      by_cases hlt : k < n2
      · obtain ⟨gt, y, rfl, _, _, hy, hcy, _⟩ := rT.get (k := k) (by omega)
        obtain ⟨b1, b2, b3⟩ := hto.out k y hy.out
        have hki : (k : Int) < (n2 : Int) := by omega
        clear hy
        by_cases hy1 : y = -1
        · subst hy1
          clear b3
          go_wp2_with fail
          go_round
          case rel => exact ⟨k + 1, by omega, by go_num⟩
          case measure => simp [intOf]; omega
        · obtain ⟨a, rfl⟩ := Int.eq_ofNat_of_zero_le (by omega : 0 ≤ y)
          have hna : ((a : Int) != -1) = true := by simp
          have hak : (a : Int) < (k3 : Int) := by omega
          obtain ⟨gB, z, rfl, _, _, hz, hcz, _⟩ := rB.get (k := a) (by omega)
          have hz0 : (z == 0) = false := by
            have := b3 a rfl; rw [hz.out] at this; simpa using this
          clear hz b3
          go_wp2_with fail
          go_round
          case rel => exact ⟨k + 1, by omega, by go_num⟩
          case measure => simp [intOf]; omega
      · obtain rfl : n2 = k := by omega
        have AG := R2 _ _ _ HB_4
        rw [HO2.out] at AG
        go_wp2_with fail
        refine AG.mono ?_; rintro e w5 ⟨v, rfl, HR, hb5⟩
        simp only [Option.isSome_some, Option.getD_some] at HR ⊢
        have HRb := HR
        obtain ⟨U0, s0, f0, U1, s1, f1, U2, s2, f2, U3, s3, f3, rfl, _⟩ := HRb.open_
        have BW5 : Below w.heap.size w w5 := BW4.trans (hb5.mono BW4.size)
        have zz5 : w4.heap.size ≤ w5.heap.size := hb5.size
        have HA_5 := Cv.below (by exact HA_4) hb5
        have X_5 := Blk4.below (by exact X_4) hb5
        obtain ⟨cX_5_0, cX_5_1, cX_5_2, cX_5_3, _⟩ := X_5.cells
        have lX_5 := X_5.lt
        have HB_5 := Cv.below (by exact HB_4) hb5
        have P_5 := Blk4.below (by exact P_4) hb5
        obtain ⟨cP_5_0, cP_5_1, cP_5_2, cP_5_3, _⟩ := P_5.cells
        have lP_5 := P_5.lt
        have HC_5 := Cv.below (by exact HC_4) hb5
        have Q_5 := Blk4.below (by exact Q_4) hb5
        obtain ⟨cQ_5_0, cQ_5_1, cQ_5_2, cQ_5_3, _⟩ := Q_5.cells
        have lQ_5 := Q_5.lt
        have HA_6s := (HA_5.alloc (.cells #[.slice U0 s0 f0, .slice U1 s1 f1, .slice U2 s2 f2, .slice U3 s3 f3] 27))
        have X_6s := (X_5.alloc (.cells #[.slice U0 s0 f0, .slice U1 s1 f1, .slice U2 s2 f2, .slice U3 s3 f3] 27))
        obtain ⟨cX_6s_0, cX_6s_1, cX_6s_2, cX_6s_3, _⟩ := X_6s.cells
        have lX_6s := X_6s.lt
        have HB_6s := (HB_5.alloc (.cells #[.slice U0 s0 f0, .slice U1 s1 f1, .slice U2 s2 f2, .slice U3 s3 f3] 27))
        have P_6s := (P_5.alloc (.cells #[.slice U0 s0 f0, .slice U1 s1 f1, .slice U2 s2 f2, .slice U3 s3 f3] 27))
        obtain ⟨cP_6s_0, cP_6s_1, cP_6s_2, cP_6s_3, _⟩ := P_6s.cells
        have lP_6s := P_6s.lt
        have HC_6s := (HC_5.alloc (.cells #[.slice U0 s0 f0, .slice U1 s1 f1, .slice U2 s2 f2, .slice U3 s3 f3] 27))
        have Q_6s := (Q_5.alloc (.cells #[.slice U0 s0 f0, .slice U1 s1 f1, .slice U2 s2 f2, .slice U3 s3 f3] 27))
        obtain ⟨cQ_6s_0, cQ_6s_1, cQ_6s_2, cQ_6s_3, _⟩ := Q_6s.cells
        have lQ_6s := Q_6s.lt
        have HR_6s := (HR.alloc (.cells #[.slice U0 s0 f0, .slice U1 s1 f1, .slice U2 s2 f2, .slice U3 s3 f3] 27))
        have R_6s := (Blk4.new w5 (.slice U0 s0 f0) (.slice U1 s1 f1) (.slice U2 s2 f2) (.slice U3 s3 f3) 27)
        obtain ⟨cR_6s_0, cR_6s_1, cR_6s_2, cR_6s_3, _⟩ := R_6s.cells
        have lR_6s := R_6s.lt
        have BW6 := (BW5.alloc BW5.size (.cells #[.slice U0 s0 f0, .slice U1 s1 f1, .slice U2 s2 f2, .slice U3 s3 f3] 27))
        go_wp2_with fail
        go_region_held3 (fun w' => w'.cell? ⟨w2.heap.size, 0, none⟩ = some (.slice B0 k0 d0) ∧ w'.cell? ⟨w2.heap.size, 1, none⟩ = some (.slice B1 k1 d1) ∧ w'.cell? ⟨w2.heap.size, 2, none⟩ = some (.slice B2 k2 d2) ∧ w'.cell? ⟨w2.heap.size, 3, none⟩ = some (.slice B3 k3 d3) ∧ w'.cell? ⟨w1.heap.size, 0, none⟩ = some (.slice A0 n0 c0) ∧ w'.cell? ⟨w1.heap.size, 1, none⟩ = some (.slice A1 n1 c1) ∧ w'.cell? ⟨w1.heap.size, 2, none⟩ = some (.slice A2 n2 c2) ∧ w'.cell? ⟨w1.heap.size, 3, none⟩ = some (.slice A3 n3 c3) ∧ w'.cell? ⟨w5.heap.size, 0, none⟩ = some (.slice U0 s0 f0) ∧ w'.cell? ⟨w5.heap.size, 1, none⟩ = some (.slice U1 s1 f1) ∧ w'.cell? ⟨w5.heap.size, 2, none⟩ = some (.slice U2 s2 f2) ∧ w'.cell? ⟨w5.heap.size, 3, none⟩ = some (.slice U3 s3 f3))
          (((try dsimp only); (repeat' apply And.intro) <;> (with_reducible (first | exact cR_10_3 | exact cR_10_2 | exact cR_10_1 | exact cR_10_0 | exact cX_10_3 | exact cX_10_2 | exact cX_10_1 | exact cX_10_0 | exact cP_10_3 | exact cP_10_2 | exact cP_10_1 | exact cP_10_0 | exact cR_9_3 | exact cR_9_2 | exact cR_9_1 | exact cR_9_0 | exact cX_9_3 | exact cX_9_2 | exact cX_9_1 | exact cX_9_0 | exact cP_9_3 | exact cP_9_2 | exact cP_9_1 | exact cP_9_0 | exact cR_8_3 | exact cR_8_2 | exact cR_8_1 | exact cR_8_0 | exact cX_8_3 | exact cX_8_2 | exact cX_8_1 | exact cX_8_0 | exact cP_8_3 | exact cP_8_2 | exact cP_8_1 | exact cP_8_0 | exact cR_7_3 | exact cR_7_2 | exact cR_7_1 | exact cR_7_0 | exact cX_7_3 | exact cX_7_2 | exact cX_7_1 | exact cX_7_0 | exact cP_7_3 | exact cP_7_2 | exact cP_7_1 | exact cP_7_0 | exact cellD cR_6s_3 | exact cellD cR_6s_2 | exact cellD cR_6s_1 | exact cellD cR_6s_0 | exact cellD cX_6s_3 | exact cellD cX_6s_2 | exact cellD cX_6s_1 | exact cellD cX_6s_0 | exact cellD cP_6s_3 | exact cellD cP_6s_2 | exact cellD cP_6s_1 | exact cellD cP_6s_0 | exact cR_6s_3 | exact cR_6s_2 | exact cR_6s_1 | exact cR_6s_0 | exact cX_6s_3 | exact cX_6s_2 | exact cX_6s_1 | exact cX_6s_0 | exact cP_6s_3 | exact cP_6s_2 | exact cP_6s_1 | exact cP_6s_0))))
          (first
            | (go_at_call 20; (with_reducible refine (V2 _ _ _ (HB_6s.drew)).mono ?_); rintro e w6 ⟨rfl, hb6⟩; have BW7 : Below w.heap.size w w6 := (Below.drew BW6).trans (hb6.mono (Below.drew BW6).size); (have zz7 : w5.heap.size + 1 ≤ w6.heap.size := by have := hb6.size; simp at this; omega); have HA_7 := Cv.below (by exact (HA_6s.drew)) hb6; have X_7 := Blk4.below (by exact (X_6s.drew)) hb6; obtain ⟨cX_7_0, cX_7_1, cX_7_2, cX_7_3, _⟩ := X_7.cells; have lX_7 := X_7.lt; have HB_7 := Cv.below (by exact (HB_6s.drew)) hb6; have P_7 := Blk4.below (by exact (P_6s.drew)) hb6; obtain ⟨cP_7_0, cP_7_1, cP_7_2, cP_7_3, _⟩ := P_7.cells; have lP_7 := P_7.lt; have HC_7 := Cv.below (by exact (HC_6s.drew)) hb6; have Q_7 := Blk4.below (by exact (Q_6s.drew)) hb6; obtain ⟨cQ_7_0, cQ_7_1, cQ_7_2, cQ_7_3, _⟩ := Q_7.cells; have lQ_7 := Q_7.lt; have HR_7 := Cv.below (by exact (HR_6s.drew)) hb6; have R_7 := Blk4.below (by exact (R_6s.drew)) hb6; obtain ⟨cR_7_0, cR_7_1, cR_7_2, cR_7_3, _⟩ := R_7.cells; have lR_7 := R_7.lt)
            | (go_at_call 18; (with_reducible refine (sameCE _ _ _ _ _ _ HR_7 HB_7).mono ?_); rintro e w7 ⟨rfl, hb7⟩; have BW8 : Below w.heap.size w w7 := BW7.trans (hb7.mono BW7.size); have zz8 : w6.heap.size ≤ w7.heap.size := hb7.size; have HA_8 := Cv.below (by exact HA_7) hb7; have X_8 := Blk4.below (by exact X_7) hb7; obtain ⟨cX_8_0, cX_8_1, cX_8_2, cX_8_3, _⟩ := X_8.cells; have lX_8 := X_8.lt; have HB_8 := Cv.below (by exact HB_7) hb7; have P_8 := Blk4.below (by exact P_7) hb7; obtain ⟨cP_8_0, cP_8_1, cP_8_2, cP_8_3, _⟩ := P_8.cells; have lP_8 := P_8.lt; have HC_8 := Cv.below (by exact HC_7) hb7; have Q_8 := Blk4.below (by exact Q_7) hb7; obtain ⟨cQ_8_0, cQ_8_1, cQ_8_2, cQ_8_3, _⟩ := Q_8.cells; have lQ_8 := Q_8.lt; have HR_8 := Cv.below (by exact HR_7) hb7; have R_8 := Blk4.below (by exact R_7) hb7; obtain ⟨cR_8_0, cR_8_1, cR_8_2, cR_8_3, _⟩ := R_8.cells; have lR_8 := R_8.lt)
            | (go_at_call 19; (with_reducible refine (JX _ _ _ HB_8).mono ?_); rintro e w8 ⟨rfl, hb8⟩; have BW9 : Below w.heap.size w w8 := BW8.trans (hb8.mono BW8.size); have zz9 : w7.heap.size ≤ w8.heap.size := hb8.size; have HA_9 := Cv.below (by exact HA_8) hb8; have X_9 := Blk4.below (by exact X_8) hb8; obtain ⟨cX_9_0, cX_9_1, cX_9_2, cX_9_3, _⟩ := X_9.cells; have lX_9 := X_9.lt; have HB_9 := Cv.below (by exact HB_8) hb8; have P_9 := Blk4.below (by exact P_8) hb8; obtain ⟨cP_9_0, cP_9_1, cP_9_2, cP_9_3, _⟩ := P_9.cells; have lP_9 := P_9.lt; have HC_9 := Cv.below (by exact HC_8) hb8; have Q_9 := Blk4.below (by exact Q_8) hb8; obtain ⟨cQ_9_0, cQ_9_1, cQ_9_2, cQ_9_3, _⟩ := Q_9.cells; have lQ_9 := Q_9.lt; have HR_9 := Cv.below (by exact HR_8) hb8; have R_9 := Blk4.below (by exact R_8) hb8; obtain ⟨cR_9_0, cR_9_1, cR_9_2, cR_9_3, _⟩ := R_9.cells; have lR_9 := R_9.lt)
            | (go_at_call 19; (with_reducible refine (JC _ _ _ HA_9).mono ?_); rintro e w9 ⟨rfl, hb9⟩; have BW10 : Below w.heap.size w w9 := BW9.trans (hb9.mono BW9.size); have zz10 : w8.heap.size ≤ w9.heap.size := hb9.size; have HA_10 := Cv.below (by exact HA_9) hb9; have X_10 := Blk4.below (by exact X_9) hb9; obtain ⟨cX_10_0, cX_10_1, cX_10_2, cX_10_3, _⟩ := X_10.cells; have lX_10 := X_10.lt; have HB_10 := Cv.below (by exact HB_9) hb9; have P_10 := Blk4.below (by exact P_9) hb9; obtain ⟨cP_10_0, cP_10_1, cP_10_2, cP_10_3, _⟩ := P_10.cells; have lP_10 := P_10.lt; have HC_10 := Cv.below (by exact HC_9) hb9; have Q_10 := Blk4.below (by exact Q_9) hb9; obtain ⟨cQ_10_0, cQ_10_1, cQ_10_2, cQ_10_3, _⟩ := Q_10.cells; have lQ_10 := Q_10.lt; have HR_10 := Cv.below (by exact HR_9) hb9; have R_10 := Blk4.below (by exact R_9) hb9; obtain ⟨cR_10_0, cR_10_1, cR_10_2, cR_10_3, _⟩ := R_10.cells; have lR_10 := R_10.lt))
        rename_i hHeld1
        clear hHeld1
        go_wp2_with fail
        go_ret
        exact ⟨rfl, BW10⟩
end Go.Proofs.Ytmngkjcdaaladaa
