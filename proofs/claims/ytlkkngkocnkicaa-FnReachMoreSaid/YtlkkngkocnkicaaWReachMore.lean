/- The law FnReachMore, walked. -/
import Derived.Test.YtlkkngkocnkicaaDPutLeft
import Derived.Test.YtlkkngkocnkicaaReach
import Derived.Test.YtlkkngkocnkicaaLeast
import Derived.Test.YtlkkngkocnkicaaPure
import Derived.Test.YtlkkngkocnkicaaWLaw
namespace Go.Proofs.Ytlkkngkocnkicaa
open Go.RowKit

theorem gd_put {l : List Int} {k : Nat} {u y : Int} (hk : l[k]? = some u) (hu : u = -1) (c : Int) : gd l c = -1 ∨ gd l c = gd (l.set k y) c := by
  by_cases hc : c.toNat = k
  · left
    unfold gd; rw [hc]; simp [List.getD, hk, hu]
  · right
    unfold gd; simp [List.getD, List.getElem?_set_ne (Ne.symm hc)]
theorem more_live {h h2 : Hp} {x y u : Int} (e : putL h x y = some h2) (hu : h.l[x.toNat]? = some u) (h1 : u = -1) (k : Nat) (hk : (liveL h)[k]? = some true) : (liveL h2)[k]? = some true := by
  obtain ⟨hva, j, rfl, hj, hpt, hh2⟩ := putL_some e
  have hvb := putL_valid e
  subst hh2
  refine live_sub hvb hva (by simp) (fun x hx _ => hx) (fun c => ?_) (fun c => .inr rfl) k hk
  exact gd_put (by simpa using hu) h1 c

set_option maxRecDepth 100000 in
set_option maxHeartbeats 3000000 in
theorem lawReachMore_walk (w : World) (A : Option Addr) (n c : Nat) (h : Inp w A n c) :
    Calls Try.prog 12 #[.slice A n c] w (LawTrue w) := by
  by_cases hbig : 1048576 < n
  · go_enter Try.func12, Try.ntmps12
    go_wp2_with fail
    go_ret
    exact ⟨rfl, Below.refl _ _⟩
  go_enter Try.func12, Try.ntmps12
  go_wp2_with fail
  refine (drawPutLeft_any _ _ _ _ h).mono ?_; rintro e w1 ⟨v, hp, x, y, rfl, HA, hb1⟩
  have BW1 : Below w.heap.size w w1 := (Below.refl w.heap.size w).trans (hb1.mono (Below.refl w.heap.size w).size)
  have zz1 := hb1.size
  have I := fun W V hW => implPutLeft_any W w.heap.size V hp hW x y
  have S := fun W V hW => specPutLeft_any W w.heap.size V hp hW x y
  have HAo := HA
  obtain ⟨A0, n0, c0, A1, n1, c1, A2, n2, c2, rfl, _, ⟨l0, l1, l2⟩, _⟩ := HAo.open_
  rcases ho : putL hp x y with _ | h2
  · rw [ho] at I S
    go_wp2_with fail
    refine (I _ _ (HA.alloc (.cells #[.slice A0 n0 c0, .slice A1 n1 c1, .slice A2 n2 c2] 25))).mono ?_; rintro e w2 ⟨v, rfl, HB, hb2⟩
    simp only [Option.isSome_none, Option.getD_none] at HB ⊢
    have HBo := HB
    obtain ⟨B0, k0, d0, B1, k1, d1, B2, k2, d2, rfl, _, ⟨bl0, bl1, bl2⟩, _⟩ := HBo.open_
    have BW2 : Below w.heap.size w w2 := (BW1.alloc BW1.size (.cells #[.slice A0 n0 c0, .slice A1 n1 c1, .slice A2 n2 c2] 25)).trans (hb2.mono (BW1.alloc BW1.size (.cells #[.slice A0 n0 c0, .slice A1 n1 c1, .slice A2 n2 c2] 25)).size)
    have zz2 := hb2.size
    have HA_2 := Hv.below (by exact (HA.alloc (.cells #[.slice A0 n0 c0, .slice A1 n1 c1, .slice A2 n2 c2] 25))) hb2
    have X_2 := Blk3.below (by exact (Blk3.new w1 (.slice A0 n0 c0) (.slice A1 n1 c1) (.slice A2 n2 c2) 25)) hb2
    obtain ⟨cX_2_0, cX_2_1, cX_2_2, _⟩ := X_2.cells
    have lX_2 := X_2.lt
    go_wp2_with fail
    refine (S _ _ (HA_2.alloc (.cells #[.slice B0 k0 d0, .slice B1 k1 d1, .slice B2 k2 d2] 25))).mono ?_; rintro e w3 ⟨v, rfl, HC, hb3⟩
    simp only [Option.isSome_none, Option.getD_none] at HC ⊢
    have HCo := HC
    obtain ⟨C0, m0, e0, C1, m1, e1, C2, m2, e2, rfl, _⟩ := HCo.open_
    have BW3 : Below w.heap.size w w3 := (BW2.alloc BW2.size (.cells #[.slice B0 k0 d0, .slice B1 k1 d1, .slice B2 k2 d2] 25)).trans (hb3.mono (BW2.alloc BW2.size (.cells #[.slice B0 k0 d0, .slice B1 k1 d1, .slice B2 k2 d2] 25)).size)
    have zz3 := hb3.size
    have HA_3 := Hv.below (by exact (HA_2.alloc (.cells #[.slice B0 k0 d0, .slice B1 k1 d1, .slice B2 k2 d2] 25))) hb3
    have X_3 := Blk3.below (by exact (X_2.alloc (.cells #[.slice B0 k0 d0, .slice B1 k1 d1, .slice B2 k2 d2] 25))) hb3
    obtain ⟨cX_3_0, cX_3_1, cX_3_2, _⟩ := X_3.cells
    have lX_3 := X_3.lt
    have HB_3 := Hv.below (by exact (HB.alloc (.cells #[.slice B0 k0 d0, .slice B1 k1 d1, .slice B2 k2 d2] 25))) hb3
    have P_3 := Blk3.below (by exact (Blk3.new w2 (.slice B0 k0 d0) (.slice B1 k1 d1) (.slice B2 k2 d2) 25)) hb3
    obtain ⟨cP_3_0, cP_3_1, cP_3_2, _⟩ := P_3.cells
    have lP_3 := P_3.lt
    have E1 := implHeapSame_any _ _ _ _ _ _ _ (HB_3.alloc (.cells #[.slice C0 m0 e0, .slice C1 m1 e1, .slice C2 m2 e2] 25)) (HC.alloc (.cells #[.slice C0 m0 e0, .slice C1 m1 e1, .slice C2 m2 e2] 25))
    rw [sameB_self'] at E1
    go_wp2_with fail
    refine E1.mono ?_; rintro e w4 ⟨rfl, hb4⟩
    have BW4 : Below w.heap.size w w4 := (BW3.alloc BW3.size (.cells #[.slice C0 m0 e0, .slice C1 m1 e1, .slice C2 m2 e2] 25)).trans (hb4.mono (BW3.alloc BW3.size (.cells #[.slice C0 m0 e0, .slice C1 m1 e1, .slice C2 m2 e2] 25)).size)
    have zz4 := hb4.size
    have HA_4 := Hv.below (by exact (HA_3.alloc (.cells #[.slice C0 m0 e0, .slice C1 m1 e1, .slice C2 m2 e2] 25))) hb4
    have X_4 := Blk3.below (by exact (X_3.alloc (.cells #[.slice C0 m0 e0, .slice C1 m1 e1, .slice C2 m2 e2] 25))) hb4
    obtain ⟨cX_4_0, cX_4_1, cX_4_2, _⟩ := X_4.cells
    have lX_4 := X_4.lt
    have HB_4 := Hv.below (by exact (HB_3.alloc (.cells #[.slice C0 m0 e0, .slice C1 m1 e1, .slice C2 m2 e2] 25))) hb4
    have P_4 := Blk3.below (by exact (P_3.alloc (.cells #[.slice C0 m0 e0, .slice C1 m1 e1, .slice C2 m2 e2] 25))) hb4
    obtain ⟨cP_4_0, cP_4_1, cP_4_2, _⟩ := P_4.cells
    have lP_4 := P_4.lt
    have HC_4 := Hv.below (by exact (HC.alloc (.cells #[.slice C0 m0 e0, .slice C1 m1 e1, .slice C2 m2 e2] 25))) hb4
    have Q_4 := Blk3.below (by exact (Blk3.new w3 (.slice C0 m0 e0) (.slice C1 m1 e1) (.slice C2 m2 e2) 25)) hb4
    obtain ⟨cQ_4_0, cQ_4_1, cQ_4_2, _⟩ := Q_4.cells
    have lQ_4 := Q_4.lt
    have E2 := implHeapSame_any _ _ _ _ _ _ _ HB_4 HC_4
    rw [sameB_self'] at E2
    go_wp2_with fail
    refine E2.mono ?_; rintro e w5 ⟨rfl, hb5⟩
    have BW5 : Below w.heap.size w w5 := BW4.trans (hb5.mono BW4.size)
    have zz5 := hb5.size
    have HA_5 := Hv.below (by exact HA_4) hb5
    have X_5 := Blk3.below (by exact X_4) hb5
    obtain ⟨cX_5_0, cX_5_1, cX_5_2, _⟩ := X_5.cells
    have lX_5 := X_5.lt
    have HB_5 := Hv.below (by exact HB_4) hb5
    have P_5 := Blk3.below (by exact P_4) hb5
    obtain ⟨cP_5_0, cP_5_1, cP_5_2, _⟩ := P_5.cells
    have lP_5 := P_5.lt
    have HC_5 := Hv.below (by exact HC_4) hb5
    have Q_5 := Blk3.below (by exact Q_4) hb5
    obtain ⟨cQ_5_0, cQ_5_1, cQ_5_2, _⟩ := Q_5.cells
    have lQ_5 := Q_5.lt
    go_wp2_with fail
    go_ret
    exact ⟨rfl, BW5⟩
  · rw [ho] at I S
    go_wp2_with fail
    refine (I _ _ (HA.alloc (.cells #[.slice A0 n0 c0, .slice A1 n1 c1, .slice A2 n2 c2] 25))).mono ?_; rintro e w2 ⟨v, rfl, HB, hb2⟩
    simp only [Option.isSome_some, Option.getD_some] at HB ⊢
    have HBo := HB
    obtain ⟨B0, k0, d0, B1, k1, d1, B2, k2, d2, rfl, _, ⟨bl0, bl1, bl2⟩, _⟩ := HBo.open_
    have BW2 : Below w.heap.size w w2 := (BW1.alloc BW1.size (.cells #[.slice A0 n0 c0, .slice A1 n1 c1, .slice A2 n2 c2] 25)).trans (hb2.mono (BW1.alloc BW1.size (.cells #[.slice A0 n0 c0, .slice A1 n1 c1, .slice A2 n2 c2] 25)).size)
    have zz2 := hb2.size
    have HA_2 := Hv.below (by exact (HA.alloc (.cells #[.slice A0 n0 c0, .slice A1 n1 c1, .slice A2 n2 c2] 25))) hb2
    have X_2 := Blk3.below (by exact (Blk3.new w1 (.slice A0 n0 c0) (.slice A1 n1 c1) (.slice A2 n2 c2) 25)) hb2
    obtain ⟨cX_2_0, cX_2_1, cX_2_2, _⟩ := X_2.cells
    have lX_2 := X_2.lt
    go_wp2_with fail
    refine (S _ _ (HA_2.alloc (.cells #[.slice B0 k0 d0, .slice B1 k1 d1, .slice B2 k2 d2] 25))).mono ?_; rintro e w3 ⟨v, rfl, HC, hb3⟩
    simp only [Option.isSome_some, Option.getD_some] at HC ⊢
    have HCo := HC
    obtain ⟨C0, m0, e0, C1, m1, e1, C2, m2, e2, rfl, _⟩ := HCo.open_
    have BW3 : Below w.heap.size w w3 := (BW2.alloc BW2.size (.cells #[.slice B0 k0 d0, .slice B1 k1 d1, .slice B2 k2 d2] 25)).trans (hb3.mono (BW2.alloc BW2.size (.cells #[.slice B0 k0 d0, .slice B1 k1 d1, .slice B2 k2 d2] 25)).size)
    have zz3 := hb3.size
    have HA_3 := Hv.below (by exact (HA_2.alloc (.cells #[.slice B0 k0 d0, .slice B1 k1 d1, .slice B2 k2 d2] 25))) hb3
    have X_3 := Blk3.below (by exact (X_2.alloc (.cells #[.slice B0 k0 d0, .slice B1 k1 d1, .slice B2 k2 d2] 25))) hb3
    obtain ⟨cX_3_0, cX_3_1, cX_3_2, _⟩ := X_3.cells
    have lX_3 := X_3.lt
    have HB_3 := Hv.below (by exact (HB.alloc (.cells #[.slice B0 k0 d0, .slice B1 k1 d1, .slice B2 k2 d2] 25))) hb3
    have P_3 := Blk3.below (by exact (Blk3.new w2 (.slice B0 k0 d0) (.slice B1 k1 d1) (.slice B2 k2 d2) 25)) hb3
    obtain ⟨cP_3_0, cP_3_1, cP_3_2, _⟩ := P_3.cells
    have lP_3 := P_3.lt
    have E1 := implHeapSame_any _ _ _ _ _ _ _ (HB_3.alloc (.cells #[.slice C0 m0 e0, .slice C1 m1 e1, .slice C2 m2 e2] 25)) (HC.alloc (.cells #[.slice C0 m0 e0, .slice C1 m1 e1, .slice C2 m2 e2] 25))
    rw [sameB_self'] at E1
    go_wp2_with fail
    refine E1.mono ?_; rintro e w4 ⟨rfl, hb4⟩
    have BW4 : Below w.heap.size w w4 := (BW3.alloc BW3.size (.cells #[.slice C0 m0 e0, .slice C1 m1 e1, .slice C2 m2 e2] 25)).trans (hb4.mono (BW3.alloc BW3.size (.cells #[.slice C0 m0 e0, .slice C1 m1 e1, .slice C2 m2 e2] 25)).size)
    have zz4 := hb4.size
    have HA_4 := Hv.below (by exact (HA_3.alloc (.cells #[.slice C0 m0 e0, .slice C1 m1 e1, .slice C2 m2 e2] 25))) hb4
    have X_4 := Blk3.below (by exact (X_3.alloc (.cells #[.slice C0 m0 e0, .slice C1 m1 e1, .slice C2 m2 e2] 25))) hb4
    obtain ⟨cX_4_0, cX_4_1, cX_4_2, _⟩ := X_4.cells
    have lX_4 := X_4.lt
    have HB_4 := Hv.below (by exact (HB_3.alloc (.cells #[.slice C0 m0 e0, .slice C1 m1 e1, .slice C2 m2 e2] 25))) hb4
    have P_4 := Blk3.below (by exact (P_3.alloc (.cells #[.slice C0 m0 e0, .slice C1 m1 e1, .slice C2 m2 e2] 25))) hb4
    obtain ⟨cP_4_0, cP_4_1, cP_4_2, _⟩ := P_4.cells
    have lP_4 := P_4.lt
    have HC_4 := Hv.below (by exact (HC.alloc (.cells #[.slice C0 m0 e0, .slice C1 m1 e1, .slice C2 m2 e2] 25))) hb4
    have Q_4 := Blk3.below (by exact (Blk3.new w3 (.slice C0 m0 e0) (.slice C1 m1 e1) (.slice C2 m2 e2) 25)) hb4
    obtain ⟨cQ_4_0, cQ_4_1, cQ_4_2, _⟩ := Q_4.cells
    have lQ_4 := Q_4.lt
    obtain ⟨hva, k, rfl, hk, hpt, hh2⟩ := putL_some ho
    have hval := putL_valid ho
    obtain ⟨A0', n0', c0', A1', n1', c1', A2', n2', c2', eA, ⟨ar0, ar1, ar2⟩, ⟨al0, al1, al2⟩, _⟩ := HA_4.open_
    cases eA
    have hkn : k < n0 := by have := al0.out; omega
    obtain ⟨g, u, rfl, _, hgw4, hu, hcell, _⟩ := ar0.get (k := k) hk
    have hki : (k : Int) < (n0 : Int) := by omega
    have hmore := fun (h1 : u = -1) => more_live ho (by simpa using hu.out) h1
    have hxl : (liveL hp).length = n0 := by rw [liveL_len hva]; exact al0.out
    have hyl : (liveL h2).length = n0 := by rw [liveL_len hval, hh2]; simpa using al0.out
    have RX := fun W lo v (hW : Hv W lo v hp) => implReach_any W lo v hp hW
    have RY := fun W lo v (hW : Hv W lo v h2) => implReach_any W lo v h2 hW
    have hb8 := liveL_bd hp
    generalize liveL hp = xs at RX hmore hxl hb8
    generalize liveL h2 = ys at RY hmore hyl
    have n0b : n0 ≤ 8 := by omega
    have HXL := Lib.hid hxl
    have HYL := Lib.hid hyl
    clear hxl hyl hb8 ho hh2 hu hk hpt I S
    by_cases hu1 : u = -1
    · subst hu1
      have HM := Lib.hid (hmore rfl)
      clear hmore
      go_wp2_with fail
      refine (RX _ _ _ HA_4).mono ?_; rintro e w5 ⟨A5, k5, rfl, R5, hb5⟩
      have BW5 : Below w.heap.size w w5 := BW4.trans (hb5.mono BW4.size)
      have zz5 := hb5.size
      have HA_5 := Hv.below (by exact HA_4) hb5
      have X_5 := Blk3.below (by exact X_4) hb5
      obtain ⟨cX_5_0, cX_5_1, cX_5_2, _⟩ := X_5.cells
      have lX_5 := X_5.lt
      have HB_5 := Hv.below (by exact HB_4) hb5
      have P_5 := Blk3.below (by exact P_4) hb5
      obtain ⟨cP_5_0, cP_5_1, cP_5_2, _⟩ := P_5.cells
      have lP_5 := P_5.lt
      have HC_5 := Hv.below (by exact HC_4) hb5
      have Q_5 := Blk3.below (by exact Q_4) hb5
      obtain ⟨cQ_5_0, cQ_5_1, cQ_5_2, _⟩ := Q_5.cells
      have lQ_5 := Q_5.lt
      rw [HXL.out] at R5 ⊢
      go_wp2_with fail
      refine (RY _ _ _ HB_5).mono ?_; rintro e w6 ⟨A6, k6, rfl, R6, hb6⟩
      have BW6 : Below w.heap.size w w6 := BW5.trans (hb6.mono BW5.size)
      have zz6 := hb6.size
      have HA_6 := Hv.below (by exact HA_5) hb6
      have X_6 := Blk3.below (by exact X_5) hb6
      obtain ⟨cX_6_0, cX_6_1, cX_6_2, _⟩ := X_6.cells
      have lX_6 := X_6.lt
      have HB_6 := Hv.below (by exact HB_5) hb6
      have P_6 := Blk3.below (by exact P_5) hb6
      obtain ⟨cP_6_0, cP_6_1, cP_6_2, _⟩ := P_6.cells
      have lP_6 := P_6.lt
      have HC_6 := Hv.below (by exact HC_5) hb6
      have Q_6 := Blk3.below (by exact Q_5) hb6
      obtain ⟨cQ_6_0, cQ_6_1, cQ_6_2, _⟩ := Q_6.cells
      have lQ_6 := Q_6.lt
      have R5_6 := RowB.below (by exact R5) hb6
      rw [HYL.out] at R6 ⊢
      go_wp2_with fail
      go_loop [12] (fun i => ∃ k : Nat, k ≤ n0 ∧ i = .int .i64 k) (fun i => n0 - (intOf i).toNat)
      case atStart => exact ⟨0, Nat.zero_le _, rfl⟩
      case round =>
        obtain ⟨k, hk, rfl⟩ := hrel
        by_cases hlt : k < n0
        · obtain ⟨g1, b, eg, _, _, hb, hcb, _⟩ := R5_6.get (k := k) (by have := HXL.out; omega)
          obtain ⟨g2, b', eg', _, _, hb', hcb', _⟩ := R6.get (k := k) (by have := HYL.out; omega)
          cases eg
          cases eg'
          have hbb : b = true → b' = true := fun e => by
            have h9 := HM.out k (by rw [hb.out, e]); rw [hb'.out] at h9; simpa using h9
          clear hb hb'
          cases b
          · go_wp2_with fail
            go_round
            case rel => exact ⟨k + 1, by omega, by go_num⟩
            case measure => simp [intOf]; omega
          · obtain rfl : b' = true := hbb rfl
            clear hbb
            go_wp2_with fail
            go_round
            case rel => exact ⟨k + 1, by omega, by go_num⟩
            case measure => simp [intOf]; omega
        · obtain rfl : k = n0 := by omega
          go_wp2_with fail
          go_ret
          exact ⟨by simp, BW6⟩
    · have hu2 : (u != -1) = true := by simpa using hu1
      clear hmore RX RY
      have E2 := implHeapSame_any _ _ _ _ _ _ _ HB_4 HC_4
      rw [sameB_self'] at E2
      go_wp2_with fail
      refine E2.mono ?_; rintro e w5 ⟨rfl, hb5⟩
      have BW5 : Below w.heap.size w w5 := BW4.trans (hb5.mono BW4.size)
      have zz5 := hb5.size
      have HA_5 := Hv.below (by exact HA_4) hb5
      have X_5 := Blk3.below (by exact X_4) hb5
      obtain ⟨cX_5_0, cX_5_1, cX_5_2, _⟩ := X_5.cells
      have lX_5 := X_5.lt
      have HB_5 := Hv.below (by exact HB_4) hb5
      have P_5 := Blk3.below (by exact P_4) hb5
      obtain ⟨cP_5_0, cP_5_1, cP_5_2, _⟩ := P_5.cells
      have lP_5 := P_5.lt
      have HC_5 := Hv.below (by exact HC_4) hb5
      have Q_5 := Blk3.below (by exact Q_4) hb5
      obtain ⟨cQ_5_0, cQ_5_1, cQ_5_2, _⟩ := Q_5.cells
      have lQ_5 := Q_5.lt
      go_wp2_with fail
      go_ret
      exact ⟨rfl, BW5⟩
end Go.Proofs.Ytlkkngkocnkicaa
