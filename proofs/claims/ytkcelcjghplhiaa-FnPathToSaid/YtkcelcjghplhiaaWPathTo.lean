/- The law FnPathTo, walked. -/
import Derived.Test.YtkcelcjghplhiaaDPathTo
import Derived.Test.YtkcelcjghplhiaaPthS
import Derived.Test.YtkcelcjghplhiaaPthF
import Derived.Test.YtkcelcjghplhiaaWLaw
namespace Go.Proofs.Ytkcelcjghplhiaa
open Go.RowKit

set_option maxRecDepth 100000 in
set_option maxHeartbeats 3000000 in
theorem lawPathTo_walk (w : World) (A : Option Addr) (n c : Nat) (h : Inp w A n c) :
    Calls Try.prog 3 #[.slice A n c] w (LawTrue w) := by
  by_cases hbig : 1048576 < n
  · go_enter Try.func3, Try.ntmps3
    go_wp2_with fail
    go_ret
    exact ⟨rfl, Below.refl _ _⟩
  go_enter Try.func3, Try.ntmps3
  go_wp2_with fail
  refine (drawPathTo_any _ _ _ _ h).mono ?_; rintro e w1 ⟨v, hp, x, rfl, HA, hb1, hx8⟩
  have BW1 : Below w.heap.size w w1 := (Below.refl w.heap.size w).trans (hb1.mono (Below.refl w.heap.size w).size)
  have zz1 := hb1.size
  have hwf : (Lit.int .i64 x).wf = true := WalkArith.wf_i64 (by omega)
  have I := fun W v hW => implPth_any W w.heap.size v hp hW x hwf
  have S := fun W v hW => specPth_any W w.heap.size v hp hW x hwf
  have DI := fun W v hW y hy => implDst_any W w.heap.size v hp hW y hy
  have HAo := HA
  obtain ⟨A0, n0, c0, A1, n1, c1, A2, n2, c2, rfl, ⟨r0, r1, r2⟩, ⟨l0, l1, l2⟩, _⟩ := HAo.open_
  rcases ho : dokB hp x
  · have hps : pthL hp x = [] := by unfold pthL; rw [ho]; simp
    rw [ho, hps] at I S
    clear ho hps r0 r1 r2 DI
    go_wp2_with fail
    refine (I _ _ (HA.alloc (.cells #[.slice A0 n0 c0, .slice A1 n1 c1, .slice A2 n2 c2] 25))).mono ?_; rintro e w2 ⟨AR2, kR2, rfl, R2, hb2⟩
    have BW2 : Below w.heap.size w w2 := (BW1.alloc BW1.size (.cells #[.slice A0 n0 c0, .slice A1 n1 c1, .slice A2 n2 c2] 25)).trans (hb2.mono (BW1.alloc BW1.size (.cells #[.slice A0 n0 c0, .slice A1 n1 c1, .slice A2 n2 c2] 25)).size)
    have zz2 := hb2.size
    have HA_2 := Hv.below (by exact (HA.alloc (.cells #[.slice A0 n0 c0, .slice A1 n1 c1, .slice A2 n2 c2] 25))) hb2
    have X_2 := Blk3.below (by exact (Blk3.new w1 (.slice A0 n0 c0) (.slice A1 n1 c1) (.slice A2 n2 c2) 25)) hb2
    obtain ⟨cX_2_0, cX_2_1, cX_2_2, _⟩ := X_2.cells
    have lX_2 := X_2.lt
    go_wp2_with fail
    refine (S _ _ HA_2).mono ?_; rintro e w3 ⟨AR3, kR3, rfl, R3, hb3⟩
    have BW3 : Below w.heap.size w w3 := BW2.trans (hb3.mono BW2.size)
    have zz3 := hb3.size
    have HA_3 := Hv.below (by exact HA_2) hb3
    have X_3 := Blk3.below (by exact X_2) hb3
    obtain ⟨cX_3_0, cX_3_1, cX_3_2, _⟩ := X_3.cells
    have lX_3 := X_3.lt
    have R2_3 := Row.below (by exact R2) hb3
    go_wp2_with fail
    refine (ccInts_sameP _ _ _ _ _ _ _ [] R2_3 R3).mono ?_; rintro e w4 ⟨rfl, hb4⟩
    have BW4 : Below w.heap.size w w4 := BW3.trans (hb4.mono BW3.size)
    have zz4 := hb4.size
    have HA_4 := Hv.below (by exact HA_3) hb4
    have X_4 := Blk3.below (by exact X_3) hb4
    obtain ⟨cX_4_0, cX_4_1, cX_4_2, _⟩ := X_4.cells
    have lX_4 := X_4.lt
    have R2_4 := Row.below (by exact R2_3) hb4
    have R3_4 := Row.below (by exact R3) hb4
    go_wp2_with fail
    refine (ccInts_sameP _ _ _ _ _ _ _ [] R2_4 R3_4).mono ?_; rintro e w5 ⟨rfl, hb5⟩
    have BW5 : Below w.heap.size w w5 := BW4.trans (hb5.mono BW4.size)
    have zz5 := hb5.size
    have HA_5 := Hv.below (by exact HA_4) hb5
    have X_5 := Blk3.below (by exact X_4) hb5
    obtain ⟨cX_5_0, cX_5_1, cX_5_2, _⟩ := X_5.cells
    have lX_5 := X_5.lt
    have R2_5 := Row.below (by exact R2_4) hb5
    have R3_5 := Row.below (by exact R3_4) hb5
    go_wp2_with fail
    go_ret
    exact ⟨rfl, BW5⟩
  · obtain ⟨N, hva, hdn, hN1, hN8, hlen, hlast, ⟨y0, hy0, hr0⟩, hat, hnx⟩ := pth_facts ho
    have DX := fun W v hW => DI W v hW x hwf
    rw [ho] at I S DX
    rw [hdn] at DX
    have hl8 := hvB_len hva
    have HRL : Hid (hp.r.length = hp.l.length) := (hvB_parts hva).1.1
    generalize pthL hp x = ps at I S hlen hlast hy0 hat hnx
    have HLEN := Lib.hid hlen
    have HLAST := Lib.hid hlast
    have HY0 := Lib.hid hy0
    have HR0 := Lib.hid hr0
    have HAT := Lib.hid hat
    have HNX := Lib.hid hnx
    have n0b : n0 ≤ 8 := by have := l0.out; omega
    clear hlast hy0 hr0 hat hnx ho hva hdn hl8 r0 r1 r2
    clear hlen
    go_wp2_with fail
    refine (I _ _ (HA.alloc (.cells #[.slice A0 n0 c0, .slice A1 n1 c1, .slice A2 n2 c2] 25))).mono ?_; rintro e w2 ⟨A2_, k2, rfl, R2, hb2⟩
    rw [HLEN.out] at R2 ⊢
    have BW2 : Below w.heap.size w w2 := (BW1.alloc BW1.size (.cells #[.slice A0 n0 c0, .slice A1 n1 c1, .slice A2 n2 c2] 25)).trans (hb2.mono (BW1.alloc BW1.size (.cells #[.slice A0 n0 c0, .slice A1 n1 c1, .slice A2 n2 c2] 25)).size)
    have zz2 := hb2.size
    have HA_2 := Hv.below (by exact (HA.alloc (.cells #[.slice A0 n0 c0, .slice A1 n1 c1, .slice A2 n2 c2] 25))) hb2
    have X_2 := Blk3.below (by exact (Blk3.new w1 (.slice A0 n0 c0) (.slice A1 n1 c1) (.slice A2 n2 c2) 25)) hb2
    obtain ⟨cX_2_0, cX_2_1, cX_2_2, _⟩ := X_2.cells
    have lX_2 := X_2.lt
    go_wp2_with fail
    refine (S _ _ HA_2).mono ?_; rintro e w3 ⟨A3_, k3, rfl, R3, hb3⟩
    rw [HLEN.out] at R3 ⊢
    have BW3 : Below w.heap.size w w3 := BW2.trans (hb3.mono BW2.size)
    have zz3 := hb3.size
    have HA_3 := Hv.below (by exact HA_2) hb3
    have X_3 := Blk3.below (by exact X_2) hb3
    obtain ⟨cX_3_0, cX_3_1, cX_3_2, _⟩ := X_3.cells
    have lX_3 := X_3.lt
    have R2_3 := Row.below (by exact R2) hb3
    go_wp2_with fail
    refine (ccInts_sameN _ _ _ _ _ _ _ _ _ HLEN.out R2_3 R3).mono ?_; rintro e w4 ⟨rfl, hb4⟩
    have BW4 : Below w.heap.size w w4 := BW3.trans (hb4.mono BW3.size)
    have zz4 := hb4.size
    have HA_4 := Hv.below (by exact HA_3) hb4
    have X_4 := Blk3.below (by exact X_3) hb4
    obtain ⟨cX_4_0, cX_4_1, cX_4_2, _⟩ := X_4.cells
    have lX_4 := X_4.lt
    have R2_4 := Row.below (by exact R2_3) hb4
    have R3_4 := Row.below (by exact R3) hb4
    go_wp2_with fail
    refine (DX _ _ HA_4).mono ?_; rintro e w5 ⟨rfl, hb5⟩
    have BW5 : Below w.heap.size w w5 := BW4.trans (hb5.mono BW4.size)
    have zz5 := hb5.size
    have HA_5 := Hv.below (by exact HA_4) hb5
    have X_5 := Blk3.below (by exact X_4) hb5
    obtain ⟨cX_5_0, cX_5_1, cX_5_2, _⟩ := X_5.cells
    have lX_5 := X_5.lt
    have R2_5 := Row.below (by exact R2_4) hb5
    obtain ⟨gp, u0, rfl, _, hgp, hu0, hcp0, _⟩ := R2_5.get (k := 0) (by rw [HLEN.out]; exact hN1)
    obtain rfl : u0 = y0 := by have h9 := hu0.out; rw [HY0.out] at h9; simpa using h9.symm
    obtain ⟨A0', n0', c0', A1', n1', c1', A2', n2', c2', eA, ⟨ar0, ar1, ar2⟩, _⟩ := HA_5.open_
    cases eA
    obtain ⟨jt, hjt⟩ := List.getElem?_of_mem HR0.out
    have hjl := (List.getElem?_eq_some_iff.1 hjt).1
    obtain ⟨gt, u2, rfl, _, hgt, _, _, _⟩ := ar2.get hjl
    obtain ⟨⟨k0, ek0, hk0⟩, _⟩ := HAT.out 0 _ HY0.out
    obtain ⟨gl, u3, rfl, _, hgl, _, _, _⟩ := ar0.get hk0
    obtain ⟨gr, u4, rfl, _, hgr, _, _, _⟩ := ar1.get (k := k0) (by rw [HRL.out]; exact hk0)
    have HJT := Lib.hid hjt
    have hn1 : n1 = n0 := by rw [← l1.out, ← l0.out]; exact HRL.out
    have HN1 := Lib.hid hn1
    have hjn : Hid (jt < n2) := by unfold Hid; rw [← l2.out]; exact hjl
    clear ek0 hu0 hjt hjl hn1 I S DI DX HR0
    go_wp2_with fail
    go_loopw [11, 12] (fun r i wr => (∃ (k : Nat) (b : Bool), k ≤ n2 ∧ i = .int .i64 k ∧ r = .bool b ∧ Hid (b = false → ∀ j : Nat, j < k → hp.t[j]? ≠ some u0)) ∧ ∃ nq, wr = w5.drewN nq) (fun _ i _ => n2 - (intOf i).toNat)
    case atStart => exact ⟨⟨0, false, Nat.zero_le _, rfl, rfl, fun _ j hj => absurd hj (by omega)⟩, 0, rfl⟩
    case round =>
      obtain ⟨⟨k, b, hk, rfl, rfl, hb⟩, nq, rfl⟩ := hrel
      by_cases hlt : k < n2
      · obtain ⟨g, u, eg, _, _, hu, hcell, _⟩ := ar2.get (k := k) (by rw [l2.out]; exact hlt)
        cases eg
        rcases b
        · by_cases huy : u = u0
          · subst huy
            clear hu hb
            go_wp2_with fail
            go_quiet (fail)
            go_wp2_with fail
            go_roundw
            case rel => exact ⟨⟨k + 1, true, by omega, by go_num, rfl, fun e => by cases e⟩, _, by first | rfl | (rw [World.drewN_drewN])⟩
            case measure => simp [intOf]; omega
          · have hb' : Hid (∀ j : Nat, j < k + 1 → hp.t[j]? ≠ some u0) := by
              intro j hj e
              rcases Nat.lt_succ_iff_lt_or_eq.1 hj with h9 | rfl
              · exact hb.out rfl j h9 e
              · rw [hu.out] at e; exact absurd (by simpa using e) huy
            have huy2 : (u == u0) = false := by simpa using huy
            clear hu hb
            go_wp2_with fail
            go_quiet (fail)
            go_wp2_with fail
            go_roundw
            case rel => exact ⟨⟨k + 1, false, by omega, by go_num, rfl, fun _ => hb'.out⟩, _, by first | rfl | (rw [World.drewN_drewN])⟩
            case measure => simp [intOf]; omega
        · clear hu hb
          go_wp2_with fail
          go_quiet (fail)
          go_wp2_with fail
          go_roundw
          case rel => exact ⟨⟨k + 1, true, by omega, by go_num, rfl, fun e => by cases e⟩, _, by first | rfl | (rw [World.drewN_drewN])⟩
          case measure => simp [intOf]; omega
      · obtain rfl : k = n2 := by omega
        obtain rfl : b = true := by
          rcases b
          · exact absurd HJT.out (hb.out rfl jt hjn.out)
          · rfl
        clear hb
        go_wp2_with fail
        go_loopw [13] (fun i wr => (∃ m : Nat, 1 ≤ m ∧ m ≤ N ∧ i = .int .i64 m) ∧ ∃ nq, wr = w5.drewN nq) (fun i _ => N - (intOf i).toNat)
        case atStart => exact ⟨⟨1, Nat.le_refl _, hN1, rfl⟩, nq, rfl⟩
        case round =>
          obtain ⟨⟨m, hm1, hm, rfl⟩, nq, rfl⟩ := hrel
          by_cases hlt2 : m < N
          · rcases m with _ | m
            · omega
            · obtain ⟨g, y, eg, _, _, hy, hcy, _⟩ := R2_5.get (k := m + 1) (by rw [HLEN.out]; exact hlt2)
              cases eg
              obtain ⟨g, x', eg, _, _, hx, hcx, _⟩ := R2_5.get (k := m) (by rw [HLEN.out]; omega)
              cases eg
              obtain ⟨kx, rfl, hkx, hor⟩ := HNX.out m x' y hx.out hy.out
              obtain ⟨g, lx, eg, _, _, hlx, hcl, _⟩ := ar0.get (k := kx) hkx
              cases eg
              obtain ⟨g, rx, eg, _, _, hrx, hcr, _⟩ := ar1.get (k := kx) (by rw [HRL.out]; exact hkx)
              cases eg
              have hkn : kx < n0 := by rw [← l0.out]; exact hkx
              have hkn1 : kx < n1 := by rw [HN1.out]; exact hkn
              rw [hlx.out, hrx.out] at hor
              clear hlx hrx hx hy
              by_cases hl : lx = y
              · subst hl
                clear hor
                go_wp2_with fail
                go_quiet (fail)
                go_wp2_with fail
                go_roundw
                case rel => exact ⟨⟨m + 1 + 1, by omega, by omega, by go_num⟩, _, by first | rfl | (rw [World.drewN_drewN])⟩
                case measure => simp [intOf]; omega
              · obtain rfl : rx = y := by
                  rcases hor with h9 | h9
                  · exact absurd (by simpa using h9) hl
                  · simpa using h9
                have hl2 : (lx != rx) = true := by simpa using hl
                clear hor
                go_wp2_with fail
                go_quiet (fail)
                go_wp2_with fail
                go_roundw
                case rel => exact ⟨⟨m + 1 + 1, by omega, by omega, by go_num⟩, _, by first | rfl | (rw [World.drewN_drewN])⟩
                case measure => simp [intOf]; omega
          · obtain rfl : m = N := by omega
            rcases m with _ | m
            · omega
            · obtain ⟨g, y, eg, _, _, hy, hcy, _⟩ := R2_5.get (k := m) (by rw [HLEN.out]; omega)
              cases eg
              obtain rfl : y = x := by have h9 := hy.out; rw [show m + 1 - 1 = m by omega] at HLAST; rw [HLAST.out] at h9; simpa using h9.symm
              clear hy
              go_wp2_with fail
              go_ret
              exact ⟨by simp, by first | exact below_drewN BW5 _ | (rw [World.drewN_drewN]; exact below_drewN BW5 _)⟩
end Go.Proofs.Ytkcelcjghplhiaa
