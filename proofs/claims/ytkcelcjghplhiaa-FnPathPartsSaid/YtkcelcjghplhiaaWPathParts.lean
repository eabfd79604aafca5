/- The law FnPathParts, walked. -/
import Derived.Test.YtkcelcjghplhiaaDPathTo
import Derived.Test.YtkcelcjghplhiaaPthS
import Derived.Test.YtkcelcjghplhiaaPthF
import Derived.Test.YtkcelcjghplhiaaWLaw
namespace Go.Proofs.Ytkcelcjghplhiaa
open Go.RowKit

set_option maxRecDepth 100000 in
set_option maxHeartbeats 3000000 in
theorem lawPathParts_walk (w : World) (A : Option Addr) (n c : Nat) (h : Inp w A n c) :
    Calls Try.prog 4 #[.slice A n c] w (LawTrue w) := by
  by_cases hbig : 1048576 < n
  · go_enter Try.func4, Try.ntmps4
    go_wp2_with fail
    go_ret
    exact ⟨rfl, Below.refl _ _⟩
  go_enter Try.func4, Try.ntmps4
  go_wp2_with fail
  refine (drawPathTo_any _ _ _ _ h).mono ?_; rintro e w1 ⟨v, hp, x, rfl, HA, hb1, hx8⟩
  have BW1 : Below w.heap.size w w1 := (Below.refl w.heap.size w).trans (hb1.mono (Below.refl w.heap.size w).size)
  have zz1 := hb1.size
  have hwf : (Lit.int .i64 x).wf = true := WalkArith.wf_i64 (by omega)
  have I := fun W v hW => implPth_any W w.heap.size v hp hW x hwf
  have S := fun W v hW => specPth_any W w.heap.size v hp hW x hwf
  have DI := fun W v hW y hy => implDst_any W w.heap.size v hp hW y hy
  have HAo := HA
  obtain ⟨A0, n0, c0, A1, n1, c1, A2, n2, c2, rfl, ⟨r0, r1, r2⟩, ⟨l0, l1, l2⟩, _⟩ := HAo.open_
  rcases ho : dokB hp x
  · have hps : pthL hp x = [] := by unfold pthL; rw [ho]; simp
    rw [ho, hps] at I S
    clear ho hps r0 r1 r2 DI
    go_wp2_with fail
    refine (I _ _ (HA.alloc (.cells #[.slice A0 n0 c0, .slice A1 n1 c1, .slice A2 n2 c2] 25))).mono ?_; rintro e w2 ⟨AR2, kR2, rfl, R2, hb2⟩
    have BW2 : Below w.heap.size w w2 := (BW1.alloc BW1.size (.cells #[.slice A0 n0 c0, .slice A1 n1 c1, .slice A2 n2 c2] 25)).trans (hb2.mono (BW1.alloc BW1.size (.cells #[.slice A0 n0 c0, .slice A1 n1 c1, .slice A2 n2 c2] 25)).size)
    have zz2 := hb2.size
    have HA_2 := Hv.below (by exact (HA.alloc (.cells #[.slice A0 n0 c0, .slice A1 n1 c1, .slice A2 n2 c2] 25))) hb2
    have X_2 := Blk3.below (by exact (Blk3.new w1 (.slice A0 n0 c0) (.slice A1 n1 c1) (.slice A2 n2 c2) 25)) hb2
    obtain ⟨cX_2_0, cX_2_1, cX_2_2, _⟩ := X_2.cells
    have lX_2 := X_2.lt
    go_wp2_with fail
    refine (S _ _ HA_2).mono ?_; rintro e w3 ⟨AR3, kR3, rfl, R3, hb3⟩
    have BW3 : Below w.heap.size w w3 := BW2.trans (hb3.mono BW2.size)
    have zz3 := hb3.size
    have HA_3 := Hv.below (by exact HA_2) hb3
    have X_3 := Blk3.below (by exact X_2) hb3
    obtain ⟨cX_3_0, cX_3_1, cX_3_2, _⟩ := X_3.cells
    have lX_3 := X_3.lt
    have R2_3 := Row.below (by exact R2) hb3
    go_wp2_with fail
    refine (ccInts_sameP _ _ _ _ _ _ _ [] R2_3 R3).mono ?_; rintro e w4 ⟨rfl, hb4⟩
    have BW4 : Below w.heap.size w w4 := BW3.trans (hb4.mono BW3.size)
    have zz4 := hb4.size
    have HA_4 := Hv.below (by exact HA_3) hb4
    have X_4 := Blk3.below (by exact X_3) hb4
    obtain ⟨cX_4_0, cX_4_1, cX_4_2, _⟩ := X_4.cells
    have lX_4 := X_4.lt
    have R2_4 := Row.below (by exact R2_3) hb4
    have R3_4 := Row.below (by exact R3) hb4
    go_wp2_with fail
    refine (ccInts_sameP _ _ _ _ _ _ _ [] R2_4 R3_4).mono ?_; rintro e w5 ⟨rfl, hb5⟩
    have BW5 : Below w.heap.size w w5 := BW4.trans (hb5.mono BW4.size)
    have zz5 := hb5.size
    have HA_5 := Hv.below (by exact HA_4) hb5
    have X_5 := Blk3.below (by exact X_4) hb5
    obtain ⟨cX_5_0, cX_5_1, cX_5_2, _⟩ := X_5.cells
    have lX_5 := X_5.lt
    have R2_5 := Row.below (by exact R2_4) hb5
    have R3_5 := Row.below (by exact R3_4) hb5
    go_wp2_with fail
    go_ret
    exact ⟨rfl, BW5⟩
  · obtain ⟨N, hva, hdn, hN1, hN8, hlen, hlast, ⟨y0, hy0, hr0⟩, hat, hnx⟩ := pth_facts ho
    have DX := fun W v hW => DI W v hW x hwf
    rw [ho] at I S DX
    rw [hdn] at DX
    have hl8 := hvB_len hva
    have HRL : Hid (hp.r.length = hp.l.length) := (hvB_parts hva).1.1
    generalize pthL hp x = ps at I S hlen hlast hy0 hat hnx
    have HLEN := Lib.hid hlen
    have HLAST := Lib.hid hlast
    have HY0 := Lib.hid hy0
    have HR0 := Lib.hid hr0
    have HAT := Lib.hid hat
    have HNX := Lib.hid hnx
    have n0b : n0 ≤ 8 := by have := l0.out; omega
    clear hlast hy0 hr0 hat hnx ho hva hdn hl8 r0 r1 r2
    clear hlen
    go_wp2_with fail
    refine (I _ _ (HA.alloc (.cells #[.slice A0 n0 c0, .slice A1 n1 c1, .slice A2 n2 c2] 25))).mono ?_; rintro e w2 ⟨A2_, k2, rfl, R2, hb2⟩
    rw [HLEN.out] at R2 ⊢
    have BW2 : Below w.heap.size w w2 := (BW1.alloc BW1.size (.cells #[.slice A0 n0 c0, .slice A1 n1 c1, .slice A2 n2 c2] 25)).trans (hb2.mono (BW1.alloc BW1.size (.cells #[.slice A0 n0 c0, .slice A1 n1 c1, .slice A2 n2 c2] 25)).size)
    have zz2 := hb2.size
    have HA_2 := Hv.below (by exact (HA.alloc (.cells #[.slice A0 n0 c0, .slice A1 n1 c1, .slice A2 n2 c2] 25))) hb2
    have X_2 := Blk3.below (by exact (Blk3.new w1 (.slice A0 n0 c0) (.slice A1 n1 c1) (.slice A2 n2 c2) 25)) hb2
    obtain ⟨cX_2_0, cX_2_1, cX_2_2, _⟩ := X_2.cells
    have lX_2 := X_2.lt
    go_wp2_with fail
    refine (S _ _ HA_2).mono ?_; rintro e w3 ⟨A3_, k3, rfl, R3, hb3⟩
    rw [HLEN.out] at R3 ⊢
    have BW3 : Below w.heap.size w w3 := BW2.trans (hb3.mono BW2.size)
    have zz3 := hb3.size
    have HA_3 := Hv.below (by exact HA_2) hb3
    have X_3 := Blk3.below (by exact X_2) hb3
    obtain ⟨cX_3_0, cX_3_1, cX_3_2, _⟩ := X_3.cells
    have lX_3 := X_3.lt
    have R2_3 := Row.below (by exact R2) hb3
    go_wp2_with fail
    refine (ccInts_sameN _ _ _ _ _ _ _ _ _ HLEN.out R2_3 R3).mono ?_; rintro e w4 ⟨rfl, hb4⟩
    have BW4 : Below w.heap.size w w4 := BW3.trans (hb4.mono BW3.size)
    have zz4 := hb4.size
    have HA_4 := Hv.below (by exact HA_3) hb4
    have X_4 := Blk3.below (by exact X_3) hb4
    obtain ⟨cX_4_0, cX_4_1, cX_4_2, _⟩ := X_4.cells
    have lX_4 := X_4.lt
    have R2_4 := Row.below (by exact R2_3) hb4
    have R3_4 := Row.below (by exact R3) hb4
    obtain ⟨gp, u0, rfl, _, hgp, hu0, hcp0, _⟩ := R2_4.get (k := 0) (by rw [HLEN.out]; exact hN1)
    clear hu0 hcp0 I S DX
    go_wp2_with fail
    go_loopw [9, 10, 11] (fun i _ _ wr => (∃ k : Nat, k ≤ N ∧ i = .int .i64 k) ∧ Below w4.heap.size w4 wr) (fun i _ _ _ => N - (intOf i).toNat)
    case atStart => exact ⟨⟨0, Nat.zero_le _, rfl⟩, Below.refl _ _⟩
    case round =>
      obtain ⟨⟨k, hk, rfl⟩, hW⟩ := hrel
      by_cases hlt : k < N
      ·   have BW5 : Below w.heap.size w wr := BW4.trans (hW.mono BW4.size)
          have zz5 := hW.size
          have HA_5 := Hv.below (by exact HA_4) hW
          have X_5 := Blk3.below (by exact X_4) hW
          obtain ⟨cX_5_0, cX_5_1, cX_5_2, _⟩ := X_5.cells
          have lX_5 := X_5.lt
          have R2_5 := Row.below (by exact R2_4) hW
          obtain ⟨g, y, eg, _, hgy, hy, hcy, _⟩ := R2_5.get (k := k) (by rw [HLEN.out]; exact hlt)
          cases eg
          obtain ⟨⟨ky, rfl, hky⟩, q1, q2⟩ := HAT.out k y hy.out
          have hky8 : ky ≤ 8 := by have := l0.out; omega
          have hwy : (Lit.int .i64 ((ky : Nat) : Int)).wf = true := WalkArith.wf_i64 (by omega)
          have K := fun W v hW => DI W v hW (ky : Int) hwy
          rw [q1, q2] at K
          clear hy q1 q2 hwy
          go_wp2_with fail
          go_region_held3 (fun w' => w'.cell? ⟨w1.heap.size, 0, none⟩ = some (.slice A0 n0 c0) ∧ w'.cell? ⟨w1.heap.size, 1, none⟩ = some (.slice A1 n1 c1) ∧ w'.cell? ⟨w1.heap.size, 2, none⟩ = some (.slice A2 n2 c2) ∧ w'.cell? ⟨gp, k, none⟩ = some (.int .i64 ((ky : Nat) : Int)))
            (((try dsimp only); (repeat' apply And.intro) <;> (with_reducible (first | exact hcy_w5 | exact cX_6_2 | exact cX_6_1 | exact cX_6_0 | exact cellD hcy | exact cellD cX_5_2 | exact cellD cX_5_1 | exact cellD cX_5_0 | exact hcy | exact cX_5_2 | exact cX_5_1 | exact cX_5_0))))
            (first
              | (go_at_call 11; (with_reducible refine (K _ _ (HA_5.drew)).mono ?_); rintro e w5 ⟨rfl, hb5⟩; have BW6 : Below w.heap.size w w5 := (Below.drew BW5).trans (hb5.mono (Below.drew BW5).size); have zz6 := hb5.size; have HA_6 := Hv.below (by exact (HA_5.drew)) hb5; have X_6 := Blk3.below (by exact (X_5.drew)) hb5; obtain ⟨cX_6_0, cX_6_1, cX_6_2, _⟩ := X_6.cells; have lX_6 := X_6.lt; have R2_6 := Row.below (by exact (R2_5.drew)) hb5; have hcy_w5 : w5.cell? ⟨gp, k, none⟩ = some (.int .i64 ((ky : Nat) : Int)) := (hb5.cell (p := ⟨gp, k, none⟩) (by simp <;> omega)).trans (by exact hcy)))
          rename_i hHeld1
          clear hHeld1
          go_wp2_with fail
          go_roundw
          case rel => exact ⟨⟨k + 1, by omega, by go_num⟩, hW.drew.trans (hb5.mono hW.drew.size)⟩
          case measure => simp [intOf]; omega
      · obtain rfl : k = N := by omega
        go_wp2_with fail
        go_ret
        exact ⟨by simp <;> omega, BW4.trans (hW.mono BW4.size)⟩
end Go.Proofs.Ytkcelcjghplhiaa
