/- The law FnPutRightOthers, walked. -/
import Derived.Test.YtpngbiokoiipaaaDPutRight
import Derived.Test.YtpngbiokoiipaaaPure
import Derived.Test.YtpngbiokoiipaaaWLaw
import Derived.Test.YtpngbiokoiipaaaCc
import Derived.BigQuiet
namespace Go.Proofs.Ytpngbiokoiipaaa
open Go.RowKit

set_option maxRecDepth 100000 in
set_option maxHeartbeats 2000000 in
theorem lawPutRightOthers_walk (w : World) (A : Option Addr) (n c : Nat) (h : Inp w A n c) :
    Calls Try.prog 11 #[.slice A n c] w (LawTrue w) := by
  by_cases hbig : 1048576 < n
  · go_enter Try.func11, Try.ntmps11
    go_wp2_with fail
    go_ret
    exact ⟨rfl, Below.refl _ _⟩
  go_enter Try.func11, Try.ntmps11
  go_wp2_with fail
  refine (drawPutRight_any _ _ _ _ h).mono ?_; rintro e w1 ⟨v, hp, x, y, rfl, HA, hb1⟩
  have I := fun W V hW => implPutRight_any W w.heap.size V hp hW x y
  have S := fun W V hW => specPutRight_any W w.heap.size V hp hW x y
  obtain ⟨A0, n0, c0, A1, n1, c1, A2, n2, c2, rfl, _⟩ := HA.open_
  rcases ho : putR hp x y with _ | h2
  · rw [ho] at I S
    go_wp2_with fail
    refine (I _ _ (by exact HA.alloc _)).mono ?_; rintro e w2 ⟨v, rfl, hv2, hb2⟩
    simp only [Option.isSome_none, Option.getD_none] at hv2 ⊢
    obtain ⟨B0, k0, d0, B1, k1, d1, B2, k2, d2, rfl, ⟨br0, br1, br2⟩, ⟨bl0, bl1, bl2⟩, _⟩ := hv2.open_
    have z2 : w1.heap.size < w2.heap.size := by have := hb2.size; simp at this; omega
    have X12 := Blk3.below (by exact (Blk3.new w1 (.slice A0 n0 c0) (.slice A1 n1 c1) (.slice A2 n2 c2) 25)) hb2
    have HA2 := Hv.below (by exact HA.alloc (.cells #[.slice A0 n0 c0, .slice A1 n1 c1, .slice A2 n2 c2] 25)) hb2
    obtain ⟨x120, x121, x122, _⟩ := X12.cells
    go_wp2_with fail
    refine (S _ _ (by exact HA2.alloc _)).mono ?_; rintro e w3 ⟨v, rfl, hv3, hb3⟩
    simp only [Option.isSome_none, Option.getD_none] at hv3 ⊢
    obtain ⟨C0, m0, e0, C1, m1, e1, C2, m2, e2, rfl, _⟩ := hv3.open_
    have z3 : w2.heap.size < w3.heap.size := by have := hb3.size; simp at this; omega
    have X13 := Blk3.below (by exact X12.alloc (.cells #[.slice B0 k0 d0, .slice B1 k1 d1, .slice B2 k2 d2] 25)) hb3
    have X23 := Blk3.below (by exact (Blk3.new w2 (.slice B0 k0 d0) (.slice B1 k1 d1) (.slice B2 k2 d2) 25)) hb3
    have HA3 := Hv.below (by exact HA2.alloc (.cells #[.slice B0 k0 d0, .slice B1 k1 d1, .slice B2 k2 d2] 25)) hb3
    have HB3 := Hv.below (by exact hv2.alloc (.cells #[.slice B0 k0 d0, .slice B1 k1 d1, .slice B2 k2 d2] 25)) hb3
    obtain ⟨x130, x131, x132, _⟩ := X13.cells
    obtain ⟨x230, x231, x232, _⟩ := X23.cells
    have B3 : Below w.heap.size w (w3.alloc (.cells #[.slice C0 m0 e0, .slice C1 m1 e1, .slice C2 m2 e2] 25)) := below3 hb1 hb2 hb3
    have E1 := implHeapSame_any _ _ _ _ _ _ _ (HB3.alloc (.cells #[.slice C0 m0 e0, .slice C1 m1 e1, .slice C2 m2 e2] 25)) (hv3.alloc (.cells #[.slice C0 m0 e0, .slice C1 m1 e1, .slice C2 m2 e2] 25))
    rw [sameB_self'] at E1
    go_wp2_with fail
    refine E1.mono ?_; rintro e w4 ⟨rfl, hb4⟩
    have HA4 := (HA3.alloc (.cells #[.slice C0 m0 e0, .slice C1 m1 e1, .slice C2 m2 e2] 25)).below hb4
    have HB4 := (HB3.alloc (.cells #[.slice C0 m0 e0, .slice C1 m1 e1, .slice C2 m2 e2] 25)).below hb4
    have HC4 := (hv3.alloc (.cells #[.slice C0 m0 e0, .slice C1 m1 e1, .slice C2 m2 e2] 25)).below hb4
    have X14 := (X13.alloc (.cells #[.slice C0 m0 e0, .slice C1 m1 e1, .slice C2 m2 e2] 25)).below hb4
    have X24 := (X23.alloc (.cells #[.slice C0 m0 e0, .slice C1 m1 e1, .slice C2 m2 e2] 25)).below hb4
    have X34 := ((Blk3.new w3 (.slice C0 m0 e0) (.slice C1 m1 e1) (.slice C2 m2 e2) 25)).below hb4
    obtain ⟨x140, x141, x142, _⟩ := X14.cells
    obtain ⟨x240, x241, x242, _⟩ := X24.cells
    obtain ⟨x340, x341, x342, _⟩ := X34.cells
    have B4 : Below w.heap.size w w4 := B3.trans (hb4.mono B3.size)
    clear E1
    have E2 := implHeapSame_any _ _ _ _ _ _ _ HB4 HC4
    rw [sameB_self'] at E2
    go_wp2_with fail
    refine E2.mono ?_; rintro e w5 ⟨rfl, hb5⟩
    go_wp2_with fail
    go_ret
    exact ⟨rfl, B4.trans (hb5.mono B4.size)⟩
  · rw [ho] at I S
    go_wp2_with fail
    refine (I _ _ (by exact HA.alloc _)).mono ?_; rintro e w2 ⟨v, rfl, hv2, hb2⟩
    simp only [Option.isSome_some, Option.getD_some] at hv2 ⊢
    obtain ⟨B0, k0, d0, B1, k1, d1, B2, k2, d2, rfl, ⟨br0, br1, br2⟩, ⟨bl0, bl1, bl2⟩, _⟩ := hv2.open_
    have z2 : w1.heap.size < w2.heap.size := by have := hb2.size; simp at this; omega
    have X12 := Blk3.below (by exact (Blk3.new w1 (.slice A0 n0 c0) (.slice A1 n1 c1) (.slice A2 n2 c2) 25)) hb2
    have HA2 := Hv.below (by exact HA.alloc (.cells #[.slice A0 n0 c0, .slice A1 n1 c1, .slice A2 n2 c2] 25)) hb2
    obtain ⟨x120, x121, x122, _⟩ := X12.cells
    go_wp2_with fail
    refine (S _ _ (by exact HA2.alloc _)).mono ?_; rintro e w3 ⟨v, rfl, hv3, hb3⟩
    simp only [Option.isSome_some, Option.getD_some] at hv3 ⊢
    obtain ⟨C0, m0, e0, C1, m1, e1, C2, m2, e2, rfl, _⟩ := hv3.open_
    have z3 : w2.heap.size < w3.heap.size := by have := hb3.size; simp at this; omega
    have X13 := Blk3.below (by exact X12.alloc (.cells #[.slice B0 k0 d0, .slice B1 k1 d1, .slice B2 k2 d2] 25)) hb3
    have X23 := Blk3.below (by exact (Blk3.new w2 (.slice B0 k0 d0) (.slice B1 k1 d1) (.slice B2 k2 d2) 25)) hb3
    have HA3 := Hv.below (by exact HA2.alloc (.cells #[.slice B0 k0 d0, .slice B1 k1 d1, .slice B2 k2 d2] 25)) hb3
    have HB3 := Hv.below (by exact hv2.alloc (.cells #[.slice B0 k0 d0, .slice B1 k1 d1, .slice B2 k2 d2] 25)) hb3
    obtain ⟨x130, x131, x132, _⟩ := X13.cells
    obtain ⟨x230, x231, x232, _⟩ := X23.cells
    have B3 : Below w.heap.size w (w3.alloc (.cells #[.slice C0 m0 e0, .slice C1 m1 e1, .slice C2 m2 e2] 25)) := below3 hb1 hb2 hb3
    have E1 := implHeapSame_any _ _ _ _ _ _ _ (HB3.alloc (.cells #[.slice C0 m0 e0, .slice C1 m1 e1, .slice C2 m2 e2] 25)) (hv3.alloc (.cells #[.slice C0 m0 e0, .slice C1 m1 e1, .slice C2 m2 e2] 25))
    rw [sameB_self'] at E1
    go_wp2_with fail
    refine E1.mono ?_; rintro e w4 ⟨rfl, hb4⟩
    have HA4 := (HA3.alloc (.cells #[.slice C0 m0 e0, .slice C1 m1 e1, .slice C2 m2 e2] 25)).below hb4
    have HB4 := (HB3.alloc (.cells #[.slice C0 m0 e0, .slice C1 m1 e1, .slice C2 m2 e2] 25)).below hb4
    have HC4 := (hv3.alloc (.cells #[.slice C0 m0 e0, .slice C1 m1 e1, .slice C2 m2 e2] 25)).below hb4
    have X14 := (X13.alloc (.cells #[.slice C0 m0 e0, .slice C1 m1 e1, .slice C2 m2 e2] 25)).below hb4
    have X24 := (X23.alloc (.cells #[.slice C0 m0 e0, .slice C1 m1 e1, .slice C2 m2 e2] 25)).below hb4
    have X34 := ((Blk3.new w3 (.slice C0 m0 e0) (.slice C1 m1 e1) (.slice C2 m2 e2) 25)).below hb4
    obtain ⟨x140, x141, x142, _⟩ := X14.cells
    obtain ⟨x240, x241, x242, _⟩ := X24.cells
    obtain ⟨x340, x341, x342, _⟩ := X34.cells
    have B4 : Below w.heap.size w w4 := B3.trans (hb4.mono B3.size)
    clear E1
    obtain ⟨hva, k, rfl, hk, hpt, hh2⟩ := putR_some ho
    have el : h2.l = hp.l := by rw [hh2]
    have et : h2.t = hp.t := by rw [hh2]
    have er : Hid (∀ i, i ≠ k → h2.r[i]? = hp.r[i]?) := by
      unfold Hid; intro i hi; rw [hh2]; exact List.getElem?_set_ne (Ne.symm hi)
    have elen : h2.r.length = hp.r.length := by rw [hh2]; simp
    obtain ⟨A0', n0', c0', A1', n1', c1', A2', n2', c2', eA, ⟨ar0, ar1, ar2⟩, ⟨al0, al1, al2⟩, ⟨am0, am1, am2⟩, _⟩ := HA4.open_
    cases eA
    obtain ⟨B0', k0', d0', B1', k1', d1', B2', k2', d2', eB, ⟨cr0, cr1, cr2⟩, ⟨cl0, cl1, cl2⟩, ⟨cm0, cm1, cm2⟩, _⟩ := HB4.open_
    cases eB
    have ekn : k1 = n1 := by have := al1.out; have := cl1.out; omega
    subst ekn
    have D1 := fun nq => ccInts_any (w4.drewN nq) _ _ B0 A0 k0 d0 n0 c0 h2.l hp.l (cr0.drewN nq) cl0.out cm0 (ar0.drewN nq) al0.out am0
    have D2 := fun nq => ccInts_any (w4.drewN nq) _ _ B2 A2 k2 d2 n2 c2 h2.t hp.t (cr2.drewN nq) cl2.out cm2 (ar2.drewN nq) al2.out am2
    rw [decide_eq_true el] at D1
    rw [decide_eq_true et] at D2
    have hlen : hp.r.length = k1 := al1.out
    have hlen2 : h2.r.length = k1 := cl1.out
    clear ho hh2 el et elen I S hpt hk
    go_wp2_with fail
    go_loopw [10] (fun i wr => (∃ j : Nat, j ≤ k1 ∧ i = .int .i64 j) ∧ ∃ nq, wr = w4.drewN nq) (fun i _ => k1 - (intOf i).toNat)
    case atStart => exact ⟨⟨0, Nat.zero_le _, rfl⟩, 0, rfl⟩
    case round =>
      obtain ⟨⟨j, hj, rfl⟩, nq, rfl⟩ := hrel
      by_cases hlt : j < k1
      · have hjb : (j : Int) < (k1 : Int) := by omega
        by_cases hjk : j = k
        · subst hjk
          have hne : ((j : Int) != (j : Int)) = false := by simp
          go_wp2_with fail
          go_quiet (fail)
          go_wp2_with fail
          go_roundw
          case rel => exact ⟨⟨j + 1, by omega, by go_num⟩, _, by first | rfl | (rw [World.drewN_drewN])⟩
          case measure => simp [intOf]; omega
        · have hne : ((j : Int) != (k : Int)) = true := by simp; omega
          obtain ⟨g, u, rfl, _, _, hu, hcell, _⟩ := ar1.get (k := j) (by omega)
          obtain ⟨g', u', rfl, _, _, hu', hcell', _⟩ := cr1.get (k := j) (by omega)
          obtain rfl : u = u' := by
            have e := (hu'.out.symm.trans (er.out j hjk)).trans hu.out
            simpa using e.symm
          clear hu hu'
          go_wp2_with fail
          go_quiet (fail)
          go_wp2_with fail
          go_roundw
          case rel => exact ⟨⟨j + 1, by omega, by go_num⟩, _, by first | rfl | (rw [World.drewN_drewN])⟩
          case measure => simp [intOf]; omega
      · have hjb : ¬ (j : Int) < (k1 : Int) := by omega
        go_wp2_with fail
        refine (D1 nq).mono ?_; rintro e w9 ⟨rfl, nq1, rfl⟩
        go_wp2_with fail
        refine (D2 (nq + nq1)).mono ?_; rintro e w9 ⟨rfl, nq2, rfl⟩
        go_wp2_with fail
        go_ret
        exact ⟨rfl, by repeat (first | exact B4 | refine below_drewN ?_ _)⟩
end Go.Proofs.Ytpngbiokoiipaaa
