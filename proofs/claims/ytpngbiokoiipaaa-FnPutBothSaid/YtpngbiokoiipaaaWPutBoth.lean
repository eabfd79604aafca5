/- The law FnPutBoth, walked. -/
import Derived.Test.YtpngbiokoiipaaaDPutLeft
import Derived.Test.YtpngbiokoiipaaaPure
import Derived.Test.YtpngbiokoiipaaaWLaw
import Derived.Test.YtpngbiokoiipaaaCc
namespace Go.Proofs.Ytpngbiokoiipaaa
open Go.RowKit

theorem putBoth_facts {h h2 : Hp} {x y : Int} (e : putL h x y = some h2) : ∃ h3 h4, putR h2 x y = some h3 ∧ putR h x y = some h4 ∧ putL h4 x y = some h3 ∧ h2.r = h.r ∧ h2.t = h.t := by
  have hv2 := putL_valid e
  obtain ⟨hv, k, rfl, hk, ht, rfl⟩ := putL_some e
  have hl := hvB_len hv
  have hkr : k < h.r.length := by omega
  have e4 : putR h k y = some ⟨h.l, h.r.set k y, h.t⟩ := by
    unfold putR; rw [if_pos (by simp only [Bool.and_eq_true]; exact ⟨⟨hv, by simp [plB, hkr]⟩, ht⟩)]; simp
  have hv4 := putR_valid e4
  refine ⟨⟨h.l.set k y, h.r.set k y, h.t⟩, _, ?_, e4, ?_, rfl, rfl⟩
  · unfold putR; rw [if_pos (by simp only [Bool.and_eq_true]; exact ⟨⟨hv2, by simp [plB, hkr]⟩, by simpa using ht⟩)]; simp
  · unfold putL; rw [if_pos (by simp only [Bool.and_eq_true]; exact ⟨⟨hv4, by simp [plB, hk]⟩, ht⟩)]; simp

set_option maxRecDepth 100000 in
set_option maxHeartbeats 2000000 in
theorem lawPutBoth_walk (w : World) (A : Option Addr) (n c : Nat) (h : Inp w A n c) :
    Calls Try.prog 10 #[.slice A n c] w (LawTrue w) := by
  by_cases hbig : 1048576 < n
  · go_enter Try.func10, Try.ntmps10
    go_wp2_with fail
    go_ret
    exact ⟨rfl, Below.refl _ _⟩
  go_enter Try.func10, Try.ntmps10
  go_wp2_with fail
  refine (drawPutLeft_any _ _ _ _ h).mono ?_; rintro e w1 ⟨v, hp, x, y, rfl, HA, hb1⟩
  have I := fun W V hW => implPutLeft_any W w.heap.size V hp hW x y
  have S := fun W V hW => specPutLeft_any W w.heap.size V hp hW x y
  obtain ⟨A0, n0, c0, A1, n1, c1, A2, n2, c2, rfl, _⟩ := HA.open_
  rcases ho : putL hp x y with _ | h2
  · rw [ho] at I S
    go_wp2_with fail
    refine (I _ _ (by exact HA.alloc _)).mono ?_; rintro e w2 ⟨v, rfl, hv2, hb2⟩
    simp only [Option.isSome_none, Option.getD_none] at hv2 ⊢
    obtain ⟨B0, k0, d0, B1, k1, d1, B2, k2, d2, rfl, ⟨br0, br1, br2⟩, ⟨bl0, bl1, bl2⟩, _⟩ := hv2.open_
    have z2 : w1.heap.size < w2.heap.size := by have := hb2.size; simp at this; omega
    have X12 := Blk3.below (by exact (Blk3.new w1 (.slice A0 n0 c0) (.slice A1 n1 c1) (.slice A2 n2 c2) 25)) hb2
    have HA2 := Hv.below (by exact HA.alloc (.cells #[.slice A0 n0 c0, .slice A1 n1 c1, .slice A2 n2 c2] 25)) hb2
    obtain ⟨x120, x121, x122, _⟩ := X12.cells
    go_wp2_with fail
    refine (S _ _ (by exact HA2.alloc _)).mono ?_; rintro e w3 ⟨v, rfl, hv3, hb3⟩
    simp only [Option.isSome_none, Option.getD_none] at hv3 ⊢
    obtain ⟨C0, m0, e0, C1, m1, e1, C2, m2, e2, rfl, _⟩ := hv3.open_
    have z3 : w2.heap.size < w3.heap.size := by have := hb3.size; simp at this; omega
    have X13 := Blk3.below (by exact X12.alloc (.cells #[.slice B0 k0 d0, .slice B1 k1 d1, .slice B2 k2 d2] 25)) hb3
    have X23 := Blk3.below (by exact (Blk3.new w2 (.slice B0 k0 d0) (.slice B1 k1 d1) (.slice B2 k2 d2) 25)) hb3
    have HA3 := Hv.below (by exact HA2.alloc (.cells #[.slice B0 k0 d0, .slice B1 k1 d1, .slice B2 k2 d2] 25)) hb3
    have HB3 := Hv.below (by exact hv2.alloc (.cells #[.slice B0 k0 d0, .slice B1 k1 d1, .slice B2 k2 d2] 25)) hb3
    obtain ⟨x130, x131, x132, _⟩ := X13.cells
    obtain ⟨x230, x231, x232, _⟩ := X23.cells
    have B3 : Below w.heap.size w (w3.alloc (.cells #[.slice C0 m0 e0, .slice C1 m1 e1, .slice C2 m2 e2] 25)) := below3 hb1 hb2 hb3
    have E1 := implHeapSame_any _ _ _ _ _ _ _ (HB3.alloc (.cells #[.slice C0 m0 e0, .slice C1 m1 e1, .slice C2 m2 e2] 25)) (hv3.alloc (.cells #[.slice C0 m0 e0, .slice C1 m1 e1, .slice C2 m2 e2] 25))
    rw [sameB_self'] at E1
    go_wp2_with fail
    refine E1.mono ?_; rintro e w4 ⟨rfl, hb4⟩
    have HA4 := (HA3.alloc (.cells #[.slice C0 m0 e0, .slice C1 m1 e1, .slice C2 m2 e2] 25)).below hb4
    have HB4 := (HB3.alloc (.cells #[.slice C0 m0 e0, .slice C1 m1 e1, .slice C2 m2 e2] 25)).below hb4
    have HC4 := (hv3.alloc (.cells #[.slice C0 m0 e0, .slice C1 m1 e1, .slice C2 m2 e2] 25)).below hb4
    have X14 := (X13.alloc (.cells #[.slice C0 m0 e0, .slice C1 m1 e1, .slice C2 m2 e2] 25)).below hb4
    have X24 := (X23.alloc (.cells #[.slice C0 m0 e0, .slice C1 m1 e1, .slice C2 m2 e2] 25)).below hb4
    have X34 := ((Blk3.new w3 (.slice C0 m0 e0) (.slice C1 m1 e1) (.slice C2 m2 e2) 25)).below hb4
    obtain ⟨x140, x141, x142, _⟩ := X14.cells
    obtain ⟨x240, x241, x242, _⟩ := X24.cells
    obtain ⟨x340, x341, x342, _⟩ := X34.cells
    have B4 : Below w.heap.size w w4 := B3.trans (hb4.mono B3.size)
    clear E1
    have E2 := implHeapSame_any _ _ _ _ _ _ _ HB4 HC4
    rw [sameB_self'] at E2
    go_wp2_with fail
    refine E2.mono ?_; rintro e w5 ⟨rfl, hb5⟩
    go_wp2_with fail
    go_ret
    exact ⟨rfl, B4.trans (hb5.mono B4.size)⟩
  · rw [ho] at I S
    go_wp2_with fail
    refine (I _ _ (by exact HA.alloc _)).mono ?_; rintro e w2 ⟨v, rfl, hv2, hb2⟩
    simp only [Option.isSome_some, Option.getD_some] at hv2 ⊢
    obtain ⟨B0, k0, d0, B1, k1, d1, B2, k2, d2, rfl, ⟨br0, br1, br2⟩, ⟨bl0, bl1, bl2⟩, _⟩ := hv2.open_
    have z2 : w1.heap.size < w2.heap.size := by have := hb2.size; simp at this; omega
    have X12 := Blk3.below (by exact (Blk3.new w1 (.slice A0 n0 c0) (.slice A1 n1 c1) (.slice A2 n2 c2) 25)) hb2
    have HA2 := Hv.below (by exact HA.alloc (.cells #[.slice A0 n0 c0, .slice A1 n1 c1, .slice A2 n2 c2] 25)) hb2
    obtain ⟨x120, x121, x122, _⟩ := X12.cells
    go_wp2_with fail
    refine (S _ _ (by exact HA2.alloc _)).mono ?_; rintro e w3 ⟨v, rfl, hv3, hb3⟩
    simp only [Option.isSome_some, Option.getD_some] at hv3 ⊢
    obtain ⟨C0, m0, e0, C1, m1, e1, C2, m2, e2, rfl, _⟩ := hv3.open_
    have z3 : w2.heap.size < w3.heap.size := by have := hb3.size; simp at this; omega
    have X13 := Blk3.below (by exact X12.alloc (.cells #[.slice B0 k0 d0, .slice B1 k1 d1, .slice B2 k2 d2] 25)) hb3
    have X23 := Blk3.below (by exact (Blk3.new w2 (.slice B0 k0 d0) (.slice B1 k1 d1) (.slice B2 k2 d2) 25)) hb3
    have HA3 := Hv.below (by exact HA2.alloc (.cells #[.slice B0 k0 d0, .slice B1 k1 d1, .slice B2 k2 d2] 25)) hb3
    have HB3 := Hv.below (by exact hv2.alloc (.cells #[.slice B0 k0 d0, .slice B1 k1 d1, .slice B2 k2 d2] 25)) hb3
    obtain ⟨x130, x131, x132, _⟩ := X13.cells
    obtain ⟨x230, x231, x232, _⟩ := X23.cells
    have B3 : Below w.heap.size w (w3.alloc (.cells #[.slice C0 m0 e0, .slice C1 m1 e1, .slice C2 m2 e2] 25)) := below3 hb1 hb2 hb3
    have E1 := implHeapSame_any _ _ _ _ _ _ _ (HB3.alloc (.cells #[.slice C0 m0 e0, .slice C1 m1 e1, .slice C2 m2 e2] 25)) (hv3.alloc (.cells #[.slice C0 m0 e0, .slice C1 m1 e1, .slice C2 m2 e2] 25))
    rw [sameB_self'] at E1
    go_wp2_with fail
    refine E1.mono ?_; rintro e w4 ⟨rfl, hb4⟩
    have HA4 := (HA3.alloc (.cells #[.slice C0 m0 e0, .slice C1 m1 e1, .slice C2 m2 e2] 25)).below hb4
    have HB4 := (HB3.alloc (.cells #[.slice C0 m0 e0, .slice C1 m1 e1, .slice C2 m2 e2] 25)).below hb4
    have HC4 := (hv3.alloc (.cells #[.slice C0 m0 e0, .slice C1 m1 e1, .slice C2 m2 e2] 25)).below hb4
    have X14 := (X13.alloc (.cells #[.slice C0 m0 e0, .slice C1 m1 e1, .slice C2 m2 e2] 25)).below hb4
    have X24 := (X23.alloc (.cells #[.slice C0 m0 e0, .slice C1 m1 e1, .slice C2 m2 e2] 25)).below hb4
    have X34 := ((Blk3.new w3 (.slice C0 m0 e0) (.slice C1 m1 e1) (.slice C2 m2 e2) 25)).below hb4
    obtain ⟨x140, x141, x142, _⟩ := X14.cells
    obtain ⟨x240, x241, x242, _⟩ := X24.cells
    obtain ⟨x340, x341, x342, _⟩ := X34.cells
    have B4 : Below w.heap.size w w4 := B3.trans (hb4.mono B3.size)
    clear E1
    obtain ⟨h3, h4, e3, e4, e5, er, et⟩ := putBoth_facts ho
    have R := fun W lo V hh (hW : Hv W lo V hh) => implPutRight_any W lo V hh hW x y
    have L := fun W lo V hh (hW : Hv W lo V hh) => implPutLeft_any W lo V hh hW x y
    have R1 := R w4 _ _ _ HB4
    rw [e3] at R1
    have z4 : w3.heap.size < w4.heap.size := by have := hb4.size; simp at this; omega
    go_wp2_with fail
    refine R1.mono ?_; rintro e w5 ⟨v, rfl, hv5, hb5⟩
    obtain ⟨HD, D0, q0, j0, D1, q1, j1, D2, q2, j2, rfl, hb5'⟩ := opt_open hv5 hb5
    simp only [Option.isSome_some]
    obtain ⟨x150, x151, x152, _⟩ := (X14.below hb5).cells
    obtain ⟨x250, x251, x252, _⟩ := (X24.below hb5).cells
    have z5 := hb5.size
    have y5a : w1.heap.size < w5.heap.size := by omega
    have y5b : w2.heap.size < w5.heap.size := by omega
    have HA5 := (HA4.below hb5).alloc (.cells #[.slice D0 q0 j0, .slice D1 q1 j1, .slice D2 q2 j2] 25)
    have R2 := R _ _ _ _ HA5
    rw [e4] at R2
    go_wp2_with fail
    refine R2.mono ?_; rintro e w6 ⟨v, rfl, hv6, hb6⟩
    obtain ⟨HE, E0, p0, f0, E1, p1, f1, E2, p2, f2, rfl, hb6'⟩ := opt_open hv6 hb6
    simp only [Option.isSome_some]
    have z6 : w5.heap.size < w6.heap.size := by have := hb6.size; simp at this; omega
    have y6a : w1.heap.size < w6.heap.size := by omega
    have y6b : w2.heap.size < w6.heap.size := by omega
    have X16 := ((X14.below hb5).alloc (.cells #[.slice D0 q0 j0, .slice D1 q1 j1, .slice D2 q2 j2] 25)).below hb6
    have X26 := ((X24.below hb5).alloc (.cells #[.slice D0 q0 j0, .slice D1 q1 j1, .slice D2 q2 j2] 25)).below hb6
    have XD6 := ((Blk3.new w5 (.slice D0 q0 j0) (.slice D1 q1 j1) (.slice D2 q2 j2) 25)).below hb6
    obtain ⟨x160, x161, x162, _⟩ := X16.cells
    obtain ⟨x260, x261, x262, _⟩ := X26.cells
    obtain ⟨d60, d61, d62, _⟩ := XD6.cells
    have R3 := L _ _ _ _ (HE.alloc (.cells #[.slice E0 p0 f0, .slice E1 p1 f1, .slice E2 p2 f2] 25))
    rw [e5] at R3
    go_wp2_with fail
    refine R3.mono ?_; rintro e w7 ⟨v, rfl, hv7, hb7⟩
    obtain ⟨HG, G0, s0, o0, G1, s1, o1, G2, s2, o2, rfl, hb7'⟩ := opt_open hv7 hb7
    simp only [Option.isSome_some]
    have z7 : w6.heap.size < w7.heap.size := by have := hb7.size; simp at this; omega
    have y7a : w1.heap.size < w7.heap.size := by omega
    have y7b : w2.heap.size < w7.heap.size := by omega
    have y7c : w5.heap.size < w7.heap.size := by omega
    have X17 := (X16.alloc (.cells #[.slice E0 p0 f0, .slice E1 p1 f1, .slice E2 p2 f2] 25)).below hb7
    have X27 := (X26.alloc (.cells #[.slice E0 p0 f0, .slice E1 p1 f1, .slice E2 p2 f2] 25)).below hb7
    have XD7 := (XD6.alloc (.cells #[.slice E0 p0 f0, .slice E1 p1 f1, .slice E2 p2 f2] 25)).below hb7
    obtain ⟨x170, x171, x172, _⟩ := X17.cells
    obtain ⟨x270, x271, x272, _⟩ := X27.cells
    obtain ⟨d70, d71, d72, _⟩ := XD7.cells
    have HD7 := ((((HD.alloc (.cells #[.slice D0 q0 j0, .slice D1 q1 j1, .slice D2 q2 j2] 25)).below hb6).alloc (.cells #[.slice E0 p0 f0, .slice E1 p1 f1, .slice E2 p2 f2] 25)).below hb7).alloc (.cells #[.slice G0 s0 o0, .slice G1 s1 o1, .slice G2 s2 o2] 25)
    have HG7 := HG.alloc (.cells #[.slice G0 s0 o0, .slice G1 s1 o1, .slice G2 s2 o2] 25)
    have E8 := implHeapSame_any _ _ _ _ _ _ _ HD7 HG7
    rw [sameB_self'] at E8
    go_wp2_with fail
    refine E8.mono ?_; rintro e w8 ⟨rfl, hb8⟩
    obtain ⟨x180, x181, x182, _⟩ := ((X17.alloc (.cells #[.slice G0 s0 o0, .slice G1 s1 o1, .slice G2 s2 o2] 25)).below hb8).cells
    obtain ⟨x280, x281, x282, _⟩ := ((X27.alloc (.cells #[.slice G0 s0 o0, .slice G1 s1 o1, .slice G2 s2 o2] 25)).below hb8).cells
    have HA8 := ((((HA5.below hb6).alloc (.cells #[.slice E0 p0 f0, .slice E1 p1 f1, .slice E2 p2 f2] 25)).below hb7).alloc (.cells #[.slice G0 s0 o0, .slice G1 s1 o1, .slice G2 s2 o2] 25)).below hb8
    have HB8 := (((((((HB4.below hb5).alloc (.cells #[.slice D0 q0 j0, .slice D1 q1 j1, .slice D2 q2 j2] 25)).below hb6).alloc (.cells #[.slice E0 p0 f0, .slice E1 p1 f1, .slice E2 p2 f2] 25)).below hb7).alloc (.cells #[.slice G0 s0 o0, .slice G1 s1 o1, .slice G2 s2 o2] 25)).below hb8)
    obtain ⟨A0', n0', c0', A1', n1', c1', A2', n2', c2', eA, ⟨ar0, ar1, ar2⟩, ⟨al0, al1, al2⟩, ⟨am0, am1, am2⟩, _⟩ := HA8.open_
    cases eA
    obtain ⟨B0', k0', d0', B1', k1', d1', B2', k2', d2', eB, ⟨cr0, cr1, cr2⟩, ⟨cl0, cl1, cl2⟩, ⟨cm0, cm1, cm2⟩, _⟩ := HB8.open_
    cases eB
    have C1 := ccInts_any _ _ _ _ _ _ _ _ _ _ _ cr1 cl1.out cm1 ar1 al1.out am1
    rw [decide_eq_true er] at C1
    have C2 := fun nq => ccInts_any (w8.drewN nq) _ _ _ _ _ _ _ _ _ _ (cr2.drewN nq) cl2.out cm2 (ar2.drewN nq) al2.out am2
    rw [decide_eq_true et] at C2
    have B5 : Below w.heap.size w w5 := B4.trans (hb5.mono B4.size)
    have B6 : Below w.heap.size w w6 := (B5.alloc B5.size _).trans (hb6.mono (by have := B5.size; simp; omega))
    have B7 : Below w.heap.size w w7 := (B6.alloc B6.size _).trans (hb7.mono (by have := B6.size; simp; omega))
    have B8 : Below w.heap.size w w8 := (B7.alloc B7.size _).trans (hb8.mono (by have := B7.size; simp; omega))
    clear ho e3 e4 e5 er et I S R L
    go_wp2_with fail
    refine C1.mono ?_; rintro e w9 ⟨rfl, nq, rfl⟩
    go_wp2_with fail
    refine (C2 nq).mono ?_; rintro e w9 ⟨rfl, nq', rfl⟩
    go_wp2_with fail
    go_ret
    exact ⟨rfl, by repeat (first | exact B8 | refine below_drewN ?_ _)⟩
end Go.Proofs.Ytpngbiokoiipaaa
