/- The law FnPutRootOthers, walked. -/
import Derived.Test.YtpngbiokoiipaaaDPutRoot
import Derived.Test.YtpngbiokoiipaaaPure
import Derived.Test.YtpngbiokoiipaaaWLaw
import Derived.Test.YtpngbiokoiipaaaCc
import Derived.Test.YtpngbiokoiipaaaCount
namespace Go.Proofs.Ytpngbiokoiipaaa
open Go.RowKit

theorem cntN_cons (x : Int) (l : List Int) : cntN (x :: l) = (if x = -1 then 0 else 1) + cntN l := by
  unfold cntN; by_cases h : x = -1 <;> simp [h]; omega
theorem cntN_set (l : List Int) (k : Nat) (y : Int) : -1 ≤ cntN (l.set k y) - cntN l ∧ cntN (l.set k y) - cntN l ≤ 1 := by
  induction l generalizing k with
  | nil => simp
  | cons x l ih =>
    cases k with
    | zero => rw [List.set_cons_zero, cntN_cons, cntN_cons]; split <;> split <;> omega
    | succ k => rw [List.set_cons_succ, cntN_cons, cntN_cons]; have := ih k; omega
theorem cntH_bd (h : Hp) : 0 ≤ cntH h ∧ cntH h ≤ 19 := by
  unfold cntH
  split
  · rename_i hv
    have := hvB_len hv
    have a := cntN_bd h.l
    have b := cntN_bd h.r
    have c := cntN_bd h.t
    omega
  · omega
theorem putT_counts {h h2 : Hp} {x y : Int} (e : putT h x y = some h2) : h2.l = h.l ∧ h2.r = h.r ∧ (0 ≤ cntH h ∧ cntH h ≤ 19) ∧ (0 ≤ cntH h2 ∧ cntH h2 ≤ 19) ∧ -1 ≤ cntH h2 - cntH h ∧ cntH h2 - cntH h ≤ 1 := by
  have hv2 := putT_valid e
  have b1 := cntH_bd h
  have b2 := cntH_bd h2
  obtain ⟨hv, k, rfl, hk, ht, rfl⟩ := putT_some e
  have c := cntN_set h.t k y
  have e1 : cntH h = cntN h.l + cntN h.r + cntN h.t := by unfold cntH; rw [if_pos hv]
  have e2 : cntH ⟨h.l, h.r, h.t.set k y⟩ = cntN h.l + cntN h.r + cntN (h.t.set k y) := by unfold cntH; rw [if_pos hv2]
  refine ⟨rfl, rfl, b1, b2, ?_, ?_⟩ <;> rw [e1, e2] <;> omega

set_option maxRecDepth 100000 in
set_option maxHeartbeats 2000000 in
theorem lawPutRootOthers_walk (w : World) (A : Option Addr) (n c : Nat) (h : Inp w A n c) :
    Calls Try.prog 12 #[.slice A n c] w (LawTrue w) := by
  by_cases hbig : 1048576 < n
  · go_enter Try.func12, Try.ntmps12
    go_wp2_with fail
    go_ret
    exact ⟨rfl, Below.refl _ _⟩
  go_enter Try.func12, Try.ntmps12
  go_wp2_with fail
  refine (drawPutRoot_any _ _ _ _ h).mono ?_; rintro e w1 ⟨v, hp, x, y, rfl, HA, hb1⟩
  have I := fun W V hW => implPutRoot_any W w.heap.size V hp hW x y
  have S := fun W V hW => specPutRoot_any W w.heap.size V hp hW x y
  obtain ⟨A0, n0, c0, A1, n1, c1, A2, n2, c2, rfl, _⟩ := HA.open_
  rcases ho : putT hp x y with _ | h2
  · rw [ho] at I S
    go_wp2_with fail
    refine (I _ _ (by exact HA.alloc _)).mono ?_; rintro e w2 ⟨v, rfl, hv2, hb2⟩
    simp only [Option.isSome_none, Option.getD_none] at hv2 ⊢
    obtain ⟨B0, k0, d0, B1, k1, d1, B2, k2, d2, rfl, ⟨br0, br1, br2⟩, ⟨bl0, bl1, bl2⟩, _⟩ := hv2.open_
    have z2 : w1.heap.size < w2.heap.size := by have := hb2.size; simp at this; omega
    have X12 := Blk3.below (by exact (Blk3.new w1 (.slice A0 n0 c0) (.slice A1 n1 c1) (.slice A2 n2 c2) 25)) hb2
    have HA2 := Hv.below (by exact HA.alloc (.cells #[.slice A0 n0 c0, .slice A1 n1 c1, .slice A2 n2 c2] 25)) hb2
    obtain ⟨x120, x121, x122, _⟩ := X12.cells
    go_wp2_with fail
    refine (S _ _ (by exact HA2.alloc _)).mono ?_; rintro e w3 ⟨v, rfl, hv3, hb3⟩
    simp only [Option.isSome_none, Option.getD_none] at hv3 ⊢
    obtain ⟨C0, m0, e0, C1, m1, e1, C2, m2, e2, rfl, _⟩ := hv3.open_
    have z3 : w2.heap.size < w3.heap.size := by have := hb3.size; simp at this; omega
    have X13 := Blk3.below (by exact X12.alloc (.cells #[.slice B0 k0 d0, .slice B1 k1 d1, .slice B2 k2 d2] 25)) hb3
    have X23 := Blk3.below (by exact (Blk3.new w2 (.slice B0 k0 d0) (.slice B1 k1 d1) (.slice B2 k2 d2) 25)) hb3
    have HA3 := Hv.below (by exact HA2.alloc (.cells #[.slice B0 k0 d0, .slice B1 k1 d1, .slice B2 k2 d2] 25)) hb3
    have HB3 := Hv.below (by exact hv2.alloc (.cells #[.slice B0 k0 d0, .slice B1 k1 d1, .slice B2 k2 d2] 25)) hb3
    obtain ⟨x130, x131, x132, _⟩ := X13.cells
    obtain ⟨x230, x231, x232, _⟩ := X23.cells
    have B3 : Below w.heap.size w (w3.alloc (.cells #[.slice C0 m0 e0, .slice C1 m1 e1, .slice C2 m2 e2] 25)) := below3 hb1 hb2 hb3
    have E1 := implHeapSame_any _ _ _ _ _ _ _ (HB3.alloc (.cells #[.slice C0 m0 e0, .slice C1 m1 e1, .slice C2 m2 e2] 25)) (hv3.alloc (.cells #[.slice C0 m0 e0, .slice C1 m1 e1, .slice C2 m2 e2] 25))
    rw [sameB_self'] at E1
    go_wp2_with fail
    refine E1.mono ?_; rintro e w4 ⟨rfl, hb4⟩
    have HA4 := (HA3.alloc (.cells #[.slice C0 m0 e0, .slice C1 m1 e1, .slice C2 m2 e2] 25)).below hb4
    have HB4 := (HB3.alloc (.cells #[.slice C0 m0 e0, .slice C1 m1 e1, .slice C2 m2 e2] 25)).below hb4
    have HC4 := (hv3.alloc (.cells #[.slice C0 m0 e0, .slice C1 m1 e1, .slice C2 m2 e2] 25)).below hb4
    have X14 := (X13.alloc (.cells #[.slice C0 m0 e0, .slice C1 m1 e1, .slice C2 m2 e2] 25)).below hb4
    have X24 := (X23.alloc (.cells #[.slice C0 m0 e0, .slice C1 m1 e1, .slice C2 m2 e2] 25)).below hb4
    have X34 := ((Blk3.new w3 (.slice C0 m0 e0) (.slice C1 m1 e1) (.slice C2 m2 e2) 25)).below hb4
    obtain ⟨x140, x141, x142, _⟩ := X14.cells
    obtain ⟨x240, x241, x242, _⟩ := X24.cells
    obtain ⟨x340, x341, x342, _⟩ := X34.cells
    have B4 : Below w.heap.size w w4 := B3.trans (hb4.mono B3.size)
    clear E1
    have E2 := implHeapSame_any _ _ _ _ _ _ _ HB4 HC4
    rw [sameB_self'] at E2
    go_wp2_with fail
    refine E2.mono ?_; rintro e w5 ⟨rfl, hb5⟩
    go_wp2_with fail
    go_ret
    exact ⟨rfl, B4.trans (hb5.mono B4.size)⟩
  · rw [ho] at I S
    go_wp2_with fail
    refine (I _ _ (by exact HA.alloc _)).mono ?_; rintro e w2 ⟨v, rfl, hv2, hb2⟩
    simp only [Option.isSome_some, Option.getD_some] at hv2 ⊢
    obtain ⟨B0, k0, d0, B1, k1, d1, B2, k2, d2, rfl, ⟨br0, br1, br2⟩, ⟨bl0, bl1, bl2⟩, _⟩ := hv2.open_
    have z2 : w1.heap.size < w2.heap.size := by have := hb2.size; simp at this; omega
    have X12 := Blk3.below (by exact (Blk3.new w1 (.slice A0 n0 c0) (.slice A1 n1 c1) (.slice A2 n2 c2) 25)) hb2
    have HA2 := Hv.below (by exact HA.alloc (.cells #[.slice A0 n0 c0, .slice A1 n1 c1, .slice A2 n2 c2] 25)) hb2
    obtain ⟨x120, x121, x122, _⟩ := X12.cells
    go_wp2_with fail
    refine (S _ _ (by exact HA2.alloc _)).mono ?_; rintro e w3 ⟨v, rfl, hv3, hb3⟩
    simp only [Option.isSome_some, Option.getD_some] at hv3 ⊢
    obtain ⟨C0, m0, e0, C1, m1, e1, C2, m2, e2, rfl, _⟩ := hv3.open_
    have z3 : w2.heap.size < w3.heap.size := by have := hb3.size; simp at this; omega
    have X13 := Blk3.below (by exact X12.alloc (.cells #[.slice B0 k0 d0, .slice B1 k1 d1, .slice B2 k2 d2] 25)) hb3
    have X23 := Blk3.below (by exact (Blk3.new w2 (.slice B0 k0 d0) (.slice B1 k1 d1) (.slice B2 k2 d2) 25)) hb3
    have HA3 := Hv.below (by exact HA2.alloc (.cells #[.slice B0 k0 d0, .slice B1 k1 d1, .slice B2 k2 d2] 25)) hb3
    have HB3 := Hv.below (by exact hv2.alloc (.cells #[.slice B0 k0 d0, .slice B1 k1 d1, .slice B2 k2 d2] 25)) hb3
    obtain ⟨x130, x131, x132, _⟩ := X13.cells
    obtain ⟨x230, x231, x232, _⟩ := X23.cells
    have B3 : Below w.heap.size w (w3.alloc (.cells #[.slice C0 m0 e0, .slice C1 m1 e1, .slice C2 m2 e2] 25)) := below3 hb1 hb2 hb3
    have E1 := implHeapSame_any _ _ _ _ _ _ _ (HB3.alloc (.cells #[.slice C0 m0 e0, .slice C1 m1 e1, .slice C2 m2 e2] 25)) (hv3.alloc (.cells #[.slice C0 m0 e0, .slice C1 m1 e1, .slice C2 m2 e2] 25))
    rw [sameB_self'] at E1
    go_wp2_with fail
    refine E1.mono ?_; rintro e w4 ⟨rfl, hb4⟩
    have HA4 := (HA3.alloc (.cells #[.slice C0 m0 e0, .slice C1 m1 e1, .slice C2 m2 e2] 25)).below hb4
    have HB4 := (HB3.alloc (.cells #[.slice C0 m0 e0, .slice C1 m1 e1, .slice C2 m2 e2] 25)).below hb4
    have HC4 := (hv3.alloc (.cells #[.slice C0 m0 e0, .slice C1 m1 e1, .slice C2 m2 e2] 25)).below hb4
    have X14 := (X13.alloc (.cells #[.slice C0 m0 e0, .slice C1 m1 e1, .slice C2 m2 e2] 25)).below hb4
    have X24 := (X23.alloc (.cells #[.slice C0 m0 e0, .slice C1 m1 e1, .slice C2 m2 e2] 25)).below hb4
    have X34 := ((Blk3.new w3 (.slice C0 m0 e0) (.slice C1 m1 e1) (.slice C2 m2 e2) 25)).below hb4
    obtain ⟨x140, x141, x142, _⟩ := X14.cells
    obtain ⟨x240, x241, x242, _⟩ := X24.cells
    obtain ⟨x340, x341, x342, _⟩ := X34.cells
    have B4 : Below w.heap.size w w4 := B3.trans (hb4.mono B3.size)
    clear E1
    obtain ⟨el, er, ⟨cb0, cb1⟩, ⟨ca0, ca1⟩, cd0, cd1⟩ := putT_counts ho
    have K := fun W lo V hh (hW : Hv W lo V hh) => implCount_any W lo V hh hW
    have K1 := fun W lo V (hW : Hv W lo V h2) => K W lo V h2 hW
    have K2 := fun W lo V (hW : Hv W lo V hp) => K W lo V hp hW
    clear K
    generalize cntH h2 = ca at *
    generalize cntH hp = cb at *
    obtain ⟨A0', n0', c0', A1', n1', c1', A2', n2', c2', eA, ⟨ar0, ar1, ar2⟩, ⟨al0, al1, al2⟩, ⟨am0, am1, am2⟩, _⟩ := HA4.open_
    cases eA
    obtain ⟨B0', k0', d0', B1', k1', d1', B2', k2', d2', eB, ⟨cr0, cr1, cr2⟩, ⟨cl0, cl1, cl2⟩, ⟨cm0, cm1, cm2⟩, _⟩ := HB4.open_
    cases eB
    have sW : IntKind.i64.wrap (ca - cb) = ca - cb := IntWalk.i64_in _ (by omega)
    have D1 := fun W lo lo' q r => ccInts_any W lo lo' B0 A0 k0 d0 n0 c0 h2.l hp.l q cl0.out cm0 r al0.out am0
    have D2 := fun W lo lo' q r => ccInts_any W lo lo' B1 A1 k1 d1 n1 c1 h2.r hp.r q cl1.out cm1 r al1.out am1
    rw [decide_eq_true el] at D1
    rw [decide_eq_true er] at D2
    clear ho el er I S
    go_wp2_with fail
    go_region_held3 (fun w' => w'.cell? ⟨w2.heap.size, 0, none⟩ = some (.slice B0 k0 d0) ∧ w'.cell? ⟨w2.heap.size, 1, none⟩ = some (.slice B1 k1 d1) ∧ w'.cell? ⟨w2.heap.size, 2, none⟩ = some (.slice B2 k2 d2) ∧ w'.cell? ⟨w1.heap.size, 0, none⟩ = some (.slice A0 n0 c0) ∧ w'.cell? ⟨w1.heap.size, 1, none⟩ = some (.slice A1 n1 c1) ∧ w'.cell? ⟨w1.heap.size, 2, none⟩ = some (.slice A2 n2 c2))
      (((try dsimp only); (repeat' apply And.intro) <;> (with_reducible (first | exact x240 | exact x241 | exact x242 | exact x140 | exact x141 | exact x142 | exact cellD x240 | exact cellD x241 | exact cellD x242 | exact cellD x140 | exact cellD x141 | exact cellD x142 | exact y240 | exact y241 | exact y242 | exact y140 | exact y141 | exact y142 | exact z240 | exact z241 | exact z242 | exact z140 | exact z141 | exact z142))))
      (first
        | (go_at_call 34; (with_reducible refine (K1 _ _ _ HB4.drew).mono ?_); rintro e w5 ⟨rfl, hb5⟩; have X15 := Blk3.below (by exact X14) hb5; have X25 := Blk3.below (by exact X24) hb5; obtain ⟨y140, y141, y142, _⟩ := X15.cells; obtain ⟨y240, y241, y242, _⟩ := X25.cells)
        | (go_at_call 34; (with_reducible refine (K2 _ _ _ (HA4.drew.below hb5)).mono ?_); rintro e w6 ⟨rfl, hb6⟩; have X16 := X15.below hb6; have X26 := X25.below hb6; obtain ⟨z140, z141, z142, _⟩ := X16.cells; obtain ⟨z240, z241, z242, _⟩ := X26.cells))
    rename_i hHeld
    clear hHeld sW y140 y141 y142 y240 y241 y242
    have q1 : -1 ≤ ca - cb := cd0
    have q2 : ca - cb ≤ 1 := cd1
    have B5 : Below w.heap.size w w5 := B4.drew.trans (hb5.mono B4.size)
    have B6 : Below w.heap.size w w6 := B5.trans (hb6.mono B5.size)
    have C1 := D1 w6 _ _ ((cr0.drew.below hb5).below hb6) ((ar0.drew.below hb5).below hb6)
    have C2 := fun nq => D2 (w6.drewN nq) _ _ (((cr1.drew.below hb5).below hb6).drewN nq) (((ar1.drew.below hb5).below hb6).drewN nq)
    go_wp2_with fail
    refine C1.mono ?_; rintro e w9 ⟨rfl, nq, rfl⟩
    go_wp2_with fail
    refine (C2 nq).mono ?_; rintro e w9 ⟨rfl, nq', rfl⟩
    go_wp2_with fail
    go_ret
    exact ⟨rfl, by repeat (first | exact B6 | refine below_drewN ?_ _)⟩
end Go.Proofs.Ytpngbiokoiipaaa
