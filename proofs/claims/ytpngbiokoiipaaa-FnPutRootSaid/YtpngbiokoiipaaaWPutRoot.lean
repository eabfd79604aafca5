/- The law FnPutRoot, walked. -/
import Derived.Test.YtpngbiokoiipaaaDPutRoot
import Derived.Test.YtpngbiokoiipaaaPure
import Derived.Test.YtpngbiokoiipaaaWLaw
namespace Go.Proofs.Ytpngbiokoiipaaa
open Go.RowKit

set_option maxRecDepth 100000 in
set_option maxHeartbeats 2000000 in
theorem lawPutRoot_walk (w : World) (A : Option Addr) (n c : Nat) (h : Inp w A n c) :
    Calls Try.prog 6 #[.slice A n c] w (LawTrue w) := by
  by_cases hbig : 1048576 < n
  · go_enter Try.func6, Try.ntmps6
    go_wp2_with fail
    go_ret
    exact ⟨rfl, Below.refl _ _⟩
  go_enter Try.func6, Try.ntmps6
  go_wp2_with fail
  refine (drawPutRoot_any _ _ _ _ h).mono ?_; rintro e w1 ⟨v, hp, x, y, rfl, HA, hb1⟩
  have I := fun W V hW => implPutRoot_any W w.heap.size V hp hW x y
  have S := fun W V hW => specPutRoot_any W w.heap.size V hp hW x y
  obtain ⟨A0, n0, c0, A1, n1, c1, A2, n2, c2, rfl, _⟩ := HA.open_
  rcases ho : putT hp x y with _ | h2
  · rw [ho] at I S
    go_wp2_with fail
    refine (I _ _ (by exact HA.alloc _)).mono ?_; rintro e w2 ⟨v, rfl, hv2, hb2⟩
    simp only [Option.isSome_none, Option.getD_none] at hv2 ⊢
    obtain ⟨B0, k0, d0, B1, k1, d1, B2, k2, d2, rfl, ⟨br0, br1, br2⟩, ⟨bl0, bl1, bl2⟩, _⟩ := hv2.open_
    have z2 : w1.heap.size < w2.heap.size := by have := hb2.size; simp at this; omega
    have X12 := Blk3.below (by exact (Blk3.new w1 (.slice A0 n0 c0) (.slice A1 n1 c1) (.slice A2 n2 c2) 25)) hb2
    have HA2 := Hv.below (by exact HA.alloc (.cells #[.slice A0 n0 c0, .slice A1 n1 c1, .slice A2 n2 c2] 25)) hb2
    obtain ⟨x120, x121, x122, _⟩ := X12.cells
    go_wp2_with fail
    refine (S _ _ (by exact HA2.alloc _)).mono ?_; rintro e w3 ⟨v, rfl, hv3, hb3⟩
    simp only [Option.isSome_none, Option.getD_none] at hv3 ⊢
    obtain ⟨C0, m0, e0, C1, m1, e1, C2, m2, e2, rfl, _⟩ := hv3.open_
    have z3 : w2.heap.size < w3.heap.size := by have := hb3.size; simp at this; omega
    have X13 := Blk3.below (by exact X12.alloc (.cells #[.slice B0 k0 d0, .slice B1 k1 d1, .slice B2 k2 d2] 25)) hb3
    have X23 := Blk3.below (by exact (Blk3.new w2 (.slice B0 k0 d0) (.slice B1 k1 d1) (.slice B2 k2 d2) 25)) hb3
    have HA3 := Hv.below (by exact HA2.alloc (.cells #[.slice B0 k0 d0, .slice B1 k1 d1, .slice B2 k2 d2] 25)) hb3
    have HB3 := Hv.below (by exact hv2.alloc (.cells #[.slice B0 k0 d0, .slice B1 k1 d1, .slice B2 k2 d2] 25)) hb3
    obtain ⟨x130, x131, x132, _⟩ := X13.cells
    obtain ⟨x230, x231, x232, _⟩ := X23.cells
    have B3 : Below w.heap.size w (w3.alloc (.cells #[.slice C0 m0 e0, .slice C1 m1 e1, .slice C2 m2 e2] 25)) := below3 hb1 hb2 hb3
    have E1 := implHeapSame_any _ _ _ _ _ _ _ (HB3.alloc (.cells #[.slice C0 m0 e0, .slice C1 m1 e1, .slice C2 m2 e2] 25)) (hv3.alloc (.cells #[.slice C0 m0 e0, .slice C1 m1 e1, .slice C2 m2 e2] 25))
    rw [sameB_self'] at E1
    go_wp2_with fail
    refine E1.mono ?_; rintro e w4 ⟨rfl, hb4⟩
    have HA4 := (HA3.alloc (.cells #[.slice C0 m0 e0, .slice C1 m1 e1, .slice C2 m2 e2] 25)).below hb4
    have HB4 := (HB3.alloc (.cells #[.slice C0 m0 e0, .slice C1 m1 e1, .slice C2 m2 e2] 25)).below hb4
    have HC4 := (hv3.alloc (.cells #[.slice C0 m0 e0, .slice C1 m1 e1, .slice C2 m2 e2] 25)).below hb4
    have X14 := (X13.alloc (.cells #[.slice C0 m0 e0, .slice C1 m1 e1, .slice C2 m2 e2] 25)).below hb4
    have X24 := (X23.alloc (.cells #[.slice C0 m0 e0, .slice C1 m1 e1, .slice C2 m2 e2] 25)).below hb4
    have X34 := ((Blk3.new w3 (.slice C0 m0 e0) (.slice C1 m1 e1) (.slice C2 m2 e2) 25)).below hb4
    obtain ⟨x140, x141, x142, _⟩ := X14.cells
    obtain ⟨x240, x241, x242, _⟩ := X24.cells
    obtain ⟨x340, x341, x342, _⟩ := X34.cells
    have B4 : Below w.heap.size w w4 := B3.trans (hb4.mono B3.size)
    clear E1
    have E2 := implHeapSame_any _ _ _ _ _ _ _ HB4 HC4
    rw [sameB_self'] at E2
    go_wp2_with fail
    refine E2.mono ?_; rintro e w5 ⟨rfl, hb5⟩
    go_wp2_with fail
    go_ret
    exact ⟨rfl, B4.trans (hb5.mono B4.size)⟩
  · rw [ho] at I S
    go_wp2_with fail
    refine (I _ _ (by exact HA.alloc _)).mono ?_; rintro e w2 ⟨v, rfl, hv2, hb2⟩
    simp only [Option.isSome_some, Option.getD_some] at hv2 ⊢
    obtain ⟨B0, k0, d0, B1, k1, d1, B2, k2, d2, rfl, ⟨br0, br1, br2⟩, ⟨bl0, bl1, bl2⟩, _⟩ := hv2.open_
    have z2 : w1.heap.size < w2.heap.size := by have := hb2.size; simp at this; omega
    have X12 := Blk3.below (by exact (Blk3.new w1 (.slice A0 n0 c0) (.slice A1 n1 c1) (.slice A2 n2 c2) 25)) hb2
    have HA2 := Hv.below (by exact HA.alloc (.cells #[.slice A0 n0 c0, .slice A1 n1 c1, .slice A2 n2 c2] 25)) hb2
    obtain ⟨x120, x121, x122, _⟩ := X12.cells
    go_wp2_with fail
    refine (S _ _ (by exact HA2.alloc _)).mono ?_; rintro e w3 ⟨v, rfl, hv3, hb3⟩
    simp only [Option.isSome_some, Option.getD_some] at hv3 ⊢
    obtain ⟨C0, m0, e0, C1, m1, e1, C2, m2, e2, rfl, _⟩ := hv3.open_
    have z3 : w2.heap.size < w3.heap.size := by have := hb3.size; simp at this; omega
    have X13 := Blk3.below (by exact X12.alloc (.cells #[.slice B0 k0 d0, .slice B1 k1 d1, .slice B2 k2 d2] 25)) hb3
    have X23 := Blk3.below (by exact (Blk3.new w2 (.slice B0 k0 d0) (.slice B1 k1 d1) (.slice B2 k2 d2) 25)) hb3
    have HA3 := Hv.below (by exact HA2.alloc (.cells #[.slice B0 k0 d0, .slice B1 k1 d1, .slice B2 k2 d2] 25)) hb3
    have HB3 := Hv.below (by exact hv2.alloc (.cells #[.slice B0 k0 d0, .slice B1 k1 d1, .slice B2 k2 d2] 25)) hb3
    obtain ⟨x130, x131, x132, _⟩ := X13.cells
    obtain ⟨x230, x231, x232, _⟩ := X23.cells
    have B3 : Below w.heap.size w (w3.alloc (.cells #[.slice C0 m0 e0, .slice C1 m1 e1, .slice C2 m2 e2] 25)) := below3 hb1 hb2 hb3
    have E1 := implHeapSame_any _ _ _ _ _ _ _ (HB3.alloc (.cells #[.slice C0 m0 e0, .slice C1 m1 e1, .slice C2 m2 e2] 25)) (hv3.alloc (.cells #[.slice C0 m0 e0, .slice C1 m1 e1, .slice C2 m2 e2] 25))
    rw [sameB_self'] at E1
    go_wp2_with fail
    refine E1.mono ?_; rintro e w4 ⟨rfl, hb4⟩
    have HA4 := (HA3.alloc (.cells #[.slice C0 m0 e0, .slice C1 m1 e1, .slice C2 m2 e2] 25)).below hb4
    have HB4 := (HB3.alloc (.cells #[.slice C0 m0 e0, .slice C1 m1 e1, .slice C2 m2 e2] 25)).below hb4
    have HC4 := (hv3.alloc (.cells #[.slice C0 m0 e0, .slice C1 m1 e1, .slice C2 m2 e2] 25)).below hb4
    have X14 := (X13.alloc (.cells #[.slice C0 m0 e0, .slice C1 m1 e1, .slice C2 m2 e2] 25)).below hb4
    have X24 := (X23.alloc (.cells #[.slice C0 m0 e0, .slice C1 m1 e1, .slice C2 m2 e2] 25)).below hb4
    have X34 := ((Blk3.new w3 (.slice C0 m0 e0) (.slice C1 m1 e1) (.slice C2 m2 e2) 25)).below hb4
    obtain ⟨x140, x141, x142, _⟩ := X14.cells
    obtain ⟨x240, x241, x242, _⟩ := X24.cells
    obtain ⟨x340, x341, x342, _⟩ := X34.cells
    have B4 : Below w.heap.size w w4 := B3.trans (hb4.mono B3.size)
    clear E1
    obtain ⟨hva, k, rfl, hk, hpt, hh2⟩ := putT_some ho
    have hval := putT_valid ho
    have hl := hvB_len hva
    obtain ⟨A0', n0', c0', A1', n1', c1', A2', n2', c2', eA, ⟨ar0, ar1, ar2⟩, ⟨al0, al1, al2⟩, _⟩ := HA4.open_
    cases eA
    obtain ⟨B0', k0', d0', B1', k1', d1', B2', k2', d2', eB, ⟨cr0, cr1, cr2⟩, ⟨cl0, cl1, cl2⟩, _⟩ := HB4.open_
    cases eB
    have hkn : k < n2 := by have := al2.out; omega
    obtain ⟨g, u, rfl, _, hgw4, hu, hcell, _⟩ := ar2.get (k := k) hk
    have hback := putT_back ho (by simpa using hu.out)
    have hk2 : k < h2.t.length := by rw [hh2]; simpa using hk
    have hkk : k < k2 := by have := cl2.out; omega
    obtain ⟨g', u', rfl, _, hgw4', hu', hcell', _⟩ := cr2.get (k := k) hk2
    have huy : u' = y := by
      have := hu'.out; rw [hh2] at this; simp [hk] at this; exact this.symm
    subst huy
    have J := fun W lo V (hW : Hv W lo V h2) => implPutRoot_any W lo V h2 hW k u
    rw [hback] at J
    have hki : (k : Int) < (n2 : Int) := by omega
    have hki' : (k : Int) < (k2 : Int) := by omega
    clear ho hh2 hu hu' hback hk hk2 hpt hl I S
    go_wp2_with fail
    have nb1 : w4.heap.size ≠ w1.heap.size := by have := hb4.size; simp at this; omega
    have nb2 : w4.heap.size ≠ w2.heap.size := by have := hb4.size; simp at this; omega
    have nbg : w4.heap.size ≠ g := by omega
    go_region_held3 (fun w' => w'.cell? ⟨w1.heap.size, 2, none⟩ = some (.slice (some ⟨g, 0, none⟩) n2 c2) ∧ w'.cell? ⟨g, k, none⟩ = some (.int .i64 u) ∧ w'.cell? ⟨w2.heap.size, 0, none⟩ = some (.slice B0 k0 d0) ∧ w'.cell? ⟨w2.heap.size, 1, none⟩ = some (.slice B1 k1 d1) ∧ w'.cell? ⟨w2.heap.size, 2, none⟩ = some (.slice (some ⟨g', 0, none⟩) k2 d2))
      (((try dsimp only); (repeat' apply And.intro) <;> (with_reducible (first | exact x142 | exact hcell | exact x240 | exact x241 | exact x242 | exact cellD x142 | exact cellD hcell | exact cellD x240 | exact cellD x241 | exact cellD x242 | exact cellD (cellA x142 _) | exact cellD (cellA hcell _) | exact cellD (cellA x240 _) | exact cellD (cellA x241 _) | exact cellD (cellA x242 _) | exact y52 | exact hcell5 | exact x250 | exact x251 | exact x252 | exact cellA y52 _ | exact cellA hcell5 _ | exact cellA x250 _ | exact cellA x251 _ | exact cellA x252 _ | (rw [World.cell?_setCell_far _ _ _ _ (by exact nb1), World.cell?_setCell_far _ _ _ _ (by exact nb1), World.cell?_setCell_far _ _ _ _ (by exact nb1)]; exact y52) | (rw [World.cell?_setCell_far _ _ _ _ (by exact nbg), World.cell?_setCell_far _ _ _ _ (by exact nbg), World.cell?_setCell_far _ _ _ _ (by exact nbg)]; exact hcell5) | (rw [World.cell?_setCell_far _ _ _ _ (by exact nb2), World.cell?_setCell_far _ _ _ _ (by exact nb2), World.cell?_setCell_far _ _ _ _ (by exact nb2)]; first | exact x250 | exact x251 | exact x252)))))
      (first
        | (go_at_call 31; (with_reducible refine (J _ _ _ HB4.drew).mono ?_); rintro e w5 ⟨v, rfl, hv5, hb5⟩; obtain ⟨hD, D0, q0, j0, D1, q1, j1, D2, q2, j2, rfl, hb5'⟩ := opt_open hv5 hb5; have X15 := Blk3.below (by exact X14) hb5'; have X25 := Blk3.below (by exact X24) hb5'; have hcell5 : w5.cell? ⟨g, k, none⟩ = some (.int .i64 u) := (hb5'.cell (p := ⟨g, k, none⟩) (by exact hgw4)).trans (by exact hcell); obtain ⟨y50, y51, y52, _⟩ := X15.cells; obtain ⟨x250, x251, x252, _⟩ := X25.cells)
        | (go_at_call 31; (with_reducible refine (J _ _ _ (HB4.alloc (.cells #[.slice none 0 0, .slice none 0 0, .slice none 0 0] 25)).drew).mono ?_); rintro e w5 ⟨v, rfl, hv5, hb5⟩; obtain ⟨hD, D0, q0, j0, D1, q1, j1, D2, q2, j2, rfl, hb5'⟩ := opt_open hv5 hb5; have X15 := Blk3.below (by exact X14.alloc (.cells #[.slice none 0 0, .slice none 0 0, .slice none 0 0] 25)) hb5'; have X25 := Blk3.below (by exact X24.alloc (.cells #[.slice none 0 0, .slice none 0 0, .slice none 0 0] 25)) hb5'; have hcell5 : w5.cell? ⟨g, k, none⟩ = some (.int .i64 u) := (hb5'.cell (p := ⟨g, k, none⟩) (lt_alloc hgw4 _)).trans (by exact cellA hcell _); obtain ⟨y50, y51, y52, _⟩ := X15.cells; obtain ⟨x250, x251, x252, _⟩ := X25.cells; have Z5 := Blk3.below (by exact Blk3.new w4 (.slice none 0 0) (.slice none 0 0) (.slice none 0 0) 25) hb5'; obtain ⟨zz0, zz1, zz2, zf0, zf1, zf2⟩ := Z5.cells))
    · have B45 : Below w4.heap.size w4 w5 := (Below.refl _ _).drew.trans hb5'
      have B46 : Below w4.heap.size w4 (w5.alloc (.cells #[.slice D0 q0 j0, .slice D1 q1 j1, .slice D2 q2 j2] 25)) := B45.alloc B45.size _
      have hD6 := hD.alloc (.cells #[.slice D0 q0 j0, .slice D1 q1 j1, .slice D2 q2 j2] 25)
      have Z6 := Blk3.new w5 (.slice D0 q0 j0) (.slice D1 q1 j1) (.slice D2 q2 j2) 25
      rename_i hHeld
      clear hHeld
      generalize (w5.alloc (.cells #[.slice D0 q0 j0, .slice D1 q1 j1, .slice D2 q2 j2] 25)) = W6 at B46 hD6 Z6 ⊢
      have B6 : Below w.heap.size w W6 := B4.trans (B46.mono B4.size)
      have X16 := X14.below B46
      have X26 := X24.below B46
      have HA6 := HA4.below B46
      have HB6 := HB4.below B46
      have hc6 : W6.cell? ⟨g', k, none⟩ = some (.int .i64 u') := (B46.cell (p := ⟨g', k, none⟩) hgw4').trans hcell'
      obtain ⟨x160, x161, x162, _⟩ := X16.cells
      obtain ⟨x260, x261, x262, _⟩ := X26.cells
      obtain ⟨z60, z61, z62, _⟩ := Z6.cells
      have V := implHeapValid_any _ _ _ _ HB6
      rw [hval] at V
      go_wp2_with fail
      refine V.mono ?_; rintro e w7 ⟨rfl, hb7⟩
      obtain ⟨x170, x171, x172, _⟩ := (X16.below hb7).cells
      obtain ⟨x270, x271, x272, _⟩ := (X26.below hb7).cells
      obtain ⟨z70, z71, z72, _⟩ := (Z6.below hb7).cells
      have hc7 : w7.cell? ⟨g', k, none⟩ = some (.int .i64 u') := (hb7.cell (p := ⟨g', k, none⟩) (Nat.lt_of_lt_of_le hgw4' B46.size)).trans hc6
      have E7 := implHeapSame_any _ _ _ _ _ _ _ (hD6.below hb7) (HA6.below hb7)
      rw [sameB_self'] at E7
      go_wp2_with fail
      refine E7.mono ?_; rintro e w8 ⟨rfl, hb8⟩
      go_wp2_with fail
      go_ret
      exact ⟨rfl, (B6.trans (hb7.mono B6.size)).trans (hb8.mono (Nat.le_trans B6.size hb7.size))⟩
    · have B45 : Below w4.heap.size w4 w5 := ((Below.refl _ _).alloc (Nat.le_refl _) (.cells #[.slice none 0 0, .slice none 0 0, .slice none 0 0] 25)).drew.trans (hb5'.mono (by simp))
      have B46 : Below w4.heap.size w4 (((w5.setCell ⟨w4.heap.size, 0, none⟩ (.slice D0 q0 j0)).setCell ⟨w4.heap.size, 1, none⟩ (.slice D1 q1 j1)).setCell ⟨w4.heap.size, 2, none⟩ (.slice D2 q2 j2)) := ((B45.setCell (Nat.le_refl _) _).setCell (Nat.le_refl _) _).setCell (Nat.le_refl _) _
      have hD6 := hv_set3 (b := w4.heap.size) hD (by simp) (.slice D0 q0 j0) (.slice D1 q1 j1) (.slice D2 q2 j2)
      have Z6 := ((Z5.set0 (.slice D0 q0 j0)).set1 (.slice D1 q1 j1)).set2 (.slice D2 q2 j2)
      rename_i hHeld
      clear hHeld zz0 zz1 zz2 zf0 zf1 zf2
      generalize (((w5.setCell ⟨w4.heap.size, 0, none⟩ (.slice D0 q0 j0)).setCell ⟨w4.heap.size, 1, none⟩ (.slice D1 q1 j1)).setCell ⟨w4.heap.size, 2, none⟩ (.slice D2 q2 j2)) = W6 at B46 hD6 Z6 ⊢
      have B6 : Below w.heap.size w W6 := B4.trans (B46.mono B4.size)
      have X16 := X14.below B46
      have X26 := X24.below B46
      have HA6 := HA4.below B46
      have HB6 := HB4.below B46
      have hc6 : W6.cell? ⟨g', k, none⟩ = some (.int .i64 u') := (B46.cell (p := ⟨g', k, none⟩) hgw4').trans hcell'
      obtain ⟨x160, x161, x162, _⟩ := X16.cells
      obtain ⟨x260, x261, x262, _⟩ := X26.cells
      obtain ⟨z60, z61, z62, _⟩ := Z6.cells
      have V := implHeapValid_any _ _ _ _ HB6
      rw [hval] at V
      go_wp2_with fail
      refine V.mono ?_; rintro e w7 ⟨rfl, hb7⟩
      obtain ⟨x170, x171, x172, _⟩ := (X16.below hb7).cells
      obtain ⟨x270, x271, x272, _⟩ := (X26.below hb7).cells
      obtain ⟨z70, z71, z72, _⟩ := (Z6.below hb7).cells
      have hc7 : w7.cell? ⟨g', k, none⟩ = some (.int .i64 u') := (hb7.cell (p := ⟨g', k, none⟩) (Nat.lt_of_lt_of_le hgw4' B46.size)).trans hc6
      have E7 := implHeapSame_any _ _ _ _ _ _ _ (hD6.below hb7) (HA6.below hb7)
      rw [sameB_self'] at E7
      go_wp2_with fail
      refine E7.mono ?_; rintro e w8 ⟨rfl, hb8⟩
      go_wp2_with fail
      go_ret
      exact ⟨rfl, (B6.trans (hb7.mono B6.size)).trans (hb8.mono (Nat.le_trans B6.size hb7.size))⟩
end Go.Proofs.Ytpngbiokoiipaaa
