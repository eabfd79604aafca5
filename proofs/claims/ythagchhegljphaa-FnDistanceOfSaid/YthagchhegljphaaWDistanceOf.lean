/- The law FnDistanceOf, walked. -/
import Derived.Test.YthagchhegljphaaDDistanceOf
import Derived.Test.YthagchhegljphaaDstO
import Derived.Test.YthagchhegljphaaReach
import Derived.Test.YthagchhegljphaaLive
import Derived.Test.YthagchhegljphaaFar
import Derived.Test.YthagchhegljphaaWLaw
namespace Go.Proofs.Ythagchhegljphaa
open Go.RowKit

theorem dst_facts {h : Hp} {c : Int} (hok : dokB h c = true) : ∃ kc : Nat, c = kc ∧ kc < h.l.length ∧ hvB h = true ∧ 1 ≤ dstN h c ∧ dstN h c ≤ cntB (liveL h) ∧ (liveL h)[kc]? = some true ∧
    ∀ u, h.l[kc]? = some u → u ≠ -1 → dokB h u = true ∧ dstN h u ≤ dstN h c + 1 := by
  have hd : dstN h c = gd (dist h h.t) c := by unfold dstN; rw [if_pos hok]
  have hok2 := hok
  unfold dokB at hok2
  rw [Bool.and_eq_true, Bool.and_eq_true, decide_eq_true_eq] at hok2
  obtain ⟨⟨hv, hpl⟩, hg⟩ := hok2
  obtain ⟨kc, rfl, hkc⟩ := plB_nat hpl
  obtain ⟨_, h3, _, h5⟩ := hvB_parts hv
  obtain ⟨b1, b2⟩ := dist_bounds hv (by omega) hg
  have hkl : kc < (liveL h).length := by rw [liveL_len hv]; exact hkc
  have hb := live_get hv (k := kc) (b := (liveL h)[kc]) (List.getElem?_eq_getElem hkl)
  refine ⟨kc, rfl, hkc, hv, by rw [hd]; exact b1, by rw [hd]; exact b2, by rw [List.getElem?_eq_getElem hkl, hb]; simpa using hg, fun u hu hne => ?_⟩
  obtain ⟨q1, q2⟩ := (dist_far hv h5).2 (kc : Int) (by omega) hg u (.inl (gd_nat hu).symm) hne
  rw [List.all_eq_true] at h3
  have hp := h3 u (List.mem_of_getElem? hu)
  simp only [ptB, decide_eq_true_eq] at hp
  have hou : dokB h u = true := by
    unfold dokB
    rw [Bool.and_eq_true, Bool.and_eq_true, decide_eq_true_eq]
    exact ⟨⟨hv, by simp [plB]; omega⟩, q1⟩
  refine ⟨hou, ?_⟩
  have hdu : dstN h u = gd (dist h h.t) u := by unfold dstN; rw [if_pos hou]
  rw [hd, hdu]; exact q2

set_option maxRecDepth 100000 in
set_option maxHeartbeats 3000000 in
theorem lawDistanceOf_walk (w : World) (A : Option Addr) (n c : Nat) (h : Inp w A n c) :
    Calls Try.prog 3 #[.slice A n c] w (LawTrue w) := by
  by_cases hbig : 1048576 < n
  · go_enter Try.func3, Try.ntmps3
    go_wp2_with fail
    go_ret
    exact ⟨rfl, Below.refl _ _⟩
  go_enter Try.func3, Try.ntmps3
  go_wp2_with fail
  refine (drawDistanceOf_any _ _ _ _ h).mono ?_; rintro e w1 ⟨v, hp, x, rfl, HA, hb1, hx8⟩
  have BW1 : Below w.heap.size w w1 := (Below.refl w.heap.size w).trans (hb1.mono (Below.refl w.heap.size w).size)
  have zz1 := hb1.size
  have hwf : (Lit.int .i64 x).wf = true := WalkArith.wf_i64 (by omega)
  have I := fun W v hW => implDst_any W w.heap.size v hp hW x hwf
  have S := fun W v hW => specDst_any W w.heap.size v hp hW x hwf
  have HAo := HA
  obtain ⟨A0, n0, c0, A1, n1, c1, A2, n2, c2, rfl, ⟨r0, r1, r2⟩, ⟨l0, l1, l2⟩, _⟩ := HAo.open_
  rcases ho : dokB hp x
  · have hN : dstN hp x = 0 := by unfold dstN; rw [ho]; simp
    rw [ho, hN] at I S
    clear ho hN r0 r1 r2
    go_wp2_with fail
    refine (I _ _ (HA.alloc (.cells #[.slice A0 n0 c0, .slice A1 n1 c1, .slice A2 n2 c2] 25))).mono ?_; rintro e w2 ⟨rfl, hb2⟩
    have BW2 : Below w.heap.size w w2 := (BW1.alloc BW1.size (.cells #[.slice A0 n0 c0, .slice A1 n1 c1, .slice A2 n2 c2] 25)).trans (hb2.mono (BW1.alloc BW1.size (.cells #[.slice A0 n0 c0, .slice A1 n1 c1, .slice A2 n2 c2] 25)).size)
    have zz2 := hb2.size
    have HA_2 := Hv.below (by exact (HA.alloc (.cells #[.slice A0 n0 c0, .slice A1 n1 c1, .slice A2 n2 c2] 25))) hb2
    have X_2 := Blk3.below (by exact (Blk3.new w1 (.slice A0 n0 c0) (.slice A1 n1 c1) (.slice A2 n2 c2) 25)) hb2
    obtain ⟨cX_2_0, cX_2_1, cX_2_2, _⟩ := X_2.cells
    have lX_2 := X_2.lt
    go_wp2_with fail
    refine (S _ _ HA_2).mono ?_; rintro e w3 ⟨rfl, hb3⟩
    have BW3 : Below w.heap.size w w3 := BW2.trans (hb3.mono BW2.size)
    have zz3 := hb3.size
    have HA_3 := Hv.below (by exact HA_2) hb3
    have X_3 := Blk3.below (by exact X_2) hb3
    obtain ⟨cX_3_0, cX_3_1, cX_3_2, _⟩ := X_3.cells
    have lX_3 := X_3.lt
    go_wp2_with fail
    go_ret
    exact ⟨rfl, BW3⟩
  · obtain ⟨kc, rfl, hkc, hva, g1, g2, g3, g4⟩ := dst_facts ho
    rw [ho] at I S
    have hkn : kc < n0 := by have := l0.out; omega
    have hxl : (liveL hp).length = n0 := by rw [liveL_len hva]; exact l0.out
    have hb8 := liveL_bd hp
    have cb := cntB_bd (liveL hp)
    have RX := fun W v hW => implReach_any W w.heap.size v hp hW
    have LC := fun W v hW => implLive_any W w.heap.size v hp hW
    have n0b : n0 ≤ 8 := by omega
    have g4u := fun u hu hne => (g4 u hu hne)
    have JJ := fun W v hW u (hwf : (Lit.int .i64 u).wf = true) => implDst_any W w.heap.size v hp hW u hwf
    have hpt := (hvB_parts hva).2.1
    rw [List.all_eq_true] at hpt
    have HPT := Lib.hid hpt
    generalize dstN hp (kc : Int) = N at I S g1 g2 g4u
    generalize liveL hp = xs at RX LC g2 g3 hxl hb8 cb
    generalize cntB xs = M at LC g2 cb
    have HXL := Lib.hid hxl
    have G3 := Lib.hid g3
    have G4 := Lib.hid g4u
    clear g4 g4u hpt hva ho g3 r0 r1 r2
    have hki : (kc : Int) < (n0 : Int) := by omega
    rw [hxl] at cb hb8
    clear hxl
    go_wp2_with fail
    refine (I _ _ (HA.alloc (.cells #[.slice A0 n0 c0, .slice A1 n1 c1, .slice A2 n2 c2] 25))).mono ?_; rintro e w2 ⟨rfl, hb2⟩
    have BW2 : Below w.heap.size w w2 := (BW1.alloc BW1.size (.cells #[.slice A0 n0 c0, .slice A1 n1 c1, .slice A2 n2 c2] 25)).trans (hb2.mono (BW1.alloc BW1.size (.cells #[.slice A0 n0 c0, .slice A1 n1 c1, .slice A2 n2 c2] 25)).size)
    have zz2 := hb2.size
    have HA_2 := Hv.below (by exact (HA.alloc (.cells #[.slice A0 n0 c0, .slice A1 n1 c1, .slice A2 n2 c2] 25))) hb2
    have X_2 := Blk3.below (by exact (Blk3.new w1 (.slice A0 n0 c0) (.slice A1 n1 c1) (.slice A2 n2 c2) 25)) hb2
    obtain ⟨cX_2_0, cX_2_1, cX_2_2, _⟩ := X_2.cells
    have lX_2 := X_2.lt
    go_wp2_with fail
    refine (S _ _ HA_2).mono ?_; rintro e w3 ⟨rfl, hb3⟩
    have BW3 : Below w.heap.size w w3 := BW2.trans (hb3.mono BW2.size)
    have zz3 := hb3.size
    have HA_3 := Hv.below (by exact HA_2) hb3
    have X_3 := Blk3.below (by exact X_2) hb3
    obtain ⟨cX_3_0, cX_3_1, cX_3_2, _⟩ := X_3.cells
    have lX_3 := X_3.lt
    go_wp2_with fail
    refine (RX _ _ HA_3).mono ?_; rintro e w4 ⟨A4, k4, rfl, R4, hb4⟩
    have BW4 : Below w.heap.size w w4 := BW3.trans (hb4.mono BW3.size)
    have zz4 := hb4.size
    have HA_4 := Hv.below (by exact HA_3) hb4
    have X_4 := Blk3.below (by exact X_3) hb4
    obtain ⟨cX_4_0, cX_4_1, cX_4_2, _⟩ := X_4.cells
    have lX_4 := X_4.lt
    obtain ⟨A0', n0', c0', A1', n1', c1', A2', n2', c2', eA, ⟨ar0, ar1, ar2⟩, ⟨al0, al1, al2⟩, _⟩ := HA_4.open_
    cases eA
    obtain ⟨g, u, rfl, _, hgw4, hu, hcell, _⟩ := ar0.get (k := kc) hkc
    obtain ⟨gr, b, er, _, hgr4, hb, hcb, _⟩ := R4.get (k := kc) (by have := HXL.out; omega)
    cases er
    obtain rfl : b = true := by have h9 := hb.out; rw [G3.out] at h9; simpa using h9.symm
    rw [HXL.out] at R4 ⊢
    clear hb ar1 ar2
    by_cases hu1 : u = -1
    · subst hu1
      clear G4 HPT hu
      have hN1 : (1 : Int) ≤ N := g1
      have hNM : N ≤ M := g2
      go_wp2_with fail
      refine (LC _ _ HA_4).mono ?_; rintro e w9 ⟨rfl, hb9⟩
      have BW5 : Below w.heap.size w w9 := BW4.trans (hb9.mono BW4.size)
      have zz5 := hb9.size
      have HA_5 := Hv.below (by exact HA_4) hb9
      have X_5 := Blk3.below (by exact X_4) hb9
      obtain ⟨cX_5_0, cX_5_1, cX_5_2, _⟩ := X_5.cells
      have lX_5 := X_5.lt
      have R4_5 := RowB.below (by exact R4) hb9
      go_wp2_with fail
      go_ret
      exact ⟨by simp <;> omega, BW5⟩
    · have hu2 : (u != -1) = true := by simpa using hu1
      obtain ⟨q1, q2⟩ := G4.out u hu.out hu1
      have hpu := HPT.out u (List.mem_of_getElem? hu.out)
      simp only [ptB, decide_eq_true_eq] at hpu
      have hl8 : (hp.l.length : Int) ≤ 8 := by have := l0.out; omega
      have hwu : (Lit.int .i64 u).wf = true := WalkArith.wf_i64 (by omega)
      have K := fun W v hW => JJ W v hW u hwu
      rw [q1] at K
      generalize dstN hp u = N2 at K q2
      clear G4 HPT hu hpu hwu q1
      go_wp2_with fail
      go_region_held3 (fun w' => w'.cell? ⟨w1.heap.size, 0, none⟩ = some (.slice (some ⟨g, 0, none⟩) n0 c0) ∧ w'.cell? ⟨w1.heap.size, 1, none⟩ = some (.slice A1 n1 c1) ∧ w'.cell? ⟨w1.heap.size, 2, none⟩ = some (.slice A2 n2 c2) ∧ w'.cell? ⟨g, kc, none⟩ = some (.int .i64 u))
        (((try dsimp only); (repeat' apply And.intro) <;> (with_reducible (first | exact hcell_w5 | exact cX_5_2 | exact cX_5_1 | exact cX_5_0 | exact cellD hcell | exact cellD cX_4_2 | exact cellD cX_4_1 | exact cellD cX_4_0 | exact hcell | exact cX_4_2 | exact cX_4_1 | exact cX_4_0))))
        (first
          | (go_at_call 8; (with_reducible refine (K _ _ (HA_4.drew)).mono ?_); rintro e w5 ⟨rfl, hb5⟩; have BW5 : Below w.heap.size w w5 := (Below.drew BW4).trans (hb5.mono (Below.drew BW4).size); have zz5 := hb5.size; have HA_5 := Hv.below (by exact (HA_4.drew)) hb5; have X_5 := Blk3.below (by exact (X_4.drew)) hb5; obtain ⟨cX_5_0, cX_5_1, cX_5_2, _⟩ := X_5.cells; have lX_5 := X_5.lt; have R4_5 := RowB.below (by exact (R4.drew)) hb5; have hcell_w5 : w5.cell? ⟨g, kc, none⟩ = some (.int .i64 u) := (hb5.cell (p := ⟨g, kc, none⟩) (by simp <;> omega)).trans (by exact hcell); have hcbx : w5.cell? ⟨gr, kc, none⟩ = some (.bool true) := (hb5.cell (p := ⟨gr, kc, none⟩) (by simp <;> omega)).trans (by exact hcb)))
      rename_i hHeld1
      clear hHeld1
      have hN1 : (1 : Int) ≤ N := g1
      have hNM : N ≤ M := g2
      go_wp2_with fail
      refine (LC _ _ HA_5).mono ?_; rintro e w9 ⟨rfl, hb9⟩
      have BW6 : Below w.heap.size w w9 := BW5.trans (hb9.mono BW5.size)
      have zz6 := hb9.size
      have HA_6 := Hv.below (by exact HA_5) hb9
      have X_6 := Blk3.below (by exact X_5) hb9
      obtain ⟨cX_6_0, cX_6_1, cX_6_2, _⟩ := X_6.cells
      have lX_6 := X_6.lt
      have R4_6 := RowB.below (by exact R4_5) hb9
      go_wp2_with fail
      go_ret
      exact ⟨by simp <;> omega, BW6⟩
end Go.Proofs.Ythagchhegljphaa
