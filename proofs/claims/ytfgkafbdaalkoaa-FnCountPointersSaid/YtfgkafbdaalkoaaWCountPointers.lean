/- The law FnCountPointers, walked. -/
import Derived.Test.YtfgkafbdaalkoaaDCount
import Derived.Test.YtfgkafbdaalkoaaSCount
import Derived.Test.YtfgkafbdaalkoaaPure
import Derived.Test.YtfgkafbdaalkoaaWLaw
namespace Go.Proofs.Ytfgkafbdaalkoaa
open Go.RowKit

theorem cntN_set_none {l : List Int} {a : Int} (h : l[0]? = some a) : cntN (l.set 0 (-1)) = if a = -1 then cntN l else cntN l - 1 := by
  cases l with
  | nil => simp at h
  | cons x t =>
    simp at h; subst h
    simp only [List.set_cons_zero, cntN, List.filter_cons]
    by_cases hx : x = -1 <;> simp [hx]
theorem clr_facts {h : Hp} (hv : hvB h = true) {a : Int} (ha : h.l[0]? = some a) : putL h 0 (-1) = some ⟨h.l.set 0 (-1), h.r, h.t⟩ ∧ 0 ≤ cntH h ∧ cntH h ≤ 2 * (h.l.length : Int) + h.t.length ∧
    cntH ⟨h.l.set 0 (-1), h.r, h.t⟩ = if a = -1 then cntH h else cntH h - 1 := by
  have hl := hvB_len hv
  have hp : putL h 0 (-1) = some ⟨h.l.set 0 (-1), h.r, h.t⟩ := by
    unfold putL
    rw [if_pos (by simp only [Bool.and_eq_true]; exact ⟨⟨hv, by simp [plB]; omega⟩, by simp [ptB]; omega⟩)]; rfl
  have hv2 := putL_valid hp
  have c0 := cntN_bd h.l
  have c1 := cntN_bd h.r
  have c2 := cntN_bd h.t
  refine ⟨hp, ?_, ?_, ?_⟩
  · unfold cntH; rw [if_pos hv]; omega
  · unfold cntH; rw [if_pos hv]; omega
  · unfold cntH; rw [if_pos hv, if_pos hv2]
    simp only [cntN_set_none ha]
    split <;> omega

set_option maxRecDepth 100000 in
set_option maxHeartbeats 2000000 in
theorem lawCountPointers_walk (w : World) (A : Option Addr) (n c : Nat) (h : Inp w A n c) :
    Calls Try.prog 3 #[.slice A n c] w (LawTrue w) := by
  by_cases hbig : 1048576 < n
  · go_enter Try.func3, Try.ntmps3
    go_wp2_with fail
    go_ret
    exact ⟨rfl, Below.refl _ _⟩
  go_enter Try.func3, Try.ntmps3
  go_wp2_with fail
  refine (drawCountPointers_any _ _ _ _ h).mono ?_; rintro e w1 ⟨v, hp, rfl, HA, hb1⟩
  have B1 : Below w.heap.size w w1 := (Below.refl w.heap.size w).trans (hb1.mono (Below.refl w.heap.size w).size)
  have zz1 := hb1.size
  have I := fun W v hW => implCount_any W w.heap.size v hp hW
  have S := fun W v hW => specCount_any W w.heap.size v hp hW
  have V := fun W v hW => implHeapValid_any W w.heap.size v hp hW
  have HAo := HA
  obtain ⟨A0, n0, c0, A1, n1, c1, A2, n2, c2, rfl, ⟨r0, r1, r2⟩, ⟨l0, l1, l2⟩, _⟩ := HAo.open_
  rcases ev : hvB hp
  · rw [ev] at V
    have hc : cntH hp = 0 := by unfold cntH; rw [ev]; simp
    rw [hc] at I S
    clear ev hc
    go_wp2_with fail
    refine (I _ _ (HA.alloc (.cells #[.slice A0 n0 c0, .slice A1 n1 c1, .slice A2 n2 c2] 25))).mono ?_; rintro e w2 ⟨rfl, hb2⟩
    have B2 : Below w.heap.size w w2 := (B1.alloc B1.size (.cells #[.slice A0 n0 c0, .slice A1 n1 c1, .slice A2 n2 c2] 25)).trans (hb2.mono (B1.alloc B1.size (.cells #[.slice A0 n0 c0, .slice A1 n1 c1, .slice A2 n2 c2] 25)).size)
    have zz2 := hb2.size
    have HA_2 := Hv.below (by exact (HA.alloc (.cells #[.slice A0 n0 c0, .slice A1 n1 c1, .slice A2 n2 c2] 25))) hb2
    have X_2 := Blk3.below (by exact (Blk3.new w1 (.slice A0 n0 c0) (.slice A1 n1 c1) (.slice A2 n2 c2) 25)) hb2
    obtain ⟨cX_2_0, cX_2_1, cX_2_2, _⟩ := X_2.cells
    have lX_2 := X_2.lt
    go_wp2_with fail
    refine (S _ _ HA_2).mono ?_; rintro e w3 ⟨rfl, hb3⟩
    have B3 : Below w.heap.size w w3 := B2.trans (hb3.mono B2.size)
    have zz3 := hb3.size
    have HA_3 := Hv.below (by exact HA_2) hb3
    have X_3 := Blk3.below (by exact X_2) hb3
    obtain ⟨cX_3_0, cX_3_1, cX_3_2, _⟩ := X_3.cells
    have lX_3 := X_3.lt
    go_wp2_with fail
    refine (V _ _ HA_3).mono ?_; rintro e w4 ⟨rfl, hb4⟩
    have B4 : Below w.heap.size w w4 := B3.trans (hb4.mono B3.size)
    have zz4 := hb4.size
    have HA_4 := Hv.below (by exact HA_3) hb4
    have X_4 := Blk3.below (by exact X_3) hb4
    obtain ⟨cX_4_0, cX_4_1, cX_4_2, _⟩ := X_4.cells
    have lX_4 := X_4.lt
    go_wp2_with fail
    refine (S _ _ HA_4).mono ?_; rintro e w5 ⟨rfl, hb5⟩
    have B5 : Below w.heap.size w w5 := B4.trans (hb5.mono B4.size)
    have zz5 := hb5.size
    have HA_5 := Hv.below (by exact HA_4) hb5
    have X_5 := Blk3.below (by exact X_4) hb5
    obtain ⟨cX_5_0, cX_5_1, cX_5_2, _⟩ := X_5.cells
    have lX_5 := X_5.lt
    go_wp2_with fail
    go_ret
    exact ⟨rfl, B5⟩
  · rw [ev] at V
    have hl := hvB_len ev
    obtain ⟨g, a, rfl, _, hgw, ha, hcell0, _⟩ := r0.get (k := 0) (by omega)
    obtain ⟨hput, hN0, hN1, hM⟩ := clr_facts ev ha.out
    have hN2 : cntH hp ≤ 2 * (n0 : Int) + n2 := by have := l0.out; have := l2.out; omega
    have u0 : 0 < n0 ∧ n0 ≤ 8 ∧ n2 ≤ 3 := by have := l0.out; have := l2.out; omega
    obtain ⟨u0a, u0b, u0c⟩ := u0
    have J := fun W lo v (hW : Hv W lo v hp) => implPutLeft_any W lo v hp hW 0 (-1)
    rw [hput] at J
    have I2 := fun W lo v (hW : Hv W lo v ⟨hp.l.set 0 (-1), hp.r, hp.t⟩) => implCount_any W lo v _ hW
    rw [hM] at I2
    generalize cntH hp = N at *
    clear ev hM hput hl ha hN1 r0 r1 r2 l0 l1 l2
    go_wp2_with fail
    refine (I _ _ (HA.alloc (.cells #[.slice (some ⟨g, 0, none⟩) n0 c0, .slice A1 n1 c1, .slice A2 n2 c2] 25))).mono ?_; rintro e w2 ⟨rfl, hb2⟩
    have B2 : Below w.heap.size w w2 := (B1.alloc B1.size (.cells #[.slice (some ⟨g, 0, none⟩) n0 c0, .slice A1 n1 c1, .slice A2 n2 c2] 25)).trans (hb2.mono (B1.alloc B1.size (.cells #[.slice (some ⟨g, 0, none⟩) n0 c0, .slice A1 n1 c1, .slice A2 n2 c2] 25)).size)
    have zz2 := hb2.size
    have HA_2 := Hv.below (by exact (HA.alloc (.cells #[.slice (some ⟨g, 0, none⟩) n0 c0, .slice A1 n1 c1, .slice A2 n2 c2] 25))) hb2
    have X_2 := Blk3.below (by exact (Blk3.new w1 (.slice (some ⟨g, 0, none⟩) n0 c0) (.slice A1 n1 c1) (.slice A2 n2 c2) 25)) hb2
    obtain ⟨cX_2_0, cX_2_1, cX_2_2, _⟩ := X_2.cells
    have lX_2 := X_2.lt
    go_wp2_with fail
    refine (S _ _ HA_2).mono ?_; rintro e w3 ⟨rfl, hb3⟩
    have B3 : Below w.heap.size w w3 := B2.trans (hb3.mono B2.size)
    have zz3 := hb3.size
    have HA_3 := Hv.below (by exact HA_2) hb3
    have X_3 := Blk3.below (by exact X_2) hb3
    obtain ⟨cX_3_0, cX_3_1, cX_3_2, _⟩ := X_3.cells
    have lX_3 := X_3.lt
    go_wp2_with fail
    refine (V _ _ HA_3).mono ?_; rintro e w4 ⟨rfl, hb4⟩
    have B4 : Below w.heap.size w w4 := B3.trans (hb4.mono B3.size)
    have zz4 := hb4.size
    have HA_4 := Hv.below (by exact HA_3) hb4
    have X_4 := Blk3.below (by exact X_3) hb4
    obtain ⟨cX_4_0, cX_4_1, cX_4_2, _⟩ := X_4.cells
    have lX_4 := X_4.lt
    go_wp2_with fail
    refine (J _ _ _ HA_4).mono ?_; rintro e w5 ⟨v5, rfl, H5, hb5⟩
    have B5 : Below w.heap.size w w5 := B4.trans (hb5.mono B4.size)
    have zz5 := hb5.size
    have HA_5 := Hv.below (by exact HA_4) hb5
    have X_5 := Blk3.below (by exact X_4) hb5
    obtain ⟨cX_5_0, cX_5_1, cX_5_2, _⟩ := X_5.cells
    have lX_5 := X_5.lt
    simp only [Option.isSome_some, Option.getD_some] at H5 ⊢
    have H5o := H5
    obtain ⟨D0, q0, j0, D1, q1, j1, D2, q2, j2, rfl, _⟩ := H5o.open_
    go_wp2_with fail
    refine (I2 _ _ _ (H5.alloc (.cells #[.slice D0 q0 j0, .slice D1 q1 j1, .slice D2 q2 j2] 25))).mono ?_; rintro e w6 ⟨rfl, hb6⟩
    have B6 : Below w.heap.size w w6 := (B5.alloc B5.size (.cells #[.slice D0 q0 j0, .slice D1 q1 j1, .slice D2 q2 j2] 25)).trans (hb6.mono (B5.alloc B5.size (.cells #[.slice D0 q0 j0, .slice D1 q1 j1, .slice D2 q2 j2] 25)).size)
    have zz6 := hb6.size
    have HA_6 := Hv.below (by exact (HA_5.alloc (.cells #[.slice D0 q0 j0, .slice D1 q1 j1, .slice D2 q2 j2] 25))) hb6
    have X_6 := Blk3.below (by exact (X_5.alloc (.cells #[.slice D0 q0 j0, .slice D1 q1 j1, .slice D2 q2 j2] 25))) hb6
    obtain ⟨cX_6_0, cX_6_1, cX_6_2, _⟩ := X_6.cells
    have lX_6 := X_6.lt
    have H5_6 := Hv.below (by exact (H5.alloc (.cells #[.slice D0 q0 j0, .slice D1 q1 j1, .slice D2 q2 j2] 25))) hb6
    have Y_6 := Blk3.below (by exact (Blk3.new w5 (.slice D0 q0 j0) (.slice D1 q1 j1) (.slice D2 q2 j2) 25)) hb6
    obtain ⟨cY_6_0, cY_6_1, cY_6_2, _⟩ := Y_6.cells
    have lY_6 := Y_6.lt
    have hcell6 : w6.cell? ⟨g, 0, none⟩ = some (.int .i64 a) := by
      have b1 : Below w1.heap.size w1 w5 := ((((((Below.refl _ _).alloc (Nat.le_refl _) _).trans (hb2.mono (by simp))).trans (hb3.mono (by simp at zz2; omega))).trans (hb4.mono (by simp at zz2; omega))).trans (hb5.mono (by simp at zz2; omega)))
      have b2 := (b1.alloc b1.size (.cells #[.slice D0 q0 j0, .slice D1 q1 j1, .slice D2 q2 j2] 25)).trans (hb6.mono (by have := b1.size; simp; omega))
      exact (b2.cell (p := ⟨g, 0, none⟩) hgw).trans hcell0
    by_cases ha1 : a = -1
    · subst ha1
      simp only [if_true]
      go_wp2_with fail
      go_ret
      exact ⟨by simp <;> omega, B6⟩
    · have ha2 : (a == -1) = false := by simpa using ha1
      have ha3 : (a != -1) = true := by simpa using ha1
      simp only [if_neg ha1]
      go_wp2_with fail
      go_ret
      exact ⟨by simp <;> omega, B6⟩
end Go.Proofs.Ytfgkafbdaalkoaa
