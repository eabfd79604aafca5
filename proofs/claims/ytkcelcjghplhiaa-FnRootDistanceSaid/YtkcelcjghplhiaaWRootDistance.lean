/- The law FnRootDistance, walked. -/
import Derived.Test.YtkcelcjghplhiaaDPutRoot
import Derived.Test.YtkcelcjghplhiaaPthI
import Derived.Test.YtkcelcjghplhiaaPut
import Derived.Test.YtkcelcjghplhiaaPure
import Derived.Test.YtkcelcjghplhiaaCc
import Derived.Test.YtkcelcjghplhiaaWLaw
namespace Go.Proofs.Ytkcelcjghplhiaa
open Go.RowKit

theorem bfs_keep {l r : List Int} {n : Nat} (hl : l.length = n) (hr : r.length = n) (h1 : l.all (ptB · n) = true) (h2 : r.all (ptB · n) = true) :
    ∀ (f : Nat) (D : List Int) (d : Int) (xs : List Int), xs.all (ptB · n) = true → ∀ c, 0 ≤ c → 0 ≤ gd D c → gd (bfs l r f D d xs) c = gd D c := by
  intro f
  induction f with
  | zero => intro D d xs _ c _ _; rfl
  | succ f ih =>
    intro D d xs hx c h0 hc
    have hk : gd (marks d (D, []) xs).1 c = gd D c := marks_keep (s := (D, [])) hx h0 hc
    by_cases hq : (marks d (D, []) xs).2 = []
    · have hb : bfs l r (f + 1) D d xs = (marks d (D, []) xs).1 := by
        show (if (marks d (D, []) xs).2 = [] then _ else _) = _
        rw [if_pos hq]
      rw [hb, hk]
    · have hb : bfs l r (f + 1) D d xs = bfs l r f (marks d (D, []) xs).1 (d + 1) (kids l r (marks d (D, []) xs).2) := by
        show (if (marks d (D, []) xs).2 = [] then _ else _) = _
        rw [if_neg hq]
      have hcells := marks_cells (n := n) (d := d) (s := (D, [])) (by rfl) hx
      rw [hb, ih _ _ _ (kids_pt hl hr h1 h2 hcells) c h0 (by rw [hk]; exact hc), hk]
/-- Roots are at distance one. -/
theorem dist_root {h : Hp} (hv : hvB h = true) {x : Int} (hx : x ∈ h.t) (hne : x ≠ -1) : gd (dist h h.t) x = 1 := by
  obtain ⟨⟨hr, _⟩, h3, h4, h5⟩ := hvB_parts hv
  have hp := h5
  rw [List.all_eq_true] at hp
  have hpx := hp x hx
  simp only [ptB, decide_eq_true_eq] at hpx
  have h0 : 0 ≤ x := by omega
  have hD : (List.replicate h.l.length (-1 : Int)).length = h.l.length := by simp
  have hhit := marks_hit (n := h.l.length) (d := 1) (s := (List.replicate h.l.length (-1), [])) (xs := h.t) (by omega) hD h5 x hx hne
  have hvals := marks_vals (n := h.l.length) (d := 1) (s := (List.replicate h.l.length (-1), [])) (xs := h.t) h5 hD (by omega) (by rfl) (by simp)
  have hv1 : gd (marks 1 (List.replicate h.l.length (-1), []) h.t).1 x = 1 := by
    rcases marks_new (s := (List.replicate h.l.length (-1), [])) h5 h0 hhit with h9 | h9
    · have h8 : gd (List.replicate h.l.length (-1)) x = -1 := gd_rep _ _
      simp only at h9; omega
    · exact hvals x h9
  unfold dist
  by_cases hq : (marks 1 (List.replicate h.l.length (-1), []) h.t).2 = []
  · have hb : bfs h.l h.r (h.l.length + 1) (List.replicate h.l.length (-1)) 1 h.t = (marks 1 (List.replicate h.l.length (-1), []) h.t).1 := by
      show (if (marks 1 (List.replicate h.l.length (-1), []) h.t).2 = [] then _ else _) = _
      rw [if_pos hq]
    rw [hb]; exact hv1
  · have hb : bfs h.l h.r (h.l.length + 1) (List.replicate h.l.length (-1)) 1 h.t = bfs h.l h.r h.l.length (marks 1 (List.replicate h.l.length (-1), []) h.t).1 (1 + 1) (kids h.l h.r (marks 1 (List.replicate h.l.length (-1), []) h.t).2) := by
      show (if (marks 1 (List.replicate h.l.length (-1), []) h.t).2 = [] then _ else _) = _
      rw [if_neg hq]
    have hcells := marks_cells (n := h.l.length) (d := 1) (s := (List.replicate h.l.length (-1), [])) (by rfl) h5
    rw [hb, bfs_keep (n := h.l.length) rfl hr h3 h4 _ _ _ _ (kids_pt rfl hr h3 h4 hcells) x h0 (by rw [hv1]; omega), hv1]
theorem root_facts {h h2 : Hp} {x y : Int} (e : putT h x y = some h2) (hne : y ≠ -1) : (-1 ≤ y ∧ y ≤ 8) ∧ dokB h2 y = true ∧ dstN h2 y = 1 ∧ pthL h2 y = [y] := by
  obtain ⟨hva, j, rfl, hj, hpt, hh2⟩ := putT_some e
  have hvb := putT_valid e
  have hm : y ∈ h2.t := by rw [hh2]; exact List.mem_set hj y
  have hd := dist_root hvb hm hne
  have hl := hvB_len hva
  have hlen : h2.l.length = h.l.length := by rw [hh2]
  simp only [ptB, decide_eq_true_eq] at hpt
  have hok : dokB h2 y = true := by
    unfold dokB
    rw [Bool.and_eq_true, Bool.and_eq_true, decide_eq_true_eq]
    exact ⟨⟨hvb, by simp [plB]; omega⟩, by rw [hd]; omega⟩
  refine ⟨by omega, hok, by unfold dstN; rw [if_pos hok, hd], ?_⟩
  unfold pthL
  rw [if_pos hok, hd]
  rfl

set_option maxRecDepth 100000 in
set_option maxHeartbeats 3000000 in
theorem lawRootDistance_walk (w : World) (A : Option Addr) (n c : Nat) (h : Inp w A n c) :
    Calls Try.prog 5 #[.slice A n c] w (LawTrue w) := by
  by_cases hbig : 1048576 < n
  · go_enter Try.func5, Try.ntmps5
    go_wp2_with fail
    go_ret
    exact ⟨rfl, Below.refl _ _⟩
  go_enter Try.func5, Try.ntmps5
  go_wp2_with fail
  refine (drawPutRoot_any _ _ _ _ h).mono ?_; rintro e w1 ⟨v, hp, x, y, rfl, HA, hb1⟩
  have BW1 : Below w.heap.size w w1 := (Below.refl w.heap.size w).trans (hb1.mono (Below.refl w.heap.size w).size)
  have zz1 := hb1.size
  have I := fun W V hW => implPutRoot_any W w.heap.size V hp hW x y
  have S := fun W V hW => specPutRoot_any W w.heap.size V hp hW x y
  have HAo := HA
  obtain ⟨A0, n0, c0, A1, n1, c1, A2, n2, c2, rfl, _, ⟨l0, l1, l2⟩, _⟩ := HAo.open_
  rcases ho : putT hp x y with _ | h2
  · rw [ho] at I S
    go_wp2_with fail
    refine (I _ _ (HA.alloc (.cells #[.slice A0 n0 c0, .slice A1 n1 c1, .slice A2 n2 c2] 25))).mono ?_; rintro e w2 ⟨v, rfl, HB, hb2⟩
    simp only [Option.isSome_none, Option.getD_none] at HB ⊢
    have HBo := HB
    obtain ⟨B0, k0, d0, B1, k1, d1, B2, k2, d2, rfl, _, ⟨bl0, bl1, bl2⟩, _⟩ := HBo.open_
    have BW2 : Below w.heap.size w w2 := (BW1.alloc BW1.size (.cells #[.slice A0 n0 c0, .slice A1 n1 c1, .slice A2 n2 c2] 25)).trans (hb2.mono (BW1.alloc BW1.size (.cells #[.slice A0 n0 c0, .slice A1 n1 c1, .slice A2 n2 c2] 25)).size)
    have zz2 := hb2.size
    have HA_2 := Hv.below (by exact (HA.alloc (.cells #[.slice A0 n0 c0, .slice A1 n1 c1, .slice A2 n2 c2] 25))) hb2
    have X_2 := Blk3.below (by exact (Blk3.new w1 (.slice A0 n0 c0) (.slice A1 n1 c1) (.slice A2 n2 c2) 25)) hb2
    obtain ⟨cX_2_0, cX_2_1, cX_2_2, _⟩ := X_2.cells
    have lX_2 := X_2.lt
    go_wp2_with fail
    refine (S _ _ (HA_2.alloc (.cells #[.slice B0 k0 d0, .slice B1 k1 d1, .slice B2 k2 d2] 25))).mono ?_; rintro e w3 ⟨v, rfl, HC, hb3⟩
    simp only [Option.isSome_none, Option.getD_none] at HC ⊢
    have HCo := HC
    obtain ⟨C0, m0, e0, C1, m1, e1, C2, m2, e2, rfl, _⟩ := HCo.open_
    have BW3 : Below w.heap.size w w3 := (BW2.alloc BW2.size (.cells #[.slice B0 k0 d0, .slice B1 k1 d1, .slice B2 k2 d2] 25)).trans (hb3.mono (BW2.alloc BW2.size (.cells #[.slice B0 k0 d0, .slice B1 k1 d1, .slice B2 k2 d2] 25)).size)
    have zz3 := hb3.size
    have HA_3 := Hv.below (by exact (HA_2.alloc (.cells #[.slice B0 k0 d0, .slice B1 k1 d1, .slice B2 k2 d2] 25))) hb3
    have X_3 := Blk3.below (by exact (X_2.alloc (.cells #[.slice B0 k0 d0, .slice B1 k1 d1, .slice B2 k2 d2] 25))) hb3
    obtain ⟨cX_3_0, cX_3_1, cX_3_2, _⟩ := X_3.cells
    have lX_3 := X_3.lt
    have HB_3 := Hv.below (by exact (HB.alloc (.cells #[.slice B0 k0 d0, .slice B1 k1 d1, .slice B2 k2 d2] 25))) hb3
    have P_3 := Blk3.below (by exact (Blk3.new w2 (.slice B0 k0 d0) (.slice B1 k1 d1) (.slice B2 k2 d2) 25)) hb3
    obtain ⟨cP_3_0, cP_3_1, cP_3_2, _⟩ := P_3.cells
    have lP_3 := P_3.lt
    have E1 := implHeapSame_any _ _ _ _ _ _ _ (HB_3.alloc (.cells #[.slice C0 m0 e0, .slice C1 m1 e1, .slice C2 m2 e2] 25)) (HC.alloc (.cells #[.slice C0 m0 e0, .slice C1 m1 e1, .slice C2 m2 e2] 25))
    rw [sameB_self'] at E1
    go_wp2_with fail
    refine E1.mono ?_; rintro e w4 ⟨rfl, hb4⟩
    have BW4 : Below w.heap.size w w4 := (BW3.alloc BW3.size (.cells #[.slice C0 m0 e0, .slice C1 m1 e1, .slice C2 m2 e2] 25)).trans (hb4.mono (BW3.alloc BW3.size (.cells #[.slice C0 m0 e0, .slice C1 m1 e1, .slice C2 m2 e2] 25)).size)
    have zz4 := hb4.size
    have HA_4 := Hv.below (by exact (HA_3.alloc (.cells #[.slice C0 m0 e0, .slice C1 m1 e1, .slice C2 m2 e2] 25))) hb4
    have X_4 := Blk3.below (by exact (X_3.alloc (.cells #[.slice C0 m0 e0, .slice C1 m1 e1, .slice C2 m2 e2] 25))) hb4
    obtain ⟨cX_4_0, cX_4_1, cX_4_2, _⟩ := X_4.cells
    have lX_4 := X_4.lt
    have HB_4 := Hv.below (by exact (HB_3.alloc (.cells #[.slice C0 m0 e0, .slice C1 m1 e1, .slice C2 m2 e2] 25))) hb4
    have P_4 := Blk3.below (by exact (P_3.alloc (.cells #[.slice C0 m0 e0, .slice C1 m1 e1, .slice C2 m2 e2] 25))) hb4
    obtain ⟨cP_4_0, cP_4_1, cP_4_2, _⟩ := P_4.cells
    have lP_4 := P_4.lt
    have HC_4 := Hv.below (by exact (HC.alloc (.cells #[.slice C0 m0 e0, .slice C1 m1 e1, .slice C2 m2 e2] 25))) hb4
    have Q_4 := Blk3.below (by exact (Blk3.new w3 (.slice C0 m0 e0) (.slice C1 m1 e1) (.slice C2 m2 e2) 25)) hb4
    obtain ⟨cQ_4_0, cQ_4_1, cQ_4_2, _⟩ := Q_4.cells
    have lQ_4 := Q_4.lt
    have E2 := implHeapSame_any _ _ _ _ _ _ _ HB_4 HC_4
    rw [sameB_self'] at E2
    go_wp2_with fail
    refine E2.mono ?_; rintro e w5 ⟨rfl, hb5⟩
    have BW5 : Below w.heap.size w w5 := BW4.trans (hb5.mono BW4.size)
    have zz5 := hb5.size
    have HA_5 := Hv.below (by exact HA_4) hb5
    have X_5 := Blk3.below (by exact X_4) hb5
    obtain ⟨cX_5_0, cX_5_1, cX_5_2, _⟩ := X_5.cells
    have lX_5 := X_5.lt
    have HB_5 := Hv.below (by exact HB_4) hb5
    have P_5 := Blk3.below (by exact P_4) hb5
    obtain ⟨cP_5_0, cP_5_1, cP_5_2, _⟩ := P_5.cells
    have lP_5 := P_5.lt
    have HC_5 := Hv.below (by exact HC_4) hb5
    have Q_5 := Blk3.below (by exact Q_4) hb5
    obtain ⟨cQ_5_0, cQ_5_1, cQ_5_2, _⟩ := Q_5.cells
    have lQ_5 := Q_5.lt
    go_wp2_with fail
    go_ret
    exact ⟨rfl, BW5⟩
  · rw [ho] at I S
    go_wp2_with fail
    refine (I _ _ (HA.alloc (.cells #[.slice A0 n0 c0, .slice A1 n1 c1, .slice A2 n2 c2] 25))).mono ?_; rintro e w2 ⟨v, rfl, HB, hb2⟩
    simp only [Option.isSome_some, Option.getD_some] at HB ⊢
    have HBo := HB
    obtain ⟨B0, k0, d0, B1, k1, d1, B2, k2, d2, rfl, _, ⟨bl0, bl1, bl2⟩, _⟩ := HBo.open_
    have BW2 : Below w.heap.size w w2 := (BW1.alloc BW1.size (.cells #[.slice A0 n0 c0, .slice A1 n1 c1, .slice A2 n2 c2] 25)).trans (hb2.mono (BW1.alloc BW1.size (.cells #[.slice A0 n0 c0, .slice A1 n1 c1, .slice A2 n2 c2] 25)).size)
    have zz2 := hb2.size
    have HA_2 := Hv.below (by exact (HA.alloc (.cells #[.slice A0 n0 c0, .slice A1 n1 c1, .slice A2 n2 c2] 25))) hb2
    have X_2 := Blk3.below (by exact (Blk3.new w1 (.slice A0 n0 c0) (.slice A1 n1 c1) (.slice A2 n2 c2) 25)) hb2
    obtain ⟨cX_2_0, cX_2_1, cX_2_2, _⟩ := X_2.cells
    have lX_2 := X_2.lt
    go_wp2_with fail
    refine (S _ _ (HA_2.alloc (.cells #[.slice B0 k0 d0, .slice B1 k1 d1, .slice B2 k2 d2] 25))).mono ?_; rintro e w3 ⟨v, rfl, HC, hb3⟩
    simp only [Option.isSome_some, Option.getD_some] at HC ⊢
    have HCo := HC
    obtain ⟨C0, m0, e0, C1, m1, e1, C2, m2, e2, rfl, _⟩ := HCo.open_
    have BW3 : Below w.heap.size w w3 := (BW2.alloc BW2.size (.cells #[.slice B0 k0 d0, .slice B1 k1 d1, .slice B2 k2 d2] 25)).trans (hb3.mono (BW2.alloc BW2.size (.cells #[.slice B0 k0 d0, .slice B1 k1 d1, .slice B2 k2 d2] 25)).size)
    have zz3 := hb3.size
    have HA_3 := Hv.below (by exact (HA_2.alloc (.cells #[.slice B0 k0 d0, .slice B1 k1 d1, .slice B2 k2 d2] 25))) hb3
    have X_3 := Blk3.below (by exact (X_2.alloc (.cells #[.slice B0 k0 d0, .slice B1 k1 d1, .slice B2 k2 d2] 25))) hb3
    obtain ⟨cX_3_0, cX_3_1, cX_3_2, _⟩ := X_3.cells
    have lX_3 := X_3.lt
    have HB_3 := Hv.below (by exact (HB.alloc (.cells #[.slice B0 k0 d0, .slice B1 k1 d1, .slice B2 k2 d2] 25))) hb3
    have P_3 := Blk3.below (by exact (Blk3.new w2 (.slice B0 k0 d0) (.slice B1 k1 d1) (.slice B2 k2 d2) 25)) hb3
    obtain ⟨cP_3_0, cP_3_1, cP_3_2, _⟩ := P_3.cells
    have lP_3 := P_3.lt
    have E1 := implHeapSame_any _ _ _ _ _ _ _ (HB_3.alloc (.cells #[.slice C0 m0 e0, .slice C1 m1 e1, .slice C2 m2 e2] 25)) (HC.alloc (.cells #[.slice C0 m0 e0, .slice C1 m1 e1, .slice C2 m2 e2] 25))
    rw [sameB_self'] at E1
    go_wp2_with fail
    refine E1.mono ?_; rintro e w4 ⟨rfl, hb4⟩
    have BW4 : Below w.heap.size w w4 := (BW3.alloc BW3.size (.cells #[.slice C0 m0 e0, .slice C1 m1 e1, .slice C2 m2 e2] 25)).trans (hb4.mono (BW3.alloc BW3.size (.cells #[.slice C0 m0 e0, .slice C1 m1 e1, .slice C2 m2 e2] 25)).size)
    have zz4 := hb4.size
    have HA_4 := Hv.below (by exact (HA_3.alloc (.cells #[.slice C0 m0 e0, .slice C1 m1 e1, .slice C2 m2 e2] 25))) hb4
    have X_4 := Blk3.below (by exact (X_3.alloc (.cells #[.slice C0 m0 e0, .slice C1 m1 e1, .slice C2 m2 e2] 25))) hb4
    obtain ⟨cX_4_0, cX_4_1, cX_4_2, _⟩ := X_4.cells
    have lX_4 := X_4.lt
    have HB_4 := Hv.below (by exact (HB_3.alloc (.cells #[.slice C0 m0 e0, .slice C1 m1 e1, .slice C2 m2 e2] 25))) hb4
    have P_4 := Blk3.below (by exact (P_3.alloc (.cells #[.slice C0 m0 e0, .slice C1 m1 e1, .slice C2 m2 e2] 25))) hb4
    obtain ⟨cP_4_0, cP_4_1, cP_4_2, _⟩ := P_4.cells
    have lP_4 := P_4.lt
    have HC_4 := Hv.below (by exact (HC.alloc (.cells #[.slice C0 m0 e0, .slice C1 m1 e1, .slice C2 m2 e2] 25))) hb4
    have Q_4 := Blk3.below (by exact (Blk3.new w3 (.slice C0 m0 e0) (.slice C1 m1 e1) (.slice C2 m2 e2) 25)) hb4
    obtain ⟨cQ_4_0, cQ_4_1, cQ_4_2, _⟩ := Q_4.cells
    have lQ_4 := Q_4.lt
    have hrf := root_facts ho
    clear ho I S
    by_cases hu1 : y = -1
    · subst hu1
      clear hrf
      have E2 := implHeapSame_any _ _ _ _ _ _ _ HB_4 HC_4
      rw [sameB_self'] at E2
      go_wp2_with fail
      refine E2.mono ?_; rintro e w5 ⟨rfl, hb5⟩
      have BW5 : Below w.heap.size w w5 := BW4.trans (hb5.mono BW4.size)
      have zz5 := hb5.size
      have HA_5 := Hv.below (by exact HA_4) hb5
      have X_5 := Blk3.below (by exact X_4) hb5
      obtain ⟨cX_5_0, cX_5_1, cX_5_2, _⟩ := X_5.cells
      have lX_5 := X_5.lt
      have HB_5 := Hv.below (by exact HB_4) hb5
      have P_5 := Blk3.below (by exact P_4) hb5
      obtain ⟨cP_5_0, cP_5_1, cP_5_2, _⟩ := P_5.cells
      have lP_5 := P_5.lt
      have HC_5 := Hv.below (by exact HC_4) hb5
      have Q_5 := Blk3.below (by exact Q_4) hb5
      obtain ⟨cQ_5_0, cQ_5_1, cQ_5_2, _⟩ := Q_5.cells
      have lQ_5 := Q_5.lt
      go_wp2_with fail
      go_ret
      exact ⟨rfl, BW5⟩
    · obtain ⟨⟨y8, y9⟩, q1, q2, q3⟩ := hrf hu1
      have hu2 : (y == -1) = false := by simpa using hu1
      have hwf : (Lit.int .i64 y).wf = true := WalkArith.wf_i64 (by omega)
      have DI := implDst_any _ _ _ _ HB_4 y hwf
      rw [q1, q2] at DI
      go_wp2_with fail
      refine DI.mono ?_; rintro e w5 ⟨rfl, hb5⟩
      have BW5 : Below w.heap.size w w5 := BW4.trans (hb5.mono BW4.size)
      have zz5 := hb5.size
      have HA_5 := Hv.below (by exact HA_4) hb5
      have X_5 := Blk3.below (by exact X_4) hb5
      obtain ⟨cX_5_0, cX_5_1, cX_5_2, _⟩ := X_5.cells
      have lX_5 := X_5.lt
      have HB_5 := Hv.below (by exact HB_4) hb5
      have P_5 := Blk3.below (by exact P_4) hb5
      obtain ⟨cP_5_0, cP_5_1, cP_5_2, _⟩ := P_5.cells
      have lP_5 := P_5.lt
      have HC_5 := Hv.below (by exact HC_4) hb5
      have Q_5 := Blk3.below (by exact Q_4) hb5
      obtain ⟨cQ_5_0, cQ_5_1, cQ_5_2, _⟩ := Q_5.cells
      have lQ_5 := Q_5.lt
      have PI := implPth_any _ _ _ _ HB_5 y hwf
      rw [q1, q3] at PI
      go_wp2_with fail
      refine PI.mono ?_; rintro e w6 ⟨A6, k6, rfl, R6, hb6⟩
      have BW6 : Below w.heap.size w w6 := BW5.trans (hb6.mono BW5.size)
      have zz6 := hb6.size
      have HA_6 := Hv.below (by exact HA_5) hb6
      have X_6 := Blk3.below (by exact X_5) hb6
      obtain ⟨cX_6_0, cX_6_1, cX_6_2, _⟩ := X_6.cells
      have lX_6 := X_6.lt
      have HB_6 := Hv.below (by exact HB_5) hb6
      have P_6 := Blk3.below (by exact P_5) hb6
      obtain ⟨cP_6_0, cP_6_1, cP_6_2, _⟩ := P_6.cells
      have lP_6 := P_6.lt
      have HC_6 := Hv.below (by exact HC_5) hb6
      have Q_6 := Blk3.below (by exact Q_5) hb6
      obtain ⟨cQ_6_0, cQ_6_1, cQ_6_2, _⟩ := Q_6.cells
      have lQ_6 := Q_6.lt
      have RL : Row (w6.alloc (.cells #[.int .i64 y] 3)) w6.heap.size (.slice (some ⟨w6.heap.size, 0, none⟩) 1 1) [y] := Row.lit_lo rfl w6.heap.size (Nat.le_refl _) [y] (by simp)
      have R6b : Row w6 _ (.slice A6 1 k6) [y] := R6
      have CC : Calls Try.prog 10 #[.slice A6 1 k6, .slice (some ⟨w6.heap.size, 0, none⟩) 1 1] (w6.alloc (.cells #[.int .i64 y] 3)) (RetB (w6.alloc (.cells #[.int .i64 y] 3)) true) := (ccInts_any (w6.alloc (.cells #[.int .i64 y] 3)) _ _ A6 (some ⟨w6.heap.size, 0, none⟩) 1 k6 1 1 [y] [y] (R6b.alloc _) rfl (by decide) RL rfl (by decide)).mono fun _ _ ⟨he, nq, hw⟩ => ⟨by rw [he]; simp, by rw [hw]; exact below_drewN (Below.refl _ _) _⟩
      simp only [List.length_singleton]
      go_wp2_with fail
      refine CC.mono ?_; rintro e w7 ⟨rfl, hb7⟩
      go_wp2_with fail
      go_ret
      exact ⟨by simp, (BW6.alloc BW6.size (.cells #[.int .i64 y] 3)).trans (hb7.mono (BW6.alloc BW6.size (.cells #[.int .i64 y] 3)).size)⟩
end Go.Proofs.Ytkcelcjghplhiaa
