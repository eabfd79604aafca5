/- spec's CopyStep. -/
import Derived.Test.YtapkhgpifpgleaaCellsT
namespace Go.Proofs.Ytapkhgpifpgleaa
open Go.RowKit Go.Maps

theorem stepL_short (h : Hp) (s : List Int) (i : Int) : (stepL h s i).length ≤ 1048576 := by
  cases e : stepB h s i
  · unfold stepL; rw [e]; simp
  · have := stepL_len h s i
    unfold stepB at e
    simp only [Bool.and_eq_true] at e
    have h1 := dif_len e.1.2
    have h2 := hvB_len e.1.1
    omega

set_option maxRecDepth 100000 in
set_option maxHeartbeats 4000000 in
theorem specStep_any (w : World) (lo lo' : Nat) (v : Value) (h : Hp) (hv : Hv w lo v h) (A : Option Addr) (n c : Nat) (s : List Int) (hx : Row w lo' (.slice A n c) s) (l : Hid (s.length = n)) (hm : n ≤ 9223372036854775807) (i : Int) :
    Calls Try.prog 26 #[v, .slice A n c, .int .i64 i] w (RetRB w (stepL h s i) (stepB h s i)) := by
  obtain ⟨A0, n0, c0, A1, n1, c1, A2, n2, c2, rfl, ⟨r0, r1, _⟩, ⟨l0, l1, _⟩, ⟨mm0, _, _⟩, _⟩ := hv.open_
  have X0 := Blk3.new w (.slice A0 n0 c0) (.slice A1 n1 c1) (.slice A2 n2 c2) 27
  have fin : Below w.heap.size w (w.alloc (.cells #[.slice A0 n0 c0, .slice A1 n1 c1, .slice A2 n2 c2] 27)) := (Below.refl _ _).alloc (Nat.le_refl _) _
  have H0 := hv.alloc (.cells #[.slice A0 n0 c0, .slice A1 n1 c1, .slice A2 n2 c2] 27)
  have T0 := hx.alloc (.cells #[.slice A0 n0 c0, .slice A1 n1 c1, .slice A2 n2 c2] 27)
  have Q0 := r0.alloc (.cells #[.slice A0 n0 c0, .slice A1 n1 c1, .slice A2 n2 c2] 27)
  have Q1 := r1.alloc (.cells #[.slice A0 n0 c0, .slice A1 n1 c1, .slice A2 n2 c2] 27)
  have CC := fun W hW hR => l10Cells_any W lo lo' (.agg #[.slice A0 n0 c0, .slice A1 n1 c1, .slice A2 n2 c2]) h hW A n c s hR l hm
  obtain ⟨i0, hi, hz0, hz1, hz2⟩ := info_parts Try.infoInt
  rcases ec : (hvB h && difB h.l.length s)
  · rw [ec] at CC
    have e1 : stepB h s i = false := by unfold stepB; rw [ec]; rfl
    have e2 : stepL h s i = [] := by unfold stepL; rw [e1]; simp
    rw [e1, e2]
    clear ec e1 e2
    go_enter Try.func26, Try.ntmps26
    go_wp2_with fail
    refine (CC _ H0 T0).mono ?_; rintro e w1 ⟨rfl, hb1⟩
    have B1 : Below w.heap.size w w1 := fin.trans (hb1.mono (by simp))
    go_wp2_with fail
    refine bodyPost_ret (v := .tuple #[.slice (some ⟨w1.heap.size, 0, none⟩) 0 0, .bool false]) ?_ rfl ⟨some ⟨w1.heap.size, 0, none⟩, 0, rfl, Row.lit_lo rfl w.heap.size B1.size [] (by simp), B1.alloc B1.size _⟩
    simp [results, Try.results26, go_sem]
  · rw [ec] at CC
    by_cases hi0 : i < 0
    · have e1 : stepB h s i = false := by unfold stepB plB; simp; omega
      have e2 : stepL h s i = [] := by unfold stepL; rw [e1]; simp
      rw [e1, e2]
      clear ec e1 e2
      go_enter Try.func26, Try.ntmps26
      go_wp2_with fail
      refine (CC _ H0 T0).mono ?_; rintro e w1 ⟨rfl, hb1⟩
      have B1 : Below w.heap.size w w1 := fin.trans (hb1.mono (by simp))
      go_wp2_with fail
      refine bodyPost_ret (v := .tuple #[.slice (some ⟨w1.heap.size, 0, none⟩) 0 0, .bool false]) ?_ rfl ⟨some ⟨w1.heap.size, 0, none⟩, 0, rfl, Row.lit_lo rfl w.heap.size B1.size [] (by simp), B1.alloc B1.size _⟩
      simp [results, Try.results26, go_sem]
    · obtain ⟨j, rfl⟩ : ∃ j : Nat, i = j := ⟨i.toNat, by omega⟩
      by_cases hjn : n ≤ j
      · have e1 : stepB h s (j : Int) = false := by unfold stepB plB; rw [l.out]; simp; omega
        have e2 : stepL h s (j : Int) = [] := by unfold stepL; rw [e1]; simp
        have hjn2 : (n : Int) ≤ (j : Int) := by omega
        rw [e1, e2]
        clear ec e1 e2
        go_enter Try.func26, Try.ntmps26
        go_wp2_with fail
        refine (CC _ H0 T0).mono ?_; rintro e w1 ⟨rfl, hb1⟩
        have B1 : Below w.heap.size w w1 := fin.trans (hb1.mono (by simp))
        go_wp2_with fail
        refine bodyPost_ret (v := .tuple #[.slice (some ⟨w1.heap.size, 0, none⟩) 0 0, .bool false]) ?_ rfl ⟨some ⟨w1.heap.size, 0, none⟩, 0, rfl, Row.lit_lo rfl w.heap.size B1.size [] (by simp), B1.alloc B1.size _⟩
        simp [results, Try.results26, go_sem]
      · have hjn2 : ¬ (n : Int) ≤ (j : Int) := by omega
        have hjn3 : j < n := by omega
        have ev : hvB h = true := by simp at ec; exact ec.1
        have ed : difB n0 s = true := by simp at ec; rw [l0.out] at ec; exact ec.2
        have h8 : n0 ≤ 8 := by have := hvB_len ev; rw [l0.out] at this; omega
        have sl := dif_len ed
        have n8 : n ≤ 8 := by have := l.out; omega
        have e1 : stepB h s (j : Int) = true := by unfold stepB plB; rw [ec, l.out]; simp; omega
        obtain ⟨gs, x, rfl, _, hgs, hsx, hcx, _⟩ := hx.get (k := j) (by rw [l.out]; exact hjn3)
        have hxr := (dif_rangeM ed).1 x (List.mem_of_getElem? hsx.out)
        obtain ⟨q, rfl⟩ : ∃ q : Nat, x = q := ⟨x.toNat, by omega⟩
        have hqn : q < n0 := by omega
        obtain ⟨ga, lx, rfl, _, hga, hlx, hcl, _⟩ := r0.get (k := q) (by rw [l0.out]; exact hqn)
        obtain ⟨gb, rx, rfl, _, hgb, hrx, hcr, _⟩ := r1.get (k := q) (by have := hvB_len ev; rw [this.1, l0.out]; exact hqn)
        have hq1 : q < n1 := by have := (List.getElem?_eq_some_iff.1 hrx.out).1; rw [l1.out] at this; exact this
        have e2 : stepL h s (j : Int) = meet1 (meet1 s lx) rx := by
          unfold stepL; rw [if_pos e1, gd_nat hsx.out]; unfold kid2; rw [gd_nat hlx.out, gd_nat hrx.out]; rfl
        rw [e1, e2]
        have hl1 : (meet1 s lx).length ≤ 9 := by
          unfold meet1; split
          · omega
          · simp; omega
        have M1 := fun W lo2 A8 c8 hW hz => l10Meet_any W lo2 A8 _ c8 s hW rfl (by omega) hz lx
        have M2 := fun W lo2 A8 c8 hW hz => l10Meet_any W lo2 A8 _ c8 (meet1 s lx) hW rfl (by omega) hz rx
        have E0 : (s.map iv).length = n * 1 := by simp; exact l.out
        have L0 : Hid (0 + n = s.length) := by unfold Hid; have := l.out; omega
        have M0 : 0 + n ≤ maxLen := by unfold maxLen; omega
        generalize ht1 : meet1 s lx = s1 at M1 M2 hl1 ⊢
        generalize ht2 : meet1 s1 rx = s2 at M2 ⊢
        clear ec e1 e2 ed ev hsx hxr hlx hrx ht1 ht2 hx hv r0 r1 sl
        go_enter Try.func26, Try.ntmps26
        go_wp2_with fail
        refine (CC _ H0 T0).mono ?_; rintro e w1 ⟨rfl, hb1⟩
        have B1 : Below w.heap.size w w1 := fin.trans (hb1.mono (by simp))
        have X1 := Blk3.below (by exact X0) hb1
        have T1 := Row.below (by exact T0) hb1
        have hcx1 : w1.cell? ⟨gs, j, none⟩ = some (.int .i64 q) := (B1.cell (p := ⟨gs, j, none⟩) hgs).trans hcx
        have hcl1 : w1.cell? ⟨ga, q, none⟩ = some (.int .i64 lx) := (B1.cell (p := ⟨ga, q, none⟩) hga).trans hcl
        have hcr1 : w1.cell? ⟨gb, q, none⟩ = some (.int .i64 rx) := (B1.cell (p := ⟨gb, q, none⟩) hgb).trans hcr
        have xs1 : gs < w1.heap.size := Nat.lt_of_lt_of_le hgs B1.size
        have xa1 : ga < w1.heap.size := Nat.lt_of_lt_of_le hga B1.size
        have xb1 : gb < w1.heap.size := Nat.lt_of_lt_of_le hgb B1.size
        obtain ⟨p0, p1, p2, _⟩ := X1.cells
        have npos : 0 < n := by omega
        have nle : n ≤ 1048576 := by omega
        clear CC H0 T0 X0 fin Q0 Q1 hb1 hcx hcl hcr hgs hga hgb
        go_wp2_with fail
        go_region_held3 (fun w' => w'.cell? ⟨w.heap.size, 0, none⟩ = some (.slice (some ⟨ga, 0, none⟩) n0 c0) ∧ w'.cell? ⟨gs, j, none⟩ = some (.int .i64 q) ∧ w'.cell? ⟨ga, q, none⟩ = some (.int .i64 lx))
          (((try dsimp only); (repeat' apply And.intro) <;> (first | ((repeat (with_reducible (first | exact t0 | exact hcx5 | exact hcl5 | exact q0 | exact hcx4 | exact hcl4 | exact p0 | exact hcx1 | exact hcl1 | refine cellD ?_ | refine cellA ?_ _))); done))))
          (first
            | (refine step_append_grows rfl (.tmp 24) (.tmp 25) 22 rfl 3 i0 (.int .i64 0) 1 8 Try.underlying22 hi hz0 hz1 hz2 rfl (by decide) _ 0 0 [] (by rfl) (fun _ => ⟨rfl, rfl⟩) rfl (fun _ _ j u hj => nil_get hj) ⟨gs, 0, none⟩ n c (s.map iv) (by rfl) E0 ?_ (ints_oneCell _ _) (by omega) (by omega) (by omega) ?_; (exact Row.cellsV (lo := lo') (n := n) (c := c) (xs := s) (by repeat (with_reducible (first | refine Row.drew ?_ | refine Row.alloc ?_ _ | exact T1)))); intro v4 w4 hown4 hgr4; obtain ⟨A4, c4, rfl, R4, hb4⟩ := after_append (xs := s) hown4 hgr4 L0.out; (have z4 : w1.heap.size ≤ w4.heap.size := by have := hb4.size; simp at this; omega); (have X4 : Blk3 w4 w.heap.size (.slice (some ⟨ga, 0, none⟩) n0 c0) (.slice (some ⟨gb, 0, none⟩) n1 c1) (.slice A2 n2 c2) 27 := (by repeat (with_reducible (first | exact X1 | refine Blk3.drew ?_ | refine Blk3.alloc ?_ _ | refine Blk3.below ?_ hb4)))); (have B4 : Below w1.heap.size w1 w4 := Below.trans (by repeat (with_reducible (first | exact Below.refl _ _ | refine Below.drew ?_ | refine Below.alloc ?_ (by first | omega | (simp <;> omega)) _))) (hb4.mono (by first | omega | (simp <;> omega)))); obtain ⟨q0, q1, q2, _⟩ := X4.cells; (have hcx4 : w4.cell? ⟨gs, j, none⟩ = some (.int .i64 q) := (B4.cell (p := ⟨gs, j, none⟩) xs1).trans hcx1); (have hcl4 : w4.cell? ⟨ga, q, none⟩ = some (.int .i64 lx) := (B4.cell (p := ⟨ga, q, none⟩) xa1).trans hcl1); (have hcr4 : w4.cell? ⟨gb, q, none⟩ = some (.int .i64 rx) := (B4.cell (p := ⟨gb, q, none⟩) xb1).trans hcr1); (have R4' := R4.mono (lo' := w.heap.size) (by have := B1.size; first | omega | (simp <;> omega))); (have z4w : w.heap.size ≤ w4.heap.size := Nat.le_trans B1.size z4))
            | (go_at_call 51; (with_reducible refine (M1 _ _ _ _ R4' z4w).mono ?_); rintro e w5 ⟨A5, c5, rfl, R5, hb5⟩; (have X5 := X4.below hb5); (have B5 : Below w1.heap.size w1 w5 := B4.trans (hb5.mono z4)); obtain ⟨t0, t1, t2, _⟩ := X5.cells; (have hcx5 : w5.cell? ⟨gs, j, none⟩ = some (.int .i64 q) := (B5.cell (p := ⟨gs, j, none⟩) xs1).trans hcx1); (have hcl5 : w5.cell? ⟨ga, q, none⟩ = some (.int .i64 lx) := (B5.cell (p := ⟨ga, q, none⟩) xa1).trans hcl1); (have hcr5 : w5.cell? ⟨gb, q, none⟩ = some (.int .i64 rx) := (B5.cell (p := ⟨gb, q, none⟩) xb1).trans hcr1); (have z5 : w.heap.size ≤ w5.heap.size := Nat.le_trans z4w hb5.size)))
        all_goals
          rename_i hHeld
          clear hHeld
          have B5w := B1.trans (B5.mono B1.size)
          clear M1 R4 R4' X4 q0 q1 q2 hcx4 hcl4 hcr4 hb4 hb5 B4 p0 p1 p2 hcx1 hcl1 hcr1 T1 X1
          go_wp2_with fail
          go_region_held3 (fun w' => w'.cell? ⟨w.heap.size, 1, none⟩ = some (.slice (some ⟨gb, 0, none⟩) n1 c1) ∧ w'.cell? ⟨gs, j, none⟩ = some (.int .i64 q) ∧ w'.cell? ⟨gb, q, none⟩ = some (.int .i64 rx))
            (((try dsimp only); (repeat' apply And.intro) <;> (first | ((repeat (with_reducible (first | exact u1 | exact hcx6 | exact hcr6 | exact t1 | exact hcx5 | exact hcr5 | refine cellD ?_ | refine cellA ?_ _))); done))))
            (first
              | (go_at_call 51; (with_reducible refine (M2 _ _ _ _ (Row.drew R5) (leDO z5)).mono ?_); rintro e w6 ⟨A6, c6, rfl, R6, hb6⟩; (have X6 := Blk3.below (by exact X5) hb6); (have B6 : Below w1.heap.size w1 w6 := (Below.drew B5).trans (hb6.mono B5.size)); obtain ⟨u0, u1, u2, _⟩ := X6.cells; (have hcx6 : w6.cell? ⟨gs, j, none⟩ = some (.int .i64 q) := (hb6.cell (p := ⟨gs, j, none⟩) (Nat.lt_of_lt_of_le xs1 B5.size)).trans (cellD hcx5)); (have hcr6 : w6.cell? ⟨gb, q, none⟩ = some (.int .i64 rx) := (hb6.cell (p := ⟨gb, q, none⟩) (Nat.lt_of_lt_of_le xb1 B5.size)).trans (cellD hcr5))))
          rename_i hHeld
          clear hHeld
          have B6w := B1.trans (B6.mono B1.size)
          go_wp2_with fail
          refine bodyPost_ret (v := .tuple #[.slice A6 s2.length c6, .bool true]) ?_ rfl ⟨A6, c6, rfl, R6, B6w⟩
          simp [results, Try.results26, go_sem]
end Go.Proofs.Ytapkhgpifpgleaa
