/- PathTo of spec. -/
import Derived.Test.YtkcelcjghplhiaaPthP
import Derived.Test.YtkcelcjghplhiaaSDist
import Derived.Maps.AppendAt
namespace Go.Proofs.Ytkcelcjghplhiaa
open Go.RowKit Go.Maps

theorem pthL_len (h : Hp) (c : Int) : (pthL h c).length ≤ 8 := by
  unfold pthL
  split
  · next e =>
    unfold dokB at e
    rw [Bool.and_eq_true, Bool.and_eq_true, decide_eq_true_eq] at e
    obtain ⟨⟨hva, hpl⟩, hg⟩ := e
    have hc0 : 0 ≤ c := by simp only [plB, decide_eq_true_eq] at hpl; omega
    obtain ⟨b1, b2⟩ := dist_bounds hva hc0 hg
    have := liveL_bd h
    have := (cntB_bd (liveL h)).2
    rw [wayL_len]
    omega
  · simp
theorem row_cells {w : World} {lo g n c : Nat} {xs : List Int} (h : Row w lo (.slice (some ⟨g, 0, none⟩) n c) xs) : ∀ j u, (xs.map iv)[j]? = some u → w.cell? ((⟨g, 0, none⟩ : Addr).add j) = some u := by
  intro j u hj
  rw [List.getElem?_map] at hj
  cases hx : xs[j]? with
  | none => rw [hx] at hj; simp at hj
  | some x =>
    rw [hx] at hj
    have hu : iv x = u := by simpa using hj
    have hjl := (List.getElem?_eq_some_iff.1 hx).1
    obtain ⟨g', x', eg, _, _, hx', hc, _⟩ := h.get (k := j) hjl
    cases eg
    have : x' = x := by have h9 := hx'.out; rw [hx] at h9; simpa using h9.symm
    subst this
    rw [← hu]
    rcases j with _ | j
    · simpa [Addr.add] using hc
    · simpa [Addr.add] using hc

set_option maxRecDepth 100000 in
set_option maxHeartbeats 3000000 in
theorem specPth_any (w : World) (lo : Nat) (v : Value) (h : Hp) (hv : Hv w lo v h) (c : Int) (hwf : (Lit.int .i64 c).wf = true) :
    Calls Try.prog 9 #[v, .int .i64 c] w (NewRowOk w (pthL h c) (dokB h c)) := by
  obtain ⟨i0, hi, hz0, hz1, hz2⟩ := info_parts Try.infoInt
  obtain ⟨A0, n0, c0, A1, n1, c1, A2, n2, c2, rfl, ⟨h0, h1, h2⟩, ⟨l0, l1, l2⟩, _⟩ := hv.open_
  have X0 := Blk3.new w (.slice A0 n0 c0) (.slice A1 n1 c1) (.slice A2 n2 c2) 25
  have V := specDst_any _ _ _ _ (hv.alloc (.cells #[.slice A0 n0 c0, .slice A1 n1 c1, .slice A2 n2 c2] 25)) c hwf
  have fin : Below w.heap.size w (w.alloc (.cells #[.slice A0 n0 c0, .slice A1 n1 c1, .slice A2 n2 c2] 25)) := (Below.refl _ _).alloc (Nat.le_refl _) _
  rcases ev : dokB h c
  · rw [ev] at V
    have hf2 : pthL h c = [] := by unfold pthL; rw [ev]; simp
    rw [hf2]
    clear ev hf2
    go_enter Try.func9, Try.ntmps9
    go_wp2_with fail
    refine V.mono ?_; rintro e w1 ⟨rfl, hb1⟩
    have B1 : Below w.heap.size w w1 := fin.trans (hb1.mono (by simp))
    have RL : Row (w1.alloc (.cells #[] 3)) w1.heap.size (.slice (some ⟨w1.heap.size, 0, none⟩) 0 0) [] := Row.lit_lo rfl w1.heap.size (Nat.le_refl _) [] (by simp)
    have BL := B1.alloc B1.size (.cells #[] 3)
    go_wp2_with fail
    go_ret2
    exact ⟨_, _, rfl, RL.mono B1.size, BL⟩
  · rw [ev] at V
    have hd : dstN h c = gd (dist h h.t) c := by unfold dstN; rw [if_pos ev]
    have ev2 := ev
    unfold dokB at ev2
    rw [Bool.and_eq_true, Bool.and_eq_true, decide_eq_true_eq] at ev2
    obtain ⟨⟨hva, hpl⟩, hg⟩ := ev2
    have hc0 : 0 ≤ c := by simp only [plB, decide_eq_true_eq] at hpl; omega
    obtain ⟨b1, b2⟩ := dist_bounds hva hc0 hg
    have hcb := liveL_bd h
    have hcb2 := (cntB_bd (liveL h)).2
    obtain ⟨N, hN⟩ : ∃ N : Nat, gd (dist h h.t) c = (N : Int) := ⟨_, (Int.toNat_of_nonneg hg).symm⟩
    have hpe : Hid (pthL h c = wayL h (dist h h.t) N c) := by unfold Hid pthL; rw [if_pos ev, hN]; simp
    have hst := Lib.hid (sinv_start hc0 (by omega : 1 ≤ N) hN)
    have hNb : 1 ≤ N ∧ N ≤ 8 := by omega
    rw [hd, hN] at V
    have hpt := (hvB_parts hva).2.2.2
    have hl := hvB_len hva
    have EV := Lib.hid hva
    have u0 : n0 ≤ 8 ∧ n2 ≤ 3 := by have := l0.out; have := l2.out; omega
    obtain ⟨u0a, u0b⟩ := u0
    have hrl : Hid (h.r.length = n0) := by unfold Hid; have := l0.out; omega
    have DD := fun W hW hR => l2Distances_any W lo (.agg #[.slice A0 n0 c0, .slice A1 n1 c1, .slice A2 n2 c2]) h hW hva A2 n2 c2 h.t lo hR l2.out (by omega) hpt
    have hdl : Hid ((dist h h.t).length = n0) := by unfold Hid; rw [dist_len]; exact l0.out
    clear ev hva hpl hpt hl hd hg hN b1 b2 hcb hcb2 hc0
    go_enter Try.func9, Try.ntmps9
    go_wp2_with fail
    refine V.mono ?_; rintro e w1 ⟨rfl, hb1⟩
    have X1 := Blk3.below (by exact X0) hb1
    have H1 := Hv.below (by exact hv.alloc (.cells #[.slice A0 n0 c0, .slice A1 n1 c1, .slice A2 n2 c2] 25)) hb1
    have R1 := Row.below (by exact h2.alloc (.cells #[.slice A0 n0 c0, .slice A1 n1 c1, .slice A2 n2 c2] 25)) hb1
    have B1 : Below w.heap.size w w1 := fin.trans (hb1.mono (by simp))
    obtain ⟨p0, p1, p2, _⟩ := X1.cells
    have D1 := DD w1 H1 R1
    clear V h0 h1 h2 DD H1 R1
    go_wp2_with fail
    refine D1.mono ?_; rintro e w2 ⟨AD, cD, rfl, hD, hb2⟩
    have B2 := B1.trans (hb2.mono B1.size)
    have X2 := X1.below hb2
    have xl2 := X2.lt
    rw [hdl.out] at hD ⊢
    have RL : Row (w2.alloc (.cells #[.int .i64 c] 3)) w2.heap.size (.slice (some ⟨w2.heap.size, 0, none⟩) 1 1) [c] := Row.lit_lo rfl w2.heap.size (Nat.le_refl _) [c] (by simp)
    have RD := (hD.alloc (.cells #[.int .i64 c] 3)).mono (Nat.zero_le _)
    have X3K := X2
    have RDK := hD
    have X3 := X2.alloc (.cells #[.int .i64 c] 3)
    have B3 := B2.alloc B2.size (.cells #[.int .i64 c] 3)
    have s3 : w2.heap.size ≤ (w2.alloc (.cells #[.int .i64 c] 3)).heap.size := by simp
    clear hD X2 p0 p1 p2 B3 s3
    go_wp2_with fail
    obtain ⟨P0, hP0⟩ : ∃ P0, N = P0 + 1 := ⟨N - 1, by omega⟩
    have HP0 : Hid (N = P0 + 1) := hP0
    have hst' : Hid (SInv h N c P0 c []) := by unfold Hid; have h9 := hst.out; rw [show N - 1 = P0 by omega] at h9; exact h9
    clear hP0
    have hl0 : Hid (h.l.length = n0) := l0
    have u1 : Hid (n1 = n0) := by unfold Hid; rw [← l1.out, hrl.out]
    have PP := fun W (hW : Below w2.heap.size w2 W) k a b cu => l2Points_any W lo _ h (hv.below (B2.trans (hW.mono B2.size))) k a b cu
    have XX := fun W (hW : Below w2.heap.size w2 W) => Blk3.below (by exact X3K) hW
    have DW := fun W (hW : Below w2.heap.size w2 W) => Row.below (by exact RDK) hW
    clear hst X3 RD l0 l1 l2 X1
    go_loopg [6, 9, 10] P0 (fun g n out i wr => ∃ (m : Nat) (cur : Int) (rest : List Int) (A : Option Addr) (nn cc : Nat), n = .int .i64 m ∧ Hid (m = g + 1) ∧ out = .slice A nn cc ∧ Hid (nn = rest.length + 1) ∧ Row wr w2.heap.size (.slice A nn cc) (cur :: rest) ∧ Hid (SInv h N c g cur rest) ∧ Below w2.heap.size w2 wr)
    case atStart => exact ⟨N, c, [], _, 1, 1, rfl, HP0, rfl, rfl, RL, hst', (Below.refl _ _).alloc (Nat.le_refl _) _⟩
    case round =>
      obtain ⟨m, cur, rest, A, nn, cc, rfl, hm, rfl, hnn, R, hS, hB⟩ := hrel
      by_cases hg0 : gk = 0
      · subst hg0
        have hend := Lib.hid (sinv_end hS.out)
        have hm1 : m = 1 := hm.out
        subst hm1
        have hres : Hid (pthL h c = cur :: rest) := by unfold Hid; rw [hpe.out, hend.out]
        clear hS hend hpe
        go_wp2_with fail
        go_ret2
        exact ⟨A, cc, by rw [hres.out, hnn.out]; rfl, by have := R.mono B2.size; rw [hres.out]; simpa [hnn.out] using this, B2.trans (hB.mono B2.size)⟩
      · obtain ⟨p, hp⟩ : ∃ p, gk = p + 1 := ⟨gk - 1, by omega⟩
        have hmv : m = p + 2 ∧ m ≤ 8 := by have := hm.out; have := hS.out.len; omega
        obtain ⟨hm2', hm8⟩ := hmv
        have hm2 := Lib.hid hm2'
        have hgt : (1 : Int) < (m : Int) := by omega
        have hS' : Hid (SInv h N c (p + 1) cur rest) := by rw [← hp]; exact hS
        have hnn8 : nn ≤ 8 := by have := hnn.out; have := hS'.out.len; omega
        obtain ⟨G, HG⟩ : ∃ G, Hid (G = gk) := ⟨_, rfl⟩
        have hGp : Hid (gk = p + 1) := hp
        clear hS hp hm hm2'
        go_wp2_with fail
        go_loopg [9, 10] n0 (fun g2 o i w3 => ∃ j : Nat, Hid (g2 + j = n0) ∧ i = .int .i64 j ∧ o = .slice A nn cc ∧ Row w3 w2.heap.size (.slice A nn cc) (cur :: rest) ∧ Hid (∀ j' : Nat, j' < j → ¬ (gd (dist h h.t) j' = ((p + 1 : Nat) : Int) ∧ pntB h j' cur = true)) ∧ Below w2.heap.size w2 w3)
        case atStart => exact ⟨0, rfl, rfl, rfl, R, fun _ h => absurd h (by omega), hB⟩
        case round =>
          clear R hB
          obtain ⟨j, hj, rfl, rfl, R, hno, hB⟩ := hrel
          by_cases hlt : j < n0
          · obtain ⟨ga, x, rfl, _, hga, hx, hcx, _⟩ := (DW wr hB).get (k := j) (by rw [hdl.out]; exact hlt)
            have hgx := Lib.hid (gd_nat hx.out)
            obtain ⟨gb, y, rfl, _, hgb, hy, hcy, _⟩ := R.get (k := 0) (by simp)
            have hyc : y = cur := by have := hy.out; simpa using this.symm
            subst hyc
            obtain ⟨q0, q1, q2, _⟩ := (XX wr hB).cells
            have lx := (XX wr hB).lt
            clear hx hy
            have hnn0 : 0 < nn := by have := hnn.out; omega
            have hwr : IntKind.i64.wrap ((m : Int) - 1) = (m : Int) - 1 := IntWalk.i64_in _ (by omega)
            by_cases hx1 : x = (m : Int) - 1
            · have PQ := PP wr.drew hB.drew j (by rw [hl0.out]; exact hlt) (by rw [hrl.out]; exact hlt) y
              have hd1 : gd (dist h h.t) (j : Int) = ((p + 1 : Nat) : Int) := by rw [hgx.out]; have := hm2.out; omega
              subst hx1
              rcases hpt : pntB h j y
              · rw [hpt] at PQ
                have hno' : Hid (∀ j' : Nat, j' < j + 1 → ¬ (gd (dist h h.t) j' = ((p + 1 : Nat) : Int) ∧ pntB h j' y = true)) := by
                  intro j' hj'
                  rcases Nat.lt_succ_iff_lt_or_eq.1 hj' with h9 | rfl
                  · exact hno.out j' h9
                  · rw [hpt]; simp
                clear hno hpt hd1
                go_wp2_with fail
                go_region_held3 (fun w' => w'.cell? ⟨ga, j, none⟩ = some (.int .i64 ((m : Int) - 1)) ∧ w'.cell? ⟨gb, 0, none⟩ = some (.int .i64 y) ∧ w'.cell? ⟨w.heap.size, 0, none⟩ = some (.slice A0 n0 c0) ∧ w'.cell? ⟨w.heap.size, 1, none⟩ = some (.slice A1 n1 c1) ∧ w'.cell? ⟨w.heap.size, 2, none⟩ = some (.slice A2 n2 c2))
                  (((try dsimp only); (repeat' apply And.intro) <;> (with_reducible (first | exact hcx5 | exact hcy5 | exact q05 | exact q15 | exact q25 | exact cellD hcx | exact cellD hcy | exact cellD q0 | exact cellD q1 | exact cellD q2 | exact hcx | exact hcy | exact q0 | exact q1 | exact q2))))
                  ((go_at_call 30; (with_reducible refine PQ.mono ?_); rintro e w5 ⟨rfl, hb5⟩; (have hcx5 := (hb5.cell (p := ⟨ga, j, none⟩) (by simp <;> omega)).trans (by exact cellD hcx)); (have hcy5 := (hb5.cell (p := ⟨gb, 0, none⟩) (by simp <;> omega)).trans (by exact cellD hcy)); (have q05 := (hb5.cell (p := ⟨w.heap.size, 0, none⟩) (by simp <;> omega)).trans (by exact cellD q0)); (have q15 := (hb5.cell (p := ⟨w.heap.size, 1, none⟩) (by simp <;> omega)).trans (by exact cellD q1)); (have q25 := (hb5.cell (p := ⟨w.heap.size, 2, none⟩) (by simp <;> omega)).trans (by exact cellD q2))))
                rename_i hHeld
                clear hHeld
                have hB5 := hB.drew.trans (hb5.mono hB.drew.size)
                have R5 := R.drew.below hb5
                clear hcx5 hcy5 q05 q15 q25 PQ
                go_wp2_with fail
                go_roundg (gk - 1)
                case rel => exact ⟨j + 1, by have := hj.out; unfold Hid; omega, by go_num, rfl, R5, hno', hB5⟩
                case measure => have := hj.out; omega
              · rw [hpt] at PQ
                have hS2 := Lib.hid (sinv_step EV.out hS'.out (by rw [hl0.out]; exact hlt) hpt hd1 hno.out)
                clear hno hpt hd1
                go_wp2_with fail
                go_region_held3 (fun w' => w'.cell? ⟨ga, j, none⟩ = some (.int .i64 ((m : Int) - 1)) ∧ w'.cell? ⟨gb, 0, none⟩ = some (.int .i64 y) ∧ w'.cell? ⟨w.heap.size, 0, none⟩ = some (.slice A0 n0 c0) ∧ w'.cell? ⟨w.heap.size, 1, none⟩ = some (.slice A1 n1 c1) ∧ w'.cell? ⟨w.heap.size, 2, none⟩ = some (.slice A2 n2 c2))
                  (((try dsimp only); (repeat' apply And.intro) <;> (with_reducible (first | exact hcx5 | exact hcy5 | exact q05 | exact q15 | exact q25 | exact cellD hcx | exact cellD hcy | exact cellD q0 | exact cellD q1 | exact cellD q2 | exact hcx | exact hcy | exact q0 | exact q1 | exact q2))))
                  ((go_at_call 30; (with_reducible refine PQ.mono ?_); rintro e w5 ⟨rfl, hb5⟩; (have hcx5 := (hb5.cell (p := ⟨ga, j, none⟩) (by simp <;> omega)).trans (by exact cellD hcx)); (have hcy5 := (hb5.cell (p := ⟨gb, 0, none⟩) (by simp <;> omega)).trans (by exact cellD hcy)); (have q05 := (hb5.cell (p := ⟨w.heap.size, 0, none⟩) (by simp <;> omega)).trans (by exact cellD q0)); (have q15 := (hb5.cell (p := ⟨w.heap.size, 1, none⟩) (by simp <;> omega)).trans (by exact cellD q1)); (have q25 := (hb5.cell (p := ⟨w.heap.size, 2, none⟩) (by simp <;> omega)).trans (by exact cellD q2))))
                rename_i hHeld
                clear hHeld
                have hB5 := hB.drew.trans (hb5.mono hB.drew.size)
                have R5 := R.drew.below hb5
                have sz5 := hB5.size
                have RN : Row (w5.alloc (.cells #[.int .i64 (j : Int)] 3)) w5.heap.size (.slice (some ⟨w5.heap.size, 0, none⟩) 1 1) [(j : Int)] := Row.lit_lo rfl w5.heap.size (Nat.le_refl _) [(j : Int)] (by simp)
                have hown : (w5.alloc (.cells #[.int .i64 (j : Int)] 3)).ownsRow w5.heap.size 3 1 (.slice (some ⟨w5.heap.size, 0, none⟩) 1 1) 1 ([(j : Int)].map iv) := RN
                have hnews := row_cells (R5.alloc (.cells #[.int .i64 (j : Int)] 3))
                clear hcx5 hcy5 q05 q15 q25 PQ RN R5
                go_wp2_with (at_builtin; refine wpList_append_own _ rfl _ _ 23 rfl w5.heap.size 3 i0 (.int .i64 0) 1 8 Try.underlying23 hi hz0 hz1 hz2 rfl (by decide) _ _ _ rfl hown ⟨gb, 0, none⟩ nn cc ((y :: rest).map iv) rfl ?ap0 hnews ?ap2 ?ap3 ?ap4 ?ap5 ?_)
                case ap0 => have := hnn.out; simp; omega
                case ap2 => intro u hu; rw [List.mem_map] at hu; obtain ⟨z, _, rfl⟩ := hu; rfl
                case ap3 => unfold maxLen; omega
                case ap4 => omega
                case ap5 => simp
                intro v' w6 hown' hgrow _
                have hrow' : Row w6 w5.heap.size v' ((j : Int) :: y :: rest) := Row.of_own hown' (by simp) (by have := hnn.out; simp; omega)
                obtain ⟨A', c', hv', _⟩ := hrow'.form
                have hB6 := (hB5.alloc hB5.size (.cells #[.int .i64 (j : Int)] 3)).grown hgrow (by simp; omega) (fun k hk => by have := (hown.lt k hk).1; omega)
                have hlen : Hid (((j : Int) :: y :: rest).length = (y :: rest).length + 1) := by unfold Hid; simp
                subst hv'
                generalize ((j : Int) :: y :: rest).length = nn2 at hrow' hlen ⊢
                clear hown hown' hgrow hnews hz0 hz1 hz2 hi
                go_wp2
                go_roundg p
                case rel => exact ⟨m - 1, (j : Int), y :: rest, A', nn2, c', by go_num, by have := hm2.out; unfold Hid; omega, rfl, hlen, hrow'.mono sz5, hS2, hB6⟩
                case measure => have := HG.out; have := hGp.out; omega
            · have hno' : Hid (∀ j' : Nat, j' < j + 1 → ¬ (gd (dist h h.t) j' = ((p + 1 : Nat) : Int) ∧ pntB h j' y = true)) := by
                intro j' hj'
                rcases Nat.lt_succ_iff_lt_or_eq.1 hj' with h9 | rfl
                · exact hno.out j' h9
                · rw [hgx.out]; rintro ⟨h9, _⟩; have := hm2.out; omega
              have hx2 : (x == (m : Int) - 1) = false := by simpa using hx1
              clear hno
              go_wp2_with fail
              go_quiet (fail)
              go_wp2_with fail
              go_roundg (gk - 1)
              case rel => exact ⟨j + 1, by have := hj.out; unfold Hid; omega, by go_num, rfl, R.drewN _, hno', below_drewN hB _⟩
              case measure => have := hj.out; omega
          · exfalso
            obtain ⟨j', h1, h2, h3⟩ := prev_exists (k := p + 1) EV.out hS'.out.pos (by omega) (by have := hS'.out.at_; rw [this])
            exact hno.out j' (by have := hl0.out; omega) ⟨h2, h3⟩
end Go.Proofs.Ytkcelcjghplhiaa
