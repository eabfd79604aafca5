/- HasCycle of both. -/
import Derived.Test.YtgooohapdjgmpaaLives
import Derived.Test.YtgooohapdjgmpaaSrc
namespace Go.Proofs.Ytgooohapdjgmpaa
open Go.RowKit Go.Maps

theorem lit2 (w : World) (x y : Int) : Row (w.alloc (.cells #[.int .i64 x, .int .i64 y] 3)) w.heap.size (.slice (some ⟨w.heap.size, 0, none⟩) 2 2) [x, y] := Row.lit_lo rfl w.heap.size (Nat.le_refl _) [x, y] (by simp)
/-- Does a way lead from a cell back to it? -/
def cycB (h : Hp) (c : Int) : Bool := hvB h && plB c h.l.length && decide (0 ≤ gd (dist h [gd h.l c, gd h.r c]) c)

set_option maxRecDepth 100000 in
set_option maxHeartbeats 2000000 in
theorem implCyc_any (w : World) (lo : Nat) (v : Value) (h : Hp) (hv : Hv w lo v h) (c : Int) :
    Calls Try.prog 31 #[v, .int .i64 c] w (RetB w (cycB h c)) := by
  obtain ⟨A0, n0, c0, A1, n1, c1, A2, n2, c2, rfl, ⟨h0, h1, h2⟩, ⟨l0, l1, l2⟩, _⟩ := hv.open_
  have X0 := Blk3.new w (.slice A0 n0 c0) (.slice A1 n1 c1) (.slice A2 n2 c2) 25
  have V := hasCell_any _ _ _ _ (hv.alloc (.cells #[.slice A0 n0 c0, .slice A1 n1 c1, .slice A2 n2 c2] 25)) c
  have fin : Below w.heap.size w (w.alloc (.cells #[.slice A0 n0 c0, .slice A1 n1 c1, .slice A2 n2 c2] 25)) := (Below.refl _ _).alloc (Nat.le_refl _) _
  rcases ev : (hvB h && plB c h.l.length)
  · rw [ev] at V
    have hf : cycB h c = false := by unfold cycB; rw [ev]; simp
    rw [hf]
    clear ev hf
    go_enter Try.func31, Try.ntmps31
    go_wp2_with fail
    refine V.mono ?_; rintro e w1 ⟨rfl, hb1⟩
    go_wp2_with fail
    go_ret
    exact ⟨rfl, fin.trans (hb1.mono (by simp))⟩
  · rw [ev] at V
    obtain ⟨hva, hpl⟩ : hvB h = true ∧ plB c h.l.length = true := by simpa using ev
    obtain ⟨kc, rfl, hkc⟩ := plB_nat hpl
    have hl := hvB_len hva
    obtain ⟨_, hp0, hp1, _⟩ := hvB_parts hva
    have u0 : n0 ≤ 8 ∧ kc < n0 ∧ kc < n1 := by have := l0.out; have := l1.out; omega
    obtain ⟨u0a, u0b, u0c⟩ := u0
    have hfd : Hid (cycB h (kc : Int) = decide (0 ≤ gd (dist h [gd h.l kc, gd h.r kc]) kc)) := by unfold Hid cycB; rw [ev]; simp
    have pl0 := gd_all hp0 hpl
    have pr0 := gd_all hp1 (by have := hl.1; rw [this]; exact hpl)
    go_enter Try.func31, Try.ntmps31
    go_wp2_with fail
    refine V.mono ?_; rintro e w1 ⟨rfl, hb1⟩
    have X1 := Blk3.below (by exact X0) hb1
    have H1 := Hv.below (by exact hv.alloc (.cells #[.slice A0 n0 c0, .slice A1 n1 c1, .slice A2 n2 c2] 25)) hb1
    have R0 := Row.below (by exact h0.alloc (.cells #[.slice A0 n0 c0, .slice A1 n1 c1, .slice A2 n2 c2] 25)) hb1
    have R1 := Row.below (by exact h1.alloc (.cells #[.slice A0 n0 c0, .slice A1 n1 c1, .slice A2 n2 c2] 25)) hb1
    have B1 : Below w.heap.size w w1 := fin.trans (hb1.mono (by simp))
    obtain ⟨ga, lx0, eA0, _, hga, hl0, hcl, _⟩ := R0.get (k := kc) (by have := l0.out; omega)
    obtain ⟨gb, rx0, eA1, _, hgb, hr0, hcr, _⟩ := R1.get (k := kc) (by have := l1.out; omega)
    subst eA0 eA1
    have hgl : gd h.l (kc : Int) = lx0 := gd_nat hl0.out
    have hgr : gd h.r (kc : Int) = rx0 := gd_nat hr0.out
    rw [hgl] at pl0 hfd
    rw [hgr] at pr0 hfd
    have hst : [lx0, rx0].all (ptB · h.l.length) = true := by simp [pl0, pr0]
    have DD := fun W (hW : Hv W lo (.agg #[.slice (some ⟨ga, 0, none⟩) n0 c0, .slice (some ⟨gb, 0, none⟩) n1 c1, .slice A2 n2 c2]) h) (hR : Row W w1.heap.size (.slice (some ⟨w1.heap.size, 0, none⟩) 2 2) [lx0, rx0]) => distancesFrom_any W lo _ h hW hva (some ⟨w1.heap.size, 0, none⟩) 2 2 [lx0, rx0] w1.heap.size hR rfl hst
    have hll := l0.out
    have HLL := Lib.hid hll
    have hdok := dist_okV h [lx0, rx0]
    have hdlen := dist_len h [lx0, rx0]
    rw [hll] at hdlen
    generalize dist h [lx0, rx0] = D at DD hfd hdok hdlen
    have HDO := Lib.hid hdok
    have HDL := Lib.hid hdlen
    have hga1 : ga < w1.heap.size := hga
    have hgb1 : gb < w1.heap.size := hgb
    have hkey : keyOf Try.prog 3 (.int .i64 (kc : Int)) = some (.int .i64 (kc : Int)) := keyOf_int_mk Try.underlying3 (wfI (by omega))
    obtain ⟨p0, p1, p2, _⟩ := X1.cells
    clear V hv h0 h1 h2 R0 R1 hl0 hr0 ev hva hpl hl hp0 hp1 pl0 pr0 hst hgl hgr hll hdok hdlen
    go_wp2_with fail
    go_region_held3 (fun w' => w'.cell? ⟨w.heap.size, 0, none⟩ = some (.slice (some ⟨ga, 0, none⟩) n0 c0) ∧ w'.cell? ⟨w.heap.size, 1, none⟩ = some (.slice (some ⟨gb, 0, none⟩) n1 c1) ∧ w'.cell? ⟨w.heap.size, 2, none⟩ = some (.slice A2 n2 c2) ∧ w'.cell? ⟨ga, kc, none⟩ = some (.int .i64 lx0) ∧ w'.cell? ⟨gb, kc, none⟩ = some (.int .i64 rx0))
      (((try dsimp only); (repeat' apply And.intro) <;> (with_reducible (first | exact p0 | exact cellD p0 | exact cellA (cellD p0) _ | exact cellD (cellA p0 _) | exact p1 | exact cellD p1 | exact cellA (cellD p1) _ | exact cellD (cellA p1 _) | exact p2 | exact cellD p2 | exact cellA (cellD p2) _ | exact cellD (cellA p2 _) | exact hcl | exact cellD hcl | exact cellA (cellD hcl) _ | exact cellD (cellA hcl _) | exact hcr | exact cellD hcr | exact cellA (cellD hcr) _ | exact cellD (cellA hcr _) | exact q0 | exact q1 | exact q2 | exact hcl2 | exact hcr2))))
      (first
        | (go_at_call 40; (with_reducible refine (DD _ (by first | exact (H1.alloc (.cells #[.int .i64 lx0, .int .i64 rx0] 3)).drew | exact H1.drew.alloc _) (by first | exact Row.drew (lit2 _ _ _) | exact lit2 _ _ _)).mono ?_); rintro e w2 ⟨b, m, M, rfl, hbb, hown, hmap, hb2⟩; have X2 := Blk3.below (by exact X1.alloc (.cells #[.int .i64 lx0, .int .i64 rx0] 3)) hb2; obtain ⟨q0, q1, q2, _⟩ := X2.cells; have hcl2 : w2.cell? ⟨ga, kc, none⟩ = some (.int .i64 lx0) := (hb2.cell (p := ⟨ga, kc, none⟩) (by first | omega | (simp <;> omega))).trans (cellD (cellA hcl _)); have hcr2 : w2.cell? ⟨gb, kc, none⟩ = some (.int .i64 rx0) := (hb2.cell (p := ⟨gb, kc, none⟩) (by first | omega | (simp <;> omega))).trans (cellD (cellA hcr _)); have B2 : Below w.heap.size w w2 := ((B1.alloc B1.size (.cells #[.int .i64 lx0, .int .i64 rx0] 3)).drew).trans (hb2.mono (by have := B1.size; first | omega | (simp <;> omega))); obtain ⟨vk, pk, hlk, hvk⟩ := hown.look_ok lawInt Try.underlying48 (zeroInt _) (plainElem_int Try.underlying3 (by decide)) hkey; obtain ⟨cv, rfl, _, _⟩ := plainElem_int_inv Try.underlying3 hvk))
    rename_i hHeld
    clear hHeld
    go_wp2_with fail
    go_ret
    exact ⟨ret_bool (by rw [hfd.out, (hmap (kc : Int)).1]; simp), B2⟩

end Go.Proofs.Ytgooohapdjgmpaa
