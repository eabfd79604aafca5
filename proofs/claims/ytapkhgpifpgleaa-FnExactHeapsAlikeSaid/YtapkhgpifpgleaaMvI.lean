/- impl's MoveCells and CopyStep. -/
import Derived.Test.YtapkhgpifpgleaaCpI
namespace Go.Proofs.Ytapkhgpifpgleaa
open Go.RowKit Go.Maps

theorem moveO_none {h : Hp} {tz : List Int} (h1 : ¬ (hvB h = true ∧ tz.length = h.l.length ∧ difB h.l.length tz = true)) : moveO h tz = none := by unfold moveO; rw [if_neg h1]

set_option maxRecDepth 100000 in
set_option maxHeartbeats 4000000 in
theorem implMove_any (w : World) (lo lo' : Nat) (v : Value) (h : Hp) (hv : Hv w lo v h) (A : Option Addr) (n c : Nat) (tz : List Int) (hx : Row w lo' (.slice A n c) tz) (l : Hid (tz.length = n)) (hm : n ≤ 9223372036854775807) :
    Calls Try.prog 30 #[v, .slice A n c] w (OptHv w (moveO h tz)) := by
  obtain ⟨A0, n0, c0, A1, n1, c1, A2, n2, c2, rfl, _, ⟨l0, _, _⟩, ⟨mm0, _, _⟩, _⟩ := hv.open_
  have X0 := (Blk3.new w (.slice A0 n0 c0) (.slice A1 n1 c1) (.slice A2 n2 c2) 27).alloc (.cells #[.slice none 0 0, .slice none 0 0, .slice none 0 0] 27)
  have Y0 := Blk3.new_at (w := w.alloc (.cells #[.slice A0 n0 c0, .slice A1 n1 c1, .slice A2 n2 c2] 27)) (b := w.heap.size + 1) (by simp) (.slice none 0 0) (.slice none 0 0) (.slice none 0 0) 27
  have V := implHeapValid_any _ _ _ _ ((hv.alloc (.cells #[.slice A0 n0 c0, .slice A1 n1 c1, .slice A2 n2 c2] 27)).alloc (.cells #[.slice none 0 0, .slice none 0 0, .slice none 0 0] 27))
  have fin : Below w.heap.size w ((w.alloc (.cells #[.slice A0 n0 c0, .slice A1 n1 c1, .slice A2 n2 c2] 27)).alloc (.cells #[.slice none 0 0, .slice none 0 0, .slice none 0 0] 27)) := ((Below.refl _ _).alloc (Nat.le_refl _) _).alloc (by simp) _
  have H0 := (hv.alloc (.cells #[.slice A0 n0 c0, .slice A1 n1 c1, .slice A2 n2 c2] 27)).alloc (.cells #[.slice none 0 0, .slice none 0 0, .slice none 0 0] 27)
  have T0 := (hx.alloc (.cells #[.slice A0 n0 c0, .slice A1 n1 c1, .slice A2 n2 c2] 27)).alloc (.cells #[.slice none 0 0, .slice none 0 0, .slice none 0 0] 27)
  rcases ev : hvB h
  · rw [ev] at V
    have e1 : moveO h tz = none := moveO_none (by rw [ev]; simp)
    rw [e1]
    clear ev e1
    go_enter Try.func30, Try.ntmps30
    go_wp2_with fail
    refine V.mono ?_; rintro e w1 ⟨rfl, hb1⟩
    have Y1 := Blk3.below (by exact Y0) hb1
    obtain ⟨q0, q1, q2, f0, f1, f2⟩ := Y1.cells
    have B1 : Below w.heap.size w w1 := fin.trans (hb1.mono (by simp; omega))
    go_wp2_with fail
    refine bodyPost_ret (v := .tuple #[.agg #[.slice none 0 0, .slice none 0 0, .slice none 0 0], .bool false]) ?_ rfl ⟨_, rfl, Hv.zero _ _, ((B1.setCell (by simp) _).setCell (by simp) _).setCell (by simp) _⟩
    simp [results, Try.results30, go_sem, q0, q1, q2]
  · rw [ev] at V
    by_cases hn : n = n0
    · subst hn
      have h8 : n ≤ 8 := by have := hvB_len ev; rw [l0.out] at this; omega
      have DC := fun W hW hR => differentCells_any W lo lo' (.agg #[.slice A0 n c0, .slice A1 n1 c1, .slice A2 n2 c2]) h hW (by rw [l0.out]; omega) A n c tz hR l hm
      rw [l0.out] at DC
      rcases ed : difB n tz
      · rw [ed] at DC
        have e1 : moveO h tz = none := moveO_none (by rw [l0.out, ed]; simp)
        rw [e1]
        clear ev e1 ed
        go_enter Try.func30, Try.ntmps30
        go_wp2_with fail
        refine V.mono ?_; rintro e w1 ⟨rfl, hb1⟩
        have X1 := Blk3.below (by exact X0) hb1
        have Y1 := Blk3.below (by exact Y0) hb1
        have H1 := Hv.below (by exact H0) hb1
        have T1 := Row.below (by exact T0) hb1
        have B1 : Below w.heap.size w w1 := fin.trans (hb1.mono (by simp; omega))
        obtain ⟨p0, p1, p2, _⟩ := X1.cells
        clear V H0 T0 fin
        go_wp2_with fail
        refine (DC _ H1 T1).mono ?_; rintro e w2 ⟨rfl, hb2⟩
        have Y2 := Y1.below hb2
        obtain ⟨q0, q1, q2, f0, f1, f2⟩ := Y2.cells
        have B2 := B1.trans (hb2.mono B1.size)
        clear Y1 H1 T1 DC
        go_wp2_with fail
        refine bodyPost_ret (v := .tuple #[.agg #[.slice none 0 0, .slice none 0 0, .slice none 0 0], .bool false]) ?_ rfl ⟨_, rfl, Hv.zero _ _, ((B2.setCell (by simp) _).setCell (by simp) _).setCell (by simp) _⟩
        simp [results, Try.results30, go_sem, q0, q1, q2]
      · rw [ed] at DC
        have P : Perm h.l.length tz := by rw [l0.out]; exact Perm.of l.out ed
        have e1 : moveO h tz = some ⟨fwL h.l tz (List.replicate h.l.length (-1)) h.l.length, fwL h.r tz (List.replicate h.l.length (-1)) h.l.length, h.t.map (ren (gd tz))⟩ := by
          unfold moveO
          rw [if_pos ⟨ev, by rw [l0.out]; exact l.out, by rw [l0.out]; exact ed⟩, fw_move P (by simp), fw_move P (by simp)]
          rfl
        have FH := fun W hW hR => forwardedHeap_any W lo lo' (.agg #[.slice A0 n c0, .slice A1 n1 c1, .slice A2 n2 c2]) h hW ev A c tz (by rw [l0.out]; exact hR) (by rw [l0.out]; exact l.out) (fun x hx => by have := P.rng x hx; omega)
        rw [e1]
        generalize (⟨fwL h.l tz (List.replicate h.l.length (-1)) h.l.length, fwL h.r tz (List.replicate h.l.length (-1)) h.l.length, h.t.map (ren (gd tz))⟩ : Hp) = hr at FH ⊢
        rw [l0.out] at FH
        clear ev e1 ed P
        go_enter Try.func30, Try.ntmps30
        go_wp2_with fail
        refine V.mono ?_; rintro e w1 ⟨rfl, hb1⟩
        have X1 := Blk3.below (by exact X0) hb1
        have Y1 := Blk3.below (by exact Y0) hb1
        have H1 := Hv.below (by exact H0) hb1
        have T1 := Row.below (by exact T0) hb1
        have B1 : Below w.heap.size w w1 := fin.trans (hb1.mono (by simp; omega))
        obtain ⟨p0, p1, p2, _⟩ := X1.cells
        clear V H0 T0 fin
        go_wp2_with fail
        refine (DC _ H1 T1).mono ?_; rintro e w2 ⟨rfl, hb2⟩
        have X2 := X1.below hb2
        have Y2 := Y1.below hb2
        have H2 := H1.below hb2
        have T2 := T1.below hb2
        have B2 := B1.trans (hb2.mono B1.size)
        obtain ⟨p0, p1, p2, _⟩ := X2.cells
        clear Y1 H1 T1 DC
        go_wp2_with fail
        refine (FH _ H2 T2).mono ?_; rintro e w5 ⟨vc, rfl, HC, hb5⟩
        have Y5 := Y2.below hb5
        have B5 := B2.trans (hb5.mono B2.size)
        obtain ⟨E0, m0, k0, E1, m1, k1, E2, m2, k2, rfl, ⟨s0, s1, s2⟩, _, _, _, a01, a02, a12⟩ := HC.open_
        have lY : w.heap.size + 1 < w2.heap.size := Y2.lt
        obtain ⟨Y0, Y1, Y2, f0, f1, f2⟩ := Y5.cells
        obtain ⟨hH, hB⟩ := made_done (w := w) (w3 := w5) (b := w.heap.size + 1) (h := hr) (by omega) (s0.mono (by omega)) (s1.mono (by omega)) (s2.mono (by omega)) a01 a02 a12 B5
        clear s0 s1 s2 FH H2 T2
        go_wp2_with fail
        refine bodyPost_ret (v := .tuple #[.agg #[.slice E0 m0 k0, .slice E1 m1 k1, .slice E2 m2 k2], .bool true]) ?_ rfl ⟨_, rfl, hH, hB⟩
        simp [results, Try.results30, go_sem, Y0, Y1, Y2]
    · have hne : ((n : Int) != (n0 : Int)) = true := by simp; omega
      have e1 : moveO h tz = none := moveO_none (by rw [l0.out, l.out]; simp [hn])
      rw [e1]
      clear ev e1 hn
      go_enter Try.func30, Try.ntmps30
      go_wp2_with fail
      refine V.mono ?_; rintro e w1 ⟨rfl, hb1⟩
      have X1 := Blk3.below (by exact X0) hb1
      have Y1 := Blk3.below (by exact Y0) hb1
      obtain ⟨p0, p1, p2, _⟩ := X1.cells
      obtain ⟨q0, q1, q2, f0, f1, f2⟩ := Y1.cells
      have B1 : Below w.heap.size w w1 := fin.trans (hb1.mono (by simp; omega))
      go_wp2_with fail
      refine bodyPost_ret (v := .tuple #[.agg #[.slice none 0 0, .slice none 0 0, .slice none 0 0], .bool false]) ?_ rfl ⟨_, rfl, Hv.zero _ _, ((B1.setCell (by simp) _).setCell (by simp) _).setCell (by simp) _⟩
      simp [results, Try.results30, go_sem, q0, q1, q2]

/-- A row and a Bool come back, and nothing that was there has turned. -/
def RetRB (w : World) (ys : List Int) (ok : Bool) (e : Ending) (w' : World) : Prop :=
  ∃ A c, e = .returned (.tuple #[.slice A ys.length c, .bool ok]) ∧ Row w' w.heap.size (.slice A ys.length c) ys ∧ Below w.heap.size w w'
def stepB (h : Hp) (s : List Int) (i : Int) : Bool := hvB h && difB h.l.length s && plB i s.length
def stepL (h : Hp) (s : List Int) (i : Int) : List Int := if stepB h s i = true then meets s (kid2 h (gd s i)) else []
theorem stepL_len (h : Hp) (s : List Int) (i : Int) : (stepL h s i).length ≤ s.length + 2 := by
  unfold stepL; split
  · rw [← apN_meets]
    refine Nat.le_trans (apN_len _ _) ?_
    have := nonN_len (kid2 h (gd s i))
    simp [kid2] at this ⊢; omega
  · simp
theorem moveO_short (h : Hp) (tz : List Int) : ((moveO h tz).getD Hp.zero).l.length ≤ 1048576 ∧ ((moveO h tz).getD Hp.zero).r.length ≤ 1048576 ∧ ((moveO h tz).getD Hp.zero).t.length ≤ 1048576 := by
  cases e : moveO h tz with
  | none => simp [Hp.zero]
  | some x =>
    obtain ⟨hv, P, rfl⟩ := moveO_some e
    have := hvB_len (move_valid hv P)
    simp only [Option.getD_some]; omega
theorem dif_len {n : Nat} {s : List Int} (h : difB n s = true) : s.length ≤ n := by
  obtain ⟨h1, h2⟩ := dif_rangeM h
  refine nodup_len h2 ?_
  rw [List.all_eq_true]
  intro x hx
  simpa [plB] using h1 x hx

set_option maxRecDepth 100000 in
set_option maxHeartbeats 4000000 in
theorem implStep_any (w : World) (lo lo' : Nat) (v : Value) (h : Hp) (hv : Hv w lo v h) (A : Option Addr) (n c : Nat) (s : List Int) (hx : Row w lo' (.slice A n c) s) (l : Hid (s.length = n)) (hm : n ≤ 9223372036854775807) (i : Int) :
    Calls Try.prog 28 #[v, .slice A n c, .int .i64 i] w (RetRB w (stepL h s i) (stepB h s i)) := by
  obtain ⟨A0, n0, c0, A1, n1, c1, A2, n2, c2, rfl, ⟨r0, r1, _⟩, ⟨l0, l1, _⟩, ⟨mm0, _, _⟩, _⟩ := hv.open_
  have X0 := Blk3.new w (.slice A0 n0 c0) (.slice A1 n1 c1) (.slice A2 n2 c2) 27
  have V := implHeapValid_any _ _ _ _ (hv.alloc (.cells #[.slice A0 n0 c0, .slice A1 n1 c1, .slice A2 n2 c2] 27))
  have fin : Below w.heap.size w (w.alloc (.cells #[.slice A0 n0 c0, .slice A1 n1 c1, .slice A2 n2 c2] 27)) := (Below.refl _ _).alloc (Nat.le_refl _) _
  have H0 := hv.alloc (.cells #[.slice A0 n0 c0, .slice A1 n1 c1, .slice A2 n2 c2] 27)
  have T0 := hx.alloc (.cells #[.slice A0 n0 c0, .slice A1 n1 c1, .slice A2 n2 c2] 27)
  have Q0 := r0.alloc (.cells #[.slice A0 n0 c0, .slice A1 n1 c1, .slice A2 n2 c2] 27)
  have Q1 := r1.alloc (.cells #[.slice A0 n0 c0, .slice A1 n1 c1, .slice A2 n2 c2] 27)
  rcases ev : hvB h
  · rw [ev] at V
    have e1 : stepB h s i = false := by unfold stepB; rw [ev]; rfl
    have e2 : stepL h s i = [] := by unfold stepL; rw [e1]; simp
    rw [e1, e2]
    clear ev e1 e2
    go_enter Try.func28, Try.ntmps28
    go_wp2_with fail
    refine V.mono ?_; rintro e w1 ⟨rfl, hb1⟩
    have B1 : Below w.heap.size w w1 := fin.trans (hb1.mono (by simp))
    go_wp2_with fail
    refine bodyPost_ret (v := .tuple #[.slice none 0 0, .bool false]) ?_ rfl ⟨none, 0, rfl, Row.nil _ _, B1⟩
    simp [results, Try.results28, go_sem]
  · rw [ev] at V
    have h8 : n0 ≤ 8 := by have := hvB_len ev; rw [l0.out] at this; omega
    have DC := fun W hW hR => differentCells_any W lo lo' (.agg #[.slice A0 n0 c0, .slice A1 n1 c1, .slice A2 n2 c2]) h hW (by rw [l0.out]; omega) A n c s hR l hm
    rw [l0.out] at DC
    rcases ed : difB n0 s
    · rw [ed] at DC
      have e1 : stepB h s i = false := by unfold stepB; rw [l0.out, ed]; simp
      have e2 : stepL h s i = [] := by unfold stepL; rw [e1]; simp
      rw [e1, e2]
      clear ev e1 e2 ed
      go_enter Try.func28, Try.ntmps28
      go_wp2_with fail
      refine V.mono ?_; rintro e w1 ⟨rfl, hb1⟩
      have X1 := Blk3.below (by exact X0) hb1
      have H1 := Hv.below (by exact H0) hb1
      have T1 := Row.below (by exact T0) hb1
      have B1 : Below w.heap.size w w1 := fin.trans (hb1.mono (by simp))
      obtain ⟨p0, p1, p2, _⟩ := X1.cells
      clear V H0 T0 fin
      go_wp2_with fail
      refine (DC _ H1 T1).mono ?_; rintro e w2 ⟨rfl, hb2⟩
      have B2 := B1.trans (hb2.mono B1.size)
      go_wp2_with fail
      refine bodyPost_ret (v := .tuple #[.slice none 0 0, .bool false]) ?_ rfl ⟨none, 0, rfl, Row.nil _ _, B2⟩
      simp [results, Try.results28, go_sem]
    · rw [ed] at DC
      have sl := dif_len ed
      have HP := fun W => hasPlace_any A n c i W
      rcases ep : plB i n
      · rw [ep] at HP
        have e1 : stepB h s i = false := by unfold stepB; rw [l.out, ep]; simp
        have e2 : stepL h s i = [] := by unfold stepL; rw [e1]; simp
        rw [e1, e2]
        clear ev e1 e2 ed ep
        go_enter Try.func28, Try.ntmps28
        go_wp2_with fail
        refine V.mono ?_; rintro e w1 ⟨rfl, hb1⟩
        have X1 := Blk3.below (by exact X0) hb1
        have H1 := Hv.below (by exact H0) hb1
        have T1 := Row.below (by exact T0) hb1
        have B1 : Below w.heap.size w w1 := fin.trans (hb1.mono (by simp))
        obtain ⟨p0, p1, p2, _⟩ := X1.cells
        clear V H0 T0 fin
        go_wp2_with fail
        refine (DC _ H1 T1).mono ?_; rintro e w2 ⟨rfl, hb2⟩
        have B2 := B1.trans (hb2.mono B1.size)
        go_wp2_with fail
        refine (HP _).mono ?_; rintro e w3 ⟨rfl, rfl⟩
        go_wp2_with fail
        refine bodyPost_ret (v := .tuple #[.slice none 0 0, .bool false]) ?_ rfl ⟨none, 0, rfl, Row.nil _ _, B2⟩
        simp [results, Try.results28, go_sem]
      · rw [ep] at HP
        have e1 : stepB h s i = true := by unfold stepB; rw [ev, l0.out, ed, l.out, ep]; rfl
        obtain ⟨j, rfl, hj⟩ := plB_nat ep
        obtain ⟨gs, x, rfl, _, hgs, hsx, hcx, _⟩ := hx.get (k := j) (by rw [l.out]; exact hj)
        have hxr := (dif_rangeM ed).1 x (List.mem_of_getElem? hsx.out)
        have hpx : plB x h.l.length = true := by rw [l0.out]; simpa [plB] using hxr
        have e2 : stepL h s (j : Int) = apN s (nonN (kid2 h x)) := by
          unfold stepL; rw [if_pos e1, gd_nat hsx.out, apN_meets]
        rw [e1, e2]
        have n8 : n ≤ 8 := by have := l.out; omega
        have CI := fun W hW => copyOfInts_any W lo' (some ⟨gs, 0, none⟩) n c s hW l.out (by omega)
        have KD := fun W b t X q0 q1 => kids_any W lo b A0 n0 c0 A1 n1 c1 A2 n2 c2 t h ev X q0 q1 l0 l1 x hpx
        have kl : (nonN (kid2 h x)).length ≤ 1048576 := Nat.le_trans (nonN_len _) (by simp [kid2])
        have AP := fun W lo2 A8 c8 hW hz lo3 B8 d8 h8' hap => appendNew_any W lo2 lo3 A8 c8 s hW hz (by rw [l.out]; omega) B8 _ d8 (nonN (kid2 h x)) h8' rfl kl hap
        have PB := fun W => pointedBy_any W (.slice A0 n0 c0) (.slice A1 n1 c1) (.slice A2 n2 c2)
        generalize nonN (kid2 h x) = kk at KD AP kl
        generalize hap9 : apN s kk = rr at AP ⊢
        clear ev e1 e2 ed ep hsx hxr hpx hap9
        go_enter Try.func28, Try.ntmps28
        go_wp2_with fail
        refine V.mono ?_; rintro e w1 ⟨rfl, hb1⟩
        have X1 := Blk3.below (by exact X0) hb1
        have H1 := Hv.below (by exact H0) hb1
        have T1 := Row.below (by exact T0) hb1
        have q10 := Row.below (by exact Q0) hb1
        have q11 := Row.below (by exact Q1) hb1
        have B1 : Below w.heap.size w w1 := fin.trans (hb1.mono (by simp))
        obtain ⟨p0, p1, p2, _⟩ := X1.cells
        clear V H0 T0 fin Q0 Q1 X0
        go_wp2_with fail
        refine (DC _ H1 T1).mono ?_; rintro e w2 ⟨rfl, hb2⟩
        have X2 := X1.below hb2
        have T2 := T1.below hb2
        have q20 := q10.below hb2
        have q21 := q11.below hb2
        have B2 := B1.trans (hb2.mono B1.size)
        obtain ⟨p0, p1, p2, _⟩ := X2.cells
        clear H1 T1 DC X1 q10 q11
        go_wp2_with fail
        refine (HP _).mono ?_; rintro e w3 ⟨rfl, rfl⟩
        go_wp2_with fail
        refine (PB _).mono ?_; rintro e w3 ⟨rfl, rfl⟩
        unfold ptBy
        have X3 := Blk3.new w2 (.slice A0 n0 c0) (.slice A1 n1 c1) (.slice A2 n2 c2) 27
        have T3 := T2.alloc (.cells #[.slice A0 n0 c0, .slice A1 n1 c1, .slice A2 n2 c2] 27)
        have q30 := q20.alloc (.cells #[.slice A0 n0 c0, .slice A1 n1 c1, .slice A2 n2 c2] 27)
        have q31 := q21.alloc (.cells #[.slice A0 n0 c0, .slice A1 n1 c1, .slice A2 n2 c2] 27)
        have B3 : Below w.heap.size w (w2.alloc (.cells #[.slice A0 n0 c0, .slice A1 n1 c1, .slice A2 n2 c2] 27)) := B2.alloc B2.size _
        have hcx3 : (w2.alloc (.cells #[.slice A0 n0 c0, .slice A1 n1 c1, .slice A2 n2 c2] 27)).cell? ⟨gs, j, none⟩ = some (.int .i64 x) := (B3.cell (p := ⟨gs, j, none⟩) hgs).trans hcx
        have hgs3 : gs < (w2.alloc (.cells #[.slice A0 n0 c0, .slice A1 n1 c1, .slice A2 n2 c2] 27)).heap.size := Nat.lt_of_lt_of_le hgs B3.size
        have z3 : (w2.alloc (.cells #[.slice A0 n0 c0, .slice A1 n1 c1, .slice A2 n2 c2] 27)).heap.size = w2.heap.size + 1 := by simp
        generalize w2.alloc (.cells #[.slice A0 n0 c0, .slice A1 n1 c1, .slice A2 n2 c2] 27) = w3 at X3 T3 q30 q31 B3 hcx3 hgs3 z3 ⊢
        clear X2 T2 q20 q21 B2 hcx p0 p1 p2
        go_wp2_with fail
        go_region_held3 (fun w' => w'.cell? ⟨gs, j, none⟩ = some (.int .i64 x))
          (((try dsimp only); (with_reducible (first | exact hcx3 | exact cellD hcx3 | exact hcx4 | exact hcx5 | exact hcx6))))
          (first
            | (go_at_call 55; (with_reducible refine (CI _ (Row.drew T3)).mono ?_); rintro e w4 ⟨A4, c4, rfl, R4, hb4⟩; (have B4 : Below w.heap.size w w4 := (Below.drew B3).trans (hb4.mono B3.size)); (have X4 := Blk3.below (by exact X3) hb4); (have q40 := Row.below (by exact q30) hb4); (have q41 := Row.below (by exact q31) hb4); (have hcx4 : w4.cell? ⟨gs, j, none⟩ = some (.int .i64 x) := (hb4.cell (p := ⟨gs, j, none⟩) hgs3).trans (cellD hcx3)); (have hgs4 : gs < w4.heap.size := Nat.lt_of_lt_of_le hgs3 hb4.size))
            | (go_at_call 66; (with_reducible refine (KD _ _ _ X4 q40 q41).mono ?_); rintro e w5 ⟨A5, c5, rfl, R5, hb5⟩; (have hne6 : some gs ≠ (Value.slice A4 s.length c4).ownBlock := fun e => by have h9 := (R4.lt gs e.symm).1; have z9 : w3.drew.heap.size = w3.heap.size := rfl; omega); (have B5 := B4.trans (hb5.mono B4.size)); (have R45 := Row.below (by exact R4) hb5); (have hcx5 : w5.cell? ⟨gs, j, none⟩ = some (.int .i64 x) := (hb5.cell (p := ⟨gs, j, none⟩) hgs4).trans hcx4); (have hgs5 : gs < w5.heap.size := Nat.lt_of_lt_of_le hgs4 hb5.size); (have ap5 : ∀ b, (Value.slice A5 kk.length c5).ownBlock = some b → (Value.slice A4 s.length c4).ownBlock ≠ some b := fun b e1 e2 => by have := (R5.lt b e1).1; have := (R4.lt b e2).2; omega); (have z5 : w3.drew.heap.size ≤ w5.heap.size := Nat.le_trans hb4.size hb5.size))
            | (go_at_call 54; (with_reducible refine (AP _ _ _ _ R45 z5 _ _ _ R5 ap5).mono ?_); rintro e w6 ⟨A6, c6, rfl, R6, hg6, _⟩; (have hcx6 : w6.cell? ⟨gs, j, none⟩ = some (.int .i64 x) := hg6.cell hcx5 hne6)))
        rename_i hHeld
        clear hHeld
        have B6 : Below w.heap.size w w6 := ⟨hg6.os.trans B5.os, hg6.tape.trans B5.tape, hg6.output.trans B5.output, Nat.le_trans B5.size hg6.size, fun q hq => (hg6.block q (Nat.lt_of_lt_of_le hq B5.size) (fun e => by have h9 := (R4.lt q e.symm).1; have z9 : w3.drew.heap.size = w3.heap.size := rfl; have := B3.size; omega)).trans (B5.block q hq)⟩
        have R7 := R6.mono (lo' := w.heap.size) B3.size
        clear R6 hg6 R5 R45 X4 q40 q41 R4
        go_wp2_with fail
        refine bodyPost_ret (v := .tuple #[.slice A6 rr.length c6, .bool true]) ?_ rfl ⟨A6, c6, rfl, R7, B6⟩
        simp [results, Try.results28, go_sem]
end Go.Proofs.Ytapkhgpifpgleaa
