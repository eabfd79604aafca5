/- impl's MoveCells and CopyStep. -/
import Derived.Test.YtgooohapdjgmpaaCpI
namespace Go.Proofs.Ytgooohapdjgmpaa
open Go.RowKit Go.Maps

theorem moveO_none {h : Hp} {tz : List Int} (h1 : ¬ (hvB h = true ∧ tz.length = h.l.length ∧ difB h.l.length tz = true)) : moveO h tz = none := by unfold moveO; rw [if_neg h1]

set_option maxRecDepth 100000 in
set_option maxHeartbeats 4000000 in
theorem implMove_any (w : World) (lo lo' : Nat) (v : Value) (h : Hp) (hv : Hv w lo v h) (A : Option Addr) (n c : Nat) (tz : List Int) (hx : Row w lo' (.slice A n c) tz) (l : Hid (tz.length = n)) (hm : n ≤ 9223372036854775807) :
    Calls Try.prog 22 #[v, .slice A n c] w (OptHv w (moveO h tz)) := by
  obtain ⟨A0, n0, c0, A1, n1, c1, A2, n2, c2, rfl, _, ⟨l0, _, _⟩, ⟨mm0, _, _⟩, _⟩ := hv.open_
  have X0 := (Blk3.new w (.slice A0 n0 c0) (.slice A1 n1 c1) (.slice A2 n2 c2) 25).alloc (.cells #[.slice none 0 0, .slice none 0 0, .slice none 0 0] 25)
  have Y0 := Blk3.new_at (w := w.alloc (.cells #[.slice A0 n0 c0, .slice A1 n1 c1, .slice A2 n2 c2] 25)) (b := w.heap.size + 1) (by simp) (.slice none 0 0) (.slice none 0 0) (.slice none 0 0) 25
  have V := implHeapValid_any _ _ _ _ ((hv.alloc (.cells #[.slice A0 n0 c0, .slice A1 n1 c1, .slice A2 n2 c2] 25)).alloc (.cells #[.slice none 0 0, .slice none 0 0, .slice none 0 0] 25))
  have fin : Below w.heap.size w ((w.alloc (.cells #[.slice A0 n0 c0, .slice A1 n1 c1, .slice A2 n2 c2] 25)).alloc (.cells #[.slice none 0 0, .slice none 0 0, .slice none 0 0] 25)) := ((Below.refl _ _).alloc (Nat.le_refl _) _).alloc (by simp) _
  have H0 := (hv.alloc (.cells #[.slice A0 n0 c0, .slice A1 n1 c1, .slice A2 n2 c2] 25)).alloc (.cells #[.slice none 0 0, .slice none 0 0, .slice none 0 0] 25)
  have T0 := (hx.alloc (.cells #[.slice A0 n0 c0, .slice A1 n1 c1, .slice A2 n2 c2] 25)).alloc (.cells #[.slice none 0 0, .slice none 0 0, .slice none 0 0] 25)
  rcases ev : hvB h
  · rw [ev] at V
    have e1 : moveO h tz = none := moveO_none (by rw [ev]; simp)
    rw [e1]
    clear ev e1
    go_enter Try.func22, Try.ntmps22
    go_wp2_with fail
    refine V.mono ?_; rintro e w1 ⟨rfl, hb1⟩
    have Y1 := Blk3.below (by exact Y0) hb1
    obtain ⟨q0, q1, q2, f0, f1, f2⟩ := Y1.cells
    have B1 : Below w.heap.size w w1 := fin.trans (hb1.mono (by simp; omega))
    go_wp2_with fail
    refine bodyPost_ret (v := .tuple #[.agg #[.slice none 0 0, .slice none 0 0, .slice none 0 0], .bool false]) ?_ rfl ⟨_, rfl, Hv.zero _ _, ((B1.setCell (by simp) _).setCell (by simp) _).setCell (by simp) _⟩
    simp [results, Try.results22, go_sem, q0, q1, q2]
  · rw [ev] at V
    by_cases hn : n = n0
    · subst hn
      have h8 : n ≤ 8 := by have := hvB_len ev; rw [l0.out] at this; omega
      have DC := fun W hW hR => differentCells_any W lo lo' (.agg #[.slice A0 n c0, .slice A1 n1 c1, .slice A2 n2 c2]) h hW (by rw [l0.out]; omega) A n c tz hR l hm
      rw [l0.out] at DC
      rcases ed : difB n tz
      · rw [ed] at DC
        have e1 : moveO h tz = none := moveO_none (by rw [l0.out, ed]; simp)
        rw [e1]
        clear ev e1 ed
        go_enter Try.func22, Try.ntmps22
        go_wp2_with fail
        refine V.mono ?_; rintro e w1 ⟨rfl, hb1⟩
        have X1 := Blk3.below (by exact X0) hb1
        have Y1 := Blk3.below (by exact Y0) hb1
        have H1 := Hv.below (by exact H0) hb1
        have T1 := Row.below (by exact T0) hb1
        have B1 : Below w.heap.size w w1 := fin.trans (hb1.mono (by simp; omega))
        obtain ⟨p0, p1, p2, _⟩ := X1.cells
        clear V H0 T0 fin
        go_wp2_with fail
        refine (DC _ H1 T1).mono ?_; rintro e w2 ⟨rfl, hb2⟩
        have Y2 := Y1.below hb2
        obtain ⟨q0, q1, q2, f0, f1, f2⟩ := Y2.cells
        have B2 := B1.trans (hb2.mono B1.size)
        clear Y1 H1 T1 DC
        go_wp2_with fail
        refine bodyPost_ret (v := .tuple #[.agg #[.slice none 0 0, .slice none 0 0, .slice none 0 0], .bool false]) ?_ rfl ⟨_, rfl, Hv.zero _ _, ((B2.setCell (by simp) _).setCell (by simp) _).setCell (by simp) _⟩
        simp [results, Try.results22, go_sem, q0, q1, q2]
      · rw [ed] at DC
        have P : Perm h.l.length tz := by rw [l0.out]; exact Perm.of l.out ed
        have e1 : moveO h tz = some ⟨fwL h.l tz (List.replicate h.l.length (-1)) h.l.length, fwL h.r tz (List.replicate h.l.length (-1)) h.l.length, h.t.map (ren (gd tz))⟩ := by
          unfold moveO
          rw [if_pos ⟨ev, by rw [l0.out]; exact l.out, by rw [l0.out]; exact ed⟩, fw_move P (by simp), fw_move P (by simp)]
          rfl
        have FH := fun W hW hR => forwardedHeap_any W lo lo' (.agg #[.slice A0 n c0, .slice A1 n1 c1, .slice A2 n2 c2]) h hW ev A c tz (by rw [l0.out]; exact hR) (by rw [l0.out]; exact l.out) (fun x hx => by have := P.rng x hx; omega)
        rw [e1]
        generalize (⟨fwL h.l tz (List.replicate h.l.length (-1)) h.l.length, fwL h.r tz (List.replicate h.l.length (-1)) h.l.length, h.t.map (ren (gd tz))⟩ : Hp) = hr at FH ⊢
        rw [l0.out] at FH
        clear ev e1 ed P
        go_enter Try.func22, Try.ntmps22
        go_wp2_with fail
        refine V.mono ?_; rintro e w1 ⟨rfl, hb1⟩
        have X1 := Blk3.below (by exact X0) hb1
        have Y1 := Blk3.below (by exact Y0) hb1
        have H1 := Hv.below (by exact H0) hb1
        have T1 := Row.below (by exact T0) hb1
        have B1 : Below w.heap.size w w1 := fin.trans (hb1.mono (by simp; omega))
        obtain ⟨p0, p1, p2, _⟩ := X1.cells
        clear V H0 T0 fin
        go_wp2_with fail
        refine (DC _ H1 T1).mono ?_; rintro e w2 ⟨rfl, hb2⟩
        have X2 := X1.below hb2
        have Y2 := Y1.below hb2
        have H2 := H1.below hb2
        have T2 := T1.below hb2
        have B2 := B1.trans (hb2.mono B1.size)
        obtain ⟨p0, p1, p2, _⟩ := X2.cells
        clear Y1 H1 T1 DC
        go_wp2_with fail
        refine (FH _ H2 T2).mono ?_; rintro e w5 ⟨vc, rfl, HC, hb5⟩
        have Y5 := Y2.below hb5
        have B5 := B2.trans (hb5.mono B2.size)
        obtain ⟨E0, m0, k0, E1, m1, k1, E2, m2, k2, rfl, ⟨s0, s1, s2⟩, _, _, _, a01, a02, a12⟩ := HC.open_
        have lY : w.heap.size + 1 < w2.heap.size := Y2.lt
        obtain ⟨Y0, Y1, Y2, f0, f1, f2⟩ := Y5.cells
        obtain ⟨hH, hB⟩ := made_done (w := w) (w3 := w5) (b := w.heap.size + 1) (h := hr) (by omega) (s0.mono (by omega)) (s1.mono (by omega)) (s2.mono (by omega)) a01 a02 a12 B5
        clear s0 s1 s2 FH H2 T2
        go_wp2_with fail
        refine bodyPost_ret (v := .tuple #[.agg #[.slice E0 m0 k0, .slice E1 m1 k1, .slice E2 m2 k2], .bool true]) ?_ rfl ⟨_, rfl, hH, hB⟩
        simp [results, Try.results22, go_sem, Y0, Y1, Y2]
    · have hne : ((n : Int) != (n0 : Int)) = true := by simp; omega
      have e1 : moveO h tz = none := moveO_none (by rw [l0.out, l.out]; simp [hn])
      rw [e1]
      clear ev e1 hn
      go_enter Try.func22, Try.ntmps22
      go_wp2_with fail
      refine V.mono ?_; rintro e w1 ⟨rfl, hb1⟩
      have X1 := Blk3.below (by exact X0) hb1
      have Y1 := Blk3.below (by exact Y0) hb1
      obtain ⟨p0, p1, p2, _⟩ := X1.cells
      obtain ⟨q0, q1, q2, f0, f1, f2⟩ := Y1.cells
      have B1 : Below w.heap.size w w1 := fin.trans (hb1.mono (by simp; omega))
      go_wp2_with fail
      refine bodyPost_ret (v := .tuple #[.agg #[.slice none 0 0, .slice none 0 0, .slice none 0 0], .bool false]) ?_ rfl ⟨_, rfl, Hv.zero _ _, ((B1.setCell (by simp) _).setCell (by simp) _).setCell (by simp) _⟩
      simp [results, Try.results22, go_sem, q0, q1, q2]

/-- A row and a Bool come back, and nothing that was there has turned. -/
def RetRB (w : World) (ys : List Int) (ok : Bool) (e : Ending) (w' : World) : Prop :=
  ∃ A c, e = .returned (.tuple #[.slice A ys.length c, .bool ok]) ∧ Row w' w.heap.size (.slice A ys.length c) ys ∧ Below w.heap.size w w'
def stepB (h : Hp) (s : List Int) (i : Int) : Bool := hvB h && difB h.l.length s && plB i s.length
def stepL (h : Hp) (s : List Int) (i : Int) : List Int := if stepB h s i = true then meets s (kid2 h (gd s i)) else []
theorem stepL_len (h : Hp) (s : List Int) (i : Int) : (stepL h s i).length ≤ s.length + 2 := by
  unfold stepL; split
  · rw [← apN_meets]
    refine Nat.le_trans (apN_len _ _) ?_
    have := nonN_len (kid2 h (gd s i))
    simp [kid2] at this ⊢; omega
  · simp
theorem moveO_short (h : Hp) (tz : List Int) : ((moveO h tz).getD Hp.zero).l.length ≤ 1048576 ∧ ((moveO h tz).getD Hp.zero).r.length ≤ 1048576 ∧ ((moveO h tz).getD Hp.zero).t.length ≤ 1048576 := by
  cases e : moveO h tz with
  | none => simp [Hp.zero]
  | some x =>
    obtain ⟨hv, P, rfl⟩ := moveO_some e
    have := hvB_len (move_valid hv P)
    simp only [Option.getD_some]; omega
theorem dif_len {n : Nat} {s : List Int} (h : difB n s = true) : s.length ≤ n := by
  obtain ⟨h1, h2⟩ := dif_rangeM h
  refine nodup_len h2 ?_
  rw [List.all_eq_true]
  intro x hx
  simpa [plB] using h1 x hx

end Go.Proofs.Ytgooohapdjgmpaa
