import Derived.Test.YteogflkahoanlaaDropI
import Derived.Test.YteogflkahoanlaaCpyD
import Derived.Test.YteogflkahoanlaaDropS
/- LinkCounted of impl. -/
namespace Go.Proofs.Yteogflkahoanlaa
open Go.RowKit

theorem down_t : ∀ (f : Nat) (S : Sn), (down f S).C.h.t = S.h.t := by
  intro f
  induction f with
  | zero => intro S; rfl
  | succ f ih =>
    intro S
    obtain ⟨h, c, n, ws⟩ := S
    cases ws with
    | nil => rfl
    | cons x r =>
      show (down f (dn h c n x r)).C.h.t = h.t
      rw [ih]
      unfold dn
      split
      · rfl
      · split <;> rfl
theorem fin_t (S : Sn) : (fin_ S).C.h.t = S.h.t := down_t _ _
/-- A root that points somewhere points to a cell. -/
theorem root_at {D : Dp} (h : dpB D = true) {i : Nat} {x : Int} (hx : D.C.h.t[i]? = some x) (hn : x ≠ -1) : ∃ f : Nat, x = f ∧ f < D.C.h.l.length := by
  have I := drop_inv h hx
  have r := I.rng x (List.mem_cons_self ..)
  obtain ⟨f, rfl⟩ := Int.eq_ofNat_of_zero_le (by have := r.1; omega : 0 ≤ x)
  exact ⟨f, rfl, by have := r.2; simp at this; omega⟩
theorem link_keep {K : Bool} {w : World} {lo b gt q2 k2 : Nat} {ty : TypeId} {x0 x1 x3 x4 : Value} {E : Dp} (M : MAt K w lo b ty x0 x1 (.slice (some ⟨gt, 0, none⟩) q2 k2) x3 x4 E) {t : List Int} (ft : Hid (E.C.h.t = t)) {i j : Nat} {u v : Int} (h1 : Hid (t[i]? = some u)) (h2 : Hid (t[j]? = some v)) :
    w.cell? ⟨b, 0, none⟩ = some x0 ∧ w.cell? ⟨b, 2, none⟩ = some (.slice (some ⟨gt, 0, none⟩) q2 k2) ∧ w.cell? ⟨gt, i, none⟩ = some (.int .i64 u) ∧ w.cell? ⟨gt, j, none⟩ = some (.int .i64 v) := by
  obtain ⟨e0, _, e2, _⟩ := M.blk.cells
  have t3 := M.r2
  rw [ft.out] at t3
  obtain ⟨_, u1, e1, _, _, hu, hc, _⟩ := t3.get (k := i) (List.getElem?_eq_some_iff.1 h1.out).1
  cases e1
  obtain ⟨_, v1, e3, _, _, hv, hd, _⟩ := t3.get (k := j) (List.getElem?_eq_some_iff.1 h2.out).1
  cases e3
  have h8 := hu.out
  have h9 := hv.out
  rw [h1.out] at h8
  rw [h2.out] at h9
  cases h8
  cases h9
  exact ⟨e0, e2, hc, hd⟩
theorem root_rng {D : Dp} (h : dpB D = true) {i : Nat} {x : Int} (hx : D.C.h.t[i]? = some x) : -1 ≤ x ∧ x < D.C.h.l.length := by
  have r := (drop_inv h hx).rng x (List.mem_cons_self ..)
  exact r
set_option maxRecDepth 100000 in
set_option maxHeartbeats 4000000 in
theorem implLinkCounted_any (w : World) (lo : Nat) (v : Value) (D : Dp) (hv : Dv w lo v D) (a b : Int) : Calls Try.prog 26 #[v, .int .i64 a, .int .i64 b] w (OptDv w (linkO D a b)) := by
  have hvo := hv
  obtain ⟨A0, n0, c0, A1, n1, c1, A2, n2, c2, A3, n3, c3, A4, n4, c4, rfl, -, -, -, ⟨l0, l1, l2, l3, l4⟩, -⟩ := hvo.open_
  have X := (Blk5.new w (.slice A0 n0 c0) (.slice A1 n1 c1) (.slice A2 n2 c2) (.slice A3 n3 c3) (.slice A4 n4 c4) 29).alloc (.cells #[.slice none 0 0, .slice none 0 0, .slice none 0 0, .slice none 0 0, .slice none 0 0] 29)
  have Y := Blk5.new_at (w := w.alloc (.cells #[.slice A0 n0 c0, .slice A1 n1 c1, .slice A2 n2 c2, .slice A3 n3 c3, .slice A4 n4 c4] 29)) (b := w.heap.size + 1) (by simp) (.slice none 0 0) (.slice none 0 0) (.slice none 0 0) (.slice none 0 0) (.slice none 0 0) 29
  have DD := (hv.alloc (.cells #[.slice A0 n0 c0, .slice A1 n1 c1, .slice A2 n2 c2, .slice A3 n3 c3, .slice A4 n4 c4] 29)).alloc (.cells #[.slice none 0 0, .slice none 0 0, .slice none 0 0, .slice none 0 0, .slice none 0 0] 29)
  have BB : Below w.heap.size w ((w.alloc (.cells #[.slice A0 n0 c0, .slice A1 n1 c1, .slice A2 n2 c2, .slice A3 n3 c3, .slice A4 n4 c4] 29)).alloc (.cells #[.slice none 0 0, .slice none 0 0, .slice none 0 0, .slice none 0 0, .slice none 0 0] 29)) := ((Below.refl _ _).alloc (Nat.le_refl _) _).alloc (by simp) _
  have sz : w.heap.size + 2 ≤ ((w.alloc (.cells #[.slice A0 n0 c0, .slice A1 n1 c1, .slice A2 n2 c2, .slice A3 n3 c3, .slice A4 n4 c4] 29)).alloc (.cells #[.slice none 0 0, .slice none 0 0, .slice none 0 0, .slice none 0 0, .slice none 0 0] 29)).heap.size := by simp
  clear hv hvo
  generalize hW : ((w.alloc (.cells #[.slice A0 n0 c0, .slice A1 n1 c1, .slice A2 n2 c2, .slice A3 n3 c3, .slice A4 n4 c4] 29)).alloc (.cells #[.slice none 0 0, .slice none 0 0, .slice none 0 0, .slice none 0 0, .slice none 0 0] 29)) = W at X Y DD BB sz
  obtain ⟨x0, x1, x2, x3, x4, -⟩ := X.cells
  have V := hasCountedRoot_any W lo _ D DD a
  rcases ea : (dpB D && plB a D.C.h.t.length)
  · have hf : Hid (linkO D a b = none) := by unfold Hid linkO; rw [ea]; rfl
    rw [ea] at V
    clear ea
    go_enter Try.func26, Try.ntmps26
    go_wp2_with fail
    (try rw [hW])
    refine V.mono ?_; rintro e w1 ⟨rfl, hb1⟩
    obtain ⟨y0, y1, y2, y3, y4, f0, f1, f2, f3, f4⟩ := (Y.below hb1).cells
    obtain ⟨hZ, hB⟩ := dv_zero (w := w) (b := w.heap.size + 1) (by omega) (BB.trans (hb1.mono BB.size))
    go_wp2_with fail
    rw [hf.out]
    refine bodyPost_ret (v := .tuple #[.agg #[.slice none 0 0, .slice none 0 0, .slice none 0 0, .slice none 0 0, .slice none 0 0], .bool false]) ?_ rfl ⟨_, rfl, hZ, hB⟩
    simp [results, Try.results26, go_sem, y0, y1, y2, y3, y4]
  · rw [Bool.and_eq_true] at ea
    obtain ⟨evd, evp⟩ := ea
    have V2 := fun wa (hb : Below W.heap.size W wa) => hasCountedRoot_any wa lo _ D (DD.below hb) b
    rw [evd, evp] at V
    rw [evd] at V2
    have vT : (true && true) = true := rfl
    rw [vT] at V
    rcases eb : plB b D.C.h.t.length
    · have hf : Hid (linkO D a b = none) := by unfold Hid linkO; rw [evd, evp, eb]; rfl
      rw [eb] at V2
      have vF : (true && false) = false := rfl
      rw [vF] at V2
      clear eb evp vT vF evd
      go_enter Try.func26, Try.ntmps26
      go_wp2_with fail
      (try rw [hW])
      refine V.mono ?_; rintro e wa ⟨rfl, hba⟩
      have B0 := (X.below hba).cells
      obtain ⟨p0, p1, p2, p3, p4, -⟩ := B0
      clear x0 x1 x2 x3 x4
      go_wp2_with fail
      refine (V2 _ hba).mono ?_; rintro e wb ⟨rfl, hbb⟩
      have hb1 := hba.trans (hbb.mono hba.size)
      obtain ⟨y0, y1, y2, y3, y4, f0, f1, f2, f3, f4⟩ := (Y.below hb1).cells
      obtain ⟨hZ, hB⟩ := dv_zero (w := w) (b := w.heap.size + 1) (by omega) (BB.trans (hb1.mono BB.size))
      go_wp2_with fail
      rw [hf.out]
      refine bodyPost_ret (v := .tuple #[.agg #[.slice none 0 0, .slice none 0 0, .slice none 0 0, .slice none 0 0, .slice none 0 0], .bool false]) ?_ rfl ⟨_, rfl, hZ, hB⟩
      simp [results, Try.results26, go_sem, y0, y1, y2, y3, y4]
    · rw [eb, vT] at V2
      have hk : 0 ≤ a ∧ a < D.C.h.t.length := by simpa [plB] using evp
      have hk' : 0 ≤ b ∧ b < D.C.h.t.length := by simpa [plB] using eb
      obtain ⟨i, rfl⟩ := Int.eq_ofNat_of_zero_le hk.1
      obtain ⟨j, rfl⟩ := Int.eq_ofNat_of_zero_le hk'.1
      obtain ⟨fr, hfr⟩ : ∃ x, D.C.h.t[i]? = some x := ⟨_, List.getElem?_eq_getElem (by omega)⟩
      obtain ⟨tt, htt⟩ : ∃ x, D.C.h.t[j]? = some x := ⟨_, List.getElem?_eq_getElem (by omega)⟩
      have hi : i < D.C.h.t.length := by omega
      have hj : j < D.C.h.t.length := by omega
      have hi2 : (i : Int) < (n2 : Int) := by rw [← l2.out]; omega
      have hj2 : (j : Int) < (n2 : Int) := by rw [← l2.out]; omega
      obtain ⟨-, -, r2, -, -⟩ := DD.rows
      obtain ⟨g2, u, rfl, hg1, hg2, hu, hcu, -⟩ := r2.get (k := i) hi
      obtain rfl : u = fr := by have h9 := hu.out; rw [hfr] at h9; cases h9; rfl
      by_cases hu1 : u = -1
      · subst hu1
        have hf : Hid (linkO D i j = none) := by unfold Hid linkO; rw [evd, evp, eb, Int.toNat_natCast, getD_of hfr]; simp
        clear eb evp evd vT hk hk' hu hfr htt
        go_enter Try.func26, Try.ntmps26
        go_wp2_with fail
        (try rw [hW])
        refine V.mono ?_; rintro e wa ⟨rfl, hba⟩
        have B0 := (X.below hba).cells
        obtain ⟨p0, p1, p2, p3, p4, -⟩ := B0
        clear x0 x1 x2 x3 x4
        go_wp2_with fail
        refine (V2 _ hba).mono ?_; rintro e wb ⟨rfl, hbb⟩
        have hb1 := hba.trans (hbb.mono hba.size)
        have hcb := cell_bl hb1 hg2 hcu
        obtain ⟨x0, x1, x2, x3, x4, -⟩ := (X.below hb1).cells
        clear p0 p1 p2 p3 p4
        obtain ⟨y0, y1, y2, y3, y4, f0, f1, f2, f3, f4⟩ := (Y.below hb1).cells
        obtain ⟨hZ, hB⟩ := dv_zero (w := w) (b := w.heap.size + 1) (by omega) (BB.trans (hb1.mono BB.size))
        go_wp2_with fail
        rw [hf.out]
        refine bodyPost_ret (v := .tuple #[.agg #[.slice none 0 0, .slice none 0 0, .slice none 0 0, .slice none 0 0, .slice none 0 0], .bool false]) ?_ rfl ⟨_, rfl, hZ, hB⟩
        simp [results, Try.results26, go_sem, y0, y1, y2, y3, y4]
      · obtain ⟨f, rfl, hfl⟩ := root_at evd hfr hu1
        obtain ⟨old, hold⟩ : ∃ x, D.C.h.l[f]? = some x := ⟨_, List.getElem?_eq_getElem hfl⟩
        have hf := Lib.hid (linkO_some evd hfr htt hold)
        have hI := Lib.hid (link_inv evd (List.mem_of_getElem? hfr) (List.mem_of_getElem? htt) hold)
        have hto := root_rng evd htt
        have hu9 : ((f : Int) == -1) = false := by simp
        have sh := short9 evd
        have htt' := Lib.hid htt
        have hfr' := Lib.hid hfr
        have hold' := Lib.hid hold
        clear eb evp vT hk hk' hu hfr htt hold hu1
        go_enter Try.func26, Try.ntmps26
        go_wp2_with fail
        (try rw [hW])
        refine V.mono ?_; rintro e wa ⟨rfl, hba⟩
        have B0 := (X.below hba).cells
        obtain ⟨p0, p1, p2, p3, p4, -⟩ := B0
        clear x0 x1 x2 x3 x4
        go_wp2_with fail
        refine (V2 _ hba).mono ?_; rintro e w1 ⟨rfl, hbb⟩
        have hb1 := hba.trans (hbb.mono hba.size)
        have hcu1 := cell_bl hb1 hg2 hcu
        have X1 := X.below hb1
        have Y1 := Y.below hb1
        have D1 := DD.below hb1
        have B1 := BB.trans (hb1.mono BB.size)
        have z1 := hb1.size
        obtain ⟨x0, x1, x2, x3, x4, -⟩ := X1.cells
        clear p0 p1 p2 p3 p4 hcu X Y DD V V2 hbb hba
        have NC := newCounted_heap w1 lo _ D D1 sh
        go_wp2_with fail
        refine NC.mono ?_; rintro e w2 ⟨b, Q0, q0, k0, Q1, q1, k1, Q2, q2, k2, Q3, q3, k3, Q4, q4, k4, rfl, hb, M, hb2⟩
        have Y2 := Y1.below hb2
        have B2 := B1.trans (hb2.mono B1.size)
        have z2 := hb2.size
        clear x0 x1 x2 x3 x4 X1 Y1 D1 NC hcu1
        obtain ⟨gt, u, hQ2, hg3, hg4, hu, hcu, -⟩ := M.r2.get (k := i) hi
        obtain rfl : u = (f : Int) := by have h9 := hu.out; rw [hfr'.out] at h9; cases h9; rfl
        obtain ⟨gt', u', hQ2', _, _, hu', hcu', -⟩ := M.r2.get (k := j) hj
        obtain rfl : u' = tt := by have h9 := hu'.out; rw [htt'.out] at h9; cases h9; rfl
        obtain rfl : gt = gt' := by rw [hQ2] at hQ2'; cases hQ2'; rfl
        obtain ⟨g0, u0, hQ0, _, _, hu0, hcu0, hfu0⟩ := M.r0.get (k := f) hfl
        obtain rfl : u0 = old := by have h9 := hu0.out; rw [hold'.out] at h9; cases h9; rfl
        have hq2 : (i : Int) < (q2 : Int) := by have : D.C.h.t.length = q2 := (RowC.ofRow M.r2).form.1; omega
        have hq2' : (j : Int) < (q2 : Int) := by have : D.C.h.t.length = q2 := (RowC.ofRow M.r2).form.1; omega
        have hq0 : (f : Int) < (q0 : Int) := by have : D.C.h.l.length = q0 := (RowC.ofRow M.r0).form.1; omega
        obtain ⟨b0, b1, b2, b3, b4, -⟩ := M.blk.cells
        have RP := replace_any false w2.drew w1.heap.size b g0 f z2 Q0 Q1 Q3 Q4 q0 k0 q1 k1 q3 k3 q4 k4 (.slice Q2 q2 k2) ⟨D.C.h.l.set f u', D.C.h.r, D.C.h.t⟩ D.C.c D.n u0 u' (.inr (.inl (by rw [hQ0]; rfl))) hcu0 hfu0 (M.drew.setL hQ0 f u') hI ⟨hto.1, by show u' < ((D.C.h.l.set f u').length : Int); rw [List.length_set]; exact hto.2⟩
        have own := M.own
        have ft : Hid ((fin_ ⟨⟨D.C.h.l.set f u', D.C.h.r, D.C.h.t⟩, D.C.c, bump D.n u', [u0]⟩).C.h.t = D.C.h.t) := fin_t _
        subst hQ2 hQ0
        clear hu hu' hu0 hI hQ2' hfu0 M
        go_wp2_with fail
        go_region_held3 (fun w' => w'.cell? ⟨b, 0, none⟩ = some (.slice (some ⟨g0, 0, none⟩) q0 k0) ∧ w'.cell? ⟨b, 2, none⟩ = some (.slice (some ⟨gt, 0, none⟩) q2 k2) ∧ w'.cell? ⟨gt, i, none⟩ = some (.int .i64 (f : Int)) ∧ w'.cell? ⟨gt, j, none⟩ = some (.int .i64 u'))
          (((try dsimp only); (first | exact ⟨b0, b2, hcu, hcu'⟩ | exact SB)))
          (first
            | (go_at_call 46; (with_reducible refine RP.mono ?_); rintro e w3 ⟨rfl, A', n', c', M3, o3, F3⟩; (have SB := link_keep M3 ft hfr' htt')))
        all_goals
          rename_i hHeld
          clear hHeld
          have hB3 : Below w1.heap.size w2 w3 := ((Below.refl _ _).drew : Below w1.heap.size w2 w2.drew).trans (F3.below (fun q hq => by rcases (own q hq).2 with e | e <;> omega) z2)
          have Y3 : Blk5 w3 (w.heap.size + 1) (.slice none 0 0) (.slice none 0 0) (.slice none 0 0) (.slice none 0 0) (.slice none 0 0) 29 := Y2.far hB3 (by omega)
          have B3 := B2.trans (hB3.mono B1.size)
          have z3 := F3.size
          clear b0 b1 b2 b3 b4 RP Y2 F3 own hcu hcu' hcu0 SB
          have CT := counted_any w3 b (some ⟨g0, 0, none⟩) Q1 (some ⟨gt, 0, none⟩) A' Q4 q0 k0 q1 k1 q2 k2 n' c' q4 k4 M3.blk
          go_wp2_with fail
          refine CT.mono ?_; rintro e w4 ⟨rfl, hb4⟩
          have M4 := M3.below hb4
          have B4 := B3.trans (hb4.mono B3.size)
          have Y4 := Y3.below hb4
          obtain ⟨y0, y1, y2, y3, y4, f0, f1, f2, f3, f4⟩ := Y4.cells
          obtain ⟨hZ, hB⟩ := dv_done (w := w) (b := w.heap.size + 1) M4.dv (by omega) (by omega) B4 (.slice (some ⟨g0, 0, none⟩) q0 k0) (.slice Q1 q1 k1) (.slice (some ⟨gt, 0, none⟩) q2 k2) (.slice A' n' c') (.slice Q4 q4 k4)
          clear M4 Y4 M3 Y3 CT
          go_wp2_with fail
          rw [hf.out]
          refine bodyPost_ret (v := .tuple #[.agg #[.slice (some ⟨g0, 0, none⟩) q0 k0, .slice Q1 q1 k1, .slice (some ⟨gt, 0, none⟩) q2 k2, .slice A' n' c', .slice Q4 q4 k4], .bool true]) ?_ rfl ⟨_, rfl, hZ, hB⟩
          simp [results, Try.results26, go_sem, y0, y1, y2, y3, y4]

end Go.Proofs.Yteogflkahoanlaa

/- LinkCounted of spec. -/
namespace Go.Proofs.Yteogflkahoanlaa
open Go.RowKit

set_option maxRecDepth 100000 in
set_option maxHeartbeats 4000000 in
theorem specLinkCounted_any (w : World) (lo : Nat) (v : Value) (D : Dp) (hv : Dv w lo v D) (a b : Int) : Calls Try.prog 27 #[v, .int .i64 a, .int .i64 b] w (OptDv w (linkO D a b)) := by
  have hvo := hv
  obtain ⟨A0, n0, c0, A1, n1, c1, A2, n2, c2, A3, n3, c3, A4, n4, c4, rfl, -, -, -, ⟨l0, l1, l2, l3, l4⟩, -⟩ := hvo.open_
  have X := (Blk5.new w (.slice A0 n0 c0) (.slice A1 n1 c1) (.slice A2 n2 c2) (.slice A3 n3 c3) (.slice A4 n4 c4) 29).alloc (.cells #[.slice none 0 0, .slice none 0 0, .slice none 0 0, .slice none 0 0, .slice none 0 0] 29)
  have Y := Blk5.new_at (w := w.alloc (.cells #[.slice A0 n0 c0, .slice A1 n1 c1, .slice A2 n2 c2, .slice A3 n3 c3, .slice A4 n4 c4] 29)) (b := w.heap.size + 1) (by simp) (.slice none 0 0) (.slice none 0 0) (.slice none 0 0) (.slice none 0 0) (.slice none 0 0) 29
  have DD := (hv.alloc (.cells #[.slice A0 n0 c0, .slice A1 n1 c1, .slice A2 n2 c2, .slice A3 n3 c3, .slice A4 n4 c4] 29)).alloc (.cells #[.slice none 0 0, .slice none 0 0, .slice none 0 0, .slice none 0 0, .slice none 0 0] 29)
  have BB : Below w.heap.size w ((w.alloc (.cells #[.slice A0 n0 c0, .slice A1 n1 c1, .slice A2 n2 c2, .slice A3 n3 c3, .slice A4 n4 c4] 29)).alloc (.cells #[.slice none 0 0, .slice none 0 0, .slice none 0 0, .slice none 0 0, .slice none 0 0] 29)) := ((Below.refl _ _).alloc (Nat.le_refl _) _).alloc (by simp) _
  have sz : w.heap.size + 2 ≤ ((w.alloc (.cells #[.slice A0 n0 c0, .slice A1 n1 c1, .slice A2 n2 c2, .slice A3 n3 c3, .slice A4 n4 c4] 29)).alloc (.cells #[.slice none 0 0, .slice none 0 0, .slice none 0 0, .slice none 0 0, .slice none 0 0] 29)).heap.size := by simp
  clear hv hvo
  generalize hW : ((w.alloc (.cells #[.slice A0 n0 c0, .slice A1 n1 c1, .slice A2 n2 c2, .slice A3 n3 c3, .slice A4 n4 c4] 29)).alloc (.cells #[.slice none 0 0, .slice none 0 0, .slice none 0 0, .slice none 0 0, .slice none 0 0] 29)) = W at X Y DD BB sz
  obtain ⟨x0, x1, x2, x3, x4, -⟩ := X.cells
  have V := l9Root_any W lo _ D DD a
  rcases ea : (dpB D && plB a D.C.h.t.length)
  · have hf : Hid (linkO D a b = none) := by unfold Hid linkO; rw [ea]; rfl
    rw [ea] at V
    clear ea
    go_enter Try.func27, Try.ntmps27
    go_wp2_with fail
    (try rw [hW])
    refine V.mono ?_; rintro e w1 ⟨rfl, hb1⟩
    obtain ⟨y0, y1, y2, y3, y4, f0, f1, f2, f3, f4⟩ := (Y.below hb1).cells
    obtain ⟨hZ, hB⟩ := dv_zero (w := w) (b := w.heap.size + 1) (by omega) (BB.trans (hb1.mono BB.size))
    go_wp2_with fail
    rw [hf.out]
    refine bodyPost_ret (v := .tuple #[.agg #[.slice none 0 0, .slice none 0 0, .slice none 0 0, .slice none 0 0, .slice none 0 0], .bool false]) ?_ rfl ⟨_, rfl, hZ, hB⟩
    simp [results, Try.results27, go_sem, y0, y1, y2, y3, y4]
  · rw [Bool.and_eq_true] at ea
    obtain ⟨evd, evp⟩ := ea
    have V2 := fun wa (hb : Below W.heap.size W wa) => l9Root_any wa lo _ D (DD.below hb) b
    rw [evd, evp] at V
    rw [evd] at V2
    have vT : (true && true) = true := rfl
    rw [vT] at V
    rcases eb : plB b D.C.h.t.length
    · have hf : Hid (linkO D a b = none) := by unfold Hid linkO; rw [evd, evp, eb]; rfl
      rw [eb] at V2
      have vF : (true && false) = false := rfl
      rw [vF] at V2
      clear eb evp vT vF evd
      go_enter Try.func27, Try.ntmps27
      go_wp2_with fail
      (try rw [hW])
      refine V.mono ?_; rintro e wa ⟨rfl, hba⟩
      have B0 := (X.below hba).cells
      obtain ⟨p0, p1, p2, p3, p4, -⟩ := B0
      clear x0 x1 x2 x3 x4
      go_wp2_with fail
      refine (V2 _ hba).mono ?_; rintro e wb ⟨rfl, hbb⟩
      have hb1 := hba.trans (hbb.mono hba.size)
      obtain ⟨y0, y1, y2, y3, y4, f0, f1, f2, f3, f4⟩ := (Y.below hb1).cells
      obtain ⟨hZ, hB⟩ := dv_zero (w := w) (b := w.heap.size + 1) (by omega) (BB.trans (hb1.mono BB.size))
      go_wp2_with fail
      rw [hf.out]
      refine bodyPost_ret (v := .tuple #[.agg #[.slice none 0 0, .slice none 0 0, .slice none 0 0, .slice none 0 0, .slice none 0 0], .bool false]) ?_ rfl ⟨_, rfl, hZ, hB⟩
      simp [results, Try.results27, go_sem, y0, y1, y2, y3, y4]
    · rw [eb, vT] at V2
      have hk : 0 ≤ a ∧ a < D.C.h.t.length := by simpa [plB] using evp
      have hk' : 0 ≤ b ∧ b < D.C.h.t.length := by simpa [plB] using eb
      obtain ⟨i, rfl⟩ := Int.eq_ofNat_of_zero_le hk.1
      obtain ⟨j, rfl⟩ := Int.eq_ofNat_of_zero_le hk'.1
      obtain ⟨fr, hfr⟩ : ∃ x, D.C.h.t[i]? = some x := ⟨_, List.getElem?_eq_getElem (by omega)⟩
      obtain ⟨tt, htt⟩ : ∃ x, D.C.h.t[j]? = some x := ⟨_, List.getElem?_eq_getElem (by omega)⟩
      have hi : i < D.C.h.t.length := by omega
      have hj : j < D.C.h.t.length := by omega
      have hi2 : (i : Int) < (n2 : Int) := by rw [← l2.out]; omega
      have hj2 : (j : Int) < (n2 : Int) := by rw [← l2.out]; omega
      obtain ⟨-, -, r2, -, -⟩ := DD.rows
      obtain ⟨g2, u, rfl, hg1, hg2, hu, hcu, -⟩ := r2.get (k := i) hi
      obtain rfl : u = fr := by have h9 := hu.out; rw [hfr] at h9; cases h9; rfl
      by_cases hu1 : u = -1
      · subst hu1
        have hf : Hid (linkO D i j = none) := by unfold Hid linkO; rw [evd, evp, eb, Int.toNat_natCast, getD_of hfr]; simp
        clear eb evp evd vT hk hk' hu hfr htt
        go_enter Try.func27, Try.ntmps27
        go_wp2_with fail
        (try rw [hW])
        refine V.mono ?_; rintro e wa ⟨rfl, hba⟩
        have B0 := (X.below hba).cells
        obtain ⟨p0, p1, p2, p3, p4, -⟩ := B0
        clear x0 x1 x2 x3 x4
        go_wp2_with fail
        refine (V2 _ hba).mono ?_; rintro e wb ⟨rfl, hbb⟩
        have hb1 := hba.trans (hbb.mono hba.size)
        have hcb := cell_bl hb1 hg2 hcu
        obtain ⟨x0, x1, x2, x3, x4, -⟩ := (X.below hb1).cells
        clear p0 p1 p2 p3 p4
        obtain ⟨y0, y1, y2, y3, y4, f0, f1, f2, f3, f4⟩ := (Y.below hb1).cells
        obtain ⟨hZ, hB⟩ := dv_zero (w := w) (b := w.heap.size + 1) (by omega) (BB.trans (hb1.mono BB.size))
        go_wp2_with fail
        rw [hf.out]
        refine bodyPost_ret (v := .tuple #[.agg #[.slice none 0 0, .slice none 0 0, .slice none 0 0, .slice none 0 0, .slice none 0 0], .bool false]) ?_ rfl ⟨_, rfl, hZ, hB⟩
        simp [results, Try.results27, go_sem, y0, y1, y2, y3, y4]
      · obtain ⟨f, rfl, hfl⟩ := root_at evd hfr hu1
        obtain ⟨old, hold⟩ : ∃ x, D.C.h.l[f]? = some x := ⟨_, List.getElem?_eq_getElem hfl⟩
        have hf := Lib.hid (linkO_some evd hfr htt hold)
        have hI := Lib.hid (link_inv evd (List.mem_of_getElem? hfr) (List.mem_of_getElem? htt) hold)
        have hto := root_rng evd htt
        have hu9 : ((f : Int) == -1) = false := by simp
        have hu9' : ((f : Int) != -1) = true := by simp
        obtain ⟨r0, -, r2, -, -⟩ := DD.rows
        obtain ⟨gj, uj, ej, -, -, huj, hcuj, -⟩ := r2.get (k := j) hj
        obtain rfl : uj = tt := by have h9 := huj.out; rw [htt] at h9; cases h9; rfl
        cases ej
        obtain ⟨gl, ul, el, hgl0, hgl, hul, hcl, -⟩ := r0.get (k := f) hfl
        obtain rfl : ul = old := by have h9 := hul.out; rw [hold] at h9; cases h9; rfl
        subst el
        have hl2 : (f : Int) < (n0 : Int) := by rw [← l0.out]; omega
        clear huj hul
        have htt' := Lib.hid htt
        have hfr' := Lib.hid hfr
        have hold' := Lib.hid hold
        clear eb evp vT hk hk' hu hfr htt hold hu1
        go_enter Try.func27, Try.ntmps27
        go_wp2_with fail
        (try rw [hW])
        refine V.mono ?_; rintro e wa ⟨rfl, hba⟩
        have B0 := (X.below hba).cells
        obtain ⟨p0, p1, p2, p3, p4, -⟩ := B0
        clear x0 x1 x2 x3 x4
        go_wp2_with fail
        refine (V2 _ hba).mono ?_; rintro e w1 ⟨rfl, hbb⟩
        have hb1 := hba.trans (hbb.mono hba.size)
        have hcu1 := cell_bl hb1 hg2 hcu
        have X1 := X.below hb1
        have Y1 := Y.below hb1
        have D1 := DD.below hb1
        have B1 := BB.trans (hb1.mono BB.size)
        have z1 := hb1.size
        obtain ⟨x0, x1, x2, x3, x4, -⟩ := X1.cells
        clear p0 p1 p2 p3 p4 hcu V2 hbb hba
        have hcuj1 := cell_bl hb1 hg2 hcuj
        clear hcuj
        have CP := l9Copy_any w1 lo _ D D1 evd
        clear x0 x1 x2 x3 x4 X Y DD V
        obtain ⟨x0, x1, x2, x3, x4, -⟩ := X1.cells
        go_wp2_with fail
        refine CP.mono ?_; rintro e w2 ⟨vv, rfl, HD, hb2⟩
        have HDo := HD
        obtain ⟨Q0, q0, k0, Q1, q1, k1, Q2, q2, k2, Q3, q3, k3, Q4, q4, k4, rfl, -⟩ := HDo.open_
        obtain ⟨M, hb3⟩ := mat_out HD
        have X3 := (X1.below hb2).below hb3
        have Y3 := (Y1.below hb2).below hb3
        have D3 := (D1.below hb2).below hb3
        have B3 := (B1.trans (hb2.mono B1.size)).trans (hb3.mono (by have := B1.size; have := hb2.size; omega))
        have z2 := hb2.size
        have z3 : w2.heap.size + 1 ≤ (w2.alloc (.cells #[.slice Q0 q0 k0, .slice Q1 q1 k1, .slice Q2 q2 k2, .slice Q3 q3 k3, .slice Q4 q4 k4] 29)).heap.size := M.blk.lt
        clear x0 x1 x2 x3 x4 X1 Y1 D1 CP HDo HD
        obtain ⟨x0, x1, x2, x3, x4, -⟩ := X3.cells
        have hcu3 := cell_bl hb3 (by omega) (cell_bl hb2 (by omega) hcu1)
        have hcuj3 := cell_bl hb3 (by omega) (cell_bl hb2 (by omega) hcuj1)
        have hcl3 := cell_bl hb3 (by omega) (cell_bl hb2 (by omega) (cell_bl hb1 hgl hcl))
        obtain ⟨gt, _, hQ2, _, _, _, _, _⟩ := M.r2.get (k := i) hi
        obtain ⟨g0, _, hQ0, ga, gb, _, hcu0, hfu0⟩ := M.r0.get (k := f) hfl
        have hq0 : (f : Int) < (q0 : Int) := by have : D.C.h.l.length = q0 := (RowC.ofRow M.r0).form.1; omega
        clear hcu1 hcuj1 hcl
        by_cases ht1 : uj = -1
        · subst ht1
          rw [bump_none] at hI hf
          subst hQ2 hQ0
          have hn9 : ((-1 : Int) != -1) = false := by simp
          obtain ⟨b0, b1, b2, b3, b4, -⟩ := M.blk.cells
          have M9 := M.setL rfl f (-1)
          have n9 : g0 ≠ w2.heap.size := fun e => M.o0 (by rw [← e]; rfl)
          have n9' : w2.heap.size ≠ g0 := fun e => n9 e.symm
          obtain ⟨d0, d1, d2, d3, d4, -⟩ := M9.blk.cells
          have X9 := X3.other (p := ⟨g0, f, none⟩) (by show w.heap.size ≠ g0; omega) (.int .i64 (-1))
          have Y9 := Y3.other (p := ⟨g0, f, none⟩) (by show w.heap.size + 1 ≠ g0; omega) (.int .i64 (-1))
          have B9 := B3.setCell (p := ⟨g0, f, none⟩) (by show w.heap.size ≤ g0; omega) (.int .i64 (-1))
          have z9 : w2.heap.size + 1 ≤ ((w2.alloc (.cells #[.slice (some ⟨g0, 0, none⟩) q0 k0, .slice Q1 q1 k1, .slice (some ⟨gt, 0, none⟩) q2 k2, .slice Q3 q3 k3, .slice Q4 q4 k4] 29)).setCell ⟨g0, f, none⟩ (.int .i64 (-1))).heap.size := M9.blk.lt
          have z9e : ((w2.alloc (.cells #[.slice (some ⟨g0, 0, none⟩) q0 k0, .slice Q1 q1 k1, .slice (some ⟨gt, 0, none⟩) q2 k2, .slice Q3 q3 k3, .slice Q4 q4 k4] 29)).setCell ⟨g0, f, none⟩ (.int .i64 (-1))).heap.size = w2.heap.size + 1 := by simp [World.setCell]
          go_wp2_with fail
          clear M X3 Y3 D3 B3 z3 x0 x1 x2 x3 x4 hcu3 hcuj3 hcl3 hcu0 hfu0 b0 b1 b2 b3 b4
          generalize (w2.alloc (.cells #[.slice (some ⟨g0, 0, none⟩) q0 k0, .slice Q1 q1 k1, .slice (some ⟨gt, 0, none⟩) q2 k2, .slice Q3 q3 k3, .slice Q4 q4 k4] 29)).setCell ⟨g0, f, none⟩ (.int .i64 (-1)) = W9 at M9 d0 d1 d2 d3 d4 X9 Y9 B9 z9 z9e ⊢
          have DN := l9Down_any (W9.alloc (.cells #[.int .i64 ul] 3)) w1.heap.size W9.heap.size W9.heap.size 1 (some ⟨g0, 0, none⟩) Q1 (some ⟨gt, 0, none⟩) Q3 Q4 q0 k0 q1 k1 q2 k2 q3 k3 q4 k4 _ (M9.dv.alloc (.cells #[.int .i64 ul] 3)) ul (lit1_ W9 ul) ⟨fun e => by have := (M9.r0.lt _ e).2; omega, fun e => by have := (M9.r1.lt _ e).2; omega, fun e => by have := (M9.r2.lt _ e).2; omega, fun e => by have := (M9.r3.lt _ e).2; omega, fun e => by have := (M9.r4.lt _ e).2; omega⟩ hI
          have low : ∀ q, OwnV (.slice (some ⟨g0, 0, none⟩) q0 k0) (.slice Q1 q1 k1) (.slice (some ⟨gt, 0, none⟩) q2 k2) (.slice Q3 q3 k3) (.slice Q4 q4 k4) (.slice (some ⟨W9.heap.size, 0, none⟩) 1 1) q → w1.heap.size ≤ q := fun q e => by
            rcases e with e | e | e | e | e | e
            · exact (M9.r0.lt _ e).1
            · exact (M9.r1.lt _ e).1
            · exact (M9.r2.lt _ e).1
            · exact (M9.r3.lt _ e).1
            · exact (M9.r4.lt _ e).1
            · have e' : W9.heap.size = q := by simpa [Value.ownBlock] using e
              omega
          have YA := Y9.alloc (.cells #[.int .i64 ul] 3)
          have BA := B9.alloc (by have := B9.size; omega) (.cells #[.int .i64 ul] 3)
          have sA : W9.heap.size + 1 ≤ (W9.alloc (.cells #[.int .i64 ul] 3)).heap.size := by simp
          clear M9 d0 d1 d2 d3 d4 X9 Y9 B9
          rw [z9e] at DN low
          refine DN.mono ?_; rintro e w5 ⟨A', n', c', rfl, DF, F9⟩
          have hb9 : Below w1.heap.size (W9.alloc (.cells #[.int .i64 ul] 3)) w5 := F9.below low (by omega)
          obtain ⟨y0, y1, y2, y3, y4, f0, f1, f2, f3, f4⟩ := (YA.far hb9 (by omega)).cells
          obtain ⟨hZ, hB⟩ := dv_done (w := w) (b := w.heap.size + 1) DF (by omega) (by omega) (BA.trans (hb9.mono (by omega))) (.slice (some ⟨g0, 0, none⟩) q0 k0) (.slice Q1 q1 k1) (.slice (some ⟨gt, 0, none⟩) q2 k2) (.slice A' n' c') (.slice Q4 q4 k4)
          clear YA BA DF F9 DN
          go_wp2_with fail
          rw [hf.out]
          refine bodyPost_ret (v := .tuple #[.agg #[.slice (some ⟨g0, 0, none⟩) q0 k0, .slice Q1 q1 k1, .slice (some ⟨gt, 0, none⟩) q2 k2, .slice A' n' c', .slice Q4 q4 k4], .bool true]) ?_ rfl ⟨_, rfl, hZ, hB⟩
          simp [results, Try.results27, go_sem, y0, y1, y2, y3, y4]
        · obtain ⟨t, rfl⟩ := Int.eq_ofNat_of_zero_le (by have := hto.1; omega : 0 ≤ uj)
          have hto2 : t < D.C.h.l.length := by have := hto.2; omega
          have hnl : D.n.length = D.C.h.l.length := by rw [(dpB_iff.1 evd).2, cnts_len]
          have ht9 : ((t : Int) != -1) = true := by simp
          obtain ⟨g4, z, hQ4, gc, gd, hz, hcz, hfz⟩ := M.r4.get (k := t) (by omega)
          have hbz := inv_bd hI.out (bump_get (x := (t : Int)) hz.out)
          rw [if_pos rfl] at hbz
          have hz1 : z ≤ 1000000 ∧ -1 ≤ z := by have := hbz.2.1; simp at this; omega
          have hwz : IntKind.i64.wrap (z + 1) = z + 1 := IntWalk.i64_in _ (by omega)
          have hq4 : (t : Int) < (q4 : Int) := by have : D.n.length = q4 := (RowC.ofRow M.r4).form.1; omega
          rw [bump_at hz.out] at hI hf
          obtain ⟨b0, b1, b2, b3, b4, -⟩ := M.blk.cells
          subst hQ2 hQ0 hQ4
          clear hbz hz hto
          go_wp2_with fail
          have zw : (w2.alloc (.cells #[.slice (some ⟨g0, 0, none⟩) q0 k0, .slice Q1 q1 k1, .slice (some ⟨gt, 0, none⟩) q2 k2, .slice Q3 q3 k3, .slice (some ⟨g4, 0, none⟩) q4 k4] 29)).heap.size = w2.heap.size + 1 := by simp
          generalize (w2.alloc (.cells #[.slice (some ⟨g0, 0, none⟩) q0 k0, .slice Q1 q1 k1, .slice (some ⟨gt, 0, none⟩) q2 k2, .slice Q3 q3 k3, .slice (some ⟨g4, 0, none⟩) q4 k4] 29)) = W3 at M X3 Y3 D3 B3 z3 x0 x1 x2 x3 x4 hcu3 hcuj3 hcl3 hcu0 hfu0 b0 b1 b2 b3 b4 hcz hfz gb gd zw hb3 ⊢
          go_region
          have M4 := (M.setN rfl t (z + 1)).drew
          have n4' : w.heap.size ≠ g4 := by omega
          have n4q : w2.heap.size ≠ g4 := fun e => M.o4 (by rw [e]; rfl)
          have X4 := (X3.other (p := ⟨g4, t, none⟩) (by show w.heap.size ≠ g4; omega) (.int .i64 (z + 1))).drew
          have Y4 := (Y3.other (p := ⟨g4, t, none⟩) (by show w.heap.size + 1 ≠ g4; omega) (.int .i64 (z + 1))).drew
          have B4 := (B3.setCell (p := ⟨g4, t, none⟩) (by show w.heap.size ≤ g4; omega) (.int .i64 (z + 1))).drew
          have z4e : ((W3.setCell ⟨g4, t, none⟩ (.int .i64 (z + 1))).drew).heap.size = w2.heap.size + 1 := by rw [← zw]; show (W3.setCell ⟨g4, t, none⟩ (.int .i64 (z + 1))).heap.size = _; simp [World.setCell]
          clear M X3 Y3 D3 B3 x0 x1 x2 x3 x4 hcu3 hcuj3 hcl3 hcu0 hfu0 b0 b1 b2 b3 b4 hcz hfz
          generalize (W3.setCell ⟨g4, t, none⟩ (.int .i64 (z + 1))).drew = W4 at M4 X4 Y4 B4 z4e ⊢
          obtain ⟨_, _, hQ0, ga, gb, _, hcu0, hfu0⟩ := M4.r0.get (k := f) hfl
          cases hQ0
          obtain ⟨b0, b1, b2, b3, b4, -⟩ := M4.blk.cells
          have M9 := M4.setL rfl f (t : Int)
          have n9 : g0 ≠ w2.heap.size := fun e => M4.o0 (by rw [← e]; rfl)
          have n9' : w2.heap.size ≠ g0 := fun e => n9 e.symm
          obtain ⟨d0, d1, d2, d3, d4, -⟩ := M9.blk.cells
          have X9 := X4.other (p := ⟨g0, f, none⟩) (by show w.heap.size ≠ g0; omega) (.int .i64 (t : Int))
          have Y9 := Y4.other (p := ⟨g0, f, none⟩) (by show w.heap.size + 1 ≠ g0; omega) (.int .i64 (t : Int))
          have B9 := B4.setCell (p := ⟨g0, f, none⟩) (by show w.heap.size ≤ g0; omega) (.int .i64 (t : Int))
          have z9e : (W4.setCell ⟨g0, f, none⟩ (.int .i64 (t : Int))).heap.size = w2.heap.size + 1 := by rw [← z4e]; simp [World.setCell]
          have z9 : w2.heap.size + 1 ≤ (W4.setCell ⟨g0, f, none⟩ (.int .i64 (t : Int))).heap.size := M9.blk.lt
          clear z4e zw
          go_wp2_with fail
          clear M4 X4 Y4 B4 hcu0 hfu0 b0 b1 b2 b3 b4
          generalize W4.setCell ⟨g0, f, none⟩ (.int .i64 (t : Int)) = W9 at M9 d0 d1 d2 d3 d4 X9 Y9 B9 z9 z9e ⊢
          have DN := l9Down_any (W9.alloc (.cells #[.int .i64 ul] 3)) w1.heap.size W9.heap.size W9.heap.size 1 (some ⟨g0, 0, none⟩) Q1 (some ⟨gt, 0, none⟩) Q3 (some ⟨g4, 0, none⟩) q0 k0 q1 k1 q2 k2 q3 k3 q4 k4 _ (M9.dv.alloc (.cells #[.int .i64 ul] 3)) ul (lit1_ W9 ul) ⟨fun e => by have := (M9.r0.lt _ e).2; omega, fun e => by have := (M9.r1.lt _ e).2; omega, fun e => by have := (M9.r2.lt _ e).2; omega, fun e => by have := (M9.r3.lt _ e).2; omega, fun e => by have := (M9.r4.lt _ e).2; omega⟩ hI
          have low : ∀ q, OwnV (.slice (some ⟨g0, 0, none⟩) q0 k0) (.slice Q1 q1 k1) (.slice (some ⟨gt, 0, none⟩) q2 k2) (.slice Q3 q3 k3) (.slice (some ⟨g4, 0, none⟩) q4 k4) (.slice (some ⟨W9.heap.size, 0, none⟩) 1 1) q → w1.heap.size ≤ q := fun q e => by
            rcases e with e | e | e | e | e | e
            · exact (M9.r0.lt _ e).1
            · exact (M9.r1.lt _ e).1
            · exact (M9.r2.lt _ e).1
            · exact (M9.r3.lt _ e).1
            · exact (M9.r4.lt _ e).1
            · have e' : W9.heap.size = q := by simpa [Value.ownBlock] using e
              omega
          have YA := Y9.alloc (.cells #[.int .i64 ul] 3)
          have BA := B9.alloc (by have := B9.size; omega) (.cells #[.int .i64 ul] 3)
          have sA : W9.heap.size + 1 ≤ (W9.alloc (.cells #[.int .i64 ul] 3)).heap.size := by simp
          clear M9 d0 d1 d2 d3 d4 X9 Y9 B9
          rw [z9e] at DN low
          refine DN.mono ?_; rintro e w5 ⟨A', n', c', rfl, DF, F9⟩
          have hb9 : Below w1.heap.size (W9.alloc (.cells #[.int .i64 ul] 3)) w5 := F9.below low (by omega)
          obtain ⟨y0, y1, y2, y3, y4, f0, f1, f2, f3, f4⟩ := (YA.far hb9 (by omega)).cells
          obtain ⟨hZ, hB⟩ := dv_done (w := w) (b := w.heap.size + 1) DF (by omega) (by omega) (BA.trans (hb9.mono (by omega))) (.slice (some ⟨g0, 0, none⟩) q0 k0) (.slice Q1 q1 k1) (.slice (some ⟨gt, 0, none⟩) q2 k2) (.slice A' n' c') (.slice (some ⟨g4, 0, none⟩) q4 k4)
          clear YA BA DF F9 DN
          go_wp2_with fail
          rw [hf.out]
          refine bodyPost_ret (v := .tuple #[.agg #[.slice (some ⟨g0, 0, none⟩) q0 k0, .slice Q1 q1 k1, .slice (some ⟨gt, 0, none⟩) q2 k2, .slice A' n' c', .slice (some ⟨g4, 0, none⟩) q4 k4], .bool true]) ?_ rfl ⟨_, rfl, hZ, hB⟩
          simp [results, Try.results27, go_sem, y0, y1, y2, y3, y4]

end Go.Proofs.Yteogflkahoanlaa

