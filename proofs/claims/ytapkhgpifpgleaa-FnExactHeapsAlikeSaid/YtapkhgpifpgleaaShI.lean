/- impl's shapeOf and HeapsAlike. -/
import Derived.Test.YtapkhgpifpgleaaMvI
import Derived.Test.YtapkhgpifpgleaaLives
namespace Go.Proofs.Ytapkhgpifpgleaa
open Go.RowKit Go.Maps

theorem cpL_take {o l : List Int} {n : Nat} : (cpL o l n).take o.length = shL o l := by
  unfold cpL
  rw [List.take_append_of_le_length (by rw [shL_len]; exact Nat.le_refl _), List.take_of_length_le (by rw [shL_len]; exact Nat.le_refl _)]

set_option maxRecDepth 100000 in
set_option maxHeartbeats 4000000 in
theorem shapeOf_any (w : World) (lo : Nat) (v : Value) (h : Hp) (hv : Hv w lo v h) (ev : hvB h = true) : Calls Try.prog 49 #[v] w (NewHv w (shape h)) := by
  obtain ⟨A0, n0, c0, A1, n1, c1, A2, n2, c2, rfl, _⟩ := hv.open_
  have X0 := (Blk3.new w (.slice A0 n0 c0) (.slice A1 n1 c1) (.slice A2 n2 c2) 27).alloc (.cells #[.slice none 0 0, .slice none 0 0, .slice none 0 0] 27)
  have Y0 := Blk3.new_at (w := w.alloc (.cells #[.slice A0 n0 c0, .slice A1 n1 c1, .slice A2 n2 c2] 27)) (b := w.heap.size + 1) (by simp) (.slice none 0 0) (.slice none 0 0) (.slice none 0 0) 27
  have H0 := (hv.alloc (.cells #[.slice A0 n0 c0, .slice A1 n1 c1, .slice A2 n2 c2] 27)).alloc (.cells #[.slice none 0 0, .slice none 0 0, .slice none 0 0] 27)
  have fin : Below w.heap.size w ((w.alloc (.cells #[.slice A0 n0 c0, .slice A1 n1 c1, .slice A2 n2 c2] 27)).alloc (.cells #[.slice none 0 0, .slice none 0 0, .slice none 0 0] 27)) := ((Below.refl _ _).alloc (Nat.le_refl _) _).alloc (by simp) _
  have sz0 : ((w.alloc (.cells #[.slice A0 n0 c0, .slice A1 n1 c1, .slice A2 n2 c2] 27)).alloc (.cells #[.slice none 0 0, .slice none 0 0, .slice none 0 0] 27)).heap.size = w.heap.size + 2 := by simp
  have CP := fun W hW => implCopy_any W lo (.agg #[.slice A0 n0 c0, .slice A1 n1 c1, .slice A2 n2 c2]) h hW
  have CL := fun W hW => implLive_any W lo (.agg #[.slice A0 n0 c0, .slice A1 n1 c1, .slice A2 n2 c2]) h hW
  have e1 : copyV h = copyH h := by unfold copyV; rw [if_pos ev]
  rw [e1] at CP
  rw [cnt_order ev] at CL
  have t0 : (copyH h).l.take (order h).length = (shape h).l := cpL_take
  have t1 : (copyH h).r.take (order h).length = (shape h).r := cpL_take
  have t2 : (copyH h).t = (shape h).t := rfl
  have g0 : (copyH h).l.length = h.l.length := cpL_len (order_len ev)
  have g1 : (copyH h).r.length = h.l.length := cpL_len (order_len ev)
  have hol := order_len ev
  have h8 := hvB_len ev
  generalize whereV h = nw at CP
  generalize hvB h = okk at CP
  generalize copyH h = hc at CP t0 t1 t2 g0 g1
  generalize shape h = hs at t0 t1 t2 ⊢
  generalize (order h).length = m at CL t0 t1 hol
  have HT0 := Lib.hid t0
  have HT1 := Lib.hid t1
  have HT2 := Lib.hid t2
  clear t0 t1 t2 e1 ev hv
  go_enter Try.func49, Try.ntmps49
  go_wp2_with fail
  refine (CP _ H0).mono ?_; rintro e w1 ⟨vc, AN, cN, rfl, HC, RN, NI, hb1⟩
  have X1 := Blk3.below (by exact X0) hb1
  have Y1 := Blk3.below (by exact Y0) hb1
  have H1 := Hv.below (by exact H0) hb1
  have B1 : Below w.heap.size w w1 := fin.trans (hb1.mono (by simp; omega))
  have z1 : w.heap.size + 2 ≤ w1.heap.size := by have := hb1.size; omega
  have HC2 : Hv w1 (w.heap.size + 2) vc hc := HC.mono (by simp)
  obtain ⟨E0, m0, k0, E1, m1, k1, E2, m2, k2, rfl, ⟨s0, s1, s2⟩, ⟨l0, l1, l2⟩, ⟨mm0, mm1, mm2⟩, ⟨kk0, kk1, kk2⟩, a01, a02, a12⟩ := HC2.open_
  have u0 : m ≤ m0 := by have := l0.out; omega
  have u1 : m ≤ m1 := by have := l1.out; omega
  have v0 : 0 < m0 := by have := l0.out; omega
  have v1 : 0 < m1 := by have := l1.out; omega
  obtain ⟨gE0, rfl, y0, y0b, _⟩ := s0.at_ (k := 0) (by have := l0.out; omega)
  obtain ⟨gE1, rfl, y1, y1b, _⟩ := s1.at_ (k := 0) (by have := l1.out; omega)
  have Z1 := Blk3.new w1 (.slice (some ⟨gE0, 0, none⟩) m0 k0) (.slice (some ⟨gE1, 0, none⟩) m1 k1) (.slice E2 m2 k2) 27
  have X2 := X1.alloc (.cells #[.slice (some ⟨gE0, 0, none⟩) m0 k0, .slice (some ⟨gE1, 0, none⟩) m1 k1, .slice E2 m2 k2] 27)
  have Y2 := Y1.alloc (.cells #[.slice (some ⟨gE0, 0, none⟩) m0 k0, .slice (some ⟨gE1, 0, none⟩) m1 k1, .slice E2 m2 k2] 27)
  have H2 := H1.alloc (.cells #[.slice (some ⟨gE0, 0, none⟩) m0 k0, .slice (some ⟨gE1, 0, none⟩) m1 k1, .slice E2 m2 k2] 27)
  have q0 := s0.alloc (.cells #[.slice (some ⟨gE0, 0, none⟩) m0 k0, .slice (some ⟨gE1, 0, none⟩) m1 k1, .slice E2 m2 k2] 27)
  have q1 := s1.alloc (.cells #[.slice (some ⟨gE0, 0, none⟩) m0 k0, .slice (some ⟨gE1, 0, none⟩) m1 k1, .slice E2 m2 k2] 27)
  have q2 := s2.alloc (.cells #[.slice (some ⟨gE0, 0, none⟩) m0 k0, .slice (some ⟨gE1, 0, none⟩) m1 k1, .slice E2 m2 k2] 27)
  have B2 : Below w.heap.size w (w1.alloc (.cells #[.slice (some ⟨gE0, 0, none⟩) m0 k0, .slice (some ⟨gE1, 0, none⟩) m1 k1, .slice E2 m2 k2] 27)) := B1.alloc B1.size _
  obtain ⟨p0, p1, p2, _⟩ := X2.cells
  clear HC HC2 RN NI hb1 X0 Y0 H0 fin X1 Y1 H1 s0 s1 s2 CP
  go_wp2_with fail
  refine (CL _ H2).mono ?_; rintro e w3 ⟨rfl, hb3⟩
  have Z3 := Blk3.below (by exact Z1) hb3
  have Y3 := Blk3.below (by exact Y2) hb3
  have q30 := Row.below (by exact q0) hb3
  have q31 := Row.below (by exact q1) hb3
  have q32 := Row.below (by exact q2) hb3
  have B3 := B2.trans (hb3.mono B2.size)
  obtain ⟨z0, z1', z2, _⟩ := Z3.cells
  obtain ⟨Y0, Y1, Y2', f0, f1, f2⟩ := Y3.cells
  have x30 := q30.cut (k := m) (by rw [l0.out]; exact u0)
  have x31 := q31.cut (k := m) (by rw [l1.out]; exact u1)
  rw [HT0.out] at x30
  rw [HT1.out] at x31
  rw [HT2.out] at q32
  have key0 : ∀ (v : Value) (zs : List Int), Row w3 (w.heap.size + 2) v zs → v.ownBlock ≠ some (w.heap.size + 1) := fun v zs r e => by have := (r.lt _ e).1; omega
  have tk : ∀ (v : Value) (zs : List Int) (p q r : Value), Row w3 (w.heap.size + 2) v zs → Row (((w3.setCell ⟨w.heap.size + 1, 0, none⟩ p).setCell ⟨w.heap.size + 1, 1, none⟩ q).setCell ⟨w.heap.size + 1, 2, none⟩ r) w.heap.size v zs :=
    fun v zs p q r h9 => (((h9.other (key0 v zs h9) _).other (key0 v zs h9) _).other (key0 v zs h9) _).mono (by omega)
  have T0 := tk _ _ (.slice (some ⟨gE0, 0, none⟩) m k0) (.slice (some ⟨gE1, 0, none⟩) m k1) (.slice E2 m2 k2) x30
  have T1 := tk _ _ (.slice (some ⟨gE0, 0, none⟩) m k0) (.slice (some ⟨gE1, 0, none⟩) m k1) (.slice E2 m2 k2) x31
  have T2 := tk _ _ (.slice (some ⟨gE0, 0, none⟩) m k0) (.slice (some ⟨gE1, 0, none⟩) m k1) (.slice E2 m2 k2) q32
  have BF := ((B3.setCell (p := ⟨w.heap.size + 1, 0, none⟩) (by simp) (.slice (some ⟨gE0, 0, none⟩) m k0)).setCell (p := ⟨w.heap.size + 1, 1, none⟩) (by simp) (.slice (some ⟨gE1, 0, none⟩) m k1)).setCell (p := ⟨w.heap.size + 1, 2, none⟩) (by simp) (.slice E2 m2 k2)
  clear key0 tk q30 q31 q32 x30 x31 H2 X2 Y2 q0 q1 q2 Z1 Z3 p0 p1 p2
  go_wp2_with fail
  have km0 : m ≤ k0 := by omega
  have km1 : m ≤ k1 := by omega
  go_region_law (fail)
  all_goals
    go_wp2_with fail
    refine bodyPost_ret (v := .agg #[.slice (some ⟨gE0, 0, none⟩) m k0, .slice (some ⟨gE1, 0, none⟩) m k1, .slice E2 m2 k2]) ?_ rfl ⟨_, rfl, ⟨_, _, _, rfl, T0.drew, T1.drew, T2.drew, a01, a02, a12⟩, BF.drew⟩
    simp [results, Try.results49, go_sem, Y0, Y1, Y2']

set_option maxRecDepth 100000 in
set_option maxHeartbeats 4000000 in
theorem implAlike_any (w : World) (lo lo' : Nat) (v v' : Value) (a b : Hp) (hv : Hv w lo v a) (hv' : Hv w lo' v' b) : Calls Try.prog 25 #[v, v'] w (RetB w (alikeB a b)) := by
  obtain ⟨A0, n0, c0, A1, n1, c1, A2, n2, c2, rfl, _⟩ := hv.open_
  obtain ⟨B0, m0, d0, B1, m1, d1, B2, m2, d2, rfl, _⟩ := hv'.open_
  have X0 := (Blk3.new w (.slice A0 n0 c0) (.slice A1 n1 c1) (.slice A2 n2 c2) 27).alloc (.cells #[.slice B0 m0 d0, .slice B1 m1 d1, .slice B2 m2 d2] 27)
  have Y0 := Blk3.new_at (w := w.alloc (.cells #[.slice A0 n0 c0, .slice A1 n1 c1, .slice A2 n2 c2] 27)) (b := w.heap.size + 1) (by simp) (.slice B0 m0 d0) (.slice B1 m1 d1) (.slice B2 m2 d2) 27
  have H0 := (hv.alloc (.cells #[.slice A0 n0 c0, .slice A1 n1 c1, .slice A2 n2 c2] 27)).alloc (.cells #[.slice B0 m0 d0, .slice B1 m1 d1, .slice B2 m2 d2] 27)
  have K0 := (hv'.alloc (.cells #[.slice A0 n0 c0, .slice A1 n1 c1, .slice A2 n2 c2] 27)).alloc (.cells #[.slice B0 m0 d0, .slice B1 m1 d1, .slice B2 m2 d2] 27)
  have fin : Below w.heap.size w ((w.alloc (.cells #[.slice A0 n0 c0, .slice A1 n1 c1, .slice A2 n2 c2] 27)).alloc (.cells #[.slice B0 m0 d0, .slice B1 m1 d1, .slice B2 m2 d2] 27)) := ((Below.refl _ _).alloc (Nat.le_refl _) _).alloc (by simp) _
  have sz0 : ((w.alloc (.cells #[.slice A0 n0 c0, .slice A1 n1 c1, .slice A2 n2 c2] 27)).alloc (.cells #[.slice B0 m0 d0, .slice B1 m1 d1, .slice B2 m2 d2] 27)).heap.size = w.heap.size + 2 := by simp
  have VA := fun W hW => implHeapValid_any W lo (.agg #[.slice A0 n0 c0, .slice A1 n1 c1, .slice A2 n2 c2]) a hW
  have VB := fun W hW => implHeapValid_any W lo' (.agg #[.slice B0 m0 d0, .slice B1 m1 d1, .slice B2 m2 d2]) b hW
  clear hv hv'
  obtain ⟨W, hW⟩ : ∃ W, W = (w.alloc (.cells #[.slice A0 n0 c0, .slice A1 n1 c1, .slice A2 n2 c2] 27)).alloc (.cells #[.slice B0 m0 d0, .slice B1 m1 d1, .slice B2 m2 d2] 27) := ⟨_, rfl⟩
  rw [← hW] at X0 Y0 H0 K0 fin sz0
  have SO : ∀ w' : World, Below W.heap.size W w' → w'.cell? ⟨w.heap.size, 0, none⟩ = some (.slice A0 n0 c0) ∧ w'.cell? ⟨w.heap.size, 1, none⟩ = some (.slice A1 n1 c1) ∧ w'.cell? ⟨w.heap.size, 2, none⟩ = some (.slice A2 n2 c2) ∧ w'.cell? ⟨w.heap.size + 1, 0, none⟩ = some (.slice B0 m0 d0) ∧ w'.cell? ⟨w.heap.size + 1, 1, none⟩ = some (.slice B1 m1 d1) ∧ w'.cell? ⟨w.heap.size + 1, 2, none⟩ = some (.slice B2 m2 d2) := fun w' hb => by
    obtain ⟨x0, x1, x2, _⟩ := (X0.below hb).cells
    obtain ⟨y0, y1, y2, _⟩ := (Y0.below hb).cells
    exact ⟨x0, x1, x2, y0, y1, y2⟩
  have BD : Below W.heap.size W W.drew := (Below.refl _ _).drew
  obtain ⟨x0, x1, x2, _⟩ := X0.cells
  obtain ⟨y0, y1, y2, _⟩ := Y0.cells
  rcases ea : hvB a
  · have e1 : alikeB a b = false := by unfold alikeB; rw [ea]; rfl
    rw [e1]
    have V1 := VA _ H0.drew
    rw [ea] at V1
    clear ea e1 VA VB
    go_enter Try.func25, Try.ntmps25
    go_wp2_with fail
    rw [← hW]; clear hW
    refine wp_region_held_drew (S := fun w' => w'.cell? ⟨w.heap.size, 0, none⟩ = some (.slice A0 n0 c0) ∧ w'.cell? ⟨w.heap.size, 1, none⟩ = some (.slice A1 n1 c1) ∧ w'.cell? ⟨w.heap.size, 2, none⟩ = some (.slice A2 n2 c2) ∧ w'.cell? ⟨w.heap.size + 1, 0, none⟩ = some (.slice B0 m0 d0) ∧ w'.cell? ⟨w.heap.size + 1, 1, none⟩ = some (.slice B1 m1 d1) ∧ w'.cell? ⟨w.heap.size + 1, 2, none⟩ = some (.slice B2 m2 d2)) (by kernel_rfl) ?_ (fun hHeld => ?_)
    · exact SO _ BD
    refine wpAnyH_take (i := 0) (oi := ?oia0) (v := ?va0) ?hia0 (by kernel_rfl) (by kernel_rfl) (by kernel_rfl) ?hQa0 ?hya0 (by assumption) ?_
    case hia0 => simp only [List.getElem?_toArray, List.getElem?_cons_zero]; rfl
    case hQa0 => exact fun _ _ _ h => h
    case hya0 => refine Or.inl ⟨by rfl, ?_⟩; intro w9 hSw; (try dsimp only at hSw); go_simp; (try with_reducible rfl)
    try simp only [Act.put, List.setIfInBounds_toArray, List.set_cons_zero, List.set_cons_succ]
    refine wpAnyH_ready (rs := [1]) (by kernel_rfl) (by simp) ?_
    refine AllReadyH.cons (o := ?ooa1) ?hoa1 (fun K hK => ?_) AllReadyH.nil
    case hoa1 => simp only [List.getElem?_toArray, List.getElem?_cons_zero, List.getElem?_cons_succ]; rfl
    go_simp
    refine V1.mono ?_; rintro e w1 ⟨rfl, hb1⟩
    have hb1 : Below W.heap.size W w1 := BD.trans (hb1.mono (Nat.le_refl _))
    go_wp2_with fail
    refine hK.out _ _ ?hSa1 (fun hHeld1 => ?_)
    case hSa1 => exact SO w1 hb1
    clear hK K
    try simp only [Act.put, List.setIfInBounds_toArray, List.set_cons_zero, List.set_cons_succ]
    refine wpAnyH_take (i := 2) (oi := ?oia2) (v := ?va2) ?hia2 (by kernel_rfl) (by kernel_rfl) (by kernel_rfl) ?hQa2 ?hya2 (by assumption) ?_
    case hia2 => simp only [List.getElem?_toArray, List.getElem?_cons_zero, List.getElem?_cons_succ]; rfl
    case hQa2 => exact fun _ _ _ h => h
    case hya2 => refine Or.inl ⟨by rfl, ?_⟩; intro w9 hSw; (try dsimp only at hSw); go_simp; (try with_reducible rfl)
    try simp only [Act.put, List.setIfInBounds_toArray, List.set_cons_zero, List.set_cons_succ]
    refine wpAnyH_take (i := 3) (oi := ?oia3) (v := undef) ?hia3 (by kernel_rfl) (by kernel_rfl) (by kernel_rfl) ?hQa3 ?hya3 (by assumption) ?_
    case hia3 => simp only [List.getElem?_toArray, List.getElem?_cons_zero, List.getElem?_cons_succ]; rfl
    case hQa3 => exact fun _ _ _ h => h
    case hya3 => exact Or.inr ⟨by rfl, rfl⟩
    try simp only [Act.put, List.setIfInBounds_toArray, List.set_cons_zero, List.set_cons_succ]
    refine wpAnyH_take (i := 4) (oi := ?oia4) (v := undef) ?hia4 (by kernel_rfl) (by kernel_rfl) (by kernel_rfl) ?hQa4 ?hya4 (by assumption) ?_
    case hia4 => simp only [List.getElem?_toArray, List.getElem?_cons_zero, List.getElem?_cons_succ]; rfl
    case hQa4 => exact fun _ _ _ h => h
    case hya4 => exact Or.inr ⟨by rfl, rfl⟩
    try simp only [Act.put, List.setIfInBounds_toArray, List.set_cons_zero, List.set_cons_succ]
    refine wpAnyH_take (i := 5) (oi := ?oia5) (v := ?va5) ?hia5 (by kernel_rfl) (by kernel_rfl) (by kernel_rfl) ?hQa5 ?hya5 (by assumption) ?_
    case hia5 => simp only [List.getElem?_toArray, List.getElem?_cons_zero, List.getElem?_cons_succ]; rfl
    case hQa5 => exact fun _ _ _ h => h
    case hya5 => refine Or.inl ⟨by rfl, ?_⟩; intro w9 hSw; (try dsimp only at hSw); go_simp; (try with_reducible rfl)
    try simp only [Act.put, List.setIfInBounds_toArray, List.set_cons_zero, List.set_cons_succ]
    refine wpAnyH_take (i := 6) (oi := ?oia6) (v := ?va6) ?hia6 (by kernel_rfl) (by kernel_rfl) (by kernel_rfl) ?hQa6 ?hya6 (by assumption) ?_
    case hia6 => simp only [List.getElem?_toArray, List.getElem?_cons_zero, List.getElem?_cons_succ]; rfl
    case hQa6 => exact fun _ _ _ h => h
    case hya6 => refine Or.inl ⟨by rfl, ?_⟩; intro w9 hSw; (try dsimp only at hSw); go_simp; (try with_reducible rfl)
    try simp only [Act.put, List.setIfInBounds_toArray, List.set_cons_zero, List.set_cons_succ]
    refine wpAnyH_take (i := 7) (oi := ?oia7) (v := undef) ?hia7 (by kernel_rfl) (by kernel_rfl) (by kernel_rfl) ?hQa7 ?hya7 (by assumption) ?_
    case hia7 => simp only [List.getElem?_toArray, List.getElem?_cons_zero, List.getElem?_cons_succ]; rfl
    case hQa7 => exact fun _ _ _ h => h
    case hya7 => exact Or.inr ⟨by rfl, rfl⟩
    try simp only [Act.put, List.setIfInBounds_toArray, List.set_cons_zero, List.set_cons_succ]
    refine wpAnyH_take (i := 8) (oi := ?oia8) (v := undef) ?hia8 (by kernel_rfl) (by kernel_rfl) (by kernel_rfl) ?hQa8 ?hya8 (by assumption) ?_
    case hia8 => simp only [List.getElem?_toArray, List.getElem?_cons_zero, List.getElem?_cons_succ]; rfl
    case hQa8 => exact fun _ _ _ h => h
    case hya8 => exact Or.inr ⟨by rfl, rfl⟩
    try simp only [Act.put, List.setIfInBounds_toArray, List.set_cons_zero, List.set_cons_succ]
    refine wpAnyH_take (i := 9) (oi := ?oia9) (v := undef) ?hia9 (by kernel_rfl) (by kernel_rfl) (by kernel_rfl) ?hQa9 ?hya9 (by assumption) ?_
    case hia9 => simp only [List.getElem?_toArray, List.getElem?_cons_zero, List.getElem?_cons_succ]; rfl
    case hQa9 => exact fun _ _ _ h => h
    case hya9 => exact Or.inr ⟨by rfl, rfl⟩
    try simp only [Act.put, List.setIfInBounds_toArray, List.set_cons_zero, List.set_cons_succ]
    refine wpAnyH_take (i := 10) (oi := ?oia10) (v := undef) ?hia10 (by kernel_rfl) (by kernel_rfl) (by kernel_rfl) ?hQa10 ?hya10 (by assumption) ?_
    case hia10 => simp only [List.getElem?_toArray, List.getElem?_cons_zero, List.getElem?_cons_succ]; rfl
    case hQa10 => exact fun _ _ _ h => h
    case hya10 => exact Or.inr ⟨by rfl, rfl⟩
    try simp only [Act.put, List.setIfInBounds_toArray, List.set_cons_zero, List.set_cons_succ]
    refine wpAnyH_take (i := 11) (oi := ?oia11) (v := undef) ?hia11 (by kernel_rfl) (by kernel_rfl) (by kernel_rfl) ?hQa11 ?hya11 (by assumption) ?_
    case hia11 => simp only [List.getElem?_toArray, List.getElem?_cons_zero, List.getElem?_cons_succ]; rfl
    case hQa11 => exact fun _ _ _ h => h
    case hya11 => exact Or.inr ⟨by rfl, rfl⟩
    try simp only [Act.put, List.setIfInBounds_toArray, List.set_cons_zero, List.set_cons_succ]
    refine wpAnyH_take (i := 12) (oi := ?oia12) (v := ?va12) ?hia12 (by kernel_rfl) (by kernel_rfl) (by kernel_rfl) ?hQa12 ?hya12 (by assumption) ?_
    case hia12 => simp only [List.getElem?_toArray, List.getElem?_cons_zero, List.getElem?_cons_succ]; rfl
    case hQa12 => exact fun _ _ _ h => h
    case hya12 => refine Or.inl ⟨by rfl, ?_⟩; intro w9 hSw; (try dsimp only at hSw); go_simp; (try with_reducible rfl)
    try simp only [Act.put, List.setIfInBounds_toArray, List.set_cons_zero, List.set_cons_succ]
    refine wpAnyH_take (i := 13) (oi := ?oia13) (v := ?va13) ?hia13 (by kernel_rfl) (by kernel_rfl) (by kernel_rfl) ?hQa13 ?hya13 (by assumption) ?_
    case hia13 => simp only [List.getElem?_toArray, List.getElem?_cons_zero, List.getElem?_cons_succ]; rfl
    case hQa13 => exact fun _ _ _ h => h
    case hya13 => refine Or.inl ⟨by rfl, ?_⟩; intro w9 hSw; (try dsimp only at hSw); go_simp; (try with_reducible rfl)
    try simp only [Act.put, List.setIfInBounds_toArray, List.set_cons_zero, List.set_cons_succ]
    refine wpAnyH_done (by kernel_rfl) ?_ _
    go_wp2_with fail
    go_ret
    exact ⟨rfl, fin.trans (hb1.mono fin.size)⟩
  · have V1 := VA _ H0.drew
    rw [ea] at V1
    rcases eb : hvB b
    · have e1 : alikeB a b = false := by unfold alikeB; rw [eb]; simp
      rw [e1]
      have V2 := fun w1 (hb1 : Below W.heap.size W w1) => VB w1 (K0.below hb1)
      rw [eb] at V2
      clear ea eb e1 VA VB
      go_enter Try.func25, Try.ntmps25
      go_wp2_with fail
      rw [← hW]; clear hW
      refine wp_region_held_drew (S := fun w' => w'.cell? ⟨w.heap.size, 0, none⟩ = some (.slice A0 n0 c0) ∧ w'.cell? ⟨w.heap.size, 1, none⟩ = some (.slice A1 n1 c1) ∧ w'.cell? ⟨w.heap.size, 2, none⟩ = some (.slice A2 n2 c2) ∧ w'.cell? ⟨w.heap.size + 1, 0, none⟩ = some (.slice B0 m0 d0) ∧ w'.cell? ⟨w.heap.size + 1, 1, none⟩ = some (.slice B1 m1 d1) ∧ w'.cell? ⟨w.heap.size + 1, 2, none⟩ = some (.slice B2 m2 d2)) (by kernel_rfl) ?_ (fun hHeld => ?_)
      · exact SO _ BD
      refine wpAnyH_take (i := 0) (oi := ?oib0) (v := ?vb0) ?hib0 (by kernel_rfl) (by kernel_rfl) (by kernel_rfl) ?hQb0 ?hyb0 (by assumption) ?_
      case hib0 => simp only [List.getElem?_toArray, List.getElem?_cons_zero]; rfl
      case hQb0 => exact fun _ _ _ h => h
      case hyb0 => refine Or.inl ⟨by rfl, ?_⟩; intro w9 hSw; (try dsimp only at hSw); go_simp; (try with_reducible rfl)
      try simp only [Act.put, List.setIfInBounds_toArray, List.set_cons_zero, List.set_cons_succ]
      refine wpAnyH_ready (rs := [1]) (by kernel_rfl) (by simp) ?_
      refine AllReadyH.cons (o := ?oob1) ?hob1 (fun K hK => ?_) AllReadyH.nil
      case hob1 => simp only [List.getElem?_toArray, List.getElem?_cons_zero, List.getElem?_cons_succ]; rfl
      go_simp
      refine V1.mono ?_; rintro e w1 ⟨rfl, hb1⟩
      have hb1 : Below W.heap.size W w1 := BD.trans (hb1.mono (Nat.le_refl _))
      go_wp2_with fail
      refine hK.out _ _ ?hSb1 (fun hHeld1 => ?_)
      case hSb1 => exact SO w1 hb1
      clear hK K
      try simp only [Act.put, List.setIfInBounds_toArray, List.set_cons_zero, List.set_cons_succ]
      refine wpAnyH_take (i := 2) (oi := ?oib2) (v := ?vb2) ?hib2 (by kernel_rfl) (by kernel_rfl) (by kernel_rfl) ?hQb2 ?hyb2 (by assumption) ?_
      case hib2 => simp only [List.getElem?_toArray, List.getElem?_cons_zero, List.getElem?_cons_succ]; rfl
      case hQb2 => exact fun _ _ _ h => h
      case hyb2 => refine Or.inl ⟨by rfl, ?_⟩; intro w9 hSw; (try dsimp only at hSw); go_simp; (try with_reducible rfl)
      try simp only [Act.put, List.setIfInBounds_toArray, List.set_cons_zero, List.set_cons_succ]
      refine wpAnyH_take (i := 3) (oi := ?oib3) (v := ?vb3) ?hib3 (by kernel_rfl) (by kernel_rfl) (by kernel_rfl) ?hQb3 ?hyb3 (by assumption) ?_
      case hib3 => simp only [List.getElem?_toArray, List.getElem?_cons_zero, List.getElem?_cons_succ]; rfl
      case hQb3 => exact fun _ _ _ h => h
      case hyb3 => refine Or.inl ⟨by rfl, ?_⟩; intro w9 hSw; (try dsimp only at hSw); go_simp; (try with_reducible rfl)
      try simp only [Act.put, List.setIfInBounds_toArray, List.set_cons_zero, List.set_cons_succ]
      refine wpAnyH_ready (rs := [4]) (by kernel_rfl) (by simp) ?_
      refine AllReadyH.cons (o := ?oob4) ?hob4 (fun K hK => ?_) AllReadyH.nil
      case hob4 => simp only [List.getElem?_toArray, List.getElem?_cons_zero, List.getElem?_cons_succ]; rfl
      go_simp
      refine (V2 _ hb1).mono ?_; rintro e w2 ⟨rfl, hb2⟩
      have hR2 : Below W.heap.size W w2 := hb1.trans (hb2.mono hb1.size)
      go_wp2_with fail
      refine hK.out _ _ ?hSb4 (fun hHeld4 => ?_)
      case hSb4 => exact SO w2 hR2
      clear hK K
      try simp only [Act.put, List.setIfInBounds_toArray, List.set_cons_zero, List.set_cons_succ]
      refine wpAnyH_take (i := 5) (oi := ?oib5) (v := ?vb5) ?hib5 (by kernel_rfl) (by kernel_rfl) (by kernel_rfl) ?hQb5 ?hyb5 (by assumption) ?_
      case hib5 => simp only [List.getElem?_toArray, List.getElem?_cons_zero, List.getElem?_cons_succ]; rfl
      case hQb5 => exact fun _ _ _ h => h
      case hyb5 => refine Or.inl ⟨by rfl, ?_⟩; intro w9 hSw; (try dsimp only at hSw); go_simp; (try with_reducible rfl)
      try simp only [Act.put, List.setIfInBounds_toArray, List.set_cons_zero, List.set_cons_succ]
      refine wpAnyH_take (i := 6) (oi := ?oib6) (v := ?vb6) ?hib6 (by kernel_rfl) (by kernel_rfl) (by kernel_rfl) ?hQb6 ?hyb6 (by assumption) ?_
      case hib6 => simp only [List.getElem?_toArray, List.getElem?_cons_zero, List.getElem?_cons_succ]; rfl
      case hQb6 => exact fun _ _ _ h => h
      case hyb6 => refine Or.inl ⟨by rfl, ?_⟩; intro w9 hSw; (try dsimp only at hSw); go_simp; (try with_reducible rfl)
      try simp only [Act.put, List.setIfInBounds_toArray, List.set_cons_zero, List.set_cons_succ]
      refine wpAnyH_take (i := 7) (oi := ?oib7) (v := undef) ?hib7 (by kernel_rfl) (by kernel_rfl) (by kernel_rfl) ?hQb7 ?hyb7 (by assumption) ?_
      case hib7 => simp only [List.getElem?_toArray, List.getElem?_cons_zero, List.getElem?_cons_succ]; rfl
      case hQb7 => exact fun _ _ _ h => h
      case hyb7 => exact Or.inr ⟨by rfl, rfl⟩
      try simp only [Act.put, List.setIfInBounds_toArray, List.set_cons_zero, List.set_cons_succ]
      refine wpAnyH_take (i := 8) (oi := ?oib8) (v := undef) ?hib8 (by kernel_rfl) (by kernel_rfl) (by kernel_rfl) ?hQb8 ?hyb8 (by assumption) ?_
      case hib8 => simp only [List.getElem?_toArray, List.getElem?_cons_zero, List.getElem?_cons_succ]; rfl
      case hQb8 => exact fun _ _ _ h => h
      case hyb8 => exact Or.inr ⟨by rfl, rfl⟩
      try simp only [Act.put, List.setIfInBounds_toArray, List.set_cons_zero, List.set_cons_succ]
      refine wpAnyH_take (i := 9) (oi := ?oib9) (v := undef) ?hib9 (by kernel_rfl) (by kernel_rfl) (by kernel_rfl) ?hQb9 ?hyb9 (by assumption) ?_
      case hib9 => simp only [List.getElem?_toArray, List.getElem?_cons_zero, List.getElem?_cons_succ]; rfl
      case hQb9 => exact fun _ _ _ h => h
      case hyb9 => exact Or.inr ⟨by rfl, rfl⟩
      try simp only [Act.put, List.setIfInBounds_toArray, List.set_cons_zero, List.set_cons_succ]
      refine wpAnyH_take (i := 10) (oi := ?oib10) (v := undef) ?hib10 (by kernel_rfl) (by kernel_rfl) (by kernel_rfl) ?hQb10 ?hyb10 (by assumption) ?_
      case hib10 => simp only [List.getElem?_toArray, List.getElem?_cons_zero, List.getElem?_cons_succ]; rfl
      case hQb10 => exact fun _ _ _ h => h
      case hyb10 => exact Or.inr ⟨by rfl, rfl⟩
      try simp only [Act.put, List.setIfInBounds_toArray, List.set_cons_zero, List.set_cons_succ]
      refine wpAnyH_take (i := 11) (oi := ?oib11) (v := undef) ?hib11 (by kernel_rfl) (by kernel_rfl) (by kernel_rfl) ?hQb11 ?hyb11 (by assumption) ?_
      case hib11 => simp only [List.getElem?_toArray, List.getElem?_cons_zero, List.getElem?_cons_succ]; rfl
      case hQb11 => exact fun _ _ _ h => h
      case hyb11 => exact Or.inr ⟨by rfl, rfl⟩
      try simp only [Act.put, List.setIfInBounds_toArray, List.set_cons_zero, List.set_cons_succ]
      refine wpAnyH_take (i := 12) (oi := ?oib12) (v := ?vb12) ?hib12 (by kernel_rfl) (by kernel_rfl) (by kernel_rfl) ?hQb12 ?hyb12 (by assumption) ?_
      case hib12 => simp only [List.getElem?_toArray, List.getElem?_cons_zero, List.getElem?_cons_succ]; rfl
      case hQb12 => exact fun _ _ _ h => h
      case hyb12 => refine Or.inl ⟨by rfl, ?_⟩; intro w9 hSw; (try dsimp only at hSw); go_simp; (try with_reducible rfl)
      try simp only [Act.put, List.setIfInBounds_toArray, List.set_cons_zero, List.set_cons_succ]
      refine wpAnyH_take (i := 13) (oi := ?oib13) (v := ?vb13) ?hib13 (by kernel_rfl) (by kernel_rfl) (by kernel_rfl) ?hQb13 ?hyb13 (by assumption) ?_
      case hib13 => simp only [List.getElem?_toArray, List.getElem?_cons_zero, List.getElem?_cons_succ]; rfl
      case hQb13 => exact fun _ _ _ h => h
      case hyb13 => refine Or.inl ⟨by rfl, ?_⟩; intro w9 hSw; (try dsimp only at hSw); go_simp; (try with_reducible rfl)
      try simp only [Act.put, List.setIfInBounds_toArray, List.set_cons_zero, List.set_cons_succ]
      refine wpAnyH_done (by kernel_rfl) ?_ _
      go_wp2_with fail
      go_ret
      exact ⟨rfl, fin.trans (hR2.mono fin.size)⟩
    · have e1 : alikeB a b = sameB (shape a) (shape b) := by unfold alikeB; rw [ea, eb]; rfl
      rw [e1]
      have V2 := fun w1 (hb1 : Below W.heap.size W w1) => VB w1 (K0.below hb1)
      rw [eb] at V2
      have SA := fun w1 (hb1 : Below W.heap.size W w1) => shapeOf_any w1 lo _ a (H0.below hb1) ea
      have SB := fun w1 (hb1 : Below W.heap.size W w1) => shapeOf_any w1 lo' _ b (K0.below hb1) eb
      have HS := fun w1 lo1 lo2 u1 u2 h1 h2 => implHeapSame_any w1 lo1 lo2 u1 u2 (shape a) (shape b) h1 h2
      generalize shape a = sa at SA HS ⊢
      generalize shape b = sb at SB HS ⊢
      clear ea eb e1 VA VB
      go_enter Try.func25, Try.ntmps25
      go_wp2_with fail
      rw [← hW]; clear hW
      refine wp_region_held_drew (S := fun w' => w'.cell? ⟨w.heap.size, 0, none⟩ = some (.slice A0 n0 c0) ∧ w'.cell? ⟨w.heap.size, 1, none⟩ = some (.slice A1 n1 c1) ∧ w'.cell? ⟨w.heap.size, 2, none⟩ = some (.slice A2 n2 c2) ∧ w'.cell? ⟨w.heap.size + 1, 0, none⟩ = some (.slice B0 m0 d0) ∧ w'.cell? ⟨w.heap.size + 1, 1, none⟩ = some (.slice B1 m1 d1) ∧ w'.cell? ⟨w.heap.size + 1, 2, none⟩ = some (.slice B2 m2 d2)) (by kernel_rfl) ?_ (fun hHeld => ?_)
      · exact SO _ BD
      refine wpAnyH_take (i := 0) (oi := ?oic0) (v := ?vc0) ?hic0 (by kernel_rfl) (by kernel_rfl) (by kernel_rfl) ?hQc0 ?hyc0 (by assumption) ?_
      case hic0 => simp only [List.getElem?_toArray, List.getElem?_cons_zero]; rfl
      case hQc0 => exact fun _ _ _ h => h
      case hyc0 => refine Or.inl ⟨by rfl, ?_⟩; intro w9 hSw; (try dsimp only at hSw); go_simp; (try with_reducible rfl)
      try simp only [Act.put, List.setIfInBounds_toArray, List.set_cons_zero, List.set_cons_succ]
      refine wpAnyH_ready (rs := [1]) (by kernel_rfl) (by simp) ?_
      refine AllReadyH.cons (o := ?ooc1) ?hoc1 (fun K hK => ?_) AllReadyH.nil
      case hoc1 => simp only [List.getElem?_toArray, List.getElem?_cons_zero, List.getElem?_cons_succ]; rfl
      go_simp
      refine V1.mono ?_; rintro e w1 ⟨rfl, hb1⟩
      have hb1 : Below W.heap.size W w1 := BD.trans (hb1.mono (Nat.le_refl _))
      go_wp2_with fail
      refine hK.out _ _ ?hSc1 (fun hHeld1 => ?_)
      case hSc1 => exact SO w1 hb1
      clear hK K
      try simp only [Act.put, List.setIfInBounds_toArray, List.set_cons_zero, List.set_cons_succ]
      refine wpAnyH_take (i := 2) (oi := ?oic2) (v := ?vc2) ?hic2 (by kernel_rfl) (by kernel_rfl) (by kernel_rfl) ?hQc2 ?hyc2 (by assumption) ?_
      case hic2 => simp only [List.getElem?_toArray, List.getElem?_cons_zero, List.getElem?_cons_succ]; rfl
      case hQc2 => exact fun _ _ _ h => h
      case hyc2 => refine Or.inl ⟨by rfl, ?_⟩; intro w9 hSw; (try dsimp only at hSw); go_simp; (try with_reducible rfl)
      try simp only [Act.put, List.setIfInBounds_toArray, List.set_cons_zero, List.set_cons_succ]
      refine wpAnyH_take (i := 3) (oi := ?oic3) (v := ?vc3) ?hic3 (by kernel_rfl) (by kernel_rfl) (by kernel_rfl) ?hQc3 ?hyc3 (by assumption) ?_
      case hic3 => simp only [List.getElem?_toArray, List.getElem?_cons_zero, List.getElem?_cons_succ]; rfl
      case hQc3 => exact fun _ _ _ h => h
      case hyc3 => refine Or.inl ⟨by rfl, ?_⟩; intro w9 hSw; (try dsimp only at hSw); go_simp; (try with_reducible rfl)
      try simp only [Act.put, List.setIfInBounds_toArray, List.set_cons_zero, List.set_cons_succ]
      refine wpAnyH_ready (rs := [4]) (by kernel_rfl) (by simp) ?_
      refine AllReadyH.cons (o := ?ooc4) ?hoc4 (fun K hK => ?_) AllReadyH.nil
      case hoc4 => simp only [List.getElem?_toArray, List.getElem?_cons_zero, List.getElem?_cons_succ]; rfl
      go_simp
      refine (V2 _ hb1).mono ?_; rintro e w2 ⟨rfl, hb2⟩
      have hR2 : Below W.heap.size W w2 := hb1.trans (hb2.mono hb1.size)
      go_wp2_with fail
      refine hK.out _ _ ?hSc4 (fun hHeld4 => ?_)
      case hSc4 => exact SO w2 hR2
      clear hK K
      try simp only [Act.put, List.setIfInBounds_toArray, List.set_cons_zero, List.set_cons_succ]
      refine wpAnyH_take (i := 5) (oi := ?oic5) (v := ?vc5) ?hic5 (by kernel_rfl) (by kernel_rfl) (by kernel_rfl) ?hQc5 ?hyc5 (by assumption) ?_
      case hic5 => simp only [List.getElem?_toArray, List.getElem?_cons_zero, List.getElem?_cons_succ]; rfl
      case hQc5 => exact fun _ _ _ h => h
      case hyc5 => refine Or.inl ⟨by rfl, ?_⟩; intro w9 hSw; (try dsimp only at hSw); go_simp; (try with_reducible rfl)
      try simp only [Act.put, List.setIfInBounds_toArray, List.set_cons_zero, List.set_cons_succ]
      refine wpAnyH_take (i := 6) (oi := ?oic6) (v := ?vc6) ?hic6 (by kernel_rfl) (by kernel_rfl) (by kernel_rfl) ?hQc6 ?hyc6 (by assumption) ?_
      case hic6 => simp only [List.getElem?_toArray, List.getElem?_cons_zero, List.getElem?_cons_succ]; rfl
      case hQc6 => exact fun _ _ _ h => h
      case hyc6 => refine Or.inl ⟨by rfl, ?_⟩; intro w9 hSw; (try dsimp only at hSw); go_simp; (try with_reducible rfl)
      try simp only [Act.put, List.setIfInBounds_toArray, List.set_cons_zero, List.set_cons_succ]
      refine wpAnyH_take (i := 7) (oi := ?oic7) (v := ?vc7) ?hic7 (by kernel_rfl) (by kernel_rfl) (by kernel_rfl) ?hQc7 ?hyc7 (by assumption) ?_
      case hic7 => simp only [List.getElem?_toArray, List.getElem?_cons_zero, List.getElem?_cons_succ]; rfl
      case hQc7 => exact fun _ _ _ h => h
      case hyc7 => refine Or.inl ⟨by rfl, ?_⟩; intro w9 hSw; (try dsimp only at hSw); go_simp; (try with_reducible rfl)
      try simp only [Act.put, List.setIfInBounds_toArray, List.set_cons_zero, List.set_cons_succ]
      refine wpAnyH_take (i := 9) (oi := ?oic9) (v := ?vc9) ?hic9 (by kernel_rfl) (by kernel_rfl) (by kernel_rfl) ?hQc9 ?hyc9 (by assumption) ?_
      case hic9 => simp only [List.getElem?_toArray, List.getElem?_cons_zero, List.getElem?_cons_succ]; rfl
      case hQc9 => exact fun _ _ _ h => h
      case hyc9 => refine Or.inl ⟨by rfl, ?_⟩; intro w9 hSw; (try dsimp only at hSw); go_simp; (try with_reducible rfl)
      try simp only [Act.put, List.setIfInBounds_toArray, List.set_cons_zero, List.set_cons_succ]
      refine wpAnyH_ready (rs := [8]) (by kernel_rfl) (by simp) ?_
      refine AllReadyH.cons (o := ?ooc8) ?hoc8 (fun K hK => ?_) AllReadyH.nil
      case hoc8 => simp only [List.getElem?_toArray, List.getElem?_cons_zero, List.getElem?_cons_succ]; rfl
      go_simp
      refine (SA _ hR2).mono ?_; rintro e w3 ⟨u1, rfl, HA, hb3⟩
      have hR3 : Below W.heap.size W w3 := hR2.trans (hb3.mono hR2.size)
      obtain ⟨P0, p0, q0, P1, p1, q1, P2, p2, q2, rfl, _⟩ := HA.open_
      go_wp2_with fail
      refine hK.out _ _ ?hSc8 (fun hHeld8 => ?_)
      case hSc8 => exact SO w3 hR3
      clear hK K
      try simp only [Act.put, List.setIfInBounds_toArray, List.set_cons_zero, List.set_cons_succ]
      refine wpAnyH_ready (rs := [10]) (by kernel_rfl) (by simp) ?_
      refine AllReadyH.cons (o := ?ooc10) ?hoc10 (fun K hK => ?_) AllReadyH.nil
      case hoc10 => simp only [List.getElem?_toArray, List.getElem?_cons_zero, List.getElem?_cons_succ]; rfl
      go_simp
      refine (SB _ hR3).mono ?_; rintro e w4 ⟨u2, rfl, HB, hb4⟩
      have hR4 : Below W.heap.size W w4 := hR3.trans (hb4.mono hR3.size)
      have HA4 := HA.below hb4
      obtain ⟨R0, r0, s0, R1, r1, s1, R2, r2, s2, rfl, _⟩ := HB.open_
      go_wp2_with fail
      refine hK.out _ _ ?hSc10 (fun hHeld10 => ?_)
      case hSc10 => exact SO w4 hR4
      clear hK K
      try simp only [Act.put, List.setIfInBounds_toArray, List.set_cons_zero, List.set_cons_succ]
      refine wpAnyH_ready (rs := [11]) (by kernel_rfl) (by simp) ?_
      refine AllReadyH.cons (o := ?ooc11) ?hoc11 (fun K hK => ?_) AllReadyH.nil
      case hoc11 => simp only [List.getElem?_toArray, List.getElem?_cons_zero, List.getElem?_cons_succ]; rfl
      go_simp
      refine (HS _ _ _ _ _ HA4 HB).mono ?_; rintro e w5 ⟨rfl, hb5⟩
      have hR5 : Below W.heap.size W w5 := hR4.trans (hb5.mono hR4.size)
      go_wp2_with fail
      refine hK.out _ _ ?hSc11 (fun hHeld11 => ?_)
      case hSc11 => exact SO w5 hR5
      clear hK K
      try simp only [Act.put, List.setIfInBounds_toArray, List.set_cons_zero, List.set_cons_succ]
      refine wpAnyH_take (i := 12) (oi := ?oic12) (v := ?vc12) ?hic12 (by kernel_rfl) (by kernel_rfl) (by kernel_rfl) ?hQc12 ?hyc12 (by assumption) ?_
      case hic12 => simp only [List.getElem?_toArray, List.getElem?_cons_zero, List.getElem?_cons_succ]; rfl
      case hQc12 => exact fun _ _ _ h => h
      case hyc12 => refine Or.inl ⟨by rfl, ?_⟩; intro w9 hSw; (try dsimp only at hSw); go_simp; (try with_reducible rfl)
      try simp only [Act.put, List.setIfInBounds_toArray, List.set_cons_zero, List.set_cons_succ]
      refine wpAnyH_take (i := 13) (oi := ?oic13) (v := ?vc13) ?hic13 (by kernel_rfl) (by kernel_rfl) (by kernel_rfl) ?hQc13 ?hyc13 (by assumption) ?_
      case hic13 => simp only [List.getElem?_toArray, List.getElem?_cons_zero, List.getElem?_cons_succ]; rfl
      case hQc13 => exact fun _ _ _ h => h
      case hyc13 => refine Or.inl ⟨by rfl, ?_⟩; intro w9 hSw; (try dsimp only at hSw); go_simp; (try with_reducible rfl)
      try simp only [Act.put, List.setIfInBounds_toArray, List.set_cons_zero, List.set_cons_succ]
      refine wpAnyH_done (by kernel_rfl) ?_ _
      go_wp2_with fail
      go_ret
      exact ⟨rfl, fin.trans (hR5.mono fin.size)⟩
end Go.Proofs.Ytapkhgpifpgleaa
