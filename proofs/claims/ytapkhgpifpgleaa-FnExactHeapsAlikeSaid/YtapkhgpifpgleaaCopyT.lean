/- spec's CopyHeap. -/
import Derived.Test.YtapkhgpifpgleaaMoveT
namespace Go.Proofs.Ytapkhgpifpgleaa
open Go.RowKit Go.Maps

/-- The state of a copy that is made. -/
structure CpAt (w wr : World) (lo b5 : Nat) (v0 v1 v2 u0 u1 u2 vo vw : Value) (h : Hp) (os xs ys zs ws : List Int) : Prop where
  bel : Below w.heap.size w wr
  X : Blk3 wr w.heap.size v0 v1 v2 27
  Y : Blk3 wr (w.heap.size + 1) (.slice none 0 0) (.slice none 0 0) (.slice none 0 0) 27
  Z : Blk3 wr b5 u0 u1 u2 27
  r0 : Row wr lo v0 h.l
  r1 : Row wr lo v1 h.r
  r2 : Row wr lo v2 h.t
  L : Row wr (w.heap.size + 2) u0 xs
  R : Row wr (w.heap.size + 2) u1 ys
  T : Row wr (w.heap.size + 2) u2 zs
  O : Row wr (w.heap.size + 2) vo os
  W : Row wr (w.heap.size + 2) vw ws
  aLR : Apart u0 u1
  aLT : Apart u0 u2
  aLO : Apart u0 vo
  aLW : Apart u0 vw
  aRT : Apart u1 u2
  aRO : Apart u1 vo
  aRW : Apart u1 vw
  aTO : Apart u2 vo
  aTW : Apart u2 vw
  aOW : Apart vo vw
  o0 : ∀ b, v0.ownBlock = some b → b < w.heap.size
  o1 : ∀ b, v1.ownBlock = some b → b < w.heap.size
  o2 : ∀ b, v2.ownBlock = some b → b < w.heap.size
  z5 : w.heap.size + 2 ≤ b5
  eL : u0.ownBlock ≠ some b5
  eR : u1.ownBlock ≠ some b5
  eT : u2.ownBlock ≠ some b5
  eO : vo.ownBlock ≠ some b5
  eW : vw.ownBlock ≠ some b5
theorem CpAt.drew {w wr : World} {lo b5 : Nat} {v0 v1 v2 u0 u1 u2 vo vw : Value} {h : Hp} {os xs ys zs ws : List Int} (F : CpAt w wr lo b5 v0 v1 v2 u0 u1 u2 vo vw h os xs ys zs ws) : CpAt w wr.drew lo b5 v0 v1 v2 u0 u1 u2 vo vw h os xs ys zs ws :=
  ⟨F.bel.drew, F.X, F.Y, F.Z, F.r0, F.r1, F.r2, F.L, F.R, F.T, F.O, F.W, F.aLR, F.aLT, F.aLO, F.aLW, F.aRT, F.aRO, F.aRW, F.aTO, F.aTW, F.aOW, F.o0, F.o1, F.o2, F.z5, F.eL, F.eR, F.eT, F.eO, F.eW⟩
theorem CpAt.setL {w wr : World} {lo b5 g n c : Nat} {v0 v1 v2 u1 u2 vo vw : Value} {h : Hp} {os xs ys zs ws : List Int} (F : CpAt w wr lo b5 v0 v1 v2 (.slice (some ⟨g, 0, none⟩) n c) u1 u2 vo vw h os xs ys zs ws) (j : Nat) (x : Int) : CpAt w (wr.setCell ⟨g, j, none⟩ (iv x)) lo b5 v0 v1 v2 (.slice (some ⟨g, 0, none⟩) n c) u1 u2 vo vw h os (xs.set j x) ys zs ws := by
  have hg := (F.L.lt g rfl).1
  have h5 : b5 ≠ g := fun e => F.eL (by rw [e]; rfl)
  exact ⟨F.bel.setCell (p := ⟨g, j, none⟩) (by show w.heap.size ≤ g; omega) _, F.X.other (p := ⟨g, j, none⟩) (by show w.heap.size ≠ g; omega) _, F.Y.other (p := ⟨g, j, none⟩) (by show w.heap.size + 1 ≠ g; omega) _, F.Z.other (p := ⟨g, j, none⟩) h5 _, F.r0.other (a := ⟨g, j, none⟩) (fun e => by have := F.o0 _ e; simp at this; omega) _, F.r1.other (a := ⟨g, j, none⟩) (fun e => by have := F.o1 _ e; simp at this; omega) _, F.r2.other (a := ⟨g, j, none⟩) (fun e => by have := F.o2 _ e; simp at this; omega) _, F.L.set_ j x, F.R.other (a := ⟨g, j, none⟩) (F.aLR g rfl) _, F.T.other (a := ⟨g, j, none⟩) (F.aLT g rfl) _, F.O.other (a := ⟨g, j, none⟩) (F.aLO g rfl) _, F.W.other (a := ⟨g, j, none⟩) (F.aLW g rfl) _, F.aLR, F.aLT, F.aLO, F.aLW, F.aRT, F.aRO, F.aRW, F.aTO, F.aTW, F.aOW, F.o0, F.o1, F.o2, F.z5, F.eL, F.eR, F.eT, F.eO, F.eW⟩
theorem CpAt.setR {w wr : World} {lo b5 g n c : Nat} {v0 v1 v2 u0 u2 vo vw : Value} {h : Hp} {os xs ys zs ws : List Int} (F : CpAt w wr lo b5 v0 v1 v2 u0 (.slice (some ⟨g, 0, none⟩) n c) u2 vo vw h os xs ys zs ws) (j : Nat) (x : Int) : CpAt w (wr.setCell ⟨g, j, none⟩ (iv x)) lo b5 v0 v1 v2 u0 (.slice (some ⟨g, 0, none⟩) n c) u2 vo vw h os xs (ys.set j x) zs ws := by
  have hg := (F.R.lt g rfl).1
  have h5 : b5 ≠ g := fun e => F.eR (by rw [e]; rfl)
  exact ⟨F.bel.setCell (p := ⟨g, j, none⟩) (by show w.heap.size ≤ g; omega) _, F.X.other (p := ⟨g, j, none⟩) (by show w.heap.size ≠ g; omega) _, F.Y.other (p := ⟨g, j, none⟩) (by show w.heap.size + 1 ≠ g; omega) _, F.Z.other (p := ⟨g, j, none⟩) h5 _, F.r0.other (a := ⟨g, j, none⟩) (fun e => by have := F.o0 _ e; simp at this; omega) _, F.r1.other (a := ⟨g, j, none⟩) (fun e => by have := F.o1 _ e; simp at this; omega) _, F.r2.other (a := ⟨g, j, none⟩) (fun e => by have := F.o2 _ e; simp at this; omega) _, F.L.other (a := ⟨g, j, none⟩) (fun e => F.aLR g e rfl) _, F.R.set_ j x, F.T.other (a := ⟨g, j, none⟩) (F.aRT g rfl) _, F.O.other (a := ⟨g, j, none⟩) (F.aRO g rfl) _, F.W.other (a := ⟨g, j, none⟩) (F.aRW g rfl) _, F.aLR, F.aLT, F.aLO, F.aLW, F.aRT, F.aRO, F.aRW, F.aTO, F.aTW, F.aOW, F.o0, F.o1, F.o2, F.z5, F.eL, F.eR, F.eT, F.eO, F.eW⟩
theorem CpAt.setW {w wr : World} {lo b5 g n c : Nat} {v0 v1 v2 u0 u1 u2 vo : Value} {h : Hp} {os xs ys zs ws : List Int} (F : CpAt w wr lo b5 v0 v1 v2 u0 u1 u2 vo (.slice (some ⟨g, 0, none⟩) n c) h os xs ys zs ws) (j : Nat) (x : Int) : CpAt w (wr.setCell ⟨g, j, none⟩ (iv x)) lo b5 v0 v1 v2 u0 u1 u2 vo (.slice (some ⟨g, 0, none⟩) n c) h os xs ys zs (ws.set j x) := by
  have hg := (F.W.lt g rfl).1
  have h5 : b5 ≠ g := fun e => F.eW (by rw [e]; rfl)
  exact ⟨F.bel.setCell (p := ⟨g, j, none⟩) (by show w.heap.size ≤ g; omega) _, F.X.other (p := ⟨g, j, none⟩) (by show w.heap.size ≠ g; omega) _, F.Y.other (p := ⟨g, j, none⟩) (by show w.heap.size + 1 ≠ g; omega) _, F.Z.other (p := ⟨g, j, none⟩) h5 _, F.r0.other (a := ⟨g, j, none⟩) (fun e => by have := F.o0 _ e; simp at this; omega) _, F.r1.other (a := ⟨g, j, none⟩) (fun e => by have := F.o1 _ e; simp at this; omega) _, F.r2.other (a := ⟨g, j, none⟩) (fun e => by have := F.o2 _ e; simp at this; omega) _, F.L.other (a := ⟨g, j, none⟩) (fun e => F.aLW g e rfl) _, F.R.other (a := ⟨g, j, none⟩) (fun e => F.aRW g e rfl) _, F.T.other (a := ⟨g, j, none⟩) (fun e => F.aTW g e rfl) _, F.O.other (a := ⟨g, j, none⟩) (fun e => F.aOW g e rfl) _, F.W.set_ j x, F.aLR, F.aLT, F.aLO, F.aLW, F.aRT, F.aRO, F.aRW, F.aTO, F.aTW, F.aOW, F.o0, F.o1, F.o2, F.z5, F.eL, F.eR, F.eT, F.eO, F.eW⟩
theorem CpAt.app {w wr w4 : World} {lo b5 : Nat} {v0 v1 v2 u0 u1 u2 vo vw u2' : Value} {h : Hp} {os xs ys zs ws zs' : List Int} (F : CpAt w wr lo b5 v0 v1 v2 u0 u1 u2 vo vw h os xs ys zs ws) (hg : wr.grownBy w4 u2.ownBlock) (hT : Row w4 (w.heap.size + 2) u2' zs')
    (hl : ∀ b, u2'.ownBlock = some b → u2.ownBlock = some b ∨ wr.heap.size ≤ b) : CpAt w (w4.setCell ⟨b5, 2, none⟩ u2') lo b5 v0 v1 v2 u0 u1 u2' vo vw h os xs ys zs' ws := by
  have hb5 := F.Z.lt
  have hz := F.z5
  have n5 : u2'.ownBlock ≠ some b5 := fun e => by
    rcases hl b5 e with h9 | h9
    · exact F.eT h9
    · omega
  have B4 : Below w.heap.size w w4 := ⟨hg.os.trans F.bel.os, hg.tape.trans F.bel.tape, hg.output.trans F.bel.output, Nat.le_trans F.bel.size hg.size, fun j hj => (hg.block j (Nat.lt_of_lt_of_le hj F.bel.size) (fun e => by have := (F.T.lt _ e.symm).1; omega)).trans (F.bel.block j hj)⟩
  have kA : ∀ (u : Value) (l : Nat) (q : List Int), Row wr l u q → (∀ b, u2.ownBlock = some b → u.ownBlock ≠ some b) → u.ownBlock ≠ some b5 → Row (w4.setCell ⟨b5, 2, none⟩ u2') l u q := fun u l q r ha hn => by
    refine Row.other (a := ⟨b5, 2, none⟩) (r.kept hg ?_) hn _
    cases hu : u.ownBlock with
    | none => exact .inl rfl
    | some b => exact .inr (fun e => ha b e.symm hu)
  have aN : ∀ (u : Value) (l : Nat) (q : List Int), Row wr l u q → (∀ b, u2.ownBlock = some b → u.ownBlock ≠ some b) → ∀ b, u.ownBlock = some b → u2'.ownBlock ≠ some b := fun u l q r ha b e1 e2 => by
    rcases hl b e2 with h9 | h9
    · exact ha b h9 e1
    · have := (r.lt b e1).2; omega
  have sm : ∀ (u : Value), (∀ b, u.ownBlock = some b → b < w.heap.size) → ∀ b, u2.ownBlock = some b → u.ownBlock ≠ some b := fun u hu b e1 e2 => by
    have := hu b e2; have := (F.T.lt b e1).1; omega
  have s5 : ∀ (u : Value), (∀ b, u.ownBlock = some b → b < w.heap.size) → u.ownBlock ≠ some b5 := fun u hu e => by have := hu b5 e; omega
  have bk : ∀ b, b < w.heap.size + 2 → w4.heap[b]? = wr.heap[b]? := fun b hb => hg.block b (by have := F.bel.size; have := F.Z.lt; omega) (fun e => by have := (F.T.lt _ e.symm).1; omega)
  refine ⟨B4.setCell (p := ⟨b5, 2, none⟩) (by show w.heap.size ≤ b5; omega) _, ?_, ?_, ?_, kA _ _ _ F.r0 (sm _ F.o0) (s5 _ F.o0), kA _ _ _ F.r1 (sm _ F.o1) (s5 _ F.o1), kA _ _ _ F.r2 (sm _ F.o2) (s5 _ F.o2),
    kA _ _ _ F.L (fun b e1 e2 => F.aLT b e2 e1) F.eL, kA _ _ _ F.R (fun b e1 e2 => F.aRT b e2 e1) F.eR, hT.other (a := ⟨b5, 2, none⟩) n5 _, kA _ _ _ F.O (fun b e1 e2 => F.aTO b e1 e2) F.eO, kA _ _ _ F.W (fun b e1 e2 => F.aTW b e1 e2) F.eW,
    F.aLR, aN _ _ _ F.L (fun b e1 e2 => F.aLT b e2 e1), F.aLO, F.aLW, aN _ _ _ F.R (fun b e1 e2 => F.aRT b e2 e1), F.aRO, F.aRW, fun b e1 e2 => aN _ _ _ F.O (fun b e1 e2 => F.aTO b e1 e2) b e2 e1, fun b e1 e2 => aN _ _ _ F.W (fun b e1 e2 => F.aTW b e1 e2) b e2 e1, F.aOW,
    F.o0, F.o1, F.o2, F.z5, F.eL, F.eR, n5, F.eO, F.eW⟩
  · exact Blk3.other ((bk _ (by omega)).trans F.X) (p := ⟨b5, 2, none⟩) (by show w.heap.size ≠ b5; omega) _
  · exact Blk3.other ((bk _ (by omega)).trans F.Y) (p := ⟨b5, 2, none⟩) (by show w.heap.size + 1 ≠ b5; omega) _
  · have hZ4 : Blk3 w4 b5 u0 u1 u2 27 := (hg.block b5 hb5 (fun e => F.eT e.symm)).trans F.Z
    exact Blk3.set2 hZ4 _
/-- The pointers of the copy that are written so far. -/
def cpK (o l : List Int) (n k : Nat) : List Int := (shL o l).take k ++ List.replicate (n - k) (-1)
theorem cpK_len {o l : List Int} {n k : Nat} (h : k ≤ o.length) (h2 : o.length ≤ n) : (cpK o l n k).length = n := by simp [cpK, shL_len]; omega
theorem cpK_zero (o l : List Int) (n : Nat) : cpK o l n 0 = List.replicate n (-1) := by simp [cpK]
theorem cpK_end (o l : List Int) (n : Nat) : cpK o l n o.length = cpL o l n := by
  unfold cpK cpL
  rw [List.take_of_length_le (by rw [shL_len]; exact Nat.le_refl _)]
theorem cpK_set {o l : List Int} {n k : Nat} {c : Int} (hc : o[k]? = some c) (hn : o.length ≤ n) : (cpK o l n k).set k (ren (at_ o) (gd l c)) = cpK o l n (k + 1) := by
  have hk : k < o.length := (List.getElem?_eq_some_iff.1 hc).1
  unfold cpK
  have hlk : ((shL o l).take k).length = k := by simp [shL_len]; omega
  rw [List.set_append, if_neg (by omega), hlk, Nat.sub_self, show n - k = (n - (k + 1)) + 1 from by omega, List.replicate_succ, List.set_cons_zero, List.take_add_one, shL_get hc]
  simp
theorem map_snoc {f : Int → Int} {t : List Int} {k : Nat} {x : Int} (hx : t[k]? = some x) : (t.take (k + 1)).map f = (t.take k).map f ++ [f x] := by
  rw [List.take_add_one, hx]; simp

set_option maxRecDepth 100000 in
set_option maxHeartbeats 8000000 in
theorem specCopy_any (w : World) (lo : Nat) (v : Value) (h : Hp) (hv : Hv w lo v h) : Calls Try.prog 21 #[v] w (RetCp w (copyV h) (whereV h) (hvB h)) := by
  obtain ⟨A0, n0, c0, A1, n1, c1, A2, n2, c2, rfl, ⟨h0, h1, h2⟩, ⟨l0, l1, l2⟩, ⟨mm0, _, _⟩, _⟩ := hv.open_
  have X0 := (Blk3.new w (.slice A0 n0 c0) (.slice A1 n1 c1) (.slice A2 n2 c2) 27).alloc (.cells #[.slice none 0 0, .slice none 0 0, .slice none 0 0] 27)
  have Y0 := Blk3.new_at (w := w.alloc (.cells #[.slice A0 n0 c0, .slice A1 n1 c1, .slice A2 n2 c2] 27)) (b := w.heap.size + 1) (by simp) (.slice none 0 0) (.slice none 0 0) (.slice none 0 0) 27
  have fin : Below w.heap.size w ((w.alloc (.cells #[.slice A0 n0 c0, .slice A1 n1 c1, .slice A2 n2 c2] 27)).alloc (.cells #[.slice none 0 0, .slice none 0 0, .slice none 0 0] 27)) := ((Below.refl _ _).alloc (Nat.le_refl _) _).alloc (by simp) _
  have H0 := (hv.alloc (.cells #[.slice A0 n0 c0, .slice A1 n1 c1, .slice A2 n2 c2] 27)).alloc (.cells #[.slice none 0 0, .slice none 0 0, .slice none 0 0] 27)
  have V := specHeapValid_any _ _ _ _ H0
  rcases ev : hvB h
  · rw [ev] at V
    have e1 : copyV h = Hp.zero := by unfold copyV; rw [ev]; simp
    have e2 : whereV h = [] := by unfold whereV; rw [ev]; simp
    rw [e1, e2]
    clear ev e1 e2
    go_enter Try.func21, Try.ntmps21
    go_wp2_with fail
    refine V.mono ?_; rintro e w1 ⟨rfl, hb1⟩
    have Y1 := Blk3.below (by exact Y0) hb1
    have Ya := Y1.alloc (.cells #[] 3)
    have Yb := (Y1.set0 (.slice none 0 0)).alloc (.cells #[] 3)
    have Yc := ((Y1.set0 (.slice none 0 0)).set1 (.slice none 0 0)).alloc (.cells #[] 3)
    have Yd := (((Y1.set0 (.slice none 0 0)).set1 (.slice none 0 0)).set2 (.slice none 0 0)).alloc (.cells #[] 3)
    obtain ⟨qa0, qa1, qa2, fa0, fa1, fa2⟩ := Ya.cells
    obtain ⟨qb0, qb1, qb2, fb0, fb1, fb2⟩ := Yb.cells
    obtain ⟨qc0, qc1, qc2, fc0, fc1, fc2⟩ := Yc.cells
    obtain ⟨qd0, qd1, qd2, _⟩ := Yd.cells
    have B1 : Below w.heap.size w w1 := fin.trans (hb1.mono (by simp; omega))
    have lY := Y1.lt
    have B2 := (((B1.setCell (p := ⟨w.heap.size + 1, 0, none⟩) (by simp) (.slice none 0 0)).setCell (p := ⟨w.heap.size + 1, 1, none⟩) (by simp) (.slice none 0 0)).setCell (p := ⟨w.heap.size + 1, 2, none⟩) (by simp) (.slice none 0 0))
    have sS : (((w1.setCell ⟨w.heap.size + 1, 0, none⟩ (.slice none 0 0)).setCell ⟨w.heap.size + 1, 1, none⟩ (.slice none 0 0)).setCell ⟨w.heap.size + 1, 2, none⟩ (.slice none 0 0)).heap.size = w1.heap.size := by simp [World.setCell]
    have E2 : Row ((((w1.setCell ⟨w.heap.size + 1, 0, none⟩ (.slice none 0 0)).setCell ⟨w.heap.size + 1, 1, none⟩ (.slice none 0 0)).setCell ⟨w.heap.size + 1, 2, none⟩ (.slice none 0 0)).alloc (.cells #[] 3)) w.heap.size (.slice (some ⟨w1.heap.size, 0, none⟩) 0 0) [] := Row.lit_lo sS.symm w.heap.size B2.size [] (by simp)
    have B3 := B2.alloc B2.size (.cells #[] 3)
    go_wp2_with fail
    refine bodyPost_ret (v := .tuple #[.agg #[.slice none 0 0, .slice none 0 0, .slice none 0 0], .slice (some ⟨w1.heap.size, 0, none⟩) 0 0, .bool false]) ?_ rfl ⟨_, some ⟨w1.heap.size, 0, none⟩, 0, rfl, Hv.zero _ _, E2, fun b _ a0 a1 a2 ea => by simp at ea; obtain ⟨rfl, rfl, rfl⟩ := ea; simp [Value.ownBlock], B3⟩
    simp [results, Try.results21, go_sem, qd0, qd1, qd2]
  · rw [ev] at V
    have hl := hvB_len ev
    have u0 : 1 ≤ n0 ∧ n0 ≤ 8 ∧ n1 = n0 ∧ 1 ≤ n2 ∧ n2 ≤ 3 := by have := l0.out; have := l1.out; have := l2.out; omega
    obtain ⟨u00, u08, e1n, u20, u2⟩ := u0
    subst e1n
    have e1 : copyV h = ⟨cpL (order h) h.l n1, cpL (order h) h.r n1, h.t.map (ren (at_ (order h)))⟩ := by unfold copyV copyH; rw [if_pos ev, l0.out]
    have e2 : whereV h = whN (order h) n1 (order h).length := by unfold whereV; rw [if_pos ev, ← whN_end ev, l0.out]
    have hol := order_len ev
    have HOC := Lib.hid (order_cells ev)
    have OO := fun W hW => l10Order_any W lo (.agg #[.slice A0 n1 c0, .slice A1 n1 c1, .slice A2 n2 c2]) h hW ev
    have MK : ∀ W : World, Calls Try.prog 44 #[.int .i64 n1] W (fun e w' => ∃ g c, e = .returned (.slice (some ⟨g, 0, none⟩) n1 c) ∧ W.heap.size ≤ g ∧ g < w'.heap.size ∧ Row w' W.heap.size (.slice (some ⟨g, 0, none⟩) n1 c) (List.replicate n1 (-1)) ∧ Below W.heap.size W w') := fun W => by
      refine (l1Many_any W n1 (by omega)).mono ?_
      rintro e w' ⟨A, c, rfl, R, hb⟩
      simp only [List.length_replicate] at R ⊢
      obtain ⟨g, rfl, g0, g1, _⟩ := R.at_ (k := 0) (by simp; omega)
      exact ⟨g, c, rfl, g0, g1, R, hb⟩
    rw [e1, e2]
    generalize order h = oo at OO HOC hol ⊢
    rw [l0.out] at HOC hol
    obtain ⟨g0, rfl, _, hg0, _⟩ := h0.at_ (k := 0) (by rw [l0.out]; omega)
    obtain ⟨g1, rfl, _, hg1, _⟩ := h1.at_ (k := 0) (by rw [l1.out]; omega)
    clear ev e1 e2 hl hv
    go_enter Try.func21, Try.ntmps21
    go_wp2_with fail
    refine V.mono ?_; rintro e w1 ⟨rfl, hb1⟩
    have X1 := Blk3.below (by exact X0) hb1
    have Y1 := Blk3.below (by exact Y0) hb1
    have H1 := Hv.below (by exact H0) hb1
    have B1 : Below w.heap.size w w1 := fin.trans (hb1.mono (by simp; omega))
    have z1 : w.heap.size + 2 ≤ w1.heap.size := by have := hb1.size; simp at this; omega
    obtain ⟨p0, p1, p2, _⟩ := X1.cells
    clear V H0 fin hb1 X0 Y0
    go_wp2_with fail
    refine (OO _ H1).mono ?_; rintro e w2 ⟨AO, cO, rfl, RO, hb2⟩
    have X2 := X1.below hb2
    have Y2 := Y1.below hb2
    have B2 := B1.trans (hb2.mono B1.size)
    have z2 : w.heap.size + 2 ≤ w2.heap.size := Nat.le_trans z1 hb2.size
    obtain ⟨p0, p1, p2, _⟩ := X2.cells
    generalize hm : oo.length = m at RO hol ⊢
    have HM := Lib.hid hm
    clear hm OO H1 X1 Y1 hb2
    go_wp2_with fail
    go_cut [6] from 10 (fun q w' => ∃ (b5 : Nat) (gL cL gR cR : Nat), q = .pointer (some ⟨b5, 0, none⟩) ∧ w2.heap.size ≤ b5 ∧ Blk3 w' b5 (.slice (some ⟨gL, 0, none⟩) n1 cL) (.slice (some ⟨gR, 0, none⟩) n1 cR) (.slice none 0 0) 27 ∧ Row w' w2.heap.size (.slice (some ⟨gL, 0, none⟩) n1 cL) (List.replicate n1 (-1)) ∧ Row w' w2.heap.size (.slice (some ⟨gR, 0, none⟩) n1 cR) (List.replicate n1 (-1)) ∧ gL ≠ gR ∧ gL ≠ b5 ∧ gR ≠ b5 ∧ Below w2.heap.size w2 w')
    case first =>
      have lX2 := X2.lt
      go_region_held3 (fun w' => w'.cell? ⟨w.heap.size, 0, none⟩ = some (.slice (some ⟨g0, 0, none⟩) n1 c0))
        (((try dsimp only); (with_reducible (first | exact p0 | exact cellD p0 | exact cellD (cellA p0 _) | exact cellA (cellD p0) _ | exact r0 | exact cellA r0 _ | exact s0 | exact cellA s0 _ | (rw [World.cell?_setCell_far _ _ _ _ (by exact n2b), World.cell?_setCell_far _ _ _ _ (by exact n2b), World.cell?_setCell_far _ _ _ _ (by exact n2b)]; exact s0) | (rw [World.cell?_setCell_far _ _ _ _ (by exact n3b), World.cell?_setCell_far _ _ _ _ (by exact n3b), World.cell?_setCell_far _ _ _ _ (by exact n3b)]; exact s0)))))
        (first
          | (go_at_call 44; (with_reducible refine (MK w2.drew).mono ?_); rintro e w3 ⟨gL, cL, rfl, gL0, gL1, RL, hb3⟩; (have hb3' : Below w2.heap.size w2 w3 := (Below.refl _ _).drew.trans hb3); (have X3 := X2.below hb3'); obtain ⟨r0, _⟩ := X3.cells; (have n3b : w3.heap.size ≠ w.heap.size := Nat.ne_of_gt X3.lt))
          | (go_at_call 44; (with_reducible refine (MK (w2.alloc (.cells #[.slice none 0 0, .slice none 0 0, .slice none 0 0] 27)).drew).mono ?_); rintro e w3 ⟨gL, cL, rfl, gL0, gL1, RL, hb3⟩; (have hb3' : Below w2.heap.size w2 w3 := ((Below.refl _ _).alloc (Nat.le_refl _) (.cells #[.slice none 0 0, .slice none 0 0, .slice none 0 0] 27)).drew.trans (hb3.mono (by simp))); (have X3 := X2.below hb3'); obtain ⟨r0, _⟩ := X3.cells; (have ZA := Blk3.below (by exact Blk3.new w2 (.slice none 0 0) (.slice none 0 0) (.slice none 0 0) 27) hb3); (have n2b : w2.heap.size ≠ w.heap.size := Nat.ne_of_gt X2.lt))
          | (have ZA9 := ZA; go_at_call 44; (with_reducible refine (MK w3).mono ?_); rintro e w4 ⟨gR, cR, rfl, gR0, gR1, RR, hb4⟩; (have hb4' : Below w2.heap.size w2 w4 := hb3'.trans (hb4.mono hb3'.size)); (have X4 := X3.below hb4); obtain ⟨s0, _⟩ := X4.cells; (have ZA4 := ZA.below hb4); obtain ⟨zz0, zz1, zz2, zf0, zf1, zf2⟩ := ZA4.cells; (have RL4 := RL.below hb4))
          | (go_at_call 44; (with_reducible refine (MK w3).mono ?_); rintro e w4 ⟨gR, cR, rfl, gR0, gR1, RR, hb4⟩; (have hb4' : Below w2.heap.size w2 w4 := hb3'.trans (hb4.mono hb3'.size)); (have X4 := X3.below hb4); obtain ⟨s0, _⟩ := X4.cells; (have RL4 := RL.below hb4))
          | (go_at_call 44; (with_reducible refine (MK (w3.alloc (.cells #[.slice none 0 0, .slice none 0 0, .slice none 0 0] 27))).mono ?_); rintro e w4 ⟨gR, cR, rfl, gR0, gR1, RR, hb4⟩; (have hb4' : Below w2.heap.size w2 w4 := Below.trans hb3' (Below.mono (Below.trans ((Below.refl _ _).alloc (Nat.le_refl _) (.cells #[.slice none 0 0, .slice none 0 0, .slice none 0 0] 27)) (hb4.mono (by simp))) hb3'.size)); (have X4 := (X3.alloc (.cells #[.slice none 0 0, .slice none 0 0, .slice none 0 0] 27)).below hb4); obtain ⟨s0, _⟩ := X4.cells; (have ZQ4 := Blk3.below (by exact Blk3.new w3 (.slice none 0 0) (.slice none 0 0) (.slice none 0 0) 27) hb4); obtain ⟨zz0, zz1, zz2, zf0, zf1, zf2⟩ := ZQ4.cells; (have RL4 := Row.below (by exact RL.alloc (.cells #[.slice none 0 0, .slice none 0 0, .slice none 0 0] 27)) hb4)))
      all_goals
        have z3 := hb3'.size
        have z4 := hb4.size
        have gL3 : w2.heap.size ≤ gL := by first | exact gL0 | (have := gL0; simp at this; omega)
        have gL4 : gL < w4.heap.size := by first | omega | (simp at z4; omega)
        have gR3 : w3.heap.size ≤ gR := by first | exact gR0 | (have := gR0; simp at this; omega)
      · rename_i hHeld
        clear hHeld
        have nLR : gL ≠ gR := by omega
        have eL : (Value.slice (some ⟨gL, 0, none⟩) n1 cL).ownBlock ≠ some w4.heap.size := fun e => by have q1 := gL0; have q2 := gR0; simp [Value.ownBlock] at e q1 q2; omega
        have eR : (Value.slice (some ⟨gR, 0, none⟩) n1 cR).ownBlock ≠ some w4.heap.size := fun e => by have q1 := gL0; have q2 := gR0; simp [Value.ownBlock] at e q1 q2; omega
        go_wp2_with fail
        go_meet
        case rel => exact ⟨w4.heap.size, gL, cL, gR, cR, rfl, by omega, Blk3.new _ _ _ _ _, (RL4.mono (by have := hb3'.size; first | exact Nat.le_refl _ | omega | (simp; done) | (simp; omega))).alloc _, (RR.mono (by have := hb3'.size; omega)).alloc _, nLR, by omega, by omega, hb4'.alloc hb4'.size _⟩
      · rename_i hHeld
        clear hHeld
        have nLR : gL ≠ gR := by omega
        have eL : (Value.slice (some ⟨gL, 0, none⟩) n1 cL).ownBlock ≠ some w3.heap.size := fun e => by have q1 := gL0; have q2 := gR0; simp [Value.ownBlock] at e q1 q2; omega
        have eR : (Value.slice (some ⟨gR, 0, none⟩) n1 cR).ownBlock ≠ some w3.heap.size := fun e => by have q1 := gL0; have q2 := gR0; simp [Value.ownBlock] at e q1 q2; omega
        go_wp2_with fail
        go_meet
        case rel => exact ⟨w3.heap.size, gL, cL, gR, cR, rfl, by have := hb3'.size; omega, ((ZQ4.set0 (.slice (some ⟨gL, 0, none⟩) n1 cL)).set1 (.slice (some ⟨gR, 0, none⟩) n1 cR)).set2 (.slice none 0 0), (((((RL4).other (a := ⟨w3.heap.size, 0, none⟩) eL (.slice (some ⟨gL, 0, none⟩) n1 cL)).other (a := ⟨w3.heap.size, 1, none⟩) eL (.slice (some ⟨gR, 0, none⟩) n1 cR)).other (a := ⟨w3.heap.size, 2, none⟩) eL (.slice none 0 0))).mono (by first | exact Nat.le_refl _ | (simp; done)), (((((RR).other (a := ⟨w3.heap.size, 0, none⟩) eR (.slice (some ⟨gL, 0, none⟩) n1 cL)).other (a := ⟨w3.heap.size, 1, none⟩) eR (.slice (some ⟨gR, 0, none⟩) n1 cR)).other (a := ⟨w3.heap.size, 2, none⟩) eR (.slice none 0 0))).mono (by have := hb3'.size; first | omega | (simp; omega)), nLR, fun e => eL (by rw [e]; rfl), fun e => eR (by rw [e]; rfl), (((Below.setCell hb4' (p := ⟨w3.heap.size, 0, none⟩) (by have := hb3'.size; simpa using this) (.slice (some ⟨gL, 0, none⟩) n1 cL)).setCell (p := ⟨w3.heap.size, 1, none⟩) (by have := hb3'.size; simpa using this) (.slice (some ⟨gR, 0, none⟩) n1 cR)).setCell (p := ⟨w3.heap.size, 2, none⟩) (by have := hb3'.size; simpa using this) (.slice none 0 0))⟩
      · rename_i hHeld
        clear hHeld
        have nLR : gL ≠ gR := by omega
        have eL : (Value.slice (some ⟨gL, 0, none⟩) n1 cL).ownBlock ≠ some w2.heap.size := fun e => by have q1 := gL0; have q2 := gR0; simp [Value.ownBlock] at e q1 q2; omega
        have eR : (Value.slice (some ⟨gR, 0, none⟩) n1 cR).ownBlock ≠ some w2.heap.size := fun e => by have q1 := gL0; have q2 := gR0; simp [Value.ownBlock] at e q1 q2; omega
        go_wp2_with fail
        go_meet
        case rel => exact ⟨w2.heap.size, gL, cL, gR, cR, rfl, Nat.le_refl _, ((ZA4.set0 (.slice (some ⟨gL, 0, none⟩) n1 cL)).set1 (.slice (some ⟨gR, 0, none⟩) n1 cR)).set2 (.slice none 0 0), (((((RL4).other (a := ⟨w2.heap.size, 0, none⟩) eL (.slice (some ⟨gL, 0, none⟩) n1 cL)).other (a := ⟨w2.heap.size, 1, none⟩) eL (.slice (some ⟨gR, 0, none⟩) n1 cR)).other (a := ⟨w2.heap.size, 2, none⟩) eL (.slice none 0 0))).mono (by first | exact Nat.le_refl _ | (simp; done) | (simp; omega)), (((((RR).other (a := ⟨w2.heap.size, 0, none⟩) eR (.slice (some ⟨gL, 0, none⟩) n1 cL)).other (a := ⟨w2.heap.size, 1, none⟩) eR (.slice (some ⟨gR, 0, none⟩) n1 cR)).other (a := ⟨w2.heap.size, 2, none⟩) eR (.slice none 0 0))).mono (by have := hb3'.size; omega), nLR, fun e => eL (by rw [e]; rfl), fun e => eR (by rw [e]; rfl), (((Below.setCell hb4' (p := ⟨w2.heap.size, 0, none⟩) (by simp) (.slice (some ⟨gL, 0, none⟩) n1 cL)).setCell (p := ⟨w2.heap.size, 1, none⟩) (by simp) (.slice (some ⟨gR, 0, none⟩) n1 cR)).setCell (p := ⟨w2.heap.size, 2, none⟩) (by simp) (.slice none 0 0))⟩
    case rest =>
      obtain ⟨b5, gL, cL, gR, cR, rfl, z5, Z3, RL, RR, nLR, n5L, n5R, hbc⟩ := hcut
      have B3 := B2.trans (hbc.mono B2.size)
      have X3 := X2.below hbc
      have Y3 := Y2.below hbc
      have RO3 := RO.below hbc
      have zc : w2.heap.size ≤ wc.heap.size := hbc.size
      obtain ⟨p0, p1, p2, _⟩ := X3.cells
      clear X2 Y2 p0
      obtain ⟨p0, _⟩ := X3.cells
      go_wp2_with fail
      refine (MK _).mono ?_; rintro e w4 ⟨gW, cW, rfl, gW0, gW1, RW, hb4⟩
      have z4 := hb4.size
      have lb5 : b5 < wc.heap.size := Z3.lt
      have lgL : gL < wc.heap.size := (RL.lt gL rfl).2
      have lgR : gR < wc.heap.size := (RR.lt gR rfl).2
      have ggL : w2.heap.size ≤ gL := (RL.lt gL rfl).1
      have ggR : w2.heap.size ≤ gR := (RR.lt gR rfl).1
      have loO : ∀ b, (Value.slice AO m cO).ownBlock = some b → w1.heap.size ≤ b ∧ b < w2.heap.size := fun b e => RO.lt b e
      have own1 : ∀ (g n c : Nat), (Value.slice (some ⟨g, 0, none⟩) n c).ownBlock = some g := fun _ _ _ => rfl
      have F0 : CpAt w w4 lo b5 (.slice (some ⟨g0, 0, none⟩) n1 c0) (.slice (some ⟨g1, 0, none⟩) n1 c1) (.slice A2 n2 c2) (.slice (some ⟨gL, 0, none⟩) n1 cL) (.slice (some ⟨gR, 0, none⟩) n1 cR) (.slice none 0 0) (.slice AO m cO) (.slice (some ⟨gW, 0, none⟩) n1 cW) h oo (cpK oo h.l n1 0) (cpK oo h.r n1 0) [] (whN oo n1 0) := by
        rw [cpK_zero, cpK_zero]
        have B4 := B3.trans (hb4.mono B3.size)
        exact ⟨B4, X3.below hb4, Y3.below hb4, Z3.below hb4, h0.far B4 (fun b e => (h0.lt b e).2), h1.far B4 (fun b e => (h1.lt b e).2), h2.far B4 (fun b e => (h2.lt b e).2),
          (RL.below hb4).mono z2, (RR.below hb4).mono z2, Row.nil _ _, (RO3.below hb4).mono (by omega), RW.mono (by omega),
          fun b e1 e2 => by simp [Value.ownBlock] at e1 e2; omega, fun b _ e2 => by simp [Value.ownBlock] at e2, fun b e1 e2 => by have := loO b e2; simp [Value.ownBlock] at e1; omega, fun b e1 e2 => by simp [Value.ownBlock] at e1 e2; omega,
          fun b _ e2 => by simp [Value.ownBlock] at e2, fun b e1 e2 => by have := loO b e2; simp [Value.ownBlock] at e1; omega, fun b e1 e2 => by simp [Value.ownBlock] at e1 e2; omega,
          fun b e1 _ => by simp [Value.ownBlock] at e1, fun b e1 _ => by simp [Value.ownBlock] at e1, fun b e1 e2 => by have := loO b e1; simp [Value.ownBlock] at e2; omega,
          fun b e => (h0.lt b e).2, fun b e => (h1.lt b e).2, fun b e => (h2.lt b e).2, by omega,
          fun e => by simp [Value.ownBlock] at e; omega, fun e => by simp [Value.ownBlock] at e; omega, fun e => by simp [Value.ownBlock] at e, fun e => by have := loO b5 e; omega, fun e => by simp [Value.ownBlock] at e; omega⟩
      clear B2 B3 X3 Y3 RO3 p0 p1 p2 RO Z3 RL RR hbc RW hb4 MK h0 h1 h2 loO own1
      go_wp2_with fail
      go_loopw [8] (fun i wr => ∃ k : Nat, k ≤ m ∧ i = .int .i64 k ∧ CpAt w wr lo b5 (.slice (some ⟨g0, 0, none⟩) n1 c0) (.slice (some ⟨g1, 0, none⟩) n1 c1) (.slice A2 n2 c2) (.slice (some ⟨gL, 0, none⟩) n1 cL) (.slice (some ⟨gR, 0, none⟩) n1 cR) (.slice none 0 0) (.slice AO m cO) (.slice (some ⟨gW, 0, none⟩) n1 cW) h oo (cpK oo h.l n1 k) (cpK oo h.r n1 k) [] (whN oo n1 k)) (fun i _ => m - (intOf i).toNat)
      case atStart => exact ⟨0, Nat.zero_le _, rfl, F0⟩
      case round =>
        obtain ⟨k, hk, rfl, F⟩ := hrel
        clear F0
        have hol2 : oo.length ≤ n1 := by rw [HM.out]; exact hol
        obtain ⟨P0, P1, P2, _⟩ := F.X.cells
        obtain ⟨Z0, Z1, Z2, _⟩ := F.Z.cells
        by_cases hlt : k < m
        · obtain ⟨gO, cc, eO, _, _, hcc, hcx, _⟩ := F.O.get (k := k) (by rw [HM.out]; exact hlt)
          have hp := HOC.out
          rw [List.all_eq_true] at hp
          have hp := hp cc (List.mem_of_getElem? hcc.out)
          obtain ⟨j, rfl, hj⟩ := plB_nat hp
          subst eO
          obtain ⟨_, lx, el, _, _, hlx, hcl, _⟩ := F.r0.get (k := j) (by rw [l0.out]; exact hj)
          obtain ⟨_, rx, er, _, _, hrx, hcr, _⟩ := F.r1.get (k := j) (by rw [l1.out]; exact hj)
          cases el
          cases er
          have e0 := Lib.hid (cpK_set (l := h.l) hcc.out hol2)
          have e1 := Lib.hid (cpK_set (l := h.r) hcc.out hol2)
          rw [gd_nat hlx.out] at e0
          rw [gd_nat hrx.out] at e1
          have eW := Lib.hid (whN_put (n := n1) hcc.out)
          have TL := fun W hW => l10To_any W (w.heap.size + 2) (some ⟨gO, 0, none⟩) m cO oo hW HM (by omega) lx
          have TR := fun W hW => l10To_any W (w.heap.size + 2) (some ⟨gO, 0, none⟩) m cO oo hW HM (by omega) rx
          generalize ren (at_ oo) lx = lz at TL e0
          generalize ren (at_ oo) rx = rz at TR e1
          have hkn : k < n1 := by omega
          obtain ⟨_, qx, hq1, _, _, _, hqc, hqf⟩ := F.L.get (k := k) (by rw [cpK_len (by rw [HM.out]; omega) hol2]; exact hkn)
          cases hq1
          have F1 := F.setL k lz
          rw [e0.out] at F1
          obtain ⟨Pa0, Pa1, Pa2, _⟩ := F1.X.cells
          obtain ⟨Za0, Za1, Za2, _⟩ := F1.Z.cells
          have hcxa := F1.O.cellAt' hcc.out
          have hcla := F1.r0.cellAt' hlx.out
          have hcra := F1.r1.cellAt' hrx.out
          obtain ⟨_, qy, hq2, _, _, _, hqc2, hqf2⟩ := F1.R.get (k := k) (by rw [cpK_len (by rw [HM.out]; omega) hol2]; exact hkn)
          cases hq2
          have F2 := F1.setR k rz
          rw [e1.out] at F2
          obtain ⟨Pb0, Pb1, Pb2, _⟩ := F2.X.cells
          obtain ⟨Zb0, Zb1, Zb2, _⟩ := F2.Z.cells
          have hcxb := F2.O.cellAt' hcc.out
          have hcrb := F2.r1.cellAt' hrx.out
          obtain ⟨_, qz, hq3, _, _, _, hqc3, hqf3⟩ := F2.W.get (k := j) (by rw [whN_len]; exact hj)
          cases hq3
          have F3 := F2.setW j (k : Int)
          rw [← eW.out] at F3
          clear hp hcc hlx hrx
          go_wp2_with fail
          go_region_held3 (fun w' => w'.cell? ⟨b5, 0, none⟩ = some (.slice (some ⟨gL, 0, none⟩) n1 cL) ∧ w'.cell? ⟨w.heap.size, 0, none⟩ = some (.slice (some ⟨g0, 0, none⟩) n1 c0) ∧ w'.cell? ⟨gO, k, none⟩ = some (.int .i64 j) ∧ w'.cell? ⟨g0, j, none⟩ = some (.int .i64 lx))
            (((try dsimp only); (repeat' apply And.intro) <;> (first | ((repeat (with_reducible (first | exact Z0 | exact P0 | exact hcx | exact hcl | exact Za0 | exact Pa0 | exact hcxa | exact hcla | refine cellD ?_))); done))))
            (first
              | (go_at_call 45; (with_reducible refine (TL _ (Row.drew F.O)).mono ?_); rintro e w9 ⟨rfl, rfl⟩; (have st0 := cellD hqc); (have st1 := frzD hqf)))
          rename_i hHeld
          clear hHeld
          generalize hWs : wr.setCell ⟨gL, k, none⟩ (.int .i64 lz) = ws at *
          clear hWs F Z0 Z1 Z2 P0 P1 P2 hcl hcr hqc hqf hcx st0 st1 TL
          go_wp2_with fail
          go_region_held3 (fun w' => w'.cell? ⟨b5, 1, none⟩ = some (.slice (some ⟨gR, 0, none⟩) n1 cR) ∧ w'.cell? ⟨w.heap.size, 1, none⟩ = some (.slice (some ⟨g1, 0, none⟩) n1 c1) ∧ w'.cell? ⟨gO, k, none⟩ = some (.int .i64 j) ∧ w'.cell? ⟨g1, j, none⟩ = some (.int .i64 rx))
            (((try dsimp only); (repeat' apply And.intro) <;> (first | ((repeat (with_reducible (first | exact Za1 | exact Pa1 | exact hcxa | exact hcra | exact Zb1 | exact Pb1 | exact hcxb | exact hcrb | refine cellD ?_))); done))))
            (first
              | (go_at_call 45; (with_reducible refine (TR _ (Row.drew (Row.drew F1.O))).mono ?_); rintro e w9 ⟨rfl, rfl⟩; (have st2 := cellD (cellD hqc2)); (have st3 := frzD (frzD hqf2))))
          rename_i hHeld2
          clear hHeld2
          generalize hWs : ws.setCell ⟨gR, k, none⟩ (.int .i64 rz) = wt at *
          clear hWs F1 Za0 Za1 Za2 Pa0 Pa1 Pa2 hcla hcra hqc2 hqf2 hcxa st2 st3 TR Zb0 Zb1 Zb2 Pb0 Pb1 Pb2 hcrb
          have hcxd := cellD (cellD hcxb)
          have hqd := cellD (cellD hqc3)
          have hqe := frzD (frzD hqf3)
          go_wp2_with fail
          go_roundw
          case rel => exact ⟨k + 1, by omega, by go_num, F3.drew.drew⟩
          case measure => simp [intOf]; omega
        · obtain rfl : m = k := by omega
          have x0 : cpK oo h.l n1 m = cpL oo h.l n1 := by rw [← HM.out]; exact cpK_end _ _ _
          have x1 : cpK oo h.r n1 m = cpL oo h.r n1 := by rw [← HM.out]; exact cpK_end _ _ _
          have x2 : whN oo n1 m = whN oo n1 oo.length := by rw [HM.out]
          rw [x0, x1, x2] at F
          have FT0 : CpAt w wr lo b5 (.slice (some ⟨g0, 0, none⟩) n1 c0) (.slice (some ⟨g1, 0, none⟩) n1 c1) (.slice A2 n2 c2) (.slice (some ⟨gL, 0, none⟩) n1 cL) (.slice (some ⟨gR, 0, none⟩) n1 cR) (.slice none 0 0) (.slice AO m cO) (.slice (some ⟨gW, 0, none⟩) n1 cW) h oo (cpL oo h.l n1) (cpL oo h.r n1) ((h.t.take 0).map (ren (at_ oo))) (whN oo n1 oo.length) := F
          have wl := whN_len oo n1 oo.length
          have HWL := Lib.hid wl
          obtain ⟨i0, hi, hz0, hz1, hz2⟩ := info_parts Try.infoInt
          clear x0 x1 x2 F hlt hk wl
          go_wp2_with fail
          go_loopw [9] (fun i wr => ∃ (k : Nat) (AT : Option Addr) (cT : Nat), k ≤ n2 ∧ i = .int .i64 k ∧ CpAt w wr lo b5 (.slice (some ⟨g0, 0, none⟩) n1 c0) (.slice (some ⟨g1, 0, none⟩) n1 c1) (.slice A2 n2 c2) (.slice (some ⟨gL, 0, none⟩) n1 cL) (.slice (some ⟨gR, 0, none⟩) n1 cR) (.slice AT k cT) (.slice AO m cO) (.slice (some ⟨gW, 0, none⟩) n1 cW) h oo (cpL oo h.l n1) (cpL oo h.r n1) ((h.t.take k).map (ren (at_ oo))) (whN oo n1 oo.length)) (fun i _ => n2 - (intOf i).toNat)
          case atStart => exact ⟨0, none, 0, Nat.zero_le _, rfl, FT0⟩
          case round =>
            clear FT0 P0 P1 P2 Z0 Z1 Z2
            obtain ⟨k, AT, cT, hk, rfl, F⟩ := hrel
            obtain ⟨P0, P1, P2, _⟩ := F.X.cells
            obtain ⟨Y0, Y1, Y2, y0, y1, y2⟩ := F.Y.cells
            obtain ⟨Z0, Z1, Z2, w0, w1', w2'⟩ := F.Z.cells
            by_cases hlt : k < n2
            · obtain ⟨g2x, x, ex, _, _, hxk, hcx, _⟩ := F.r2.get (k := k) (by rw [l2.out]; exact hlt)
              subst ex
              have HXK := hxk
              have es := Lib.hid (map_snoc (f := ren (at_ oo)) hxk.out)
              have TT := fun W hW => l10To_any W (w.heap.size + 2) AO m cO oo hW HM (by omega) x
              generalize ren (at_ oo) x = xz at TT es
              have hown : wr.ownsRow (w.heap.size + 2) 3 1 (.slice AT k cT) k (((h.t.take k).map (ren (at_ oo))).map iv) := by
                have h9 := F.T
                unfold Row at h9
                rw [List.length_map, List.length_take, l2.out, Nat.min_eq_left (by omega)] at h9
                exact h9
              have hsz := F.bel.size
              clear hxk
              go_wp2_with fail
              have zd2 := cellD Z2
              have zd3 := cellA Z2 (.cells #[.int .i64 xz] 3)
              refine wp_region_held_drew (S := fun w' => w'.cell? ⟨w.heap.size, 2, none⟩ = some (.slice (some ⟨g2x, 0, none⟩) n2 c2) ∧ w'.cell? ⟨g2x, k, none⟩ = some (.int .i64 x)) (by kernel_rfl) ?_ (fun hHeld => ?_)
              · exact ⟨cellD P2, cellD hcx⟩
              refine wpAnyH_take (i := 0) (oi := ?oia0) (v := ?va0) ?hia0 (by kernel_rfl) (by kernel_rfl) (by kernel_rfl) ?hQa0 ?hya0 (by assumption) ?_
              case hia0 => simp only [List.getElem?_toArray, List.getElem?_cons_zero]; rfl
              case hQa0 => exact fun _ _ _ h => h
              case hya0 => refine Or.inl ⟨by rfl, ?_⟩; intro w9 hSw; (try dsimp only at hSw); go_simp; (try with_reducible rfl)
              try simp only [Act.put, List.setIfInBounds_toArray, List.set_cons_zero, List.set_cons_succ]
              refine wpAnyH_take (i := 2) (oi := ?oia2) (v := ?va2) ?hia2 (by kernel_rfl) (by kernel_rfl) (by kernel_rfl) ?hQa2 ?hya2 (by assumption) ?_
              case hia2 => simp only [List.getElem?_toArray, List.getElem?_cons_zero, List.getElem?_cons_succ]; rfl
              case hQa2 => exact fun _ _ _ h => h
              case hya2 => refine Or.inl ⟨by rfl, ?_⟩; intro w9 hSw; (try dsimp only at hSw); go_simp; (try with_reducible rfl)
              try simp only [Act.put, List.setIfInBounds_toArray, List.set_cons_zero, List.set_cons_succ]
              refine wpAnyH_take (i := 3) (oi := ?oia3) (v := ?va3) ?hia3 (by kernel_rfl) (by kernel_rfl) (by kernel_rfl) ?hQa3 ?hya3 (by assumption) ?_
              case hia3 => simp only [List.getElem?_toArray, List.getElem?_cons_zero, List.getElem?_cons_succ]; rfl
              case hQa3 => exact fun _ _ _ h => h
              case hya3 => refine Or.inl ⟨by rfl, ?_⟩; intro w9 hSw; (try dsimp only at hSw); go_simp; (try with_reducible rfl)
              try simp only [Act.put, List.setIfInBounds_toArray, List.set_cons_zero, List.set_cons_succ]
              refine wpAnyH_take (i := 4) (oi := ?oia4) (v := ?va4) ?hia4 (by kernel_rfl) (by kernel_rfl) (by kernel_rfl) ?hQa4 ?hya4 (by assumption) ?_
              case hia4 => simp only [List.getElem?_toArray, List.getElem?_cons_zero, List.getElem?_cons_succ]; rfl
              case hQa4 => exact fun _ _ _ h => h
              case hya4 => refine Or.inl ⟨by rfl, ?_⟩; intro w9 hSw; (try dsimp only at hSw); go_simp; (try with_reducible rfl)
              try simp only [Act.put, List.setIfInBounds_toArray, List.set_cons_zero, List.set_cons_succ]
              refine wpAnyH_take (i := 5) (oi := ?oia5) (v := ?va5) ?hia5 (by kernel_rfl) (by kernel_rfl) (by kernel_rfl) ?hQa5 ?hya5 (by assumption) ?_
              case hia5 => simp only [List.getElem?_toArray, List.getElem?_cons_zero, List.getElem?_cons_succ]; rfl
              case hQa5 => exact fun _ _ _ h => h
              case hya5 => refine Or.inl ⟨by rfl, ?_⟩; intro w9 hSw; (try dsimp only at hSw); go_simp; (try with_reducible rfl)
              try simp only [Act.put, List.setIfInBounds_toArray, List.set_cons_zero, List.set_cons_succ]
              refine wpAnyH_take (i := 6) (oi := ?oia6) (v := ?va6) ?hia6 (by kernel_rfl) (by kernel_rfl) (by kernel_rfl) ?hQa6 ?hya6 (by assumption) ?_
              case hia6 => simp only [List.getElem?_toArray, List.getElem?_cons_zero, List.getElem?_cons_succ]; rfl
              case hQa6 => exact fun _ _ _ h => h
              case hya6 => refine Or.inl ⟨by rfl, ?_⟩; intro w9 hSw; (try dsimp only at hSw); go_simp; (try with_reducible rfl)
              try simp only [Act.put, List.setIfInBounds_toArray, List.set_cons_zero, List.set_cons_succ]
              refine wpAnyH_take (i := 7) (oi := ?oia7) (v := ?va7) ?hia7 (by kernel_rfl) (by kernel_rfl) (by kernel_rfl) ?hQa7 ?hya7 (by assumption) ?_
              case hia7 => simp only [List.getElem?_toArray, List.getElem?_cons_zero, List.getElem?_cons_succ]; rfl
              case hQa7 => exact fun _ _ _ h => h
              case hya7 => refine Or.inl ⟨by rfl, ?_⟩; intro w9 hSw; (try dsimp only at hSw); go_simp; (try with_reducible rfl)
              try simp only [Act.put, List.setIfInBounds_toArray, List.set_cons_zero, List.set_cons_succ]
              refine wpAnyH_ready (rs := [1, 8]) (by kernel_rfl) (by simp) ?_
              refine AllReadyH.cons (o := ?ooz1) ?hoz1 (fun K hK => ?_) (AllReadyH.cons (o := ?ooz8) ?hoz8 (fun K hK => ?_) AllReadyH.nil)
              case hoz1 => simp only [List.getElem?_toArray, List.getElem?_cons_zero, List.getElem?_cons_succ]; rfl
              case hoz8 => simp only [List.getElem?_toArray, List.getElem?_cons_zero, List.getElem?_cons_succ]; rfl
              · go_simp
                skip
                refine hK.out _ _ ?hSb1 (fun hHeldb1 => ?_)
                case hSb1 => exact hHeld
                clear hK K
                try simp only [Act.put, List.setIfInBounds_toArray, List.set_cons_zero, List.set_cons_succ]
                refine wpAnyH_ready (rs := [8]) (by kernel_rfl) (by simp) ?_
                refine AllReadyH.cons (o := ?oob8) ?hob8 (fun K hK => ?_) AllReadyH.nil
                case hob8 => simp only [List.getElem?_toArray, List.getElem?_cons_zero, List.getElem?_cons_succ]; rfl
                go_simp
                refine (TT _ (Row.drew F.O)).mono ?_; rintro e w9 ⟨rfl, rfl⟩
                go_wp2_with fail
                refine hK.out _ _ ?hSb8 (fun hHeldb8 => ?_)
                case hSb8 => exact hHeld
                clear hK K
                try simp only [Act.put, List.setIfInBounds_toArray, List.set_cons_zero, List.set_cons_succ]
                refine wpAnyH_ready (rs := [9]) (by kernel_rfl) (by simp) ?_
                refine AllReadyH.cons (o := ?oob9) ?hob9 (fun K hK => ?_) AllReadyH.nil
                case hob9 => simp only [List.getElem?_toArray, List.getElem?_cons_zero, List.getElem?_cons_succ]; rfl
                go_simp
                refine hK.out _ _ ?hSb9 (fun hHeldb9 => ?_)
                case hSb9 => exact ⟨cellA (cellD P2) _, cellA (cellD hcx) _⟩
                clear hK K
                try simp only [Act.put, List.setIfInBounds_toArray, List.set_cons_zero, List.set_cons_succ]
                refine wpAnyH_ready (rs := [10]) (by kernel_rfl) (by simp) ?_
                refine AllReadyH.cons (o := ?oob10) ?hob10 (fun K hK => ?_) AllReadyH.nil
                case hob10 => simp only [List.getElem?_toArray, List.getElem?_cons_zero, List.getElem?_cons_succ]; rfl
                have hBA : Below wr.heap.size wr (wr.alloc (.cells #[.int .i64 xz] 3)).drew := ((Below.refl _ _).alloc (Nat.le_refl _) _).drew
                have hz8 : w.heap.size + 2 ≤ wr.heap.size := by have h1 := F.z5; have h2 := F.Z.lt; omega
                have hz9 : w.heap.size + 2 ≤ (wr.alloc (.cells #[.int .i64 xz] 3)).drew.heap.size := Nat.le_trans hz8 hBA.size
                refine step_append_lies _ rfl (.tmp 79) (.tmp 87) 22 rfl (w.heap.size + 2) 3 i0 (.int .i64 0) 1 8 Try.underlying22 hi hz0 hz1 hz2 rfl (by decide) _ k _ (by rfl) (World.ownsRow.alloc hown _) ⟨wr.heap.size, 0, none⟩ 1 1 [.int .i64 xz] (by rfl) rfl (fun j u hj => one_new j u hj) (by intro u hu; simp at hu; subst hu; rfl) (by omega) (by unfold maxLen; omega) (by omega) hz9 _ rfl ?_
                intro g4 c4 w4 hown4 hgr4 hor4 hlt4
                have hgr5 : wr.grownBy w4 (Value.slice AT k cT).ownBlock := ⟨hgr4.os.trans hBA.os, hgr4.tape.trans hBA.tape, hgr4.output.trans hBA.output, Nat.le_trans hBA.size hgr4.size, fun b hb hne => (hgr4.block b (Nat.lt_of_lt_of_le hb hBA.size) hne).trans (hBA.block b hb)⟩
                have hT4 : Row w4 (w.heap.size + 2) (.slice (some ⟨g4, 0, none⟩) (k + 1) c4) ((h.t.take (k + 1)).map (ren (at_ oo))) := by
                  rw [es.out]
                  exact Row.of_own hown4 (by simp) (by simp; rw [l2.out]; omega)
                have hl4 : ∀ b, (Value.slice (some ⟨g4, 0, none⟩) (k + 1) c4).ownBlock = some b → (Value.slice AT k cT).ownBlock = some b ∨ wr.heap.size ≤ b := fun b e => by
                  simp [Value.ownBlock] at e
                  subst e
                  rcases hor4 with h9 | h9
                  · exact .inl h9
                  · right
                    have h8 := h9.symm
                    exact Nat.le_trans hBA.size (Nat.le_of_eq h8)
                have F4 := CpAt.app F hgr5 hT4 hl4
                have nP : some w.heap.size ≠ (Value.slice AT k cT).ownBlock := fun e => by have := (F.T.lt _ e.symm).1; omega
                have nC : some g2x ≠ (Value.slice AT k cT).ownBlock := fun e => by have := (F.T.lt _ e.symm).1; have := F.o2 g2x rfl; omega
                have n5 : some b5 ≠ (Value.slice AT k cT).ownBlock := fun e => F.eT e.symm
                have k1 : w4.cell? ⟨w.heap.size, 2, none⟩ = some (.slice (some ⟨g2x, 0, none⟩) n2 c2) := (hgr5.cell_far ⟨w.heap.size, 2, none⟩ F.X.lt nP).trans P2
                have k2 : w4.cell? ⟨g2x, k, none⟩ = some (.int .i64 x) := (hgr5.cell_far ⟨g2x, k, none⟩ (F.r2.lt g2x rfl).2 nC).trans hcx
                have k3 : w4.cell? ⟨b5, 2, none⟩ = some (.slice AT k cT) := (hgr5.cell_far ⟨b5, 2, none⟩ F.Z.lt n5).trans Z2
                have k4 : w4.frozen? ⟨b5, 2, none⟩ = false := (hgr5.frozen_far ⟨b5, 2, none⟩ F.Z.lt n5).trans w2'
                obtain ⟨_, _, Q2, _⟩ := F4.X.cells
                have hcq := F4.r2.cellAt' HXK.out
                clear hown4 hgr4 hor4 hgr5 hT4 hl4 nP nC n5
                refine hK.out _ _ ?hSb10 (fun hHeldb10 => ?_)
                case hSb10 => exact ⟨k1, k2⟩
                clear hK K
                try simp only [Act.put, List.setIfInBounds_toArray, List.set_cons_zero, List.set_cons_succ]
                refine wpAnyH_take (i := 11) (oi := ?oib11) (v := ?vb11) ?hib11 (by kernel_rfl) (by kernel_rfl) (by kernel_rfl) ?hQb11 ?hyb11 (by assumption) ?_
                case hib11 => simp only [List.getElem?_toArray, List.getElem?_cons_zero, List.getElem?_cons_succ]; rfl
                case hQb11 => exact fun _ _ _ h => h
                case hyb11 => refine Or.inl ⟨by rfl, ?_⟩; intro w9 hSw; (try dsimp only at hSw); go_simp; (try with_reducible rfl)
                try simp only [Act.put, List.setIfInBounds_toArray, List.set_cons_zero, List.set_cons_succ]
                refine wpAnyH_ready (rs := [12]) (by kernel_rfl) (by simp) ?_
                refine AllReadyH.cons (o := ?oob12) ?hob12 (fun K hK => ?_) AllReadyH.nil
                case hob12 => simp only [List.getElem?_toArray, List.getElem?_cons_zero, List.getElem?_cons_succ]; rfl
                go_simp
                refine hK.out _ _ ?hSb12 (fun hHeldb12 => ?_)
                case hSb12 => exact ⟨Q2, hcq⟩
                clear hK K
                try simp only [Act.put, List.setIfInBounds_toArray, List.set_cons_zero, List.set_cons_succ]
                refine wpAnyH_done (by kernel_rfl) ?_ _
                go_wp2_with fail
                go_roundw
                case rel => exact ⟨k + 1, some ⟨g4, 0, none⟩, c4, by omega, by go_num, F4⟩
                case measure => simp [intOf]; omega
              · go_simp
                refine (TT _ (Row.drew F.O)).mono ?_; rintro e w9 ⟨rfl, rfl⟩
                go_wp2_with fail
                refine hK.out _ _ ?hSc8 (fun hHeldc8 => ?_)
                case hSc8 => exact hHeld
                clear hK K
                try simp only [Act.put, List.setIfInBounds_toArray, List.set_cons_zero, List.set_cons_succ]
                refine wpAnyH_ready (rs := [1, 9]) (by kernel_rfl) (by simp) ?_
                refine AllReadyH.cons (o := ?ooy1) ?hoy1 (fun K hK => ?_) (AllReadyH.cons (o := ?ooy9) ?hoy9 (fun K hK => ?_) AllReadyH.nil)
                case hoy1 => simp only [List.getElem?_toArray, List.getElem?_cons_zero, List.getElem?_cons_succ]; rfl
                case hoy9 => simp only [List.getElem?_toArray, List.getElem?_cons_zero, List.getElem?_cons_succ]; rfl
                · go_simp
                  skip
                  refine hK.out _ _ ?hSd1 (fun hHeldd1 => ?_)
                  case hSd1 => exact hHeld
                  clear hK K
                  try simp only [Act.put, List.setIfInBounds_toArray, List.set_cons_zero, List.set_cons_succ]
                  refine wpAnyH_ready (rs := [9]) (by kernel_rfl) (by simp) ?_
                  refine AllReadyH.cons (o := ?ood9) ?hod9 (fun K hK => ?_) AllReadyH.nil
                  case hod9 => simp only [List.getElem?_toArray, List.getElem?_cons_zero, List.getElem?_cons_succ]; rfl
                  go_simp
                  refine hK.out _ _ ?hSd9 (fun hHeldd9 => ?_)
                  case hSd9 => exact ⟨cellA (cellD P2) _, cellA (cellD hcx) _⟩
                  clear hK K
                  try simp only [Act.put, List.setIfInBounds_toArray, List.set_cons_zero, List.set_cons_succ]
                  refine wpAnyH_ready (rs := [10]) (by kernel_rfl) (by simp) ?_
                  refine AllReadyH.cons (o := ?ood10) ?hod10 (fun K hK => ?_) AllReadyH.nil
                  case hod10 => simp only [List.getElem?_toArray, List.getElem?_cons_zero, List.getElem?_cons_succ]; rfl
                  have hBA : Below wr.heap.size wr (wr.alloc (.cells #[.int .i64 xz] 3)).drew := ((Below.refl _ _).alloc (Nat.le_refl _) _).drew
                  have hz8 : w.heap.size + 2 ≤ wr.heap.size := by have h1 := F.z5; have h2 := F.Z.lt; omega
                  have hz9 : w.heap.size + 2 ≤ (wr.alloc (.cells #[.int .i64 xz] 3)).drew.heap.size := Nat.le_trans hz8 hBA.size
                  refine step_append_lies _ rfl (.tmp 79) (.tmp 87) 22 rfl (w.heap.size + 2) 3 i0 (.int .i64 0) 1 8 Try.underlying22 hi hz0 hz1 hz2 rfl (by decide) _ k _ (by rfl) (World.ownsRow.alloc hown _) ⟨wr.heap.size, 0, none⟩ 1 1 [.int .i64 xz] (by rfl) rfl (fun j u hj => one_new j u hj) (by intro u hu; simp at hu; subst hu; rfl) (by omega) (by unfold maxLen; omega) (by omega) hz9 _ rfl ?_
                  intro g4 c4 w4 hown4 hgr4 hor4 hlt4
                  have hgr5 : wr.grownBy w4 (Value.slice AT k cT).ownBlock := ⟨hgr4.os.trans hBA.os, hgr4.tape.trans hBA.tape, hgr4.output.trans hBA.output, Nat.le_trans hBA.size hgr4.size, fun b hb hne => (hgr4.block b (Nat.lt_of_lt_of_le hb hBA.size) hne).trans (hBA.block b hb)⟩
                  have hT4 : Row w4 (w.heap.size + 2) (.slice (some ⟨g4, 0, none⟩) (k + 1) c4) ((h.t.take (k + 1)).map (ren (at_ oo))) := by
                    rw [es.out]
                    exact Row.of_own hown4 (by simp) (by simp; rw [l2.out]; omega)
                  have hl4 : ∀ b, (Value.slice (some ⟨g4, 0, none⟩) (k + 1) c4).ownBlock = some b → (Value.slice AT k cT).ownBlock = some b ∨ wr.heap.size ≤ b := fun b e => by
                    simp [Value.ownBlock] at e
                    subst e
                    rcases hor4 with h9 | h9
                    · exact .inl h9
                    · right
                      have h8 := h9.symm
                      exact Nat.le_trans hBA.size (Nat.le_of_eq h8)
                  have F4 := CpAt.app F hgr5 hT4 hl4
                  have nP : some w.heap.size ≠ (Value.slice AT k cT).ownBlock := fun e => by have := (F.T.lt _ e.symm).1; omega
                  have nC : some g2x ≠ (Value.slice AT k cT).ownBlock := fun e => by have := (F.T.lt _ e.symm).1; have := F.o2 g2x rfl; omega
                  have n5 : some b5 ≠ (Value.slice AT k cT).ownBlock := fun e => F.eT e.symm
                  have k1 : w4.cell? ⟨w.heap.size, 2, none⟩ = some (.slice (some ⟨g2x, 0, none⟩) n2 c2) := (hgr5.cell_far ⟨w.heap.size, 2, none⟩ F.X.lt nP).trans P2
                  have k2 : w4.cell? ⟨g2x, k, none⟩ = some (.int .i64 x) := (hgr5.cell_far ⟨g2x, k, none⟩ (F.r2.lt g2x rfl).2 nC).trans hcx
                  have k3 : w4.cell? ⟨b5, 2, none⟩ = some (.slice AT k cT) := (hgr5.cell_far ⟨b5, 2, none⟩ F.Z.lt n5).trans Z2
                  have k4 : w4.frozen? ⟨b5, 2, none⟩ = false := (hgr5.frozen_far ⟨b5, 2, none⟩ F.Z.lt n5).trans w2'
                  obtain ⟨_, _, Q2, _⟩ := F4.X.cells
                  have hcq := F4.r2.cellAt' HXK.out
                  clear hown4 hgr4 hor4 hgr5 hT4 hl4 nP nC n5
                  refine hK.out _ _ ?hSd10 (fun hHeldd10 => ?_)
                  case hSd10 => exact ⟨k1, k2⟩
                  clear hK K
                  try simp only [Act.put, List.setIfInBounds_toArray, List.set_cons_zero, List.set_cons_succ]
                  refine wpAnyH_take (i := 11) (oi := ?oid11) (v := ?vd11) ?hid11 (by kernel_rfl) (by kernel_rfl) (by kernel_rfl) ?hQd11 ?hyd11 (by assumption) ?_
                  case hid11 => simp only [List.getElem?_toArray, List.getElem?_cons_zero, List.getElem?_cons_succ]; rfl
                  case hQd11 => exact fun _ _ _ h => h
                  case hyd11 => refine Or.inl ⟨by rfl, ?_⟩; intro w9 hSw; (try dsimp only at hSw); go_simp; (try with_reducible rfl)
                  try simp only [Act.put, List.setIfInBounds_toArray, List.set_cons_zero, List.set_cons_succ]
                  refine wpAnyH_ready (rs := [12]) (by kernel_rfl) (by simp) ?_
                  refine AllReadyH.cons (o := ?ood12) ?hod12 (fun K hK => ?_) AllReadyH.nil
                  case hod12 => simp only [List.getElem?_toArray, List.getElem?_cons_zero, List.getElem?_cons_succ]; rfl
                  go_simp
                  refine hK.out _ _ ?hSd12 (fun hHeldd12 => ?_)
                  case hSd12 => exact ⟨Q2, hcq⟩
                  clear hK K
                  try simp only [Act.put, List.setIfInBounds_toArray, List.set_cons_zero, List.set_cons_succ]
                  refine wpAnyH_done (by kernel_rfl) ?_ _
                  go_wp2_with fail
                  go_roundw
                  case rel => exact ⟨k + 1, some ⟨g4, 0, none⟩, c4, by omega, by go_num, F4⟩
                  case measure => simp [intOf]; omega
                · go_simp
                  refine hK.out _ _ ?hSe9 (fun hHelde9 => ?_)
                  case hSe9 => exact ⟨cellA (cellD P2) _, cellA (cellD hcx) _⟩
                  clear hK K
                  try simp only [Act.put, List.setIfInBounds_toArray, List.set_cons_zero, List.set_cons_succ]
                  refine wpAnyH_ready (rs := [1]) (by kernel_rfl) (by simp) ?_
                  refine AllReadyH.cons (o := ?ooe1) ?hoe1 (fun K hK => ?_) AllReadyH.nil
                  case hoe1 => simp only [List.getElem?_toArray, List.getElem?_cons_zero, List.getElem?_cons_succ]; rfl
                  go_simp
                  refine hK.out _ _ ?hSe1 (fun hHelde1 => ?_)
                  case hSe1 => exact hHelde9
                  clear hK K
                  try simp only [Act.put, List.setIfInBounds_toArray, List.set_cons_zero, List.set_cons_succ]
                  refine wpAnyH_ready (rs := [10]) (by kernel_rfl) (by simp) ?_
                  refine AllReadyH.cons (o := ?ooe10) ?hoe10 (fun K hK => ?_) AllReadyH.nil
                  case hoe10 => simp only [List.getElem?_toArray, List.getElem?_cons_zero, List.getElem?_cons_succ]; rfl
                  have hBA : Below wr.heap.size wr (wr.alloc (.cells #[.int .i64 xz] 3)).drew := ((Below.refl _ _).alloc (Nat.le_refl _) _).drew
                  have hz8 : w.heap.size + 2 ≤ wr.heap.size := by have h1 := F.z5; have h2 := F.Z.lt; omega
                  have hz9 : w.heap.size + 2 ≤ (wr.alloc (.cells #[.int .i64 xz] 3)).drew.heap.size := Nat.le_trans hz8 hBA.size
                  refine step_append_lies _ rfl (.tmp 79) (.tmp 87) 22 rfl (w.heap.size + 2) 3 i0 (.int .i64 0) 1 8 Try.underlying22 hi hz0 hz1 hz2 rfl (by decide) _ k _ (by rfl) (World.ownsRow.alloc hown _) ⟨wr.heap.size, 0, none⟩ 1 1 [.int .i64 xz] (by rfl) rfl (fun j u hj => one_new j u hj) (by intro u hu; simp at hu; subst hu; rfl) (by omega) (by unfold maxLen; omega) (by omega) hz9 _ rfl ?_
                  intro g4 c4 w4 hown4 hgr4 hor4 hlt4
                  have hgr5 : wr.grownBy w4 (Value.slice AT k cT).ownBlock := ⟨hgr4.os.trans hBA.os, hgr4.tape.trans hBA.tape, hgr4.output.trans hBA.output, Nat.le_trans hBA.size hgr4.size, fun b hb hne => (hgr4.block b (Nat.lt_of_lt_of_le hb hBA.size) hne).trans (hBA.block b hb)⟩
                  have hT4 : Row w4 (w.heap.size + 2) (.slice (some ⟨g4, 0, none⟩) (k + 1) c4) ((h.t.take (k + 1)).map (ren (at_ oo))) := by
                    rw [es.out]
                    exact Row.of_own hown4 (by simp) (by simp; rw [l2.out]; omega)
                  have hl4 : ∀ b, (Value.slice (some ⟨g4, 0, none⟩) (k + 1) c4).ownBlock = some b → (Value.slice AT k cT).ownBlock = some b ∨ wr.heap.size ≤ b := fun b e => by
                    simp [Value.ownBlock] at e
                    subst e
                    rcases hor4 with h9 | h9
                    · exact .inl h9
                    · right
                      have h8 := h9.symm
                      exact Nat.le_trans hBA.size (Nat.le_of_eq h8)
                  have F4 := CpAt.app F hgr5 hT4 hl4
                  have nP : some w.heap.size ≠ (Value.slice AT k cT).ownBlock := fun e => by have := (F.T.lt _ e.symm).1; omega
                  have nC : some g2x ≠ (Value.slice AT k cT).ownBlock := fun e => by have := (F.T.lt _ e.symm).1; have := F.o2 g2x rfl; omega
                  have n5 : some b5 ≠ (Value.slice AT k cT).ownBlock := fun e => F.eT e.symm
                  have k1 : w4.cell? ⟨w.heap.size, 2, none⟩ = some (.slice (some ⟨g2x, 0, none⟩) n2 c2) := (hgr5.cell_far ⟨w.heap.size, 2, none⟩ F.X.lt nP).trans P2
                  have k2 : w4.cell? ⟨g2x, k, none⟩ = some (.int .i64 x) := (hgr5.cell_far ⟨g2x, k, none⟩ (F.r2.lt g2x rfl).2 nC).trans hcx
                  have k3 : w4.cell? ⟨b5, 2, none⟩ = some (.slice AT k cT) := (hgr5.cell_far ⟨b5, 2, none⟩ F.Z.lt n5).trans Z2
                  have k4 : w4.frozen? ⟨b5, 2, none⟩ = false := (hgr5.frozen_far ⟨b5, 2, none⟩ F.Z.lt n5).trans w2'
                  obtain ⟨_, _, Q2, _⟩ := F4.X.cells
                  have hcq := F4.r2.cellAt' HXK.out
                  clear hown4 hgr4 hor4 hgr5 hT4 hl4 nP nC n5
                  refine hK.out _ _ ?hSe10 (fun hHelde10 => ?_)
                  case hSe10 => exact ⟨k1, k2⟩
                  clear hK K
                  try simp only [Act.put, List.setIfInBounds_toArray, List.set_cons_zero, List.set_cons_succ]
                  refine wpAnyH_take (i := 11) (oi := ?oie11) (v := ?ve11) ?hie11 (by kernel_rfl) (by kernel_rfl) (by kernel_rfl) ?hQe11 ?hye11 (by assumption) ?_
                  case hie11 => simp only [List.getElem?_toArray, List.getElem?_cons_zero, List.getElem?_cons_succ]; rfl
                  case hQe11 => exact fun _ _ _ h => h
                  case hye11 => refine Or.inl ⟨by rfl, ?_⟩; intro w9 hSw; (try dsimp only at hSw); go_simp; (try with_reducible rfl)
                  try simp only [Act.put, List.setIfInBounds_toArray, List.set_cons_zero, List.set_cons_succ]
                  refine wpAnyH_ready (rs := [12]) (by kernel_rfl) (by simp) ?_
                  refine AllReadyH.cons (o := ?ooe12) ?hoe12 (fun K hK => ?_) AllReadyH.nil
                  case hoe12 => simp only [List.getElem?_toArray, List.getElem?_cons_zero, List.getElem?_cons_succ]; rfl
                  go_simp
                  refine hK.out _ _ ?hSe12 (fun hHelde12 => ?_)
                  case hSe12 => exact ⟨Q2, hcq⟩
                  clear hK K
                  try simp only [Act.put, List.setIfInBounds_toArray, List.set_cons_zero, List.set_cons_succ]
                  refine wpAnyH_done (by kernel_rfl) ?_ _
                  go_wp2_with fail
                  go_roundw
                  case rel => exact ⟨k + 1, some ⟨g4, 0, none⟩, c4, by omega, by go_num, F4⟩
                  case measure => simp [intOf]; omega
            · obtain rfl : n2 = k := by omega
              have et : h.t.take n2 = h.t := List.take_of_length_le (by rw [l2.out]; omega)
              rw [et] at F
              have hT := F.T
              have zb := F.bel.size
              have lY := F.Y.lt
              have hz5 := F.z5
              obtain ⟨hH, hB⟩ := made_done (w := w) (w3 := wr) (b := w.heap.size + 1) (h := ⟨cpL oo h.l n1, cpL oo h.r n1, h.t.map (ren (at_ oo))⟩) (by omega) F.L F.R hT F.aLR F.aLT F.aRT F.bel
              have kW : (Value.slice (some ⟨gW, 0, none⟩) n1 cW).ownBlock ≠ some (w.heap.size + 1) := fun e => by have := (F.W.lt _ e).1; omega
              have RW := (((F.W.other (a := ⟨w.heap.size + 1, 0, none⟩) kW (.slice (some ⟨gL, 0, none⟩) n1 cL)).other (a := ⟨w.heap.size + 1, 1, none⟩) kW (.slice (some ⟨gR, 0, none⟩) n1 cR)).other (a := ⟨w.heap.size + 1, 2, none⟩) kW (.slice AT n2 cT)).mono (lo' := w.heap.size) (by omega)
              have NI : ∀ b, (Value.slice (some ⟨gW, 0, none⟩) n1 cW).ownBlock = some b → NotIn (.agg #[.slice (some ⟨gL, 0, none⟩) n1 cL, .slice (some ⟨gR, 0, none⟩) n1 cR, .slice AT n2 cT]) b := by
                intro b hb a0 a1 a2 ea
                simp at ea
                obtain ⟨rfl, rfl, rfl⟩ := ea
                exact ⟨fun e => F.aLW b e.symm hb, fun e => F.aRW b e.symm hb, fun e => F.aTW b e.symm hb⟩
              clear F hT et kW
              go_wp2_with fail
              refine bodyPost_ret (v := .tuple #[.agg #[.slice (some ⟨gL, 0, none⟩) n1 cL, .slice (some ⟨gR, 0, none⟩) n1 cR, .slice AT n2 cT], .slice (some ⟨gW, 0, none⟩) n1 cW, .bool true]) ?_ rfl ⟨_, some ⟨gW, 0, none⟩, cW, by rw [HWL.out], hH, by rw [HWL.out]; exact RW, by rw [HWL.out]; exact NI, hB⟩
              simp [results, Try.results21, go_sem, Y0, Y1, Y2]
end Go.Proofs.Ytapkhgpifpgleaa
