/- Heaps and stores that are copied by l13OwnHeap and l13OwnStore of spec. -/
import Derived.Test.YtfoimicbmkiigaaGreatStoA
import Derived.Test.YtfoimicbmkiigaaGreatCopys
import Derived.Test.YtfoimicbmkiigaaGreatRdA
namespace Go.Proofs.YtfoimicbmkiigaaGreat
open Go.RowKit

/-- A row is appended to a literal empty one. -/
theorem wpList_append_row {ops : Array Oper} {rest : List Oper} {o : Oper} {a : Act} {w : World} {Q : Exit → Act → World → Prop}
    (hg : o.guard = none) (s x : Operand) (hop : o.op = Op.call { callee := Callee.builtin Builtin.append, args := #[s, x], argTypes := #[23, 23] })
    (base : Option Addr) (lb : Nat) (hs : a.eval s = .slice base 0 0) (hbase : Row w lb (.slice base 0 0) []) (hlb : lb ≤ w.heap.size)
    (lo : Nat) (A : Option Addr) (n c : Nat) (xs : List Int) (hx : a.eval x = .slice A n c) (hr : Row w lo (.slice A n c) xs) (hn : Hid (xs.length = n)) (hb : n ≤ 1048576)
    (hK : ∀ A' c' w', Row w' lb (.slice A' n c') xs → Below w.heap.size w w' → wpList Tryz.prog ops Q rest (a.put o.dst (.slice A' n c')) w') : wpList Tryz.prog ops Q (o :: rest) a w := by
  have hn' := hn.out
  obtain ⟨i0, hi, hz0, hz1, hz2⟩ := info_parts Tryz.infoInt
  rcases Nat.eq_zero_or_pos n with h0 | h0
  · subst h0
    obtain rfl : xs = [] := List.eq_nil_of_length_eq_zero hn'
    refine wpList_append_zero hg s x 23 hop 3 i0 Tryz.underlying23 hi base 0 0 hs (Nat.le_refl _) A 0 c rfl hx ?_
    intro w' hw'
    have e := hw'.out
    subst e
    exact hK base 0 _ hbase (Below.refl _ _)
  · obtain ⟨g, rfl, _, _⟩ := hr.at_ (k := 0) (by omega)
    refine wpList_append_grows w hg s x 23 hop 3 i0 (.int .i64 0) 1 8 Tryz.underlying23 hi hz0 hz1 hz2 rfl (by decide) base 0 0 [] hs (fun _ => ⟨rfl, rfl⟩) rfl (fun _ _ j u hj => nil_get hj) ⟨g, 0, none⟩ n c (xs.map iv) hx (by simp; omega) (Row.cellsV hr) (ints_oneCell _ _) (by omega) (by unfold maxLen; omega) (by omega) ?_
    intro v' w' hown hgr
    obtain ⟨A', c', rfl, hr', hb'⟩ := after_append (xs := xs) (n := n) (by simpa using hown) hgr (by omega)
    have h9 := hK A' c' w' (by rw [← hn']; exact hr'.mono hlb) hb'
    rw [hn']; exact h9
theorem apart_of {w w' : World} {lo lo' : Nat} {v v' : Value} {xs ys : List Int} (h : Row w lo v xs) (h' : Row w' lo' v' ys) (hl : w.heap.size ≤ lo') : Apart v v' := fun j e e' => by
  have h1 := (h.lt j e).2
  have h2 := (h'.lt j e').1
  omega
theorem Row.setE {w : World} {lo b : Nat} {v : Value} {xs : List Int} (h : Row w lo v xs) (hb : v.ownBlock ≠ some b) (o : Nat) (u : Value) : Row (w.setCell ⟨b, o, none⟩ u) lo v xs := h.other (a := ⟨b, o, none⟩) hb u
theorem own_neR {w : World} {lo b : Nat} {v : Value} {xs : List Int} (h : Row w lo v xs) (hb : b < lo ∨ w.heap.size ≤ b) : v.ownBlock ≠ some b := fun e => by have := h.lt _ e; omega
theorem setSize (w : World) (p : Addr) (u : Value) : (w.setCell p u).heap.size = w.heap.size := by simp [World.setCell]
def NewHvO (w : World) (h : Hp) (e : Ending) (w' : World) : Prop := ∃ v, e = .returned v ∧ Hv w' w.heap.size v h ∧ Below w.heap.size w w'

set_option maxRecDepth 100000 in
set_option maxHeartbeats 4000000 in
theorem ownHeap_any (w : World) (lo : Nat) (v : Value) (h : Hp) (hv : Hv w lo v h) (b0 : h.l.length ≤ 1048576) (b1 : h.r.length ≤ 1048576) (b2 : h.t.length ≤ 1048576) : Calls Tryz.prog 132 #[v] w (NewHvO w h) := by
  have hvo := hv
  obtain ⟨A0, n0, c0, A1, n1, c1, A2, n2, c2, rfl, ⟨r0, r1, r2⟩, ⟨l0, l1, l2⟩, _, _, _⟩ := hvo.open_
  have X := (Blk3.new w (.slice A0 n0 c0) (.slice A1 n1 c1) (.slice A2 n2 c2) 25).alloc (.cells #[.slice none 0 0, .slice none 0 0, .slice none 0 0] 25)
  have Y := Blk3.new_at (w := w.alloc (.cells #[.slice A0 n0 c0, .slice A1 n1 c1, .slice A2 n2 c2] 25)) (b := w.heap.size + 1) (by simp) (.slice none 0 0) (.slice none 0 0) (.slice none 0 0) 25
  have R0 := (r0.alloc (.cells #[.slice A0 n0 c0, .slice A1 n1 c1, .slice A2 n2 c2] 25)).alloc (.cells #[.slice none 0 0, .slice none 0 0, .slice none 0 0] 25)
  have R1 := (r1.alloc (.cells #[.slice A0 n0 c0, .slice A1 n1 c1, .slice A2 n2 c2] 25)).alloc (.cells #[.slice none 0 0, .slice none 0 0, .slice none 0 0] 25)
  have R2 := (r2.alloc (.cells #[.slice A0 n0 c0, .slice A1 n1 c1, .slice A2 n2 c2] 25)).alloc (.cells #[.slice none 0 0, .slice none 0 0, .slice none 0 0] 25)
  have BB : Below w.heap.size w ((w.alloc (.cells #[.slice A0 n0 c0, .slice A1 n1 c1, .slice A2 n2 c2] 25)).alloc (.cells #[.slice none 0 0, .slice none 0 0, .slice none 0 0] 25)) := ((Below.refl _ _).alloc (Nat.le_refl _) _).alloc (by simp) _
  have sz : ((w.alloc (.cells #[.slice A0 n0 c0, .slice A1 n1 c1, .slice A2 n2 c2] 25)).alloc (.cells #[.slice none 0 0, .slice none 0 0, .slice none 0 0] 25)).heap.size = w.heap.size + 2 := by simp
  have o0 := own_neR r0 (.inr (Nat.le_refl w.heap.size))
  have o1 := own_neR r1 (.inr (Nat.le_refl w.heap.size))
  have o2 := own_neR r2 (.inr (Nat.le_refl w.heap.size))
  have b0' : n0 ≤ 1048576 := by have := l0.out; omega
  have b1' : n1 ≤ 1048576 := by have := l1.out; omega
  have b2' : n2 ≤ 1048576 := by have := l2.out; omega
  clear hv hvo r0 r1 r2
  generalize hW : (w.alloc (.cells #[.slice A0 n0 c0, .slice A1 n1 c1, .slice A2 n2 c2] 25)).alloc (.cells #[.slice none 0 0, .slice none 0 0, .slice none 0 0] 25) = W at X Y R0 R1 R2 BB sz
  have sza : w.heap.size + 2 ≤ W.heap.size := by omega
  clear sz
  obtain ⟨x0, x1, x2, _⟩ := X.cells
  obtain ⟨i0, i1, i2, ii0, ii1, ii2⟩ := (X.alloc (.cells #[] 3)).cells
  go_enter Tryz.func132, Tryz.ntmps132
  go_wp2_with (at_builtin; refine wpList_append_row rfl _ _ rfl (some ⟨W.heap.size, 0, none⟩) W.heap.size rfl (Row.empty W W.heap.size (Nat.le_refl _)) (by simp) lo A0 n0 c0 h.l rfl (R0.alloc (.cells #[] 3)) l0 b0' ?_)
  intro B0 dB0 wB0 qB0 hbB0
  have hbB0' : Below W.heap.size W wB0 := ((Below.refl _ _).alloc (Nat.le_refl _) (.cells #[] 3)).trans (hbB0.mono (by simp))

  have X1 := (X.below hbB0').set0 (.slice B0 n0 dB0)
  have Y1 := (Y.below hbB0').other (p := ⟨w.heap.size, 0, none⟩) (by simp) (.slice B0 n0 dB0)
  have S1 := (R1.below hbB0').setE o1 0 (.slice B0 n0 dB0)
  have S2 := (R2.below hbB0').setE o2 0 (.slice B0 n0 dB0)
  have T0 := qB0.setE (own_neR (b := w.heap.size) qB0 (.inl (by omega))) 0 (.slice B0 n0 dB0)
  have BB1 := (BB.trans (hbB0'.mono BB.size)).setCell (p := ⟨w.heap.size, 0, none⟩) (Nat.le_refl _) (.slice B0 n0 dB0)
  have zz1 := hbB0'.size
  have sz1 := setSize wB0 ⟨w.heap.size, 0, none⟩ (.slice B0 n0 dB0)
  obtain ⟨j0, j1, j2, jj0, jj1, jj2⟩ := (X.below hbB0').cells
  generalize hW1 : wB0.setCell ⟨w.heap.size, 0, none⟩ (.slice B0 n0 dB0) = W1 at X1 Y1 S1 S2 T0 BB1 sz1
  have szb : W.heap.size ≤ W1.heap.size ∧ wB0.heap.size ≤ W1.heap.size := by omega
  clear sz1
  obtain ⟨k0, k1, k2, kk0, kk1, kk2⟩ := (X1.alloc (.cells #[] 3)).cells
  clear i0 i1 i2 ii0 ii1 ii2 X Y R0 R1 R2 BB hbB0 hbB0'
  go_wp2_with (at_builtin; refine wpList_append_row rfl _ _ rfl (some ⟨W1.heap.size, 0, none⟩) W1.heap.size rfl (Row.empty W1 W1.heap.size (Nat.le_refl _)) (by simp) lo A1 n1 c1 h.r rfl (S1.alloc (.cells #[] 3)) l1 b1' ?_)
  intro B1 dB1 wB1 qB1 hbB1
  have hbB1' : Below W1.heap.size W1 wB1 := ((Below.refl _ _).alloc (Nat.le_refl _) (.cells #[] 3)).trans (hbB1.mono (by simp))

  have X2 := (X1.below hbB1').set1 (.slice B1 n1 dB1)
  have Y2 := (Y1.below hbB1').other (p := ⟨w.heap.size, 1, none⟩) (by simp) (.slice B1 n1 dB1)
  have S22 := (S2.below hbB1').setE o2 1 (.slice B1 n1 dB1)
  have T02 := (T0.below hbB1').setE (own_neR (b := w.heap.size) T0 (.inl (by omega))) 1 (.slice B1 n1 dB1)
  have T1 := qB1.setE (own_neR (b := w.heap.size) qB1 (.inl (by omega))) 1 (.slice B1 n1 dB1)
  have BB2 := (BB1.trans (hbB1'.mono BB1.size)).setCell (p := ⟨w.heap.size, 1, none⟩) (Nat.le_refl _) (.slice B1 n1 dB1)
  have zz2 := hbB1'.size
  have sz2 := setSize wB1 ⟨w.heap.size, 1, none⟩ (.slice B1 n1 dB1)
  have a01 := apart_of T0 qB1 (Nat.le_refl _)
  obtain ⟨e0, e1, e2, ee0, ee1, ee2⟩ := (X1.below hbB1').cells
  generalize hW2 : wB1.setCell ⟨w.heap.size, 1, none⟩ (.slice B1 n1 dB1) = W2 at X2 Y2 S22 T02 T1 BB2 sz2
  have szc : W1.heap.size ≤ W2.heap.size := by omega
  clear sz2
  obtain ⟨f0, f1, f2, ff0, ff1, ff2⟩ := (X2.alloc (.cells #[] 3)).cells
  clear j0 j1 j2 jj0 jj1 jj2 k0 k1 k2 kk0 kk1 kk2 X1 Y1 S1 S2 T0 BB1 hbB1 hbB1' qB1
  go_wp2_with (at_builtin; refine wpList_append_row rfl _ _ rfl (some ⟨W2.heap.size, 0, none⟩) W2.heap.size rfl (Row.empty W2 W2.heap.size (Nat.le_refl _)) (by simp) lo A2 n2 c2 h.t rfl (S22.alloc (.cells #[] 3)) l2 b2' ?_)
  intro B2 dB2 wB2 qB2 hbB2
  have hbB2' : Below W2.heap.size W2 wB2 := ((Below.refl _ _).alloc (Nat.le_refl _) (.cells #[] 3)).trans (hbB2.mono (by simp))

  have X3 := (X2.below hbB2').set2 (.slice B2 n2 dB2)
  have Y3 := (Y2.below hbB2').other (p := ⟨w.heap.size, 2, none⟩) (by simp) (.slice B2 n2 dB2)
  have T03 := (T02.below hbB2').setE (own_neR (b := w.heap.size) T02 (.inl (by omega))) 2 (.slice B2 n2 dB2)
  have T13 := (T1.below hbB2').setE (own_neR (b := w.heap.size) T1 (.inl (by omega))) 2 (.slice B2 n2 dB2)
  have T2 := qB2.setE (own_neR (b := w.heap.size) qB2 (.inl (by omega))) 2 (.slice B2 n2 dB2)
  have BB3 := (BB2.trans (hbB2'.mono BB2.size)).setCell (p := ⟨w.heap.size, 2, none⟩) (Nat.le_refl _) (.slice B2 n2 dB2)
  have zz3 := hbB2'.size
  have a02 := apart_of T02 qB2 (Nat.le_refl _)
  have a12 := apart_of T1 qB2 (Nat.le_refl _)
  obtain ⟨g0, g1, g2, gg0, gg1, gg2⟩ := (X2.below hbB2').cells
  generalize hW3 : wB2.setCell ⟨w.heap.size, 2, none⟩ (.slice B2 n2 dB2) = W3 at X3 Y3 T03 T13 T2 BB3
  obtain ⟨u0, u1, u2, _⟩ := X3.cells
  obtain ⟨y0, y1, y2, yy0, yy1, yy2⟩ := Y3.cells
  have cd := copy_done (w := w) (h := h) (T03.mono (by omega)) (T13.mono (by omega)) (T2.mono (by omega)) a01 a02 a12 BB3
  clear e0 e1 e2 ee0 ee1 ee2 f0 f1 f2 ff0 ff1 ff2 X2 Y2 S22 T02 T1 BB2 hbB2 hbB2' qB2
  go_wp2_with fail
  (try rw [hW3])
  refine bodyPost_ret (v := .agg #[.slice B0 n0 dB0, .slice B1 n1 dB1, .slice B2 n2 dB2]) ?_ rfl ⟨_, rfl, cd.1, cd.2⟩
  simp [results, Tryz.results132, go_sem, y0, y1, y2]
theorem Blk4.set0 {w : World} {b : Nat} {x y z u : Value} {t : TypeId} (h : Blk4 w b x y z u t) (a : Value) : Blk4 (w.setCell ⟨b, 0, none⟩ a) b a y z u t := by
  unfold Blk4 at h ⊢; simp [World.setCell, Array.getElem?_modify, h]
theorem Blk4.set1 {w : World} {b : Nat} {x y z u : Value} {t : TypeId} (h : Blk4 w b x y z u t) (a : Value) : Blk4 (w.setCell ⟨b, 1, none⟩ a) b x a z u t := by
  unfold Blk4 at h ⊢; simp [World.setCell, Array.getElem?_modify, h]
theorem Blk4.set2 {w : World} {b : Nat} {x y z u : Value} {t : TypeId} (h : Blk4 w b x y z u t) (a : Value) : Blk4 (w.setCell ⟨b, 2, none⟩ a) b x y a u t := by
  unfold Blk4 at h ⊢; simp [World.setCell, Array.getElem?_modify, h]

set_option maxRecDepth 100000 in
set_option maxHeartbeats 4000000 in
theorem ownStore_any (w : World) (lo : Nat) (v : Value) (C : Cp) (hv : Cv w lo v C) (b0 : C.h.l.length ≤ 1048576) (b1 : C.h.r.length ≤ 1048576) (b2 : C.h.t.length ≤ 1048576) (b3 : C.c.length ≤ 1048576) : Calls Tryz.prog 93 #[v] w (NewCv w C) := by
  have hvo := hv
  obtain ⟨A0, n0, c0, A1, n1, c1, A2, n2, c2, A3, n3, c3, rfl, hh, ⟨_, _, _, r3⟩, ⟨_, _, _, l3⟩, _, _⟩ := hvo.open_
  have X := (Blk4.new w (.slice A0 n0 c0) (.slice A1 n1 c1) (.slice A2 n2 c2) (.slice A3 n3 c3) 27).alloc (.cells #[.slice none 0 0, .slice none 0 0, .slice none 0 0, .slice none 0 0] 27)
  have Y := Blk4.new_at (w := w.alloc (.cells #[.slice A0 n0 c0, .slice A1 n1 c1, .slice A2 n2 c2, .slice A3 n3 c3] 27)) (b := w.heap.size + 1) (by simp) (.slice none 0 0) (.slice none 0 0) (.slice none 0 0) (.slice none 0 0) 27
  have HH := (hh.alloc (.cells #[.slice A0 n0 c0, .slice A1 n1 c1, .slice A2 n2 c2, .slice A3 n3 c3] 27)).alloc (.cells #[.slice none 0 0, .slice none 0 0, .slice none 0 0, .slice none 0 0] 27)
  have R3 := (r3.alloc (.cells #[.slice A0 n0 c0, .slice A1 n1 c1, .slice A2 n2 c2, .slice A3 n3 c3] 27)).alloc (.cells #[.slice none 0 0, .slice none 0 0, .slice none 0 0, .slice none 0 0] 27)
  have BB : Below w.heap.size w ((w.alloc (.cells #[.slice A0 n0 c0, .slice A1 n1 c1, .slice A2 n2 c2, .slice A3 n3 c3] 27)).alloc (.cells #[.slice none 0 0, .slice none 0 0, .slice none 0 0, .slice none 0 0] 27)) := ((Below.refl _ _).alloc (Nat.le_refl _) _).alloc (by simp) _
  have sz : ((w.alloc (.cells #[.slice A0 n0 c0, .slice A1 n1 c1, .slice A2 n2 c2, .slice A3 n3 c3] 27)).alloc (.cells #[.slice none 0 0, .slice none 0 0, .slice none 0 0, .slice none 0 0] 27)).heap.size = w.heap.size + 2 := by simp
  have o3 := own_neR r3 (.inr (Nat.le_refl w.heap.size))
  have b3' : n3 ≤ 1048576 := by have := l3.out; omega
  clear hv hvo hh r3
  generalize hW : (w.alloc (.cells #[.slice A0 n0 c0, .slice A1 n1 c1, .slice A2 n2 c2, .slice A3 n3 c3] 27)).alloc (.cells #[.slice none 0 0, .slice none 0 0, .slice none 0 0, .slice none 0 0] 27) = W at X Y HH R3 BB sz
  have sza : w.heap.size + 2 ≤ W.heap.size := by omega
  clear sz
  obtain ⟨x0, x1, x2, x3, xx0, xx1, xx2, xx3⟩ := X.cells
  have OH := ownHeap_any W lo _ C.h HH b0 b1 b2
  go_enter Tryz.func93, Tryz.ntmps93
  go_wp2_with fail
  (try rw [hW])
  refine OH.mono ?_; rintro e w1 ⟨vv, rfl, HN, hb1⟩
  have hNo := HN
  obtain ⟨B0, u0, e0, B1, u1, e1, B2, u2, e2, rfl, ⟨s0, s1, s2⟩, _, _, _, a01, a02, a12⟩ := hNo.open_
  have X1 := ((((X.below hb1).set0 (.slice B0 u0 e0)).set1 (.slice B1 u1 e1)).set2 (.slice B2 u2 e2))
  have Y1 := (((Y.below hb1).other (p := ⟨w.heap.size, 0, none⟩) (by simp) (.slice B0 u0 e0)).other (p := ⟨w.heap.size, 1, none⟩) (by simp) (.slice B1 u1 e1)).other (p := ⟨w.heap.size, 2, none⟩) (by simp) (.slice B2 u2 e2)
  have S3 := (((R3.below hb1).setE o3 0 (.slice B0 u0 e0)).setE o3 1 (.slice B1 u1 e1)).setE o3 2 (.slice B2 u2 e2)
  have T0 := ((s0.setE (own_neR (b := w.heap.size) s0 (.inl (by omega))) 0 (.slice B0 u0 e0)).setE (own_neR (b := w.heap.size) s0 (.inl (by omega))) 1 (.slice B1 u1 e1)).setE (own_neR (b := w.heap.size) s0 (.inl (by omega))) 2 (.slice B2 u2 e2)
  have T1 := ((s1.setE (own_neR (b := w.heap.size) s1 (.inl (by omega))) 0 (.slice B0 u0 e0)).setE (own_neR (b := w.heap.size) s1 (.inl (by omega))) 1 (.slice B1 u1 e1)).setE (own_neR (b := w.heap.size) s1 (.inl (by omega))) 2 (.slice B2 u2 e2)
  have T2 := ((s2.setE (own_neR (b := w.heap.size) s2 (.inl (by omega))) 0 (.slice B0 u0 e0)).setE (own_neR (b := w.heap.size) s2 (.inl (by omega))) 1 (.slice B1 u1 e1)).setE (own_neR (b := w.heap.size) s2 (.inl (by omega))) 2 (.slice B2 u2 e2)
  have BB1 := (((BB.trans (hb1.mono BB.size)).setCell (p := ⟨w.heap.size, 0, none⟩) (Nat.le_refl _) (.slice B0 u0 e0)).setCell (p := ⟨w.heap.size, 1, none⟩) (Nat.le_refl _) (.slice B1 u1 e1)).setCell (p := ⟨w.heap.size, 2, none⟩) (Nat.le_refl _) (.slice B2 u2 e2)
  have z1 := hb1.size
  have sz1 : (((w1.setCell ⟨w.heap.size, 0, none⟩ (.slice B0 u0 e0)).setCell ⟨w.heap.size, 1, none⟩ (.slice B1 u1 e1)).setCell ⟨w.heap.size, 2, none⟩ (.slice B2 u2 e2)).heap.size = w1.heap.size := by rw [setSize, setSize, setSize]
  obtain ⟨j0, j1, j2, j3, jj0, jj1, jj2, jj3⟩ := (X.below hb1).cells
  generalize hW1 : ((w1.setCell ⟨w.heap.size, 0, none⟩ (.slice B0 u0 e0)).setCell ⟨w.heap.size, 1, none⟩ (.slice B1 u1 e1)).setCell ⟨w.heap.size, 2, none⟩ (.slice B2 u2 e2) = W1 at X1 Y1 S3 T0 T1 T2 BB1 sz1
  have szb : W.heap.size ≤ W1.heap.size ∧ w1.heap.size ≤ W1.heap.size := by omega
  clear sz1
  obtain ⟨k0, k1, k2, k3, kk0, kk1, kk2, kk3⟩ := (X1.alloc (.cells #[] 3)).cells
  clear X Y HH R3 BB hb1 HN s0 s1 s2 OH
  go_wp2_with (at_builtin; refine wpList_append_row rfl _ _ rfl (some ⟨W1.heap.size, 0, none⟩) W1.heap.size rfl (Row.empty W1 W1.heap.size (Nat.le_refl _)) (by simp) lo A3 n3 c3 C.c rfl (S3.alloc (.cells #[] 3)) l3 b3' ?_)
  intro B3 dB3 wB3 qB3 hbB3
  have hbB3' : Below W1.heap.size W1 wB3 := ((Below.refl _ _).alloc (Nat.le_refl _) (.cells #[] 3)).trans (hbB3.mono (by simp))

  have X2 := (X1.below hbB3').set3 (.slice B3 n3 dB3)
  have Y2 := (Y1.below hbB3').other (p := ⟨w.heap.size, 3, none⟩) (by simp) (.slice B3 n3 dB3)
  have V0 := (T0.below hbB3').setE (own_neR (b := w.heap.size) T0 (.inl (by omega))) 3 (.slice B3 n3 dB3)
  have V1 := (T1.below hbB3').setE (own_neR (b := w.heap.size) T1 (.inl (by omega))) 3 (.slice B3 n3 dB3)
  have V2 := (T2.below hbB3').setE (own_neR (b := w.heap.size) T2 (.inl (by omega))) 3 (.slice B3 n3 dB3)
  have V3 := qB3.setE (own_neR (b := w.heap.size) qB3 (.inl (by omega))) 3 (.slice B3 n3 dB3)
  have BB2 := (BB1.trans (hbB3'.mono BB1.size)).setCell (p := ⟨w.heap.size, 3, none⟩) (Nat.le_refl _) (.slice B3 n3 dB3)
  have a03 := apart_of T0 qB3 (Nat.le_refl _)
  have a13 := apart_of T1 qB3 (Nat.le_refl _)
  have a23 := apart_of T2 qB3 (Nat.le_refl _)
  obtain ⟨g0, g1, g2, g3, gg0, gg1, gg2, gg3⟩ := (X1.below hbB3').cells
  generalize hW2 : wB3.setCell ⟨w.heap.size, 3, none⟩ (.slice B3 n3 dB3) = W2 at X2 Y2 V0 V1 V2 V3 BB2
  obtain ⟨f0, f1, f2, f3, _⟩ := X2.cells
  obtain ⟨y0, y1, y2, y3, yy0, yy1, yy2, yy3⟩ := Y2.cells
  have HV : Hv W2 (w.heap.size + 2) (.agg #[.slice B0 u0 e0, .slice B1 u1 e1, .slice B2 u2 e2]) C.h := ⟨_, _, _, rfl, V0.mono (by omega), V1.mono (by omega), V2.mono (by omega), a01, a02, a12⟩
  have cd := copyC_done (w := w) (C := C) HV (V3.mono (by omega)) ⟨a03, a13, a23⟩ BB2
  clear j0 j1 j2 j3 jj0 jj1 jj2 jj3 k0 k1 k2 k3 kk0 kk1 kk2 kk3 X1 Y1 S3 T0 T1 T2 BB1 hbB3 hbB3' qB3
  go_wp2_with fail
  (try rw [hW2])
  refine bodyPost_ret (v := .agg #[.slice B0 u0 e0, .slice B1 u1 e1, .slice B2 u2 e2, .slice B3 n3 dB3]) ?_ rfl ⟨_, rfl, cd.1, cd.2⟩
  simp [results, Tryz.results93, go_sem, y0, y1, y2, y3]
end Go.Proofs.YtfoimicbmkiigaaGreat
