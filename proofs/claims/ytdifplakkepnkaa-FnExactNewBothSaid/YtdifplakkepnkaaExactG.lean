/- The helpers of the exact laws over collectors: szGc, toGc, eqGc, markGc, heldGc; what a region with a result's variable leaves. -/
import Derived.Test.YtdifplakkepnkaaExactE
import Derived.Test.YtdifplakkepnkaaGSms
import Derived.Deep.CutRange
namespace Go.Proofs.Ytdifplakkepnkaa
open Go.RowKit

/-- A collector that is an argument. -/
def GArg (w : World) (B : Nat) (v : Value) (G : Gp) : Prop := ∃ A c, v = .agg #[.int .i64 G.p, .slice A G.c.length c, .int .i64 G.a] ∧ Ints w B A G.c.length G.c
def GIn (w : World) (v : Value) (G : Gp) : Prop := GArg w w.heap.size v G ∧ G.c.length ≤ 9223372036854775807
theorem B_al {W x : World} (h : Below W.heap.size W x) (o : Obj) : Below W.heap.size W (x.alloc o) := h.alloc h.size o
theorem B_dr {W x : World} (h : Below W.heap.size W x) : Below W.heap.size W x.drew := h.drew
theorem B_th {W x y : World} (h : Below W.heap.size W x) (k : Below x.heap.size x y) : Below W.heap.size W y := h.trans (k.mono h.size)
theorem B_set {W x z : World} (h : Below W.heap.size W x) (k : Below W.heap.size W z) (o : Nat) (u : Value) : Below W.heap.size W (x.setCell ⟨z.heap.size, o, none⟩ u) := h.setCell (p := ⟨z.heap.size, o, none⟩) k.size u
theorem Blk3.drewG {w : World} {b : Nat} {x y z : Value} {t : TypeId} (h : Blk3 w b x y z t) : Blk3 w.drew b x y z t := h
theorem Blk4.drewG {w : World} {b : Nat} {x y z u : Value} {t : TypeId} (h : Blk4 w b x y z u t) : Blk4 w.drew b x y z u t := h
theorem Cv.drewG {w : World} {lo : Nat} {v : Value} {C : Cp} (h : Cv w lo v C) : Cv w.drew lo v C := h
theorem row_apart_new {w w' : World} {lo lo' : Nat} {v u : Value} {xs ys : List Int} (hv : Row w lo v xs) (hu : Row w' lo' u ys) (h : w.heap.size ≤ lo') : u.ownBlock = none ∨ u.ownBlock ≠ v.ownBlock := by
  rcases row_apart hv hu h with h1 | h1
  · cases hu9 : u.ownBlock
    · exact .inl rfl
    · exact .inr (fun e => by rw [h1] at e; cases e)
  · exact .inr (fun e => h1 e.symm)
theorem Blk3.keptG {w w' : World} {b : Nat} {x y z : Value} {t : TypeId} {row : Option Nat} (h : Blk3 w b x y z t) (hg : w.grownBy w' row) (hb : some b ≠ row) : Blk3 w' b x y z t := (hg.block b h.lt hb).trans h
theorem Blk4.keptG {w w' : World} {b : Nat} {x y z u : Value} {t : TypeId} {row : Option Nat} (h : Blk4 w b x y z u t) (hg : w.grownBy w' row) (hb : some b ≠ row) : Blk4 w' b x y z u t := (hg.block b h.lt hb).trans h
/-- A contract's answer, its row under names. -/
def OptG (w : World) (ok : Bool) (G : Gp) (e : Ending) (w' : World) : Prop := ∃ A n c, e = .returned (.tuple #[.agg #[.int .i64 G.p, .slice A n c, .int .i64 G.a], .bool ok]) ∧ Row w' w.heap.size (.slice A n c) G.c ∧ G.c.length = n ∧ Below w.heap.size w w'
theorem optG_of {P : Program} {f : FuncId} {args : Array Value} {w : World} {o : Option Gp} (h : Calls P f args w (OptGv w o)) : Calls P f args w (OptG w o.isSome (o.getD Gp.zero)) := by
  refine h.mono ?_
  rintro e w' ⟨v, rfl, hg, hb⟩
  obtain ⟨A, n, c, rfl, hr, hl, _⟩ := hg.open_
  exact ⟨A, n, c, rfl, hr, hl.out, hb⟩
/-- A collector came back into a variable of its own. -/
def GotG (W0 : World) (G : Gp) (b : Bool) (p e1 : Value) (w' : World) : Prop :=
  ∃ (bk : Nat) (A : Option Addr) (n c : Nat), p = .pointer (some ⟨bk, 0, none⟩) ∧ e1 = .bool b ∧ Blk3 w' bk (.int .i64 G.p) (.slice A n c) (.int .i64 G.a) 32 ∧ Row w' W0.heap.size (.slice A n c) G.c ∧ G.c.length = n ∧ (Value.slice A n c).ownBlock ≠ some bk ∧ W0.heap.size ≤ bk ∧ Below W0.heap.size W0 w'
theorem got_newG {W0 w' : World} {lo n c : Nat} {A : Option Addr} {G : Gp} {b : Bool} (hN : Row w' lo (.slice A n c) G.c) (hn : G.c.length = n) (hl : W0.heap.size ≤ lo) (hB : Below W0.heap.size W0 w') :
    GotG W0 G b (.pointer (some ⟨w'.heap.size, 0, none⟩)) (.bool b) (w'.alloc (.cells #[.int .i64 G.p, .slice A n c, .int .i64 G.a] 32)) :=
  ⟨_, _, _, _, rfl, rfl, Blk3.new _ _ _ _ _, (hN.alloc _).mono hl, hn, own_new hN (Nat.le_refl _), hB.size, B_al hB _⟩
theorem got_setG {W0 w' : World} {lo zb n c : Nat} {A : Option Addr} {u0 u1 u2 : Value} {G : Gp} {b : Bool} (hZ : Blk3 w' zb u0 u1 u2 32) (hN : Row w' lo (.slice A n c) G.c) (hn : G.c.length = n) (hz : W0.heap.size ≤ zb) (hl : zb < lo) (hB : Below W0.heap.size W0 w') :
    GotG W0 G b (.pointer (some ⟨zb, 0, none⟩)) (.bool b) (((w'.setCell ⟨zb, 0, none⟩ (.int .i64 G.p)).setCell ⟨zb, 1, none⟩ (.slice A n c)).setCell ⟨zb, 2, none⟩ (.int .i64 G.a)) :=
  ⟨_, _, _, _, rfl, rfl, ((hZ.set0 _).set1 _).set2 _, (((hN.other (a := ⟨zb, 0, none⟩) (own_ne hN hl) _).other (a := ⟨zb, 1, none⟩) (own_ne hN hl) _).other (a := ⟨zb, 2, none⟩) (own_ne hN hl) _).mono (by omega), hn, own_ne hN hl, hz, ((hB.setCell (p := ⟨zb, 0, none⟩) hz _).setCell (p := ⟨zb, 1, none⟩) hz _).setCell (p := ⟨zb, 2, none⟩) hz _⟩

set_option maxRecDepth 100000 in
set_option maxHeartbeats 2000000 in
theorem szGc_any (w : World) (p a : Int) (A : Option Addr) (n c : Nat) (left : Int) (h0 : 0 ≤ left) (h1 : left ≤ 1048576) (hn : n ≤ 9223372036854775807) :
    Calls Try.prog 59 #[.agg #[.int .i64 p, .slice A n c, .int .i64 a], .int .i64 left] w (RetI w (szV n left)) := by
  have fin : Below w.heap.size w (w.alloc (.cells #[.int .i64 p, .slice A n c, .int .i64 a] 54)) := (Below.refl _ _).alloc (Nat.le_refl _) _
  have X := Blk3.new w (.int .i64 p) (.slice A n c) (.int .i64 a) 54
  obtain ⟨x0, x1, x2, _⟩ := X.cells
  have S := szIntS_any (w.alloc (.cells #[.int .i64 p, .slice A n c, .int .i64 a] 54)) A n c left h0 h1 hn
  by_cases e : (n : Int) ≤ left
  · have f : szV n left = left - n := by unfold szV; rw [if_pos e]
    rw [f] at S ⊢
    have g1 : ¬ (left - n < 0) := by omega
    clear f e
    go_enter Try.func59, Try.ntmps59
    go_wp2_with fail
    refine S.mono ?_; rintro e w' ⟨rfl, rfl⟩
    go_wp2_with fail
    go_ret
    exact ⟨rfl, fin⟩
  · have f : szV n left = -1 := by unfold szV; rw [if_neg e]
    rw [f] at S ⊢
    clear f e
    go_enter Try.func59, Try.ntmps59
    go_wp2_with fail
    refine S.mono ?_; rintro e w' ⟨rfl, rfl⟩
    go_wp2_with fail
    go_ret
    exact ⟨rfl, fin⟩

set_option maxRecDepth 100000 in
set_option maxHeartbeats 3000000 in
theorem toGc_any (w : World) (B : Nat) (hBw : B ≤ w.heap.size) (p a : Int) (A : Option Addr) (c : Nat) (cc : List Int) (hI : Ints w B A cc.length cc) (hb : cc.length ≤ 1048576) :
    Calls Try.prog 61 #[.agg #[.int .i64 p, .slice A cc.length c, .int .i64 a]] w (NewGv w ⟨p, cc, a⟩) := by
  have X := ((Blk3.new w (.int .i64 p) (.slice A cc.length c) (.int .i64 a) 54).alloc (.cells #[.int .i64 0, .slice none 0 0, .int .i64 0] 32)).alloc (.cells #[.int .i64 0, .slice none 0 0, .int .i64 0] 32)
  have Y := (Blk3.new_at (w := w.alloc (.cells #[.int .i64 p, .slice A cc.length c, .int .i64 a] 54)) (b := w.heap.size + 1) (by simp) (.int .i64 0) (.slice none 0 0) (.int .i64 0) 32).alloc (.cells #[.int .i64 0, .slice none 0 0, .int .i64 0] 32)
  have Z := Blk3.new_at (w := (w.alloc (.cells #[.int .i64 p, .slice A cc.length c, .int .i64 a] 54)).alloc (.cells #[.int .i64 0, .slice none 0 0, .int .i64 0] 32)) (b := w.heap.size + 1 + 1) (by simp) (.int .i64 0) (.slice none 0 0) (.int .i64 0) 32
  have BB : Below w.heap.size w (((w.alloc (.cells #[.int .i64 p, .slice A cc.length c, .int .i64 a] 54)).alloc (.cells #[.int .i64 0, .slice none 0 0, .int .i64 0] 32)).alloc (.cells #[.int .i64 0, .slice none 0 0, .int .i64 0] 32)) := (((Below.refl _ _).alloc (Nat.le_refl _) _).alloc (by simp) _).alloc (by simp <;> omega) _
  have sz : w.heap.size + 3 ≤ (((w.alloc (.cells #[.int .i64 p, .slice A cc.length c, .int .i64 a] 54)).alloc (.cells #[.int .i64 0, .slice none 0 0, .int .i64 0] 32)).alloc (.cells #[.int .i64 0, .slice none 0 0, .int .i64 0] 32)).heap.size := by simp
  have X1 := X.other (p := ⟨w.heap.size + 1 + 1, 0, none⟩) (by simp; omega) (.int .i64 p)
  have Y1 := Y.other (p := ⟨w.heap.size + 1 + 1, 0, none⟩) (by simp) (.int .i64 p)
  have Z1 := Z.set0 (.int .i64 p)
  have B1 := BB.setCell (p := ⟨w.heap.size + 1 + 1, 0, none⟩) (by simp; omega) (.int .i64 p)
  have sz1 : w.heap.size + 3 ≤ ((((w.alloc (.cells #[.int .i64 p, .slice A cc.length c, .int .i64 a] 54)).alloc (.cells #[.int .i64 0, .slice none 0 0, .int .i64 0] 32)).alloc (.cells #[.int .i64 0, .slice none 0 0, .int .i64 0] 32)).setCell ⟨w.heap.size + 1 + 1, 0, none⟩ (.int .i64 p)).heap.size := by simp [World.setCell]
  have I1 := (hI.below (B1.mono hBw)).mono (B' := ((((w.alloc (.cells #[.int .i64 p, .slice A cc.length c, .int .i64 a] 54)).alloc (.cells #[.int .i64 0, .slice none 0 0, .int .i64 0] 32)).alloc (.cells #[.int .i64 0, .slice none 0 0, .int .i64 0] 32)).setCell ⟨w.heap.size + 1 + 1, 0, none⟩ (.int .i64 p)).heap.size) (by omega)
  generalize hW : (((w.alloc (.cells #[.int .i64 p, .slice A cc.length c, .int .i64 a] 54)).alloc (.cells #[.int .i64 0, .slice none 0 0, .int .i64 0] 32)).alloc (.cells #[.int .i64 0, .slice none 0 0, .int .i64 0] 32)) = W at X Y Z BB sz X1 Y1 Z1 B1 sz1 I1
  obtain ⟨x0, x1, x2, _⟩ := X.cells
  obtain ⟨z0, z1, z2, zz0, zz1, zz2⟩ := Z.cells
  generalize hW1 : W.setCell ⟨w.heap.size + 1 + 1, 0, none⟩ (.int .i64 p) = W1 at X1 Y1 Z1 B1 sz1 I1
  obtain ⟨i0, i1, i2, _⟩ := X1.cells
  have TI := toIntS_any W1 A cc.length c cc I1 hb
  clear X Y Z BB sz
  go_enter Try.func61, Try.ntmps61
  go_wp2_with fail
  (try rw [hW1])
  refine TI.mono ?_; rintro e w2 ⟨A', c', rfl, hr, hb2⟩
  have zb := hb2.size
  have X2 := (X1.below hb2).other (p := ⟨w.heap.size + 1 + 1, 1, none⟩) (by simp; omega) (.slice A' cc.length c')
  have Y2 := (Y1.below hb2).other (p := ⟨w.heap.size + 1 + 1, 1, none⟩) (by simp) (.slice A' cc.length c')
  have Z2 := (Z1.below hb2).set1 (.slice A' cc.length c')
  have Y3 := Y2.other (p := ⟨w.heap.size + 1 + 1, 2, none⟩) (by simp) (.int .i64 a)
  have Z3 := Z2.set2 (.int .i64 a)
  have hr1 := (hr.other (a := ⟨w.heap.size + 1 + 1, 1, none⟩) (own_ne hr (by show w.heap.size + 1 + 1 < _; omega)) (.slice A' cc.length c')).other (a := ⟨w.heap.size + 1 + 1, 2, none⟩) (own_ne hr (by show w.heap.size + 1 + 1 < _; omega)) (.int .i64 a)
  have B2 := ((B1.trans (hb2.mono (by omega))).setCell (p := ⟨w.heap.size + 1 + 1, 1, none⟩) (by simp; omega) (.slice A' cc.length c')).setCell (p := ⟨w.heap.size + 1 + 1, 2, none⟩) (by simp; omega) (.int .i64 a)
  obtain ⟨a0, a1, a2, aa0, aa1, aa2⟩ := (Z1.below hb2).cells
  obtain ⟨b0, b1, b2, bb0, bb1, bb2⟩ := X2.cells
  obtain ⟨e0, e1, e2, ee0, ee1, ee2⟩ := Z2.cells
  obtain ⟨f0, f1, f2, ff0, ff1, ff2⟩ := Z3.cells
  obtain ⟨y0, y1, y2, yy0, yy1, yy2⟩ := Y3.cells
  obtain ⟨hZ, hB⟩ := g_done (w := w) (G := ⟨p, cc, a⟩) (b := w.heap.size + 1) (hr1.mono (lo' := w.heap.size + 3) (by omega)) (by omega) (fun e => by have := (hr1.lt _ e).1; omega) (by omega) B2 (.int .i64 p) (.slice A' cc.length c') (.int .i64 a)
  clear hr hr1 B1 B2 I1 hI TI
  go_wp2_with fail
  refine bodyPost_ret (v := .agg #[.int .i64 p, .slice A' cc.length c', .int .i64 a]) ?_ rfl ⟨_, rfl, hZ, hB⟩
  simp [results, Try.results61, go_sem, y0, y1, y2]

theorem toGc_row (w : World) (B : Nat) (hBw : B ≤ w.heap.size) (p a : Int) (A : Option Addr) (c : Nat) (cc : List Int) (hI : Ints w B A cc.length cc) (hb : cc.length ≤ 1048576) :
    Calls Try.prog 61 #[.agg #[.int .i64 p, .slice A cc.length c, .int .i64 a]] w fun e w' => ∃ A' c', e = .returned (.agg #[.int .i64 p, .slice A' cc.length c', .int .i64 a]) ∧ Row w' w.heap.size (.slice A' cc.length c') cc ∧ Below w.heap.size w w' := by
  refine (toGc_any w B hBw p a A c cc hI hb).mono ?_
  rintro e w' ⟨v, rfl, hg, h9⟩
  obtain ⟨A', n, c', rfl, hr, hl, _⟩ := hg.open_
  have := hl.out
  dsimp only at this hr
  subst this
  exact ⟨A', c', rfl, hr, h9⟩

set_option maxRecDepth 100000 in
set_option maxHeartbeats 2000000 in
theorem eqGc_same (w : World) (lo lo' : Nat) (v v' : Value) (G : Gp) (h : Gv w lo v G) (h' : Gv w lo' v' G) : Calls Try.prog 49 #[v, v'] w (RetB w true) := by
  obtain ⟨p, cc, a⟩ := G
  obtain ⟨A, n, c, rfl, r, l, m, _⟩ := h.open_
  obtain ⟨A', n', c', rfl, r', l', m', _⟩ := h'.open_
  dsimp only at r l r' l' ⊢
  have X := (Blk3.new w (.int .i64 p) (.slice A n c) (.int .i64 a) 32).alloc (.cells #[.int .i64 p, .slice A' n' c', .int .i64 a] 32)
  have Y := Blk3.new_at (w := w.alloc (.cells #[.int .i64 p, .slice A n c, .int .i64 a] 32)) (b := w.heap.size + 1) (by simp) (.int .i64 p) (.slice A' n' c') (.int .i64 a) 32
  have R := (r.alloc (.cells #[.int .i64 p, .slice A n c, .int .i64 a] 32)).alloc (.cells #[.int .i64 p, .slice A' n' c', .int .i64 a] 32)
  have R' := (r'.alloc (.cells #[.int .i64 p, .slice A n c, .int .i64 a] 32)).alloc (.cells #[.int .i64 p, .slice A' n' c', .int .i64 a] 32)
  have BB : Below w.heap.size w ((w.alloc (.cells #[.int .i64 p, .slice A n c, .int .i64 a] 32)).alloc (.cells #[.int .i64 p, .slice A' n' c', .int .i64 a] 32)) := ((Below.refl _ _).alloc (Nat.le_refl _) _).alloc (by simp) _
  generalize hW : (w.alloc (.cells #[.int .i64 p, .slice A n c, .int .i64 a] 32)).alloc (.cells #[.int .i64 p, .slice A' n' c', .int .i64 a] 32) = W at X Y R R' BB
  obtain ⟨x0, x1, x2, _⟩ := X.cells
  obtain ⟨y0, y1, y2, _⟩ := Y.cells
  have E := eqIntS_any W lo lo' A A' n c n' c' cc cc R l.out m R' l'.out m'
  simp only [decide_true] at E
  have hp : (p != p) = false := by simp
  have ha : (a != a) = false := by simp
  clear h h' r r' R R' X Y l l'
  go_enter Try.func49, Try.ntmps49
  go_wp2_with fail
  (try rw [hW])
  refine E.mono ?_; rintro e w1 ⟨rfl, nq, rfl⟩
  have d2 := cellDN x2 nq
  have e2 := cellDN y2 nq
  have B1 := below_drewN BB nq
  go_wp2_with fail
  go_ret
  exact ⟨rfl, B1⟩

set_option maxRecDepth 100000 in
set_option maxHeartbeats 2000000 in
theorem markGc_any (w : World) (lo : Nat) (p a : Int) (A : Option Addr) (n c : Nat) (cc : List Int) (h : Row w lo (.slice A n c) cc) (hn : cc.length = n) (hm : n ≤ 1048576) (k : Nat) (hk : k ≤ 1073741824) :
    Calls Try.prog 55 #[.agg #[.int .i64 p, .slice A n c, .int .i64 a], .int .i64 (k : Int)] w fun e w' => e = .returned (.int .i64 ((k + n : Nat) : Int)) ∧ Row w' lo (.slice A n c) (seqI k n) ∧ w.grownBy w' (Value.slice A n c).ownBlock := by
  have X := Blk3.new w (.int .i64 p) (.slice A n c) (.int .i64 a) 32
  have R := h.alloc (.cells #[.int .i64 p, .slice A n c, .int .i64 a] 32)
  have K := markIntS_any _ _ _ _ _ _ R hn hm k hk
  obtain ⟨x0, x1, x2, _⟩ := X.cells
  go_enter Try.func55, Try.ntmps55
  go_wp2_with fail
  refine K.mono ?_; rintro e w2 ⟨rfl, Q3, g2, z2⟩
  go_wp2_with fail
  go_ret
  exact ⟨rfl, Q3, grown_trans (grown_alloc ⟨rfl, rfl, rfl, Nat.le_refl _, fun _ _ _ => rfl⟩ _) g2⟩

set_option maxRecDepth 100000 in
set_option maxHeartbeats 2000000 in
theorem heldGc_any (w : World) (lo : Nat) (p a : Int) (A : Option Addr) (n c : Nat) (k : Nat) (h : Row w lo (.slice A n c) (seqI k n)) (hm : n ≤ 1048576) (hk : k ≤ 1073741824) :
    Calls Try.prog 57 #[.agg #[.int .i64 p, .slice A n c, .int .i64 a], .int .i64 (k : Int)] w (RetI w ((k + n : Nat) : Int)) := by
  have X := Blk3.new w (.int .i64 p) (.slice A n c) (.int .i64 a) 32
  have R := h.alloc (.cells #[.int .i64 p, .slice A n c, .int .i64 a] 32)
  have K := heldIntS_any _ _ _ _ _ _ R (by rw [seqI_len]) hm k hk
  have f3 : heldR k (seqI k n) = ((k + n : Nat) : Int) := by unfold heldR; simp [seqI_len]
  rw [f3] at K
  have g1 : ¬ (((k + n : Nat) : Int) < 0) := by omega
  have hB : Below w.heap.size w (w.alloc (.cells #[.int .i64 p, .slice A n c, .int .i64 a] 32)) := (Below.refl _ _).alloc (Nat.le_refl _) _
  obtain ⟨x0, x1, x2, _⟩ := X.cells
  go_enter Try.func57, Try.ntmps57
  go_wp2_with fail
  refine K.mono ?_; rintro e w2 ⟨rfl, rfl⟩
  go_wp2_with fail
  go_ret
  exact ⟨rfl, hB⟩

/-- A store, and then a collector, are marked. -/
theorem markSG (C : Cp) (n : Nat) (hC : ShortC C) (hn : n ≤ 1048576) : ∃ (N1 N2 : Int) (ms : List Int), ¬ (N1 < 0) ∧ ¬ (N2 < 0) ∧ (N2 != N2) = false ∧
    (∀ (w : World) (lo : Nat) (v : Value), Cv w lo v C → lo ≤ w.heap.size → Calls Try.prog 22 #[v, .int .i64 1] w (MarkedC w lo 1 N1 v C)) ∧
    (∀ (w : World) (lo : Nat) (v : Value), Cv w lo v (markC 1 C) → Calls Try.prog 56 #[v, .int .i64 1] w (RetI w N1)) ∧
    (∀ (w : World) (lo : Nat) (p a : Int) (A : Option Addr) (c : Nat) (cc : List Int), Row w lo (.slice A n c) cc → cc.length = n → Calls Try.prog 55 #[.agg #[.int .i64 p, .slice A n c, .int .i64 a], .int .i64 N1] w fun e w' => e = .returned (.int .i64 N2) ∧ Row w' lo (.slice A n c) ms ∧ w.grownBy w' (Value.slice A n c).ownBlock) ∧
    (∀ (w : World) (lo : Nat) (p a : Int) (A : Option Addr) (c : Nat), Row w lo (.slice A n c) ms → Calls Try.prog 57 #[.agg #[.int .i64 p, .slice A n c, .int .i64 a], .int .i64 N1] w (RetI w N2)) := by
  obtain ⟨b0, b1, b2, b3⟩ := hC
  have hs : 1 + sizeC C ≤ 1073741824 := by unfold sizeC sizeH; omega
  exact ⟨((1 + sizeC C : Nat) : Int), ((1 + sizeC C + n : Nat) : Int), seqI (1 + sizeC C) n, by omega, by omega, by simp, fun w lo v hv hlo => markColored_any w lo v C hv hlo b0 b1 b2 b3, fun w lo v hv => heldColored_any w lo v C hv b0 b1 b2 b3,
    fun w lo p a A c cc h h' => markGc_any w lo p a A n c cc h h' hn _ hs, fun w lo p a A c h => heldGc_any w lo p a A n c _ h hn hs⟩
/-- A collector is marked. -/
theorem markG1 (n : Nat) (hn : n ≤ 1048576) : ∃ (N : Int) (ms : List Int), ¬ (N < 0) ∧ (N != N) = false ∧
    (∀ (w : World) (lo : Nat) (p a : Int) (A : Option Addr) (c : Nat) (cc : List Int), Row w lo (.slice A n c) cc → cc.length = n → Calls Try.prog 55 #[.agg #[.int .i64 p, .slice A n c, .int .i64 a], .int .i64 1] w fun e w' => e = .returned (.int .i64 N) ∧ Row w' lo (.slice A n c) ms ∧ w.grownBy w' (Value.slice A n c).ownBlock) ∧
    (∀ (w : World) (lo : Nat) (p a : Int) (A : Option Addr) (c : Nat), Row w lo (.slice A n c) ms → Calls Try.prog 57 #[.agg #[.int .i64 p, .slice A n c, .int .i64 a], .int .i64 1] w (RetI w N)) :=
  ⟨((1 + n : Nat) : Int), seqI 1 n, by omega, by simp, fun w lo p a A c cc h h' => markGc_any w lo p a A n c cc h h' hn 1 (by omega), fun w lo p a A c h => heldGc_any w lo p a A n c 1 h hn (by omega)⟩
end Go.Proofs.Ytdifplakkepnkaa
