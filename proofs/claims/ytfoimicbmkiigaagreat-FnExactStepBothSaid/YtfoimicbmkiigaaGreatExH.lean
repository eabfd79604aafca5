import Derived.Test.YtfoimicbmkiigaaGreatExactE
import Derived.Test.YtfoimicbmkiigaaGreatGSms
import Derived.Deep.CutRange
import Derived.Test.YtfoimicbmkiigaaGreatBthA
import Derived.Test.YtfoimicbmkiigaaGreatExB
/- The helpers of the exact laws over collectors: szGc, toGc, eqGc, markGc, heldGc; what a region with a result's variable leaves. -/
namespace Go.Proofs.YtfoimicbmkiigaaGreat
open Go.RowKit

/-- A collector that is an argument. -/
def GArg (w : World) (B : Nat) (v : Value) (G : Gp) : Prop := ∃ A c, v = .agg #[.int .i64 G.p, .slice A G.c.length c, .int .i64 G.a] ∧ Ints w B A G.c.length G.c
def GIn (w : World) (v : Value) (G : Gp) : Prop := GArg w w.heap.size v G ∧ G.c.length ≤ 9223372036854775807
theorem B_al {W x : World} (h : Below W.heap.size W x) (o : Obj) : Below W.heap.size W (x.alloc o) := h.alloc h.size o
theorem B_dr {W x : World} (h : Below W.heap.size W x) : Below W.heap.size W x.drew := h.drew
theorem B_th {W x y : World} (h : Below W.heap.size W x) (k : Below x.heap.size x y) : Below W.heap.size W y := h.trans (k.mono h.size)
theorem B_set {W x z : World} (h : Below W.heap.size W x) (k : Below W.heap.size W z) (o : Nat) (u : Value) : Below W.heap.size W (x.setCell ⟨z.heap.size, o, none⟩ u) := h.setCell (p := ⟨z.heap.size, o, none⟩) k.size u
theorem Blk3.drewG {w : World} {b : Nat} {x y z : Value} {t : TypeId} (h : Blk3 w b x y z t) : Blk3 w.drew b x y z t := h
theorem Blk4.drewG {w : World} {b : Nat} {x y z u : Value} {t : TypeId} (h : Blk4 w b x y z u t) : Blk4 w.drew b x y z u t := h
theorem Cv.drewG {w : World} {lo : Nat} {v : Value} {C : Cp} (h : Cv w lo v C) : Cv w.drew lo v C := h
theorem row_apart_new {w w' : World} {lo lo' : Nat} {v u : Value} {xs ys : List Int} (hv : Row w lo v xs) (hu : Row w' lo' u ys) (h : w.heap.size ≤ lo') : u.ownBlock = none ∨ u.ownBlock ≠ v.ownBlock := by
  rcases row_apart hv hu h with h1 | h1
  · cases hu9 : u.ownBlock
    · exact .inl rfl
    · exact .inr (fun e => by rw [h1] at e; cases e)
  · exact .inr (fun e => h1 e.symm)
theorem Blk3.keptG {w w' : World} {b : Nat} {x y z : Value} {t : TypeId} {row : Option Nat} (h : Blk3 w b x y z t) (hg : w.grownBy w' row) (hb : some b ≠ row) : Blk3 w' b x y z t := (hg.block b h.lt hb).trans h
theorem Blk4.keptG {w w' : World} {b : Nat} {x y z u : Value} {t : TypeId} {row : Option Nat} (h : Blk4 w b x y z u t) (hg : w.grownBy w' row) (hb : some b ≠ row) : Blk4 w' b x y z u t := (hg.block b h.lt hb).trans h
/-- A contract's answer, its row under names. -/
def OptG (w : World) (ok : Bool) (G : Gp) (e : Ending) (w' : World) : Prop := ∃ A n c, e = .returned (.tuple #[.agg #[.int .i64 G.p, .slice A n c, .int .i64 G.a], .bool ok]) ∧ Row w' w.heap.size (.slice A n c) G.c ∧ G.c.length = n ∧ Below w.heap.size w w'
theorem optG_of {P : Program} {f : FuncId} {args : Array Value} {w : World} {o : Option Gp} (h : Calls P f args w (OptGv w o)) : Calls P f args w (OptG w o.isSome (o.getD Gp.zero)) := by
  refine h.mono ?_
  rintro e w' ⟨v, rfl, hg, hb⟩
  obtain ⟨A, n, c, rfl, hr, hl, _⟩ := hg.open_
  exact ⟨A, n, c, rfl, hr, hl.out, hb⟩
/-- A collector came back into a variable of its own. -/
def GotG (W0 : World) (G : Gp) (b : Bool) (p e1 : Value) (w' : World) : Prop :=
  ∃ (bk : Nat) (A : Option Addr) (n c : Nat), p = .pointer (some ⟨bk, 0, none⟩) ∧ e1 = .bool b ∧ Blk3 w' bk (.int .i64 G.p) (.slice A n c) (.int .i64 G.a) 29 ∧ Row w' W0.heap.size (.slice A n c) G.c ∧ G.c.length = n ∧ (Value.slice A n c).ownBlock ≠ some bk ∧ W0.heap.size ≤ bk ∧ Below W0.heap.size W0 w'
theorem got_newG {W0 w' : World} {lo n c : Nat} {A : Option Addr} {G : Gp} {b : Bool} (hN : Row w' lo (.slice A n c) G.c) (hn : G.c.length = n) (hl : W0.heap.size ≤ lo) (hB : Below W0.heap.size W0 w') :
    GotG W0 G b (.pointer (some ⟨w'.heap.size, 0, none⟩)) (.bool b) (w'.alloc (.cells #[.int .i64 G.p, .slice A n c, .int .i64 G.a] 29)) :=
  ⟨_, _, _, _, rfl, rfl, Blk3.new _ _ _ _ _, (hN.alloc _).mono hl, hn, own_new hN (Nat.le_refl _), hB.size, B_al hB _⟩
theorem got_setG {W0 w' : World} {lo zb n c : Nat} {A : Option Addr} {u0 u1 u2 : Value} {G : Gp} {b : Bool} (hZ : Blk3 w' zb u0 u1 u2 29) (hN : Row w' lo (.slice A n c) G.c) (hn : G.c.length = n) (hz : W0.heap.size ≤ zb) (hl : zb < lo) (hB : Below W0.heap.size W0 w') :
    GotG W0 G b (.pointer (some ⟨zb, 0, none⟩)) (.bool b) (((w'.setCell ⟨zb, 0, none⟩ (.int .i64 G.p)).setCell ⟨zb, 1, none⟩ (.slice A n c)).setCell ⟨zb, 2, none⟩ (.int .i64 G.a)) :=
  ⟨_, _, _, _, rfl, rfl, ((hZ.set0 _).set1 _).set2 _, (((hN.other (a := ⟨zb, 0, none⟩) (own_ne hN hl) _).other (a := ⟨zb, 1, none⟩) (own_ne hN hl) _).other (a := ⟨zb, 2, none⟩) (own_ne hN hl) _).mono (by omega), hn, own_ne hN hl, hz, ((hB.setCell (p := ⟨zb, 0, none⟩) hz _).setCell (p := ⟨zb, 1, none⟩) hz _).setCell (p := ⟨zb, 2, none⟩) hz _⟩

set_option maxRecDepth 100000 in
set_option maxHeartbeats 2000000 in
theorem szGc_any (w : World) (p a : Int) (A : Option Addr) (n c : Nat) (left : Int) (h0 : 0 ≤ left) (h1 : left ≤ 1048576) (hn : n ≤ 9223372036854775807) :
    Calls Tryz.prog 55 #[.agg #[.int .i64 p, .slice A n c, .int .i64 a], .int .i64 left] w (RetI w (szV n left)) := by
  have fin : Below w.heap.size w (w.alloc (.cells #[.int .i64 p, .slice A n c, .int .i64 a] 56)) := (Below.refl _ _).alloc (Nat.le_refl _) _
  have X := Blk3.new w (.int .i64 p) (.slice A n c) (.int .i64 a) 56
  obtain ⟨x0, x1, x2, _⟩ := X.cells
  have S := szIntS_any (w.alloc (.cells #[.int .i64 p, .slice A n c, .int .i64 a] 56)) A n c left h0 h1 hn
  by_cases e : (n : Int) ≤ left
  · have f : szV n left = left - n := by unfold szV; rw [if_pos e]
    rw [f] at S ⊢
    have g1 : ¬ (left - n < 0) := by omega
    clear f e
    go_enter Tryz.func55, Tryz.ntmps55
    go_wp2_with fail
    refine S.mono ?_; rintro e w' ⟨rfl, rfl⟩
    go_wp2_with fail
    go_ret
    exact ⟨rfl, fin⟩
  · have f : szV n left = -1 := by unfold szV; rw [if_neg e]
    rw [f] at S ⊢
    clear f e
    go_enter Tryz.func55, Tryz.ntmps55
    go_wp2_with fail
    refine S.mono ?_; rintro e w' ⟨rfl, rfl⟩
    go_wp2_with fail
    go_ret
    exact ⟨rfl, fin⟩

set_option maxRecDepth 100000 in
set_option maxHeartbeats 3000000 in
theorem toGc_any (w : World) (B : Nat) (hBw : B ≤ w.heap.size) (p a : Int) (A : Option Addr) (c : Nat) (cc : List Int) (hI : Ints w B A cc.length cc) (hb : cc.length ≤ 1048576) :
    Calls Tryz.prog 58 #[.agg #[.int .i64 p, .slice A cc.length c, .int .i64 a]] w (NewGv w ⟨p, cc, a⟩) := by
  have X := ((Blk3.new w (.int .i64 p) (.slice A cc.length c) (.int .i64 a) 56).alloc (.cells #[.int .i64 0, .slice none 0 0, .int .i64 0] 29)).alloc (.cells #[.int .i64 0, .slice none 0 0, .int .i64 0] 29)
  have Y := (Blk3.new_at (w := w.alloc (.cells #[.int .i64 p, .slice A cc.length c, .int .i64 a] 56)) (b := w.heap.size + 1) (by simp) (.int .i64 0) (.slice none 0 0) (.int .i64 0) 29).alloc (.cells #[.int .i64 0, .slice none 0 0, .int .i64 0] 29)
  have Z := Blk3.new_at (w := (w.alloc (.cells #[.int .i64 p, .slice A cc.length c, .int .i64 a] 56)).alloc (.cells #[.int .i64 0, .slice none 0 0, .int .i64 0] 29)) (b := w.heap.size + 1 + 1) (by simp) (.int .i64 0) (.slice none 0 0) (.int .i64 0) 29
  have BB : Below w.heap.size w (((w.alloc (.cells #[.int .i64 p, .slice A cc.length c, .int .i64 a] 56)).alloc (.cells #[.int .i64 0, .slice none 0 0, .int .i64 0] 29)).alloc (.cells #[.int .i64 0, .slice none 0 0, .int .i64 0] 29)) := (((Below.refl _ _).alloc (Nat.le_refl _) _).alloc (by simp) _).alloc (by simp <;> omega) _
  have sz : w.heap.size + 3 ≤ (((w.alloc (.cells #[.int .i64 p, .slice A cc.length c, .int .i64 a] 56)).alloc (.cells #[.int .i64 0, .slice none 0 0, .int .i64 0] 29)).alloc (.cells #[.int .i64 0, .slice none 0 0, .int .i64 0] 29)).heap.size := by simp
  have X1 := X.other (p := ⟨w.heap.size + 1 + 1, 0, none⟩) (by simp; omega) (.int .i64 p)
  have Y1 := Y.other (p := ⟨w.heap.size + 1 + 1, 0, none⟩) (by simp) (.int .i64 p)
  have Z1 := Z.set0 (.int .i64 p)
  have B1 := BB.setCell (p := ⟨w.heap.size + 1 + 1, 0, none⟩) (by simp; omega) (.int .i64 p)
  have sz1 : w.heap.size + 3 ≤ ((((w.alloc (.cells #[.int .i64 p, .slice A cc.length c, .int .i64 a] 56)).alloc (.cells #[.int .i64 0, .slice none 0 0, .int .i64 0] 29)).alloc (.cells #[.int .i64 0, .slice none 0 0, .int .i64 0] 29)).setCell ⟨w.heap.size + 1 + 1, 0, none⟩ (.int .i64 p)).heap.size := by simp [World.setCell]
  have I1 := (hI.below (B1.mono hBw)).mono (B' := ((((w.alloc (.cells #[.int .i64 p, .slice A cc.length c, .int .i64 a] 56)).alloc (.cells #[.int .i64 0, .slice none 0 0, .int .i64 0] 29)).alloc (.cells #[.int .i64 0, .slice none 0 0, .int .i64 0] 29)).setCell ⟨w.heap.size + 1 + 1, 0, none⟩ (.int .i64 p)).heap.size) (by omega)
  generalize hW : (((w.alloc (.cells #[.int .i64 p, .slice A cc.length c, .int .i64 a] 56)).alloc (.cells #[.int .i64 0, .slice none 0 0, .int .i64 0] 29)).alloc (.cells #[.int .i64 0, .slice none 0 0, .int .i64 0] 29)) = W at X Y Z BB sz X1 Y1 Z1 B1 sz1 I1
  obtain ⟨x0, x1, x2, _⟩ := X.cells
  obtain ⟨z0, z1, z2, zz0, zz1, zz2⟩ := Z.cells
  generalize hW1 : W.setCell ⟨w.heap.size + 1 + 1, 0, none⟩ (.int .i64 p) = W1 at X1 Y1 Z1 B1 sz1 I1
  obtain ⟨i0, i1, i2, _⟩ := X1.cells
  have TI := toIntS_any W1 A cc.length c cc I1 hb
  clear X Y Z BB sz
  go_enter Tryz.func58, Tryz.ntmps58
  go_wp2_with fail
  (try rw [hW1])
  refine TI.mono ?_; rintro e w2 ⟨A', c', rfl, hr, hb2⟩
  have zb := hb2.size
  have X2 := (X1.below hb2).other (p := ⟨w.heap.size + 1 + 1, 1, none⟩) (by simp; omega) (.slice A' cc.length c')
  have Y2 := (Y1.below hb2).other (p := ⟨w.heap.size + 1 + 1, 1, none⟩) (by simp) (.slice A' cc.length c')
  have Z2 := (Z1.below hb2).set1 (.slice A' cc.length c')
  have Y3 := Y2.other (p := ⟨w.heap.size + 1 + 1, 2, none⟩) (by simp) (.int .i64 a)
  have Z3 := Z2.set2 (.int .i64 a)
  have hr1 := (hr.other (a := ⟨w.heap.size + 1 + 1, 1, none⟩) (own_ne hr (by show w.heap.size + 1 + 1 < _; omega)) (.slice A' cc.length c')).other (a := ⟨w.heap.size + 1 + 1, 2, none⟩) (own_ne hr (by show w.heap.size + 1 + 1 < _; omega)) (.int .i64 a)
  have B2 := ((B1.trans (hb2.mono (by omega))).setCell (p := ⟨w.heap.size + 1 + 1, 1, none⟩) (by simp; omega) (.slice A' cc.length c')).setCell (p := ⟨w.heap.size + 1 + 1, 2, none⟩) (by simp; omega) (.int .i64 a)
  obtain ⟨a0, a1, a2, aa0, aa1, aa2⟩ := (Z1.below hb2).cells
  obtain ⟨b0, b1, b2, bb0, bb1, bb2⟩ := X2.cells
  obtain ⟨e0, e1, e2, ee0, ee1, ee2⟩ := Z2.cells
  obtain ⟨f0, f1, f2, ff0, ff1, ff2⟩ := Z3.cells
  obtain ⟨y0, y1, y2, yy0, yy1, yy2⟩ := Y3.cells
  obtain ⟨hZ, hB⟩ := g_done (w := w) (G := ⟨p, cc, a⟩) (b := w.heap.size + 1) (hr1.mono (lo' := w.heap.size + 3) (by omega)) (by omega) (fun e => by have := (hr1.lt _ e).1; omega) (by omega) B2 (.int .i64 p) (.slice A' cc.length c') (.int .i64 a)
  clear hr hr1 B1 B2 I1 hI TI
  go_wp2_with fail
  refine bodyPost_ret (v := .agg #[.int .i64 p, .slice A' cc.length c', .int .i64 a]) ?_ rfl ⟨_, rfl, hZ, hB⟩
  simp [results, Tryz.results58, go_sem, y0, y1, y2]

theorem toGc_row (w : World) (B : Nat) (hBw : B ≤ w.heap.size) (p a : Int) (A : Option Addr) (c : Nat) (cc : List Int) (hI : Ints w B A cc.length cc) (hb : cc.length ≤ 1048576) :
    Calls Tryz.prog 58 #[.agg #[.int .i64 p, .slice A cc.length c, .int .i64 a]] w fun e w' => ∃ A' c', e = .returned (.agg #[.int .i64 p, .slice A' cc.length c', .int .i64 a]) ∧ Row w' w.heap.size (.slice A' cc.length c') cc ∧ Below w.heap.size w w' := by
  refine (toGc_any w B hBw p a A c cc hI hb).mono ?_
  rintro e w' ⟨v, rfl, hg, h9⟩
  obtain ⟨A', n, c', rfl, hr, hl, _⟩ := hg.open_
  have := hl.out
  dsimp only at this hr
  subst this
  exact ⟨A', c', rfl, hr, h9⟩

set_option maxRecDepth 100000 in
set_option maxHeartbeats 2000000 in
theorem eqGc_same (w : World) (lo lo' : Nat) (v v' : Value) (G : Gp) (h : Gv w lo v G) (h' : Gv w lo' v' G) : Calls Tryz.prog 61 #[v, v'] w (RetB w true) := by
  obtain ⟨p, cc, a⟩ := G
  obtain ⟨A, n, c, rfl, r, l, m, _⟩ := h.open_
  obtain ⟨A', n', c', rfl, r', l', m', _⟩ := h'.open_
  dsimp only at r l r' l' ⊢
  have X := (Blk3.new w (.int .i64 p) (.slice A n c) (.int .i64 a) 29).alloc (.cells #[.int .i64 p, .slice A' n' c', .int .i64 a] 29)
  have Y := Blk3.new_at (w := w.alloc (.cells #[.int .i64 p, .slice A n c, .int .i64 a] 29)) (b := w.heap.size + 1) (by simp) (.int .i64 p) (.slice A' n' c') (.int .i64 a) 29
  have R := (r.alloc (.cells #[.int .i64 p, .slice A n c, .int .i64 a] 29)).alloc (.cells #[.int .i64 p, .slice A' n' c', .int .i64 a] 29)
  have R' := (r'.alloc (.cells #[.int .i64 p, .slice A n c, .int .i64 a] 29)).alloc (.cells #[.int .i64 p, .slice A' n' c', .int .i64 a] 29)
  have BB : Below w.heap.size w ((w.alloc (.cells #[.int .i64 p, .slice A n c, .int .i64 a] 29)).alloc (.cells #[.int .i64 p, .slice A' n' c', .int .i64 a] 29)) := ((Below.refl _ _).alloc (Nat.le_refl _) _).alloc (by simp) _
  generalize hW : (w.alloc (.cells #[.int .i64 p, .slice A n c, .int .i64 a] 29)).alloc (.cells #[.int .i64 p, .slice A' n' c', .int .i64 a] 29) = W at X Y R R' BB
  obtain ⟨x0, x1, x2, _⟩ := X.cells
  obtain ⟨y0, y1, y2, _⟩ := Y.cells
  have E := eqIntS_any W lo lo' A A' n c n' c' cc cc R l.out m R' l'.out m'
  simp only [decide_true] at E
  have hp : (p != p) = false := by simp
  have ha : (a != a) = false := by simp
  clear h h' r r' R R' X Y l l'
  go_enter Tryz.func61, Tryz.ntmps61
  go_wp2_with fail
  (try rw [hW])
  refine E.mono ?_; rintro e w1 ⟨rfl, nq, rfl⟩
  have d2 := cellDN x2 nq
  have e2 := cellDN y2 nq
  have B1 := below_drewN BB nq
  go_wp2_with fail
  go_ret
  exact ⟨rfl, B1⟩

set_option maxRecDepth 100000 in
set_option maxHeartbeats 2000000 in
theorem markGc_any (w : World) (lo : Nat) (p a : Int) (A : Option Addr) (n c : Nat) (cc : List Int) (h : Row w lo (.slice A n c) cc) (hn : cc.length = n) (hm : n ≤ 1048576) (k : Nat) (hk : k ≤ 1073741824) :
    Calls Tryz.prog 64 #[.agg #[.int .i64 p, .slice A n c, .int .i64 a], .int .i64 (k : Int)] w fun e w' => e = .returned (.int .i64 ((k + n : Nat) : Int)) ∧ Row w' lo (.slice A n c) (seqI k n) ∧ w.grownBy w' (Value.slice A n c).ownBlock := by
  have X := Blk3.new w (.int .i64 p) (.slice A n c) (.int .i64 a) 29
  have R := h.alloc (.cells #[.int .i64 p, .slice A n c, .int .i64 a] 29)
  have K := markIntS_any _ _ _ _ _ _ R hn hm k hk
  obtain ⟨x0, x1, x2, _⟩ := X.cells
  go_enter Tryz.func64, Tryz.ntmps64
  go_wp2_with fail
  refine K.mono ?_; rintro e w2 ⟨rfl, Q3, g2, z2⟩
  go_wp2_with fail
  go_ret
  exact ⟨rfl, Q3, grown_trans (grown_alloc ⟨rfl, rfl, rfl, Nat.le_refl _, fun _ _ _ => rfl⟩ _) g2⟩

set_option maxRecDepth 100000 in
set_option maxHeartbeats 2000000 in
theorem heldGc_any (w : World) (lo : Nat) (p a : Int) (A : Option Addr) (n c : Nat) (k : Nat) (h : Row w lo (.slice A n c) (seqI k n)) (hm : n ≤ 1048576) (hk : k ≤ 1073741824) :
    Calls Tryz.prog 67 #[.agg #[.int .i64 p, .slice A n c, .int .i64 a], .int .i64 (k : Int)] w (RetI w ((k + n : Nat) : Int)) := by
  have X := Blk3.new w (.int .i64 p) (.slice A n c) (.int .i64 a) 29
  have R := h.alloc (.cells #[.int .i64 p, .slice A n c, .int .i64 a] 29)
  have K := heldIntS_any _ _ _ _ _ _ R (by rw [seqI_len]) hm k hk
  have f3 : heldR k (seqI k n) = ((k + n : Nat) : Int) := by unfold heldR; simp [seqI_len]
  rw [f3] at K
  have g1 : ¬ (((k + n : Nat) : Int) < 0) := by omega
  have hB : Below w.heap.size w (w.alloc (.cells #[.int .i64 p, .slice A n c, .int .i64 a] 29)) := (Below.refl _ _).alloc (Nat.le_refl _) _
  obtain ⟨x0, x1, x2, _⟩ := X.cells
  go_enter Tryz.func67, Tryz.ntmps67
  go_wp2_with fail
  refine K.mono ?_; rintro e w2 ⟨rfl, rfl⟩
  go_wp2_with fail
  go_ret
  exact ⟨rfl, hB⟩

/-- A store, and then a collector, are marked. -/
theorem markSG (C : Cp) (n : Nat) (hC : ShortC C) (hn : n ≤ 1048576) : ∃ (N1 N2 : Int) (ms : List Int), ¬ (N1 < 0) ∧ ¬ (N2 < 0) ∧ (N2 != N2) = false ∧
    (∀ (w : World) (lo : Nat) (v : Value), Cv w lo v C → lo ≤ w.heap.size → Calls Tryz.prog 63 #[v, .int .i64 1] w (MarkedC w lo 1 N1 v C)) ∧
    (∀ (w : World) (lo : Nat) (v : Value), Cv w lo v (markC 1 C) → Calls Tryz.prog 66 #[v, .int .i64 1] w (RetI w N1)) ∧
    (∀ (w : World) (lo : Nat) (p a : Int) (A : Option Addr) (c : Nat) (cc : List Int), Row w lo (.slice A n c) cc → cc.length = n → Calls Tryz.prog 64 #[.agg #[.int .i64 p, .slice A n c, .int .i64 a], .int .i64 N1] w fun e w' => e = .returned (.int .i64 N2) ∧ Row w' lo (.slice A n c) ms ∧ w.grownBy w' (Value.slice A n c).ownBlock) ∧
    (∀ (w : World) (lo : Nat) (p a : Int) (A : Option Addr) (c : Nat), Row w lo (.slice A n c) ms → Calls Tryz.prog 67 #[.agg #[.int .i64 p, .slice A n c, .int .i64 a], .int .i64 N1] w (RetI w N2)) := by
  obtain ⟨b0, b1, b2, b3⟩ := hC
  have hs : 1 + sizeC C ≤ 1073741824 := by unfold sizeC sizeH; omega
  exact ⟨((1 + sizeC C : Nat) : Int), ((1 + sizeC C + n : Nat) : Int), seqI (1 + sizeC C) n, by omega, by omega, by simp, fun w lo v hv hlo => markColored_any w lo v C hv hlo b0 b1 b2 b3, fun w lo v hv => heldColored_any w lo v C hv b0 b1 b2 b3,
    fun w lo p a A c cc h h' => markGc_any w lo p a A n c cc h h' hn _ hs, fun w lo p a A c h => heldGc_any w lo p a A n c _ h hn hs⟩
/-- A collector is marked. -/
theorem markG1 (n : Nat) (hn : n ≤ 1048576) : ∃ (N : Int) (ms : List Int), ¬ (N < 0) ∧ (N != N) = false ∧
    (∀ (w : World) (lo : Nat) (p a : Int) (A : Option Addr) (c : Nat) (cc : List Int), Row w lo (.slice A n c) cc → cc.length = n → Calls Tryz.prog 64 #[.agg #[.int .i64 p, .slice A n c, .int .i64 a], .int .i64 1] w fun e w' => e = .returned (.int .i64 N) ∧ Row w' lo (.slice A n c) ms ∧ w.grownBy w' (Value.slice A n c).ownBlock) ∧
    (∀ (w : World) (lo : Nat) (p a : Int) (A : Option Addr) (c : Nat), Row w lo (.slice A n c) ms → Calls Tryz.prog 67 #[.agg #[.int .i64 p, .slice A n c, .int .i64 a], .int .i64 1] w (RetI w N)) :=
  ⟨((1 + n : Nat) : Int), seqI 1 n, by omega, by simp, fun w lo p a A c cc h h' => markGc_any w lo p a A n c cc h h' hn 1 (by omega), fun w lo p a A c h => heldGc_any w lo p a A n c 1 h hn (by omega)⟩
end Go.Proofs.YtfoimicbmkiigaaGreat

/- The helpers of the exact laws of chapter 7: sizes, copies. -/
namespace Go.Proofs.YtfoimicbmkiigaaGreat
open Go.RowKit

/-- A Both that is an argument: its slices lie somewhere below Bd. -/
def BArg (w : World) (Bd : Nat) (v : Value) (B : Bp) : Prop :=
  ∃ A0 c0 A1 c1 A2 c2 A3 c3 A4 c4 A5 c5, v = .agg #[.slice A0 B.C.h.l.length c0, .slice A1 B.C.h.r.length c1, .slice A2 B.C.h.t.length c2, .slice A3 B.C.c.length c3, .int .i64 B.G.p, .slice A4 B.G.c.length c4, .int .i64 B.G.a, .slice A5 B.os.length c5, .int .i64 B.i, .bool B.z] ∧ CArg w Bd (.agg #[.slice A0 B.C.h.l.length c0, .slice A1 B.C.h.r.length c1, .slice A2 B.C.h.t.length c2, .slice A3 B.C.c.length c3]) B.C ∧ Ints w Bd A4 B.G.c.length B.G.c ∧ OIn w Bd A5 B.os.length B.os
theorem BArg.below {w w' : World} {Bd : Nat} {v : Value} {B : Bp} (h : BArg w Bd v B) (hb : Below Bd w w') : BArg w' Bd v B := by
  obtain ⟨A0, c0, A1, c1, A2, c2, A3, c3, A4, c4, A5, c5, e, h0, h1, h2⟩ := h
  exact ⟨A0, c0, A1, c1, A2, c2, A3, c3, A4, c4, A5, c5, e, h0.below hb, h1.below hb, h2.below hb⟩
theorem BArg.alloc {w : World} {Bd : Nat} {v : Value} {B : Bp} (h : BArg w Bd v B) (hB : Bd ≤ w.heap.size) (o : Obj) : BArg (w.alloc o) Bd v B := h.below ((Below.refl _ _).alloc hB _)
theorem BArg.drew {w : World} {Bd : Nat} {v : Value} {B : Bp} (h : BArg w Bd v B) : BArg w.drew Bd v B := h
def ShortL (B : Bp) (n : Nat) : Prop := B.C.h.l.length ≤ n ∧ B.C.h.r.length ≤ n ∧ B.C.h.t.length ≤ n ∧ B.C.c.length ≤ n ∧ B.G.c.length ≤ n ∧ B.os.length ≤ n
def BIn (w : World) (v : Value) (B : Bp) : Prop := BArg w w.heap.size v B ∧ ShortL B 9223372036854775807
theorem Bv.shape {w : World} {lo : Nat} {v : Value} {C : Cp} {p a i : Int} {cc : List Int} {os : List Opv} {z : Bool} (h : Bv w lo v ⟨C, ⟨p, cc, a⟩, os, i, z⟩) : ∃ A0 n0 c0 A1 n1 c1 A2 n2 c2 A3 n3 c3 A4 n4 c4 A5 n5 c5, v = .agg #[.slice A0 n0 c0, .slice A1 n1 c1, .slice A2 n2 c2, .slice A3 n3 c3, .int .i64 p, .slice A4 n4 c4, .int .i64 a, .slice A5 n5 c5, .int .i64 i, .bool z] := by
  obtain ⟨A0, n0, c0, A1, n1, c1, A2, n2, c2, A3, n3, c3, A4, n4, c4, A5, n5, c5, _, _, _, _, _, _, _, e, e', -⟩ := h.open_
  cases e
  exact ⟨A0, n0, c0, A1, n1, c1, A2, n2, c2, A3, n3, c3, A4, n4, c4, A5, n5, c5, e'⟩
def OptB (w : World) (ok : Bool) (B : Bp) (e : Ending) (w' : World) : Prop := ∃ v, e = .returned (.tuple #[v, .bool ok]) ∧ Bv w' w.heap.size v B ∧ Below w.heap.size w w'
theorem optB_of {P : Program} {f : FuncId} {args : Array Value} {w : World} {o : Option Bp} (h : Calls P f args w (OptBv w o)) : Calls P f args w (OptB w o.isSome (o.getD Bp.zero)) := h
def sizeB (B : Bp) : Nat := (B.C.h.l.length + B.C.h.r.length + B.C.h.t.length + B.C.c.length) + B.G.c.length + B.os.length
set_option maxRecDepth 100000 in
set_option maxHeartbeats 2000000 in
theorem szBoth_any (w : World) (A0 A1 A2 A3 A4 A5 : Option Addr) (n0 c0 n1 c1 n2 c2 n3 c3 n4 c4 n5 c5 : Nat) (p a i : Int) (z : Bool) (left : Int) (h0 : 0 ≤ left) (h1 : left ≤ 1048576) (b0 : n0 ≤ 9223372036854775807) (b1 : n1 ≤ 9223372036854775807) (b2 : n2 ≤ 9223372036854775807) (b3 : n3 ≤ 9223372036854775807) (b4 : n4 ≤ 9223372036854775807) (b5 : n5 ≤ 9223372036854775807) :
    Calls Tryz.prog 23 #[.agg #[.slice A0 n0 c0, .slice A1 n1 c1, .slice A2 n2 c2, .slice A3 n3 c3, .int .i64 p, .slice A4 n4 c4, .int .i64 a, .slice A5 n5 c5, .int .i64 i, .bool z], .int .i64 left] w (RetI w (szV ((n0 + n1 + n2 + n3) + n4 + n5) left)) := by
  have fin : Below w.heap.size w (w.alloc (.cells #[.slice A0 n0 c0, .slice A1 n1 c1, .slice A2 n2 c2, .slice A3 n3 c3, .int .i64 p, .slice A4 n4 c4, .int .i64 a, .slice A5 n5 c5, .int .i64 i, .bool z] 59)) := (Below.refl _ _).alloc (Nat.le_refl _) _
  have S := szColored_any (w.alloc (.cells #[.slice A0 n0 c0, .slice A1 n1 c1, .slice A2 n2 c2, .slice A3 n3 c3, .int .i64 p, .slice A4 n4 c4, .int .i64 a, .slice A5 n5 c5, .int .i64 i, .bool z] 59)) A0 A1 A2 A3 n0 c0 n1 c1 n2 c2 n3 c3 left h0 h1 b0 b1 b2 b3
  have X := Blk10.new w (.slice A0 n0 c0) (.slice A1 n1 c1) (.slice A2 n2 c2) (.slice A3 n3 c3) (.int .i64 p) (.slice A4 n4 c4) (.int .i64 a) (.slice A5 n5 c5) (.int .i64 i) (.bool z) 59
  by_cases e : ((n0 + n1 + n2 + n3 : Nat) : Int) ≤ left
  · have f : szV (n0 + n1 + n2 + n3) left = left - ((n0 + n1 + n2 + n3 : Nat) : Int) := by unfold szV; rw [if_pos e]
    rw [f] at S
    have u0 : 0 ≤ left - ((n0 + n1 + n2 + n3 : Nat) : Int) := by omega
    have u1 : left - ((n0 + n1 + n2 + n3 : Nat) : Int) ≤ 1048576 := by omega
    have hT : Hid (szV ((n0 + n1 + n2 + n3) + n4 + n5) left = if (n4 : Int) ≤ left - ((n0 + n1 + n2 + n3 : Nat) : Int) then szV n5 (left - ((n0 + n1 + n2 + n3 : Nat) : Int) - n4) else -1) := by
      unfold Hid szV; repeat' split
      all_goals omega
    clear f e
    generalize left - ((n0 + n1 + n2 + n3 : Nat) : Int) = lf at *
    have g0 : ¬ (lf < 0) := by omega
    have S4 := fun W => szGc_any W p a A4 n4 c4 lf u0 u1 b4
    by_cases e4 : (n4 : Int) ≤ lf
    · have f4 : szV n4 lf = lf - n4 := by unfold szV; rw [if_pos e4]
      simp only [f4] at S4
      replace hT : Hid (szV ((n0 + n1 + n2 + n3) + n4 + n5) left = szV n5 (lf - n4)) := by have := hT.out; rw [if_pos e4] at this; exact this
      have v0 : 0 ≤ lf - (n4 : Int) := by omega
      have v1 : lf - (n4 : Int) ≤ 1048576 := by omega
      clear f4 e4 u0 u1
      generalize lf - (n4 : Int) = lg at *
      have g1 : ¬ (lg < 0) := by omega
      have S5 := fun W => szOpS_any W A5 n5 c5 lg v0 v1 b5
      by_cases e5 : (n5 : Int) ≤ lg
      · have f5 : szV n5 lg = lg - n5 := by unfold szV; rw [if_pos e5]
        rw [f5] at hT
        simp only [f5] at S5
        have g2 : ¬ (lg - (n5 : Int) < 0) := by omega
        clear f5 e5
        go_enter Tryz.func23, Tryz.ntmps23
        go_wp2_with fail
        refine S.mono ?_; rintro e w1 ⟨rfl, hb1⟩
        have X1 := Blk10.below (by exact X) hb1
        obtain ⟨⟨x0, x1, x2, x3, x4, x5, x6, x7, x8, x9⟩, -⟩ := X1.cells
        have B1 := fin.trans (hb1.mono (by simp))
        clear S X
        go_wp2_with fail
        refine (S4 _).mono ?_; rintro e w2 ⟨rfl, hb2⟩
        obtain ⟨⟨y0, y1, y2, y3, y4, y5, y6, y7, y8, y9⟩, -⟩ := (X1.below hb2).cells
        have B2 := B1.trans (hb2.mono B1.size)
        go_wp2_with fail
        refine (S5 _).mono ?_; rintro e w' ⟨rfl, rfl⟩
        go_wp2_with fail
        go_ret
        exact ⟨ret_int hT.out.symm, B2⟩
      · have f5 : szV n5 lg = -1 := by unfold szV; rw [if_neg e5]
        rw [f5] at hT
        simp only [f5] at S5
        clear f5 e5
        go_enter Tryz.func23, Tryz.ntmps23
        go_wp2_with fail
        refine S.mono ?_; rintro e w1 ⟨rfl, hb1⟩
        have X1 := Blk10.below (by exact X) hb1
        obtain ⟨⟨x0, x1, x2, x3, x4, x5, x6, x7, x8, x9⟩, -⟩ := X1.cells
        have B1 := fin.trans (hb1.mono (by simp))
        clear S X
        go_wp2_with fail
        refine (S4 _).mono ?_; rintro e w2 ⟨rfl, hb2⟩
        obtain ⟨⟨y0, y1, y2, y3, y4, y5, y6, y7, y8, y9⟩, -⟩ := (X1.below hb2).cells
        have B2 := B1.trans (hb2.mono B1.size)
        go_wp2_with fail
        refine (S5 _).mono ?_; rintro e w' ⟨rfl, rfl⟩
        go_wp2_with fail
        go_ret
        exact ⟨ret_int hT.out.symm, B2⟩
    · have f4 : szV n4 lf = -1 := by unfold szV; rw [if_neg e4]
      simp only [f4] at S4
      replace hT : Hid (szV ((n0 + n1 + n2 + n3) + n4 + n5) left = -1) := by have := hT.out; rw [if_neg e4] at this; exact this
      clear f4 e4
      go_enter Tryz.func23, Tryz.ntmps23
      go_wp2_with fail
      refine S.mono ?_; rintro e w1 ⟨rfl, hb1⟩
      have X1 := Blk10.below (by exact X) hb1
      obtain ⟨⟨x0, x1, x2, x3, x4, x5, x6, x7, x8, x9⟩, -⟩ := X1.cells
      have B1 := fin.trans (hb1.mono (by simp))
      clear S X
      go_wp2_with fail
      refine (S4 _).mono ?_; rintro e w2 ⟨rfl, hb2⟩
      have B2 := B1.trans (hb2.mono B1.size)
      go_wp2_with fail
      go_ret
      exact ⟨ret_int hT.out.symm, B2⟩
  · have f : szV (n0 + n1 + n2 + n3) left = -1 := by unfold szV; rw [if_neg e]
    rw [f] at S
    have hT : Hid (szV ((n0 + n1 + n2 + n3) + n4 + n5) left = -1) := by unfold Hid szV; rw [if_neg (by omega)]
    clear f e
    go_enter Tryz.func23, Tryz.ntmps23
    go_wp2_with fail
    refine S.mono ?_; rintro e w1 ⟨rfl, hb1⟩
    have B1 := fin.trans (hb1.mono (by simp))
    go_wp2_with fail
    go_ret
    exact ⟨ret_int hT.out.symm, B1⟩

set_option maxRecDepth 100000 in
set_option maxHeartbeats 2000000 in
theorem toBoth_any (w : World) (Bd : Nat) (hBw : Bd ≤ w.heap.size) (v : Value) (B : Bp) (hv : BArg w Bd v B) (hs : ShortL B 1048576) :
    Calls Tryz.prog 24 #[v] w (NewBv w B) := by
  obtain ⟨A0, c0, A1, c1, A2, c2, A3, c3, A4, c4, A5, c5, rfl, h0, h1, h2⟩ := hv
  obtain ⟨b0, b1, b2, b3, b4, b5⟩ := hs
  have X := ((Blk10.new w (.slice A0 B.C.h.l.length c0) (.slice A1 B.C.h.r.length c1) (.slice A2 B.C.h.t.length c2) (.slice A3 B.C.c.length c3) (.int .i64 B.G.p) (.slice A4 B.G.c.length c4) (.int .i64 B.G.a) (.slice A5 B.os.length c5) (.int .i64 B.i) (.bool B.z) 59).alloc (.cells #[.slice none 0 0, .slice none 0 0, .slice none 0 0, .slice none 0 0, .int .i64 0, .slice none 0 0, .int .i64 0, .slice none 0 0, .int .i64 0, .bool false] 32)).alloc (.cells #[.slice none 0 0, .slice none 0 0, .slice none 0 0, .slice none 0 0, .int .i64 0, .slice none 0 0, .int .i64 0, .slice none 0 0, .int .i64 0, .bool false] 32)
  have Y := (Blk10.new_at (w := w.alloc (.cells #[.slice A0 B.C.h.l.length c0, .slice A1 B.C.h.r.length c1, .slice A2 B.C.h.t.length c2, .slice A3 B.C.c.length c3, .int .i64 B.G.p, .slice A4 B.G.c.length c4, .int .i64 B.G.a, .slice A5 B.os.length c5, .int .i64 B.i, .bool B.z] 59)) (b := w.heap.size + 1) (by simp) (.slice none 0 0) (.slice none 0 0) (.slice none 0 0) (.slice none 0 0) (.int .i64 0) (.slice none 0 0) (.int .i64 0) (.slice none 0 0) (.int .i64 0) (.bool false) 32).alloc (.cells #[.slice none 0 0, .slice none 0 0, .slice none 0 0, .slice none 0 0, .int .i64 0, .slice none 0 0, .int .i64 0, .slice none 0 0, .int .i64 0, .bool false] 32)
  have Z := Blk10.new_at (w := (w.alloc (.cells #[.slice A0 B.C.h.l.length c0, .slice A1 B.C.h.r.length c1, .slice A2 B.C.h.t.length c2, .slice A3 B.C.c.length c3, .int .i64 B.G.p, .slice A4 B.G.c.length c4, .int .i64 B.G.a, .slice A5 B.os.length c5, .int .i64 B.i, .bool B.z] 59)).alloc (.cells #[.slice none 0 0, .slice none 0 0, .slice none 0 0, .slice none 0 0, .int .i64 0, .slice none 0 0, .int .i64 0, .slice none 0 0, .int .i64 0, .bool false] 32)) (b := w.heap.size + 1 + 1) (by simp) (.slice none 0 0) (.slice none 0 0) (.slice none 0 0) (.slice none 0 0) (.int .i64 0) (.slice none 0 0) (.int .i64 0) (.slice none 0 0) (.int .i64 0) (.bool false) 32
  have BB : Below w.heap.size w (((w.alloc (.cells #[.slice A0 B.C.h.l.length c0, .slice A1 B.C.h.r.length c1, .slice A2 B.C.h.t.length c2, .slice A3 B.C.c.length c3, .int .i64 B.G.p, .slice A4 B.G.c.length c4, .int .i64 B.G.a, .slice A5 B.os.length c5, .int .i64 B.i, .bool B.z] 59)).alloc (.cells #[.slice none 0 0, .slice none 0 0, .slice none 0 0, .slice none 0 0, .int .i64 0, .slice none 0 0, .int .i64 0, .slice none 0 0, .int .i64 0, .bool false] 32)).alloc (.cells #[.slice none 0 0, .slice none 0 0, .slice none 0 0, .slice none 0 0, .int .i64 0, .slice none 0 0, .int .i64 0, .slice none 0 0, .int .i64 0, .bool false] 32)) := (((Below.refl _ _).alloc (Nat.le_refl _) _).alloc (by simp) _).alloc (by simp <;> omega) _
  have sz : w.heap.size + 3 ≤ (((w.alloc (.cells #[.slice A0 B.C.h.l.length c0, .slice A1 B.C.h.r.length c1, .slice A2 B.C.h.t.length c2, .slice A3 B.C.c.length c3, .int .i64 B.G.p, .slice A4 B.G.c.length c4, .int .i64 B.G.a, .slice A5 B.os.length c5, .int .i64 B.i, .bool B.z] 59)).alloc (.cells #[.slice none 0 0, .slice none 0 0, .slice none 0 0, .slice none 0 0, .int .i64 0, .slice none 0 0, .int .i64 0, .slice none 0 0, .int .i64 0, .bool false] 32)).alloc (.cells #[.slice none 0 0, .slice none 0 0, .slice none 0 0, .slice none 0 0, .int .i64 0, .slice none 0 0, .int .i64 0, .slice none 0 0, .int .i64 0, .bool false] 32)).heap.size := by simp
  generalize hW : (((w.alloc (.cells #[.slice A0 B.C.h.l.length c0, .slice A1 B.C.h.r.length c1, .slice A2 B.C.h.t.length c2, .slice A3 B.C.c.length c3, .int .i64 B.G.p, .slice A4 B.G.c.length c4, .int .i64 B.G.a, .slice A5 B.os.length c5, .int .i64 B.i, .bool B.z] 59)).alloc (.cells #[.slice none 0 0, .slice none 0 0, .slice none 0 0, .slice none 0 0, .int .i64 0, .slice none 0 0, .int .i64 0, .slice none 0 0, .int .i64 0, .bool false] 32)).alloc (.cells #[.slice none 0 0, .slice none 0 0, .slice none 0 0, .slice none 0 0, .int .i64 0, .slice none 0 0, .int .i64 0, .slice none 0 0, .int .i64 0, .bool false] 32)) = W at X Y Z BB sz
  have i0 := CArg.below h0 (BB.mono hBw)
  have i1 := h1.below (BB.mono hBw)
  have i2 := h2.below (BB.mono hBw)
  clear h0 h1 h2
  obtain ⟨C, G, os, i, z⟩ := B
  obtain ⟨p, cc, a⟩ := G
  dsimp only at *
  obtain ⟨⟨x0, x1, x2, x3, x4, x5, x6, x7, x8, x9⟩, -⟩ := X.cells
  have T0 := toColored_any W Bd (by omega) _ C i0 b0 b1 b2 b3
  go_enter Tryz.func24, Tryz.ntmps24
  go_wp2_with fail
  (try rw [hW])
  refine T0.mono ?_; rintro e w1 ⟨vs, rfl, HS, hb1⟩
  clear T0 i0 x0 x1 x2 x3 x4 x5 x6 x7 x8 x9
  have HSo := HS
  obtain ⟨B0, u0, e0, B1, u1, e1, B2, u2, e2, B3, u3, e3, rfl, -⟩ := HSo.open_
  clear HSo
  have z1 := hb1.size
  have X1 := (X.below hb1).far4 (c := w.heap.size + 1 + 1) (by omega) (.slice B0 u0 e0) (.slice B1 u1 e1) (.slice B2 u2 e2) (.slice B3 u3 e3)
  have Y1 := (Y.below hb1).far4 (c := w.heap.size + 1 + 1) (by omega) (.slice B0 u0 e0) (.slice B1 u1 e1) (.slice B2 u2 e2) (.slice B3 u3 e3)
  have Z0 := Z.below hb1
  have Z1 := Z0.set03 (.slice B0 u0 e0) (.slice B1 u1 e1) (.slice B2 u2 e2) (.slice B3 u3 e3)
  have HS1 := (((HS.mono (lo' := w.heap.size + 3) (by omega)).lowSet (p := ⟨w.heap.size + 1 + 1, 0, none⟩) (by show w.heap.size + 1 + 1 < _; omega) (.slice B0 u0 e0)).lowSet (p := ⟨w.heap.size + 1 + 1, 1, none⟩) (by show w.heap.size + 1 + 1 < _; omega) (.slice B1 u1 e1)).lowSet (p := ⟨w.heap.size + 1 + 1, 2, none⟩) (by show w.heap.size + 1 + 1 < _; omega) (.slice B2 u2 e2) |>.lowSet (p := ⟨w.heap.size + 1 + 1, 3, none⟩) (by show w.heap.size + 1 + 1 < _; omega) (.slice B3 u3 e3)
  have F1 := below_set4b (BB.trans (hb1.mono BB.size)) (c := w.heap.size + 1 + 1) (by omega) (.slice B0 u0 e0) (.slice B1 u1 e1) (.slice B2 u2 e2) (.slice B3 u3 e3)
  have bs := below_set4b (Below.refl (w.heap.size) w1) (c := w.heap.size + 1 + 1) (by omega) (.slice B0 u0 e0) (.slice B1 u1 e1) (.slice B2 u2 e2) (.slice B3 u3 e3)
  have j1 := (i1.below (hb1.mono (by omega))).below (bs.mono (by omega))
  have j2 := (i2.below (hb1.mono (by omega))).below (bs.mono (by omega))
  have s1 := bs.size
  obtain ⟨⟨p0, p1, p2, p3, p4, p5, p6, p7, p8, p9⟩, -⟩ := (X.below hb1).cells
  obtain ⟨⟨r0, r1, r2, r3, r4, r5, r6, r7, r8, r9⟩, ⟨m0, m1, m2, m3, m4, m5, m6, m7, m8, m9⟩⟩ := Z0.cells
  generalize hW1 : ((((w1.setCell ⟨w.heap.size + 1 + 1, 0, none⟩ (.slice B0 u0 e0)).setCell ⟨w.heap.size + 1 + 1, 1, none⟩ (.slice B1 u1 e1)).setCell ⟨w.heap.size + 1 + 1, 2, none⟩ (.slice B2 u2 e2)).setCell ⟨w.heap.size + 1 + 1, 3, none⟩ (.slice B3 u3 e3)) = W1 at X1 Y1 Z1 HS1 F1 bs j1 j2 s1
  obtain ⟨⟨t0, t1, t2, t3, t4, t5, t6, t7, t8, t9⟩, -⟩ := X1.cells
  have T1 := toGc_row W1 Bd (by omega) p a A4 c4 cc j1 b4
  clear X Y Z Z0 HS i1 i2 bs j1
  go_wp2_with fail
  (try rw [hW1])
  refine T1.mono ?_; rintro e w2 ⟨B4, e4, rfl, HR, hb2⟩
  clear T1 p0 p1 p2 p3 p4 p5 p6 p7 p8 p9 r0 r1 r2 r3 r4 r5 r6 r7 r8 r9 m0 m1 m2 m3 m4 m5 m6 m7 m8 m9 t0 t1 t2 t3 t4 t5 t6 t7 t8 t9
  have z2 := hb2.size
  have CG := CGv.mk (G := ⟨p, cc, a⟩) HS1 ⟨_, rfl, HR⟩ (by omega) hb2
  have X2 := (X1.below hb2).far3 (c := w.heap.size + 1 + 1) (by omega) (.int .i64 p) (.slice B4 cc.length e4) (.int .i64 a)
  have Y2 := (Y1.below hb2).far3 (c := w.heap.size + 1 + 1) (by omega) (.int .i64 p) (.slice B4 cc.length e4) (.int .i64 a)
  have Z2' := Z1.below hb2
  have Z2 := Z2'.set46 (.int .i64 p) (.slice B4 cc.length e4) (.int .i64 a)
  have CG2 := ((CG.lowSet (p := ⟨w.heap.size + 1 + 1, 4, none⟩) (by show w.heap.size + 1 + 1 < _; omega) (.int .i64 p)).lowSet (p := ⟨w.heap.size + 1 + 1, 5, none⟩) (by show w.heap.size + 1 + 1 < _; omega) (.slice B4 cc.length e4)).lowSet (p := ⟨w.heap.size + 1 + 1, 6, none⟩) (by show w.heap.size + 1 + 1 < _; omega) (.int .i64 a)
  have F2 := below_set3b (F1.trans (hb2.mono F1.size)) (c := w.heap.size + 1 + 1) (by omega) (.int .i64 p) (.slice B4 cc.length e4) (.int .i64 a)
  have bs2 := below_set3b (Below.refl (w.heap.size) w2) (c := w.heap.size + 1 + 1) (by omega) (.int .i64 p) (.slice B4 cc.length e4) (.int .i64 a)
  have k2 := (j2.below (hb2.mono (by omega))).below (bs2.mono (by omega))
  have s2 := bs2.size
  obtain ⟨⟨p0, p1, p2, p3, p4, p5, p6, p7, p8, p9⟩, -⟩ := (X1.below hb2).cells
  obtain ⟨⟨r0, r1, r2, r3, r4, r5, r6, r7, r8, r9⟩, ⟨m0, m1, m2, m3, m4, m5, m6, m7, m8, m9⟩⟩ := Z2'.cells
  generalize hW2 : (((w2.setCell ⟨w.heap.size + 1 + 1, 4, none⟩ (.int .i64 p)).setCell ⟨w.heap.size + 1 + 1, 5, none⟩ (.slice B4 cc.length e4)).setCell ⟨w.heap.size + 1 + 1, 6, none⟩ (.int .i64 a)) = W2 at X2 Y2 Z2 CG2 F2 bs2 k2 s2
  obtain ⟨⟨t0, t1, t2, t3, t4, t5, t6, t7, t8, t9⟩, -⟩ := X2.cells
  have T2 := toOpS_any W2 A5 os.length c5 os (k2.up (by omega)) b5
  clear X1 Y1 Z1 Z2' HS1 CG bs2 k2 j2
  go_wp2_with fail
  (try rw [hW2])
  refine T2.mono ?_; rintro e w3 ⟨B5, e5, rfl, HO, hb3⟩
  clear T2 p0 p1 p2 p3 p4 p5 p6 p7 p8 p9 r0 r1 r2 r3 r4 r5 r6 r7 r8 r9 m0 m1 m2 m3 m4 m5 m6 m7 m8 m9 t0 t1 t2 t3 t4 t5 t6 t7 t8 t9
  have z3 := hb3.size
  have HB := Bv.mk CG2 HO (by omega) hb3 i z
  have X3 := X2.below hb3
  have Y3 := Y2.below hb3
  have Z3 := Z2.below hb3
  have F3 := F2.trans (hb3.mono F2.size)
  clear X2 Y2 Z2 CG2 HO
  have HB3 := ((HB.lowSet (p := ⟨w.heap.size + 1 + 1, 7, none⟩) (by show w.heap.size + 1 + 1 < _; omega) (.slice B5 os.length e5)).lowSet (p := ⟨w.heap.size + 1 + 1, 8, none⟩) (by show w.heap.size + 1 + 1 < _; omega) (.int .i64 i)).lowSet (p := ⟨w.heap.size + 1 + 1, 9, none⟩) (by show w.heap.size + 1 + 1 < _; omega) (.bool z)
  have F4 := ((F3.setCell (p := ⟨w.heap.size + 1 + 1, 7, none⟩) (by show w.heap.size ≤ w.heap.size + 1 + 1; omega) (.slice B5 os.length e5)).setCell (p := ⟨w.heap.size + 1 + 1, 8, none⟩) (by show w.heap.size ≤ w.heap.size + 1 + 1; omega) (.int .i64 i)).setCell (p := ⟨w.heap.size + 1 + 1, 9, none⟩) (by show w.heap.size ≤ w.heap.size + 1 + 1; omega) (.bool z)
  have Z4 := (Z3.set7 (.slice B5 os.length e5)).set8 (.int .i64 i)
  have X4 := (X3.other (p := ⟨w.heap.size + 1 + 1, 7, none⟩) (by show w.heap.size ≠ w.heap.size + 1 + 1; omega) (.slice B5 os.length e5))
  have X5 := X4.other (p := ⟨w.heap.size + 1 + 1, 8, none⟩) (by show w.heap.size ≠ w.heap.size + 1 + 1; omega) (.int .i64 i)
  have Y4 := ((Y3.other (p := ⟨w.heap.size + 1 + 1, 7, none⟩) (by show w.heap.size + 1 ≠ w.heap.size + 1 + 1; omega) (.slice B5 os.length e5)).other (p := ⟨w.heap.size + 1 + 1, 8, none⟩) (by show w.heap.size + 1 ≠ w.heap.size + 1 + 1; omega) (.int .i64 i)).other (p := ⟨w.heap.size + 1 + 1, 9, none⟩) (by show w.heap.size + 1 ≠ w.heap.size + 1 + 1; omega) (.bool z)
  have Z5 := Z4.set9 (.bool z)
  obtain ⟨⟨p0, p1, p2, p3, p4, p5, p6, p7, p8, p9⟩, -⟩ := X3.cells
  obtain ⟨⟨r0, r1, r2, r3, r4, r5, r6, r7, r8, r9⟩, ⟨m0, m1, m2, m3, m4, m5, m6, m7, m8, m9⟩⟩ := Z3.cells
  obtain ⟨⟨f0, f1, f2, f3, f4, f5, f6, f7, f8, f9⟩, ⟨g0, g1, g2, g3, g4, g5, g6, g7, g8, g9⟩⟩ := Z5.cells
  obtain ⟨⟨y0, y1, y2, y3, y4, y5, y6, y7, y8, y9⟩, ⟨q0, q1, q2, q3, q4, q5, q6, q7, q8, q9⟩⟩ := Y4.cells
  go_wp2_with fail
  have YF := Y4.set10 (.slice B0 u0 e0) (.slice B1 u1 e1) (.slice B2 u2 e2) (.slice B3 u3 e3) (.int .i64 p) (.slice B4 cc.length e4) (.int .i64 a) (.slice B5 os.length e5) (.int .i64 i) (.bool z)
  have HF := HB3.low10 (c := w.heap.size + 1) (by omega) (.slice B0 u0 e0) (.slice B1 u1 e1) (.slice B2 u2 e2) (.slice B3 u3 e3) (.int .i64 p) (.slice B4 cc.length e4) (.int .i64 a) (.slice B5 os.length e5) (.int .i64 i) (.bool z)
  have FF := below_set10 F4 (c := w.heap.size + 1) (by omega) (.slice B0 u0 e0) (.slice B1 u1 e1) (.slice B2 u2 e2) (.slice B3 u3 e3) (.int .i64 p) (.slice B4 cc.length e4) (.int .i64 a) (.slice B5 os.length e5) (.int .i64 i) (.bool z)
  generalize (((((((((((((w3.setCell ⟨w.heap.size + 1 + 1, 7, none⟩ (.slice B5 os.length e5)).setCell ⟨w.heap.size + 1 + 1, 8, none⟩ (.int .i64 i)).setCell ⟨w.heap.size + 1 + 1, 9, none⟩ (.bool z)).setCell ⟨w.heap.size + 1, 0, none⟩ (.slice B0 u0 e0)).setCell ⟨w.heap.size + 1, 1, none⟩ (.slice B1 u1 e1)).setCell ⟨w.heap.size + 1, 2, none⟩ (.slice B2 u2 e2)).setCell ⟨w.heap.size + 1, 3, none⟩ (.slice B3 u3 e3)).setCell ⟨w.heap.size + 1, 4, none⟩ (.int .i64 p)).setCell ⟨w.heap.size + 1, 5, none⟩ (.slice B4 cc.length e4)).setCell ⟨w.heap.size + 1, 6, none⟩ (.int .i64 a)).setCell ⟨w.heap.size + 1, 7, none⟩ (.slice B5 os.length e5)).setCell ⟨w.heap.size + 1, 8, none⟩ (.int .i64 i)).setCell ⟨w.heap.size + 1, 9, none⟩ (.bool z)) = WF at YF HF FF ⊢
  obtain ⟨⟨v0, v1, v2, v3, v4, v5, v6, v7, v8, v9⟩, -⟩ := YF.cells
  refine bodyPost_ret (v := .agg #[.slice B0 u0 e0, .slice B1 u1 e1, .slice B2 u2 e2, .slice B3 u3 e3, .int .i64 p, .slice B4 cc.length e4, .int .i64 a, .slice B5 os.length e5, .int .i64 i, .bool z]) ?_ rfl ⟨_, rfl, HF.mono (by omega), FF⟩
  simp [results, Tryz.results24, go_sem, v0, v1, v2, v3, v4, v5, v6, v7, v8, v9]

end Go.Proofs.YtfoimicbmkiigaaGreat

/- The helpers of the exact laws of chapter 7: equality, marks. -/
namespace Go.Proofs.YtfoimicbmkiigaaGreat
open Go.RowKit

theorem seqO_at {k n j : Nat} (h : j < n) : (seqO k n)[j]? = some ⟨((k + j * 3 : Nat) : Int), ((k + j * 3 + 1 : Nat) : Int), ((k + j * 3 + 2 : Nat) : Int)⟩ := by
  simp [seqO, List.getElem?_range h]
theorem far_or {v r : Value} (h : Apart v r) : v.ownBlock = none ∨ v.ownBlock ≠ r.ownBlock := by
  cases e : v.ownBlock with
  | none => exact .inl rfl
  | some b => exact .inr (fun e' => h b e e'.symm)
theorem Cv.keptA {w w' : World} {lo : Nat} {v0 v1 v2 v3 r : Value} {C : Cp} (h : Cv w lo (.agg #[v0, v1, v2, v3]) C) (hg : w.grownBy w' r.ownBlock) (a : Apart v0 r ∧ Apart v1 r ∧ Apart v2 r ∧ Apart v3 r) : Cv w' lo (.agg #[v0, v1, v2, v3]) C := by
  obtain ⟨_, _, _, _, e, ⟨_, _, _, e', r0, r1, r2, x⟩, r3, y⟩ := h
  cases e; cases e'
  exact ⟨_, _, _, _, rfl, ⟨_, _, _, rfl, r0.kept hg (far_or a.1), r1.kept hg (far_or a.2.1), r2.kept hg (far_or a.2.2.1), x⟩, r3.kept hg (far_or a.2.2.2), y⟩
/-- Block b is none of a Both's own. -/
def FarB (v : Value) (b : Nat) : Prop := ∀ v0 v1 v2 v3 p r a u i z, v = .agg #[v0, v1, v2, v3, p, r, a, u, i, z] → (some b ≠ v0.ownBlock ∧ some b ≠ v1.ownBlock ∧ some b ≠ v2.ownBlock ∧ some b ≠ v3.ownBlock) ∧ some b ≠ r.ownBlock ∧ some b ≠ u.ownBlock
def markB (B : Bp) : Bp := ⟨markC 1 B.C, ⟨B.G.p, seqI (1 + sizeC B.C) B.G.c.length, B.G.a⟩, seqO (1 + sizeC B.C + B.G.c.length) B.os.length, B.i, B.z⟩
def numB (B : Bp) : Nat := 1 + sizeC B.C + B.G.c.length + B.os.length * 3
/-- A Both was marked: the number is N; below lo, and in every block that is not its own, nothing has turned. -/
def MarkedB (w : World) (lo : Nat) (N : Int) (v : Value) (B : Bp) (e : Ending) (w' : World) : Prop :=
  e = .returned (.int .i64 N) ∧ Bv w' lo v (markB B) ∧ Below lo w w' ∧ ∀ b, b < w.heap.size → FarB v b → w'.heap[b]? = w.heap[b]?
theorem farB_new {W : World} {lo b : Nat} {u : Value} {B : Bp} (hu : Bv W lo u B) (hb : W.heap.size ≤ b) : FarB u b := by
  obtain ⟨u0, u1, u2, u3, ur, uu, rfl, hc, ho, _⟩ := hu
  have hn := notC_new hc.cv hb
  obtain ⟨_, _, _, _, _, _, e, _, hr, _⟩ := hc
  cases e
  intro v0 v1 v2 v3 p r a u i z e
  cases e
  exact ⟨hn _ _ _ _ rfl, fun e => by have := (hr.lt b e.symm).2; omega, fun e => by have := (ho.lt b e.symm).2; omega⟩
theorem farB_old {W : World} {lo b : Nat} {u : Value} {B : Bp} (hu : Bv W lo u B) (hb : b < lo) : FarB u b := by
  obtain ⟨u0, u1, u2, u3, ur, uu, rfl, hc, ho, _⟩ := hu
  have hn := notC_old hc.cv hb
  obtain ⟨_, _, _, _, _, _, e, _, hr, _⟩ := hc
  cases e
  intro v0 v1 v2 v3 p r a u i z e
  cases e
  exact ⟨hn _ _ _ _ rfl, fun e => by have := (hr.lt b e.symm).1; omega, fun e => by have := (ho.lt b e.symm).1; omega⟩
theorem Blk10.frameB {w w' : World} {b : Nat} {x0 x1 x2 x3 x4 x5 x6 x7 x8 x9 u : Value} {t : TypeId} (h : Blk10 w b x0 x1 x2 x3 x4 x5 x6 x7 x8 x9 t) (fr : ∀ b, b < w.heap.size → FarB u b → w'.heap[b]? = w.heap[b]?) (hn : FarB u b) : Blk10 w' b x0 x1 x2 x3 x4 x5 x6 x7 x8 x9 t := (fr b h.lt hn).trans h
theorem Blk4.frameB {w w' : World} {b : Nat} {x y z q u : Value} {t : TypeId} (h : Blk4 w b x y z q t) (fr : ∀ b, b < w.heap.size → FarB u b → w'.heap[b]? = w.heap[b]?) (hn : FarB u b) : Blk4 w' b x y z q t := (fr b h.lt hn).trans h
theorem Blk3.frameB {w w' : World} {b : Nat} {x y z u : Value} {t : TypeId} (h : Blk3 w b x y z t) (fr : ∀ b, b < w.heap.size → FarB u b → w'.heap[b]? = w.heap[b]?) (hn : FarB u b) : Blk3 w' b x y z t := (fr b h.lt hn).trans h
theorem Row.keptF {w w' : World} {lo : Nat} {v u : Value} {xs : List Int} (hv : Row w lo v xs) (fr : ∀ b, b < w.heap.size → FarB u b → w'.heap[b]? = w.heap[b]?) (hn : ∀ b, lo ≤ b → b < w.heap.size → FarB u b) : Row w' lo v xs := by
  refine ⟨hv.1, ?_⟩
  rcases hv.2 with h2 | ⟨g, cap, cur, rfl, hg, hh, r⟩
  · exact .inl h2
  · have hb := (hv.lt g rfl)
    exact .inr ⟨g, cap, cur, rfl, hg, by rw [fr g hb.2 (hn g hb.1 hb.2)]; exact hh, r⟩
theorem ORow.keptF {w w' : World} {lo : Nat} {v u : Value} {os : List Opv} (hv : ORow w lo v os) (fr : ∀ b, b < w.heap.size → FarB u b → w'.heap[b]? = w.heap[b]?) (hn : ∀ b, lo ≤ b → b < w.heap.size → FarB u b) : ORow w' lo v os := by
  refine ⟨hv.1, ?_⟩
  rcases hv.2 with h2 | ⟨g, cap, cur, rfl, hg, hh, r⟩
  · exact .inl h2
  · have hb := (ORow.lt hv g rfl)
    exact .inr ⟨g, cap, cur, rfl, hg, by rw [fr g hb.2 (hn g hb.1 hb.2)]; exact hh, r⟩
theorem Cv.keptF {w w' : World} {lo : Nat} {v u : Value} {C : Cp} (hv : Cv w lo v C) (fr : ∀ b, b < w.heap.size → FarB u b → w'.heap[b]? = w.heap[b]?) (hn : ∀ b, lo ≤ b → b < w.heap.size → FarB u b) : Cv w' lo v C := by
  obtain ⟨v0, v1, v2, v3, e, ⟨_, _, _, e', r0, r1, r2, x⟩, r3, y⟩ := hv
  exact ⟨v0, v1, v2, v3, e, ⟨_, _, _, e', r0.keptF fr hn, r1.keptF fr hn, r2.keptF fr hn, x⟩, r3.keptF fr hn, y⟩
theorem Bv.keptF {w w' : World} {lo : Nat} {v u : Value} {B : Bp} (hv : Bv w lo v B) (fr : ∀ b, b < w.heap.size → FarB u b → w'.heap[b]? = w.heap[b]?) (hn : ∀ b, lo ≤ b → b < w.heap.size → FarB u b) : Bv w' lo v B := by
  obtain ⟨v0, v1, v2, v3, r, o, e, ⟨_, _, _, _, _, e1, e2, hc, hr, ap⟩, ho, a⟩ := hv
  exact ⟨v0, v1, v2, v3, r, o, e, ⟨_, _, _, _, _, e1, e2, hc.keptF fr hn, hr.keptF fr hn, ap⟩, ho.keptF fr hn, a⟩
theorem Bv.keptFar {w w' : World} {lo Bd : Nat} {v : Value} {B : Bp} (hv : Bv w lo v B) (hb : Below Bd w w') {W : World} {B' : Bp} (hW : Bv W lo v B') (hs : W.heap.size ≤ Bd) : Bv w' lo v B := by
  obtain ⟨v0, v1, v2, v3, r, o, e, ⟨_, _, _, _, _, e1, e2, ⟨_, _, _, _, e3, ⟨_, _, _, e4, r0, r1, r2, x⟩, r3, y⟩, hr, ap⟩, ho, a⟩ := hv
  obtain ⟨_, _, _, _, _, _, e', ⟨_, _, _, _, _, f1, f2, ⟨_, _, _, _, f3, ⟨_, _, _, f4, s0, s1, s2, _⟩, s3, _⟩, sr, _⟩, so, _⟩ := hW
  subst e
  simp only [Value.agg.injEq, Array.mk.injEq, List.cons.injEq, and_true] at e'
  obtain ⟨rfl, rfl, rfl, rfl, -, rfl, -, rfl, -⟩ := e'
  cases e1; cases e2; cases e3; cases e4; cases f1; cases f2; cases f3; cases f4
  have k : ∀ (v : Value) (xs ys : List Int), Row w lo v xs → Row W lo v ys → Row w' lo v xs := fun v xs ys h h' => h.far hb (fun j e => by have := (h'.lt j e).2; omega)
  exact ⟨_, _, _, _, _, _, rfl, ⟨_, _, _, _, _, rfl, rfl, ⟨_, _, _, _, rfl, ⟨_, _, _, rfl, k _ _ _ r0 s0, k _ _ _ r1 s1, k _ _ _ r2 s2, x⟩, k _ _ _ r3 s3, y⟩, k _ _ _ hr sr, ap⟩, ho.farO hb (fun j e => by have := (ORow.lt so j e).2; omega), a⟩
set_option maxRecDepth 100000 in
set_option maxHeartbeats 2000000 in
theorem eqBoth_same (w : World) (lo lo' : Nat) (v v' : Value) (B : Bp) (h : Bv w lo v B) (h' : Bv w lo' v' B) : Calls Tryz.prog 25 #[v, v'] w (RetB w true) := by
  obtain ⟨A0, n0, c0, A1, n1, c1, A2, n2, c2, A3, n3, c3, A4, n4, c4, A5, n5, c5, C, p, cc, a, os, i, z, rfl, rfl, hc, ho, ⟨l0, l1, l2, l3, l4, l5⟩, ⟨m0, m1, m2, m3, m4, m5⟩⟩ := h.open_
  obtain ⟨A0', n0', c0', A1', n1', c1', A2', n2', c2', A3', n3', c3', A4', n4', c4', A5', n5', c5', C', p', cc', a', os', i', z', e, rfl, hc', ho', ⟨l0', l1', l2', l3', l4', l5'⟩, ⟨m0', m1', m2', m3', m4', m5'⟩⟩ := h'.open_
  cases e
  have X := (Blk10.new w (.slice A0 n0 c0) (.slice A1 n1 c1) (.slice A2 n2 c2) (.slice A3 n3 c3) (.int .i64 p) (.slice A4 n4 c4) (.int .i64 a) (.slice A5 n5 c5) (.int .i64 i) (.bool z) 32).alloc (.cells #[.slice A0' n0' c0', .slice A1' n1' c1', .slice A2' n2' c2', .slice A3' n3' c3', .int .i64 p, .slice A4' n4' c4', .int .i64 a, .slice A5' n5' c5', .int .i64 i, .bool z] 32)
  have Y := Blk10.new_at (w := w.alloc (.cells #[.slice A0 n0 c0, .slice A1 n1 c1, .slice A2 n2 c2, .slice A3 n3 c3, .int .i64 p, .slice A4 n4 c4, .int .i64 a, .slice A5 n5 c5, .int .i64 i, .bool z] 32)) (b := w.heap.size + 1) (by simp) (.slice A0' n0' c0') (.slice A1' n1' c1') (.slice A2' n2' c2') (.slice A3' n3' c3') (.int .i64 p) (.slice A4' n4' c4') (.int .i64 a) (.slice A5' n5' c5') (.int .i64 i) (.bool z) 32
  have HC := (hc.alloc (.cells #[.slice A0 n0 c0, .slice A1 n1 c1, .slice A2 n2 c2, .slice A3 n3 c3, .int .i64 p, .slice A4 n4 c4, .int .i64 a, .slice A5 n5 c5, .int .i64 i, .bool z] 32)).alloc (.cells #[.slice A0' n0' c0', .slice A1' n1' c1', .slice A2' n2' c2', .slice A3' n3' c3', .int .i64 p, .slice A4' n4' c4', .int .i64 a, .slice A5' n5' c5', .int .i64 i, .bool z] 32)
  have HC' := (hc'.alloc (.cells #[.slice A0 n0 c0, .slice A1 n1 c1, .slice A2 n2 c2, .slice A3 n3 c3, .int .i64 p, .slice A4 n4 c4, .int .i64 a, .slice A5 n5 c5, .int .i64 i, .bool z] 32)).alloc (.cells #[.slice A0' n0' c0', .slice A1' n1' c1', .slice A2' n2' c2', .slice A3' n3' c3', .int .i64 p, .slice A4' n4' c4', .int .i64 a, .slice A5' n5' c5', .int .i64 i, .bool z] 32)
  have HO := (ho.alloc (.cells #[.slice A0 n0 c0, .slice A1 n1 c1, .slice A2 n2 c2, .slice A3 n3 c3, .int .i64 p, .slice A4 n4 c4, .int .i64 a, .slice A5 n5 c5, .int .i64 i, .bool z] 32)).alloc (.cells #[.slice A0' n0' c0', .slice A1' n1' c1', .slice A2' n2' c2', .slice A3' n3' c3', .int .i64 p, .slice A4' n4' c4', .int .i64 a, .slice A5' n5' c5', .int .i64 i, .bool z] 32)
  have HO' := (ho'.alloc (.cells #[.slice A0 n0 c0, .slice A1 n1 c1, .slice A2 n2 c2, .slice A3 n3 c3, .int .i64 p, .slice A4 n4 c4, .int .i64 a, .slice A5 n5 c5, .int .i64 i, .bool z] 32)).alloc (.cells #[.slice A0' n0' c0', .slice A1' n1' c1', .slice A2' n2' c2', .slice A3' n3' c3', .int .i64 p, .slice A4' n4' c4', .int .i64 a, .slice A5' n5' c5', .int .i64 i, .bool z] 32)
  have BB : Below w.heap.size w ((w.alloc (.cells #[.slice A0 n0 c0, .slice A1 n1 c1, .slice A2 n2 c2, .slice A3 n3 c3, .int .i64 p, .slice A4 n4 c4, .int .i64 a, .slice A5 n5 c5, .int .i64 i, .bool z] 32)).alloc (.cells #[.slice A0' n0' c0', .slice A1' n1' c1', .slice A2' n2' c2', .slice A3' n3' c3', .int .i64 p, .slice A4' n4' c4', .int .i64 a, .slice A5' n5' c5', .int .i64 i, .bool z] 32)) := ((Below.refl _ _).alloc (Nat.le_refl _) _).alloc (by simp) _
  clear hc hc' ho ho' h h'
  generalize hW : (w.alloc (.cells #[.slice A0 n0 c0, .slice A1 n1 c1, .slice A2 n2 c2, .slice A3 n3 c3, .int .i64 p, .slice A4 n4 c4, .int .i64 a, .slice A5 n5 c5, .int .i64 i, .bool z] 32)).alloc (.cells #[.slice A0' n0' c0', .slice A1' n1' c1', .slice A2' n2' c2', .slice A3' n3' c3', .int .i64 p, .slice A4' n4' c4', .int .i64 a, .slice A5' n5' c5', .int .i64 i, .bool z] 32) = W at X Y HC HC' HO HO' BB
  obtain ⟨⟨x0, x1, x2, x3, x4, x5, x6, x7, x8, x9⟩, -⟩ := X.cells
  obtain ⟨⟨y0, y1, y2, y3, y4, y5, y6, y7, y8, y9⟩, -⟩ := Y.cells
  have E1 := eqColored_same _ _ _ _ _ _ HC.cv HC'.cv
  have E2 := fun W' (hb : Below W.heap.size W W') => eqGc_same W' _ _ _ _ _ (HC.gv.below hb) (HC'.gv.below hb)
  have E3 := fun W' (hb : Below W.heap.size W W') => eqOpS_any W' _ _ A5 A5' n5 c5 n5' c5' os os (HO.below hb) l5.out m5 (HO'.below hb) l5'.out m5'
  simp only [decide_true] at E3
  have hi : (i != i) = false := by simp
  have hz : (z != z) = false := by simp
  clear HC HC' HO HO'
  go_enter Tryz.func25, Tryz.ntmps25
  go_wp2_with fail
  (try rw [hW])
  refine E1.mono ?_; rintro e w1 ⟨rfl, hb1⟩
  obtain ⟨⟨q0, q1, q2, q3, q4, q5, q6, q7, q8, q9⟩, -⟩ := (X.below hb1).cells
  obtain ⟨⟨r0, r1, r2, r3, r4, r5, r6, r7, r8, r9⟩, -⟩ := (Y.below hb1).cells
  clear x0 x1 x2 x3 x4 x5 x6 x7 x8 x9 y0 y1 y2 y3 y4 y5 y6 y7 y8 y9 E1
  go_wp2_with fail
  refine (E2 _ hb1).mono ?_; rintro e w2 ⟨rfl, hb2⟩
  have hB2 := hb1.trans (hb2.mono hb1.size)
  clear q0 q1 q2 q3 q4 q5 q6 q7 q8 q9 r0 r1 r2 r3 r4 r5 r6 r7 r8 r9 E2
  obtain ⟨⟨q0, q1, q2, q3, q4, q5, q6, q7, q8, q9⟩, -⟩ := (X.below hB2).cells
  obtain ⟨⟨r0, r1, r2, r3, r4, r5, r6, r7, r8, r9⟩, -⟩ := (Y.below hB2).cells
  go_wp2_with fail
  refine (E3 _ hB2).mono ?_; rintro e w3 ⟨rfl, hb3⟩
  have hB3 := hB2.trans (hb3.mono hB2.size)
  clear q0 q1 q2 q3 q4 q5 q6 q7 q8 q9 r0 r1 r2 r3 r4 r5 r6 r7 r8 r9 E3
  obtain ⟨⟨q0, q1, q2, q3, q4, q5, q6, q7, q8, q9⟩, -⟩ := (X.below hB3).cells
  obtain ⟨⟨r0, r1, r2, r3, r4, r5, r6, r7, r8, r9⟩, -⟩ := (Y.below hB3).cells
  have fin := BB.trans (hB3.mono BB.size)
  go_wp2_with fail
  go_ret
  exact ⟨rfl, fin⟩

set_option maxRecDepth 100000 in
set_option maxHeartbeats 2000000 in
theorem heldOpS_any (w : World) (lo : Nat) (A : Option Addr) (n c : Nat) (k : Nat) (h : ORow w lo (.slice A n c) (seqO k n)) (hm : n ≤ 1048576) (hk : k ≤ 1073741824) :
    Calls Tryz.prog 68 #[.slice A n c, .int .i64 k] w fun e w' => e = .returned (.int .i64 ((k + n * 3 : Nat) : Int)) ∧ w = w' := by
  go_enter Tryz.func68, Tryz.ntmps68
  go_wp2_with fail
  go_loop [1, 5] (fun q i => ∃ j : Nat, j ≤ n ∧ i = .int .i64 j ∧ q = .int .i64 ((k + j * 3 : Nat) : Int)) (fun _ i => n - (intOf i).toNat)
  case atStart => exact ⟨0, Nat.zero_le _, rfl, rfl⟩
  case round =>
    obtain ⟨j, hj, rfl, rfl⟩ := hrel
    by_cases hlt : j < n
    · obtain ⟨g, ⟨zk, za, zq⟩, rfl, _, _, hx, z0, z1, z2⟩ := h.get (k := j) (by rw [seqO_len]; exact hlt)
      simp only at z0 z1 z2
      have hx' := hx.out
      rw [seqO_at hlt] at hx'
      simp only [Option.some.injEq, Opv.mk.injEq] at hx'
      obtain ⟨f0, f1, f2⟩ := hx'
      have e1 : za = ((k + j * 3 : Nat) : Int) + 1 := by omega
      have e2 : zq = ((k + j * 3 : Nat) : Int) + 1 + 1 := by omega
      have eS : (((k + j * 3 : Nat) : Int) + 1 + 1 + 1) = ((k + (j + 1) * 3 : Nat) : Int) := by omega
      have HS := Lib.hid eS
      subst e1 e2
      rw [← f0] at z0
      clear f0 f1 f2 eS hx h
      have hq : 0 ≤ ((k + j * 3 : Nat) : Int) ∧ ((k + j * 3 : Nat) : Int) ≤ 1077936128 := by omega
      generalize hkj : ((k + j * 3 : Nat) : Int) = kj at *
      have HK := Lib.hid hkj
      clear hkj
      obtain ⟨hb1, hb2⟩ := hq
      go_wp2_with fail
      go_round
      case rel => exact ⟨j + 1, by omega, by go_num, by rw [HS.out]⟩
      case measure => simp [intOf]; omega
    · obtain rfl : j = n := by omega
      go_wp2_with fail
      go_ret
      exact ⟨rfl, rfl⟩

set_option maxRecDepth 100000 in
set_option maxHeartbeats 1000000 in
theorem markOpS2_any (w : World) (lo : Nat) (A : Option Addr) (n c : Nat) (os : List Opv) (h : ORow w lo (.slice A n c) os) (hn : os.length = n) (hm : n ≤ 1048576) (k : Nat) (hk : k ≤ 1073741824) :
    Calls Tryz.prog 65 #[.slice A n c, .int .i64 k] w fun e w' => e = .returned (.int .i64 ((k + n * 3 : Nat) : Int)) ∧ ORow w' lo (.slice A n c) (seqO k n) ∧ w.grownBy w' (Value.slice A n c).ownBlock ∧ w'.heap.size = w.heap.size := by
  go_enter Tryz.func65, Tryz.ntmps65
  go_wp2_with fail
  go_loopw [1, 5] (fun q i wr => ∃ j : Nat, j ≤ n ∧ i = .int .i64 j ∧ q = .int .i64 ((k + j * 3 : Nat) : Int) ∧ ORow wr lo (.slice A n c) (seqO k j ++ os.drop j) ∧ Hid (w.grownBy wr (Value.slice A n c).ownBlock ∧ wr.heap.size = w.heap.size)) (fun _ i _ => n - (intOf i).toNat)
  case atStart => exact ⟨0, Nat.zero_le _, rfl, rfl, h, World.grownBy.refl _ _, rfl⟩
  case round =>
    obtain ⟨j, hj, rfl, rfl, hr, hg⟩ := hrel
    by_cases hlt : j < n
    · have hrl : (seqO k j ++ os.drop j).length = n := by simp [seqO_len]; omega
      obtain ⟨g, ⟨zk, za, zq⟩, rfl, _, _, _, z0, z1, z2⟩ := hr.get (k := j) (by rw [hrl]; exact hlt)
      simp only at z0 z1 z2
      have f0 := hr.frozen (j * 3)
      have f1 := hr.frozen (j * 3 + 1)
      have f2 := hr.frozen (j * 3 + 2)
      obtain ⟨hr', hgr⟩ := hr.set3 (k := j) (by rw [hrl]; exact hlt) ⟨((k + j * 3 : Nat) : Int), ((k + j * 3 + 1 : Nat) : Int), ((k + j * 3 + 2 : Nat) : Int)⟩
      rw [seqO_set (by omega)] at hr'
      have e1 : ((k + j * 3 + 1 : Nat) : Int) = ((k + j * 3 : Nat) : Int) + 1 := by omega
      have e2 : ((k + j * 3 + 2 : Nat) : Int) = ((k + j * 3 : Nat) : Int) + 1 + 1 := by omega
      simp only [e1, e2] at hr' hgr
      have hg' : Hid (w.grownBy ((((wr.setCell ⟨g, j * 3, none⟩ (.int .i64 ((k + j * 3 : Nat) : Int))).setCell ⟨g, j * 3 + 1, none⟩ (.int .i64 (((k + j * 3 : Nat) : Int) + 1))).setCell ⟨g, j * 3 + 2, none⟩ (.int .i64 (((k + j * 3 : Nat) : Int) + 1 + 1)))) (Value.slice (some ⟨g, 0, none⟩) n c).ownBlock ∧ ((((wr.setCell ⟨g, j * 3, none⟩ (.int .i64 ((k + j * 3 : Nat) : Int))).setCell ⟨g, j * 3 + 1, none⟩ (.int .i64 (((k + j * 3 : Nat) : Int) + 1))).setCell ⟨g, j * 3 + 2, none⟩ (.int .i64 (((k + j * 3 : Nat) : Int) + 1 + 1)))).heap.size = w.heap.size) :=
        ⟨⟨hgr.os.trans hg.out.1.os, hgr.tape.trans hg.out.1.tape, hgr.output.trans hg.out.1.output, Nat.le_trans hg.out.1.size hgr.size, fun i hi hne => (hgr.block i (Nat.lt_of_lt_of_le hi hg.out.1.size) hne).trans (hg.out.1.block i hi hne)⟩, by simpa [World.setCell] using hg.out.2⟩
      have eS : (((k + j * 3 : Nat) : Int) + 1 + 1 + 1) = ((k + (j + 1) * 3 : Nat) : Int) := by omega
      have HS := Lib.hid eS
      clear hr hg h eS hgr e1 e2
      generalize hkj : ((k + j * 3 : Nat) : Int) = kj at *
      have hb : 0 ≤ kj ∧ kj ≤ 1077936128 := by omega
      obtain ⟨hb1, hb2⟩ := hb
      have HK := Lib.hid hkj
      clear hkj
      go_wp2_with fail
      go_roundw
      case rel => exact ⟨j + 1, by omega, by go_num, by rw [HS.out], hr', hg'⟩
      case measure => simp [intOf]; omega
    · obtain rfl : j = n := by omega
      rw [List.drop_of_length_le (by omega), List.append_nil] at hr
      go_wp2_with fail
      go_ret
      exact ⟨rfl, hr, hg.out.1, hg.out.2⟩
theorem Blk10.frameN {w w' : World} {b : Nat} {x0 x1 x2 x3 x4 x5 x6 x7 x8 x9 u : Value} {t : TypeId} (h : Blk10 w b x0 x1 x2 x3 x4 x5 x6 x7 x8 x9 t) (fr : ∀ b, b < w.heap.size → NotC u b → w'.heap[b]? = w.heap[b]?) (hn : NotC u b) : Blk10 w' b x0 x1 x2 x3 x4 x5 x6 x7 x8 x9 t := (fr b h.lt hn).trans h
theorem far_or' {r u : Value} (h : Apart r u) : u.ownBlock = none ∨ u.ownBlock ≠ r.ownBlock := by
  cases e : u.ownBlock with
  | none => exact .inl rfl
  | some b => exact .inr (fun e' => h b e'.symm e)
set_option maxRecDepth 100000 in
set_option maxHeartbeats 2000000 in
theorem markBoth_any (w : World) (lo : Nat) (v : Value) (B : Bp) (hv : Bv w lo v B) (hlo : lo ≤ w.heap.size) (hs : ShortL B 1048576) : Calls Tryz.prog 26 #[v, .int .i64 1] w (MarkedB w lo ((numB B : Nat) : Int) v B) := by
  have hvo := hv
  obtain ⟨A0, n0, c0, A1, n1, c1, A2, n2, c2, A3, n3, c3, A4, n4, c4, A5, n5, c5, C, p, cc, a, os, i, z, rfl, rfl, hc, ho, ⟨l0, l1, l2, l3, l4, l5⟩, ⟨m0, m1, m2, m3, m4, m5⟩⟩ := hvo.open_
  obtain ⟨b0, b1, b2, b3, b4, b5⟩ := hs
  obtain ⟨_, _, _, _, _, _, e, hcg, _, ⟨a0, a1, a2, a3, a4⟩⟩ := hv
  cases e
  obtain ⟨_, _, _, _, _, e, e', hcv, hr, c0', c1', c2', c3'⟩ := hcg
  cases e; cases e'
  dsimp only at *
  have X := Blk10.new w (.slice A0 n0 c0) (.slice A1 n1 c1) (.slice A2 n2 c2) (.slice A3 n3 c3) (.int .i64 p) (.slice A4 n4 c4) (.int .i64 a) (.slice A5 n5 c5) (.int .i64 i) (.bool z) 32
  have HC := hcv.alloc (.cells #[.slice A0 n0 c0, .slice A1 n1 c1, .slice A2 n2 c2, .slice A3 n3 c3, .int .i64 p, .slice A4 n4 c4, .int .i64 a, .slice A5 n5 c5, .int .i64 i, .bool z] 32)
  have HR := hr.alloc (.cells #[.slice A0 n0 c0, .slice A1 n1 c1, .slice A2 n2 c2, .slice A3 n3 c3, .int .i64 p, .slice A4 n4 c4, .int .i64 a, .slice A5 n5 c5, .int .i64 i, .bool z] 32)
  have HO := ho.alloc (.cells #[.slice A0 n0 c0, .slice A1 n1 c1, .slice A2 n2 c2, .slice A3 n3 c3, .int .i64 p, .slice A4 n4 c4, .int .i64 a, .slice A5 n5 c5, .int .i64 i, .bool z] 32)
  have Bl : Below lo w (w.alloc (.cells #[.slice A0 n0 c0, .slice A1 n1 c1, .slice A2 n2 c2, .slice A3 n3 c3, .int .i64 p, .slice A4 n4 c4, .int .i64 a, .slice A5 n5 c5, .int .i64 i, .bool z] 32)) := (Below.refl _ _).alloc hlo _
  have z0 : w.heap.size + 1 = (w.alloc (.cells #[.slice A0 n0 c0, .slice A1 n1 c1, .slice A2 n2 c2, .slice A3 n3 c3, .int .i64 p, .slice A4 n4 c4, .int .i64 a, .slice A5 n5 c5, .int .i64 i, .bool z] 32)).heap.size := by simp
  have ff : ∀ b, b < w.heap.size → (w.alloc (.cells #[.slice A0 n0 c0, .slice A1 n1 c1, .slice A2 n2 c2, .slice A3 n3 c3, .int .i64 p, .slice A4 n4 c4, .int .i64 a, .slice A5 n5 c5, .int .i64 i, .bool z] 32)).heap[b]? = w.heap[b]? := fun b hb => Below.heap_alloc w _ b hb
  have nX : NotC (.agg #[.slice A0 n0 c0, .slice A1 n1 c1, .slice A2 n2 c2, .slice A3 n3 c3]) w.heap.size := notC_new hcv (Nat.le_refl _)
  have oR : ∀ b, (Value.slice A4 n4 c4).ownBlock = some b → b < w.heap.size := fun b e => (hr.lt b e).2
  have oO : ∀ b, (Value.slice A5 n5 c5).ownBlock = some b → b < w.heap.size := fun b e => (ORow.lt ho b e).2
  have aR : ∀ b, (Value.slice A4 n4 c4).ownBlock = some b → NotC (.agg #[.slice A0 n0 c0, .slice A1 n1 c1, .slice A2 n2 c2, .slice A3 n3 c3]) b := fun b e u0 u1 u2 u3 e' => by
    cases e'
    exact ⟨fun h => c0' b h.symm e, fun h => c1' b h.symm e, fun h => c2' b h.symm e, fun h => c3' b h.symm e⟩
  have aO : ∀ b, (Value.slice A5 n5 c5).ownBlock = some b → NotC (.agg #[.slice A0 n0 c0, .slice A1 n1 c1, .slice A2 n2 c2, .slice A3 n3 c3]) b := fun b e u0 u1 u2 u3 e' => by
    cases e'
    exact ⟨fun h => a0 b h.symm e, fun h => a1 b h.symm e, fun h => a2 b h.symm e, fun h => a3 b h.symm e⟩
  generalize hW : w.alloc (.cells #[.slice A0 n0 c0, .slice A1 n1 c1, .slice A2 n2 c2, .slice A3 n3 c3, .int .i64 p, .slice A4 n4 c4, .int .i64 a, .slice A5 n5 c5, .int .i64 i, .bool z] 32) = W at X HC HR HO Bl z0 ff
  obtain ⟨⟨x0, x1, x2, x3, x4, x5, x6, x7, x8, x9⟩, -⟩ := X.cells
  have M1 := markColored_any W lo _ C HC (by omega) b0 b1 b2 b3
  have hsz : sizeC C ≤ 4194304 := by unfold sizeC sizeH; omega
  go_enter Tryz.func26, Tryz.ntmps26
  go_wp2_with fail
  (try rw [hW])
  refine M1.mono ?_; rintro e w1 ⟨rfl, HC1, hl1, fr1⟩
  have s1 := hl1.size
  have X1 := Blk10.frameN X fr1 nX
  have HR1 := Row.keptC HR fr1 aR
  have HO1 := ORow.keptC HO fr1 aO
  obtain ⟨⟨y0, y1, y2, y3, y4, y5, y6, y7, y8, y9⟩, -⟩ := X1.cells
  clear X HC HR HO M1 x0 x1 x2 x3 x4 x5 x6 x7 x8 x9
  have M2 := markGc_any w1 lo p a A4 n4 c4 cc HR1 l4.out (by have := l4.out; omega) (1 + sizeC C) (by omega)
  generalize hk1 : 1 + sizeC C = k1 at *
  go_wp2_with fail
  refine M2.mono ?_; rintro e w2 ⟨rfl, HR2, hg2⟩
  have s2 := hg2.size
  have X2 := Blk10.keptG X1 hg2 (fun e => by have := oR _ e.symm; omega)
  have HC2 := Cv.keptA HC1 hg2 ⟨c0', c1', c2', c3'⟩
  have HO2 := ORow.kept HO1 hg2 (far_or' a4)
  obtain ⟨⟨x0, x1, x2, x3, x4, x5, x6, x7, x8, x9⟩, -⟩ := X2.cells
  clear X1 HC1 HR1 HO1 M2 y0 y1 y2 y3 y4 y5 y6 y7 y8 y9
  have M3 := markOpS2_any w2 lo A5 n5 c5 os HO2 l5.out (by have := l5.out; omega) (k1 + n4) (by have := l4.out; omega)
  have hk2 : Hid (k1 + n4 + n5 * 3 = k1 + cc.length + os.length * 3) := by unfold Hid; rw [l4.out, l5.out]
  go_wp2_with fail
  refine M3.mono ?_; rintro e w3 ⟨rfl, HO3, hg3, s3⟩
  have HC3 := Cv.keptA HC2 hg3 ⟨a0, a1, a2, a3⟩
  have HR3 := Row.kept HR2 hg3 (far_or a4)
  clear X2 HC2 HR2 HO2 M3 x0 x1 x2 x3 x4 x5 x6 x7 x8 x9
  have Fin : Below lo w w3 := by
    refine ⟨?_, ?_, ?_, ?_, fun k hk => ?_⟩
    · exact hg3.os.trans (hg2.os.trans (hl1.os.trans Bl.os))
    · exact hg3.tape.trans (hg2.tape.trans (hl1.tape.trans Bl.tape))
    · exact hg3.output.trans (hg2.output.trans (hl1.output.trans Bl.output))
    · have := Bl.size; omega
    · have e2 := hg2.block k (by omega) (fun e => by have := (hr.lt k e.symm).1; omega)
      have e3 := hg3.block k (by omega) (fun e => by have := (ORow.lt ho k e.symm).1; omega)
      exact e3.trans (e2.trans ((hl1.block k hk).trans (Bl.block k hk)))
  have Fr : ∀ b, b < w.heap.size → FarB (.agg #[.slice A0 n0 c0, .slice A1 n1 c1, .slice A2 n2 c2, .slice A3 n3 c3, .int .i64 p, .slice A4 n4 c4, .int .i64 a, .slice A5 n5 c5, .int .i64 i, .bool z]) b → w3.heap[b]? = w.heap[b]? := fun b hb hn => by
    obtain ⟨q1, q2, q3⟩ := hn _ _ _ _ _ _ _ _ _ _ rfl
    have e1 := fr1 b (by omega) (fun u0 u1 u2 u3 e' => by cases e'; exact q1)
    exact (hg3.block b (by omega) q3).trans ((hg2.block b (by omega) q2).trans (e1.trans (ff b hb)))
  go_wp2_with fail
  go_ret
  refine ⟨ret_int (by unfold numB; dsimp only; rw [hk1, ← hk2.out]; (try simp); (try omega)), ?_, Fin, Fr⟩
  unfold markB
  dsimp only
  rw [hk1, l4.out, l5.out]
  exact ⟨_, _, _, _, _, _, rfl, ⟨_, _, _, _, _, rfl, rfl, HC3, HR3, c0', c1', c2', c3'⟩, HO3, a0, a1, a2, a3, a4⟩

set_option maxRecDepth 100000 in
set_option maxHeartbeats 2000000 in
theorem heldBoth_any (w : World) (lo : Nat) (v : Value) (B : Bp) (hv : Bv w lo v (markB B)) (hs : ShortL B 1048576) : Calls Tryz.prog 27 #[v, .int .i64 1] w (RetI w ((numB B : Nat) : Int)) := by
  obtain ⟨b0, b1, b2, b3, b4, b5⟩ := hs
  obtain ⟨C, ⟨p, cc, a⟩, os, i, z⟩ := B
  unfold markB at hv
  dsimp only at *
  obtain ⟨A0, n0, c0, A1, n1, c1, A2, n2, c2, A3, n3, c3, A4, n4, c4, A5, n5, c5, C', p', cc', a', os', i', z', e, rfl, hc, ho, ⟨l0, l1, l2, l3, l4, l5⟩, ⟨m0, m1, m2, m3, m4, m5⟩⟩ := hv.open_
  cases e
  have e4 : cc.length = n4 := by have := l4.out; rw [seqI_len] at this; exact this
  have e5 : os.length = n5 := by have := l5.out; rw [seqO_len] at this; exact this
  rw [e4] at hc ho
  rw [e5] at ho
  have X := Blk10.new w (.slice A0 n0 c0) (.slice A1 n1 c1) (.slice A2 n2 c2) (.slice A3 n3 c3) (.int .i64 p) (.slice A4 n4 c4) (.int .i64 a) (.slice A5 n5 c5) (.int .i64 i) (.bool z) 32
  have HC := hc.alloc (.cells #[.slice A0 n0 c0, .slice A1 n1 c1, .slice A2 n2 c2, .slice A3 n3 c3, .int .i64 p, .slice A4 n4 c4, .int .i64 a, .slice A5 n5 c5, .int .i64 i, .bool z] 32)
  have HO := ho.alloc (.cells #[.slice A0 n0 c0, .slice A1 n1 c1, .slice A2 n2 c2, .slice A3 n3 c3, .int .i64 p, .slice A4 n4 c4, .int .i64 a, .slice A5 n5 c5, .int .i64 i, .bool z] 32)
  have BB : Below w.heap.size w (w.alloc (.cells #[.slice A0 n0 c0, .slice A1 n1 c1, .slice A2 n2 c2, .slice A3 n3 c3, .int .i64 p, .slice A4 n4 c4, .int .i64 a, .slice A5 n5 c5, .int .i64 i, .bool z] 32)) := (Below.refl _ _).alloc (Nat.le_refl _) _
  clear hc ho hv l4 l5
  generalize hW : w.alloc (.cells #[.slice A0 n0 c0, .slice A1 n1 c1, .slice A2 n2 c2, .slice A3 n3 c3, .int .i64 p, .slice A4 n4 c4, .int .i64 a, .slice A5 n5 c5, .int .i64 i, .bool z] 32) = W at X HC HO BB
  obtain ⟨⟨x0, x1, x2, x3, x4, x5, x6, x7, x8, x9⟩, -⟩ := X.cells
  have hsz : sizeC C ≤ 4194304 := by unfold sizeC sizeH; omega
  have M1 := heldColored_any W lo _ C HC.cv b0 b1 b2 b3
  have M2 := fun W' (hb : Below W.heap.size W W') => heldGc_any W' lo p a A4 n4 c4 (1 + sizeC C) (by obtain ⟨_, _, _, _, _, _, e, _, hr, _⟩ := HC; cases e; exact hr.below hb) (by omega) (by omega)
  have M3 := fun W' (hb : Below W.heap.size W W') => heldOpS_any W' lo A5 n5 c5 (1 + sizeC C + n4) (HO.below hb) (by omega) (by omega)
  have hN : Hid (numB ⟨C, ⟨p, cc, a⟩, os, i, z⟩ = 1 + sizeC C + n4 + n5 * 3) := by unfold Hid numB; dsimp only; rw [e4, e5]
  have g1 : ¬ (((1 + sizeC C : Nat) : Int) < 0) := by omega
  have g2 : ¬ (((1 + sizeC C + n4 : Nat) : Int) < 0) := by omega
  have g3 : ¬ (((1 + sizeC C + n4 + n5 * 3 : Nat) : Int) < 0) := by omega
  clear HC HO
  go_enter Tryz.func27, Tryz.ntmps27
  go_wp2_with fail
  (try rw [hW])
  refine M1.mono ?_; rintro e w1 ⟨rfl, hb1⟩
  obtain ⟨⟨q0, q1, q2, q3, q4, q5, q6, q7, q8, q9⟩, -⟩ := (X.below hb1).cells
  clear x0 x1 x2 x3 x4 x5 x6 x7 x8 x9 M1
  go_wp2_with fail
  refine (M2 _ hb1).mono ?_; rintro e w2 ⟨rfl, hb2⟩
  have hB2 := hb1.trans (hb2.mono hb1.size)
  obtain ⟨⟨r0, r1, r2, r3, r4, r5, r6, r7, r8, r9⟩, -⟩ := (X.below hB2).cells
  clear q0 q1 q2 q3 q4 q5 q6 q7 q8 q9 M2
  go_wp2_with fail
  refine (M3 _ hB2).mono ?_; rintro e w3 ⟨rfl, rfl⟩
  have fin := BB.trans (hB2.mono BB.size)
  go_wp2_with fail
  go_ret
  exact ⟨ret_int (by rw [hN.out]; (try simp); (try omega)), fin⟩

theorem markB1 (B : Bp) (hs : ShortL B 1048576) : ∃ N : Int, ¬ (N < 0) ∧ (N != N) = false ∧
    (∀ (w : World) (lo : Nat) (v : Value), Bv w lo v B → lo ≤ w.heap.size → Calls Tryz.prog 26 #[v, .int .i64 1] w (MarkedB w lo N v B)) ∧
    (∀ (w : World) (lo : Nat) (v : Value), Bv w lo v (markB B) → Calls Tryz.prog 27 #[v, .int .i64 1] w (RetI w N)) :=
  ⟨((numB B : Nat) : Int), by omega, by simp, fun w lo v hv hlo => markBoth_any w lo v B hv hlo hs, fun w lo v hv => heldBoth_any w lo v B hv hs⟩
end Go.Proofs.YtfoimicbmkiigaaGreat

