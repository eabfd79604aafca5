/- l6Step of spec. -/
import Derived.Test.YtfoimicbmkiigaaGreatGSms
import Derived.Test.YtfoimicbmkiigaaGreatStos
import Derived.Test.YtfoimicbmkiigaaGreatStoKs
import Derived.Test.YtfoimicbmkiigaaGreatGMets
import Derived.Test.YtfoimicbmkiigaaGreatOwn
namespace Go.Proofs.YtfoimicbmkiigaaGreat
open Go.RowKit

/-- A store and a collector, made anew. -/
def NewCG (w : World) (C : Cp) (G : Gp) (e : Ending) (w' : World) : Prop := ∃ vs vg, e = .returned (.tuple #[vs, vg]) ∧ CGv w' w.heap.size vs vg C G ∧ Below w.heap.size w w'
theorem Row.raise {w : World} {lo lo' g n c : Nat} {xs : List Int} (h : Row w lo (.slice (some ⟨g, 0, none⟩) n c) xs) (hl : lo' ≤ g) : Row w lo' (.slice (some ⟨g, 0, none⟩) n c) xs := by
  refine ⟨h.1, ?_⟩
  rcases h.2 with ⟨e, _⟩ | ⟨g', cap, cur, e, _, h2⟩
  · cases e
  · cases e; exact .inr ⟨_, _, _, rfl, hl, h2⟩
theorem Row.setS {w : World} {lo b : Nat} {v : Value} {xs : List Int} (h : Row w lo v xs) (hb : b < lo) (o : Nat) (u : Value) : Row (w.setCell ⟨b, o, none⟩ u) lo v xs := h.setE (own_neR h (.inl hb)) o u
theorem Row.drewS {w : World} {lo : Nat} {v : Value} {xs : List Int} (h : Row w lo v xs) : Row w.drew lo v xs := h
theorem Cv.setS {w : World} {lo b : Nat} {v : Value} {C : Cp} (h : Cv w lo v C) (hb : b < lo) (o : Nat) (u : Value) : Cv (w.setCell ⟨b, o, none⟩ u) lo v C := by
  obtain ⟨v0, v1, v2, v3, rfl, ⟨_, _, _, e, r0, r1, r2, a⟩, r3, c⟩ := h
  cases e
  exact ⟨v0, v1, v2, v3, rfl, ⟨_, _, _, rfl, r0.setS hb o u, r1.setS hb o u, r2.setS hb o u, a⟩, r3.setS hb o u, c⟩
theorem Cv.drewS {w : World} {lo : Nat} {v : Value} {C : Cp} (h : Cv w lo v C) : Cv w.drew lo v C := h
theorem CGv.setS {w : World} {lo b : Nat} {vs vg : Value} {C : Cp} {G : Gp} (h : CGv w lo vs vg C G) (hb : b < lo) (o : Nat) (u : Value) : CGv (w.setCell ⟨b, o, none⟩ u) lo vs vg C G := by
  obtain ⟨v0, v1, v2, v3, r, e, e', hv, hr, a⟩ := h
  exact ⟨v0, v1, v2, v3, r, e, e', hv.setS hb o u, hr.setS hb o u, a⟩
theorem CGv.reG {w : World} {lo : Nat} {vs r : Value} {C : Cp} {p a p' a' : Int} {cc : List Int} (h : CGv w lo vs (.agg #[.int .i64 p, r, .int .i64 a]) C ⟨p, cc, a⟩) : CGv w lo vs (.agg #[.int .i64 p', r, .int .i64 a']) C ⟨p', cc, a'⟩ := by
  obtain ⟨v0, v1, v2, v3, r, e, e', hv, hr, a⟩ := h
  cases e'
  exact ⟨v0, v1, v2, v3, _, e, rfl, hv, hr, a⟩
theorem cg_made {V : World} {lo n b : Nat} {vs : Value} {C : Cp} {mk : Obj} (hb : b = V.heap.size) (hn : Row (V.alloc mk) V.heap.size (.slice (some ⟨V.heap.size, 0, none⟩) n n) (List.replicate n 0)) (hl : lo ≤ V.heap.size) (h : Cv V lo vs C) : CGv (V.alloc mk) lo vs (.agg #[.int .i64 1, .slice (some ⟨b, 0, none⟩) n n, .int .i64 0]) C ⟨1, List.replicate n 0, 0⟩ := by
  subst hb
  exact CGv.mk h ⟨_, rfl, hn⟩ hl ((Below.refl _ _).alloc (Nat.le_refl _) _)
theorem sz_dr {n : Nat} {w : World} (h : n ≤ w.heap.size) : n ≤ w.drew.heap.size := h
theorem sz_set {n : Nat} {w : World} (h : n ≤ w.heap.size) (p : Addr) (u : Value) : n ≤ (w.setCell p u).heap.size := by rw [setSize]; exact h
theorem sz_al {n : Nat} {w : World} (h : n ≤ w.heap.size) (o : Obj) : n ≤ (w.alloc o).heap.size := by rw [World.size_alloc]; omega
theorem BS_dr {lo : Nat} {w w' : World} (h : Below lo w w') : Below lo w w'.drew := h.drew
theorem BS_set {w w' : World} {b0 b : Nat} (h : Below b0 w w') (hb : b0 ≤ b) (o : Nat) (u : Value) : Below b0 w (w'.setCell ⟨b, o, none⟩ u) := h.setCell (p := ⟨b, o, none⟩) hb u
theorem BS_al {w w' : World} {b0 : Nat} (h : Below b0 w w') (hb : b0 ≤ w.heap.size) (o : Obj) : Below b0 w (w'.alloc o) := h.alloc (Nat.le_trans hb h.size) o
theorem BS_th {w w' w'' : World} {b0 : Nat} (h : Below b0 w w') (hb : b0 ≤ w.heap.size) (k : Below w'.heap.size w' w'') : Below b0 w w'' := h.trans (k.mono (Nat.le_trans hb h.size))
theorem below_own {V V' : World} {b0 g : Nat} (h : V.grownBy V' (some g)) (hg : b0 ≤ g) (hV : b0 ≤ V.heap.size) : Below b0 V V' :=
  ⟨h.os, h.tape, h.output, h.size, fun k hk => h.block k (by omega) (fun e => by have := Option.some.inj e; omega)⟩

/-- The variables of a step: the store, the collector, its copy. -/
def EnvS (w : World) (b bo : Nat) (v0 v1 v2 v3 g0 g1 g2 o0 o1 o2 : Value) : Prop := b + 4 ≤ w.heap.size ∧ Blk4 w b v0 v1 v2 v3 27 ∧ Blk3 w (b + 1) g0 g1 g2 29 ∧ Blk3 w bo o0 o1 o2 29
section
variable {w w' : World} {b bo : Nat} {v0 v1 v2 v3 g0 g1 g2 o0 o1 o2 : Value}
theorem EnvS.set (h : EnvS w b bo v0 v1 v2 v3 g0 g1 g2 o0 o1 o2) {d : Nat} (hd : b ≠ d ∧ b + 1 ≠ d ∧ bo ≠ d) (o : Nat) (u : Value) : EnvS (w.setCell ⟨d, o, none⟩ u) b bo v0 v1 v2 v3 g0 g1 g2 o0 o1 o2 :=
  ⟨by have := h.1; simpa [World.setCell] using this, h.2.1.other (p := ⟨d, o, none⟩) hd.1 u, h.2.2.1.other (p := ⟨d, o, none⟩) hd.2.1 u, h.2.2.2.other (p := ⟨d, o, none⟩) hd.2.2 u⟩
theorem EnvS.setO1 (h : EnvS w b bo v0 v1 v2 v3 g0 g1 g2 o0 o1 o2) (h0 : bo ≠ b) (h1 : bo ≠ b + 1) (u : Value) : EnvS (w.setCell ⟨bo, 1, none⟩ u) b bo v0 v1 v2 v3 g0 g1 g2 o0 u o2 :=
  ⟨by have := h.1; simpa [World.setCell] using this, h.2.1.other (p := ⟨bo, 1, none⟩) h0.symm u, h.2.2.1.other (p := ⟨bo, 1, none⟩) h1.symm u, h.2.2.2.set1 u⟩
theorem EnvS.drew (h : EnvS w b bo v0 v1 v2 v3 g0 g1 g2 o0 o1 o2) : EnvS w.drew b bo v0 v1 v2 v3 g0 g1 g2 o0 o1 o2 := h
theorem EnvS.below (h : EnvS w b bo v0 v1 v2 v3 g0 g1 g2 o0 o1 o2) (hb : Below w.heap.size w w') : EnvS w' b bo v0 v1 v2 v3 g0 g1 g2 o0 o1 o2 :=
  ⟨Nat.le_trans h.1 hb.size, h.2.1.below hb, h.2.2.1.below hb, h.2.2.2.below hb⟩
theorem EnvS.alloc (h : EnvS w b bo v0 v1 v2 v3 g0 g1 g2 o0 o1 o2) (o : Obj) : EnvS (w.alloc o) b bo v0 v1 v2 v3 g0 g1 g2 o0 o1 o2 := h.below ((Below.refl _ _).alloc (Nat.le_refl _) o)
theorem EnvS.kept {g : Nat} (h : EnvS w b bo v0 v1 v2 v3 g0 g1 g2 o0 o1 o2) (hg : w.grownBy w' (some g)) (hd : b ≠ g ∧ b + 1 ≠ g ∧ bo ≠ g) : EnvS w' b bo v0 v1 v2 v3 g0 g1 g2 o0 o1 o2 :=
  ⟨Nat.le_trans h.1 hg.size, h.2.1.kept hg hd.1, h.2.2.1.kept hg hd.2.1, h.2.2.2.kept hg hd.2.2⟩
theorem EnvS.cells (h : EnvS w b bo v0 v1 v2 v3 g0 g1 g2 o0 o1 o2) : w.cell? ⟨b, 0, none⟩ = some v0 ∧ w.cell? ⟨b, 1, none⟩ = some v1 ∧ w.cell? ⟨b, 2, none⟩ = some v2 ∧ w.cell? ⟨b, 3, none⟩ = some v3 ∧ w.cell? ⟨b + 1, 0, none⟩ = some g0 ∧ w.cell? ⟨b + 1, 1, none⟩ = some g1 ∧ w.cell? ⟨b + 1, 2, none⟩ = some g2 ∧ w.cell? ⟨bo, 0, none⟩ = some o0 ∧ w.cell? ⟨bo, 1, none⟩ = some o1 ∧ w.cell? ⟨bo, 2, none⟩ = some o2 :=
  ⟨h.2.1.cells.1, h.2.1.cells.2.1, h.2.1.cells.2.2.1, h.2.1.cells.2.2.2.1, h.2.2.1.cells.1, h.2.2.1.cells.2.1, h.2.2.1.cells.2.2.1, h.2.2.2.cells.1, h.2.2.2.cells.2.1, h.2.2.2.cells.2.2.1⟩
end
/-- What a step leaves: its two results. -/
def PostS (w : World) (C : Cp) (G : Gp) (w' : World) : Prop := ∃ k0 k1 k2 k3 r, Blk4 w' (w.heap.size + 1 + 1) k0 k1 k2 k3 27 ∧ Blk3 w' (w.heap.size + 1 + 1 + 1) (.int .i64 G.p) r (.int .i64 G.a) 29 ∧ CGv w' (w.heap.size + 4) (.agg #[k0, k1, k2, k3]) (.agg #[.int .i64 G.p, r, .int .i64 G.a]) C G ∧ Below w.heap.size w w'
theorem PostS.of {w w' : World} {C : Cp} {p a : Int} {cc : List Int} {k0 k1 k2 k3 r : Value} (hz : Blk4 w' (w.heap.size + 1 + 1) k0 k1 k2 k3 27) (hu : Blk3 w' (w.heap.size + 1 + 1 + 1) (.int .i64 p) r (.int .i64 a) 29) (hc : CGv w' (w.heap.size + 4) (.agg #[k0, k1, k2, k3]) (.agg #[.int .i64 p, r, .int .i64 a]) C ⟨p, cc, a⟩) (hb : Below w.heap.size w w') : PostS w C ⟨p, cc, a⟩ w' := ⟨_, _, _, _, _, hz, hu, hc, hb⟩
theorem Blk4.drewS {w : World} {b : Nat} {x y z u : Value} {t : TypeId} (h : Blk4 w b x y z u t) : Blk4 w.drew b x y z u t := h
theorem Blk3.drewS {w : World} {b : Nat} {x y z : Value} {t : TypeId} (h : Blk3 w b x y z t) : Blk3 w.drew b x y z t := h
theorem Blk4.otherS {w : World} {b d : Nat} {x y z u : Value} {t : TypeId} (h : Blk4 w b x y z u t) (hd : b ≠ d) (o : Nat) (v : Value) : Blk4 (w.setCell ⟨d, o, none⟩ v) b x y z u t := h.other (p := ⟨d, o, none⟩) hd v
theorem Blk3.otherS {w : World} {b d : Nat} {x y z : Value} {t : TypeId} (h : Blk3 w b x y z t) (hd : b ≠ d) (o : Nat) (v : Value) : Blk3 (w.setCell ⟨d, o, none⟩ v) b x y z t := h.other (p := ⟨d, o, none⟩) hd v
theorem cell_belowS {w V : World} {a : Addr} {u : Value} (h : w.cell? a = some u) (hb : Below w.heap.size w V) (hl : a.block < w.heap.size) : V.cell? a = some u := by
  unfold World.cell? at h ⊢
  rw [hb.block a.block hl]; exact h
theorem farG_of {w : World} {lo b : Nat} {v0 v1 v2 v3 r : Value} {C : Cp} (h : Cv w lo (.agg #[v0, v1, v2, v3]) C) (hb : b < lo) (hr : r.ownBlock ≠ some b) : FarG v0 v1 v2 v3 r b := by
  obtain ⟨_, _, _, _, e, ⟨_, _, _, e', r0, r1, r2, _⟩, r3, _⟩ := h
  cases e; cases e'
  exact ⟨own_neR r0 (.inl hb), own_neR r1 (.inl hb), own_neR r2 (.inl hb), own_neR r3 (.inl hb), hr⟩
theorem Cv.letters {w : World} {lo : Nat} {v : Value} {C : Cp} (h : Cv w lo v C) : ∃ k0 i0 d0 k1 i1 d1 k2 i2 d2 k3 i3 d3, v = .agg #[.slice k0 i0 d0, .slice k1 i1 d1, .slice k2 i2 d2, .slice k3 i3 d3] := by
  obtain ⟨A0, n0, c0, A1, n1, c1, A2, n2, c2, A3, n3, c3, rfl, _⟩ := h.open_
  exact ⟨_, _, _, _, _, _, _, _, _, _, _, _, rfl⟩

set_option maxRecDepth 100000 in
set_option maxHeartbeats 6000000 in
theorem l6Step0_any (w : World) (lo : Nat) (vs vg : Value) (C : Cp) (G : Gp) (h : CGv w lo vs vg C G) (hg : gcB C G = true) (hp : G.p = 0) :
    Calls Tryz.prog 97 #[vs, vg] w (NewCG w (stepG C G).1 (stepG C G).2) := by
  obtain ⟨A0, n0, c0, A1, n1, c1, A2, n2, c2, A3, n3, c3, A4, n4, c4, p, cc, a, rfl, rfl, rfl, hv, hk, ⟨r0, r1, r2, r3, r4⟩, ⟨l0, l1, l2, l3, l4⟩, ⟨m0, m1, m2, m3, m4⟩⟩ := h.open_
  dsimp only at hp
  subst hp
  obtain ⟨q1, ⟨q2, q3⟩, q4, q5, q6⟩ := gcB_sizes hg
  have hph := phB_iff.1 (gcB_iff.1 hg).2.2
  have hsto : stoB C = true := (gcB_iff.1 hg).1
  dsimp only at q1 q2 q3 q4 q5 q6 hph
  have l09 := l0.out
  have l29 := l2.out
  have l49 := l4.out
  have X := (((Blk4.new w (.slice A0 n0 c0) (.slice A1 n1 c1) (.slice A2 n2 c2) (.slice A3 n3 c3) 27).alloc (.cells #[.int .i64 0, .slice A4 n4 c4, .int .i64 a] 29)).alloc (.cells #[.slice none 0 0, .slice none 0 0, .slice none 0 0, .slice none 0 0] 27)).alloc (.cells #[.int .i64 0, .slice none 0 0, .int .i64 0] 29)
  have Y := ((Blk3.new_at (w := w.alloc (.cells #[.slice A0 n0 c0, .slice A1 n1 c1, .slice A2 n2 c2, .slice A3 n3 c3] 27)) (b := w.heap.size + 1) (by simp) (.int .i64 0) (.slice A4 n4 c4) (.int .i64 a) 29).alloc (.cells #[.slice none 0 0, .slice none 0 0, .slice none 0 0, .slice none 0 0] 27)).alloc (.cells #[.int .i64 0, .slice none 0 0, .int .i64 0] 29)
  have Z := (Blk4.new_at (w := (w.alloc (.cells #[.slice A0 n0 c0, .slice A1 n1 c1, .slice A2 n2 c2, .slice A3 n3 c3] 27)).alloc (.cells #[.int .i64 0, .slice A4 n4 c4, .int .i64 a] 29)) (b := w.heap.size + 1 + 1) (by simp) (.slice none 0 0) (.slice none 0 0) (.slice none 0 0) (.slice none 0 0) 27).alloc (.cells #[.int .i64 0, .slice none 0 0, .int .i64 0] 29)
  have U := Blk3.new_at (w := ((w.alloc (.cells #[.slice A0 n0 c0, .slice A1 n1 c1, .slice A2 n2 c2, .slice A3 n3 c3] 27)).alloc (.cells #[.int .i64 0, .slice A4 n4 c4, .int .i64 a] 29)).alloc (.cells #[.slice none 0 0, .slice none 0 0, .slice none 0 0, .slice none 0 0] 27)) (b := w.heap.size + 1 + 1 + 1) (by simp) (.int .i64 0) (.slice none 0 0) (.int .i64 0) 29
  have GV := (((h.gv.alloc (.cells #[.slice A0 n0 c0, .slice A1 n1 c1, .slice A2 n2 c2, .slice A3 n3 c3] 27)).alloc (.cells #[.int .i64 0, .slice A4 n4 c4, .int .i64 a] 29)).alloc (.cells #[.slice none 0 0, .slice none 0 0, .slice none 0 0, .slice none 0 0] 27)).alloc (.cells #[.int .i64 0, .slice none 0 0, .int .i64 0] 29)
  have BB : Below w.heap.size w ((((w.alloc (.cells #[.slice A0 n0 c0, .slice A1 n1 c1, .slice A2 n2 c2, .slice A3 n3 c3] 27)).alloc (.cells #[.int .i64 0, .slice A4 n4 c4, .int .i64 a] 29)).alloc (.cells #[.slice none 0 0, .slice none 0 0, .slice none 0 0, .slice none 0 0] 27)).alloc (.cells #[.int .i64 0, .slice none 0 0, .int .i64 0] 29)) := ((((Below.refl _ _).alloc (Nat.le_refl _) _).alloc (by simp) _).alloc (by simp <;> omega) _).alloc (by simp <;> omega) _
  have sz : ((((w.alloc (.cells #[.slice A0 n0 c0, .slice A1 n1 c1, .slice A2 n2 c2, .slice A3 n3 c3] 27)).alloc (.cells #[.int .i64 0, .slice A4 n4 c4, .int .i64 a] 29)).alloc (.cells #[.slice none 0 0, .slice none 0 0, .slice none 0 0, .slice none 0 0] 27)).alloc (.cells #[.int .i64 0, .slice none 0 0, .int .i64 0] 29)).heap.size = w.heap.size + 4 := by simp
  go_enter Tryz.func97, Tryz.ntmps97
  go_wp2_with fail
  generalize ((((w.alloc (.cells #[.slice A0 n0 c0, .slice A1 n1 c1, .slice A2 n2 c2, .slice A3 n3 c3] 27)).alloc (.cells #[.int .i64 0, .slice A4 n4 c4, .int .i64 a] 29)).alloc (.cells #[.slice none 0 0, .slice none 0 0, .slice none 0 0, .slice none 0 0] 27)).alloc (.cells #[.int .i64 0, .slice none 0 0, .int .i64 0] 29)) = W at X Y Z U GV BB sz ⊢
  obtain ⟨x0, x1, x2, x3, _⟩ := X.cells
  obtain ⟨y0, y1, y2, _⟩ := Y.cells
  have Cc := l6Copy_any W lo _ ⟨0, cc, a⟩ GV (by dsimp only; omega) (by dsimp only; omega)
  have l09' := Lib.hid l09
  have l29' := Lib.hid l29
  have l49' := Lib.hid l49
  have q1' := Lib.hid q1
  have q4' := Lib.hid q4
  have sz' : w.heap.size + 4 ≤ W.heap.size := by omega
  have szu : W.heap.size ≤ w.heap.size + 4 := by omega
  clear l0 l2 l4 l09 l29 l49 sz q1 q4 hsto
  go_wp2_with fail
  refine Cc.mono ?_; rintro e w1 ⟨vv, rfl, hD, hb1⟩
  obtain ⟨D4, n5, c5, rfl, s4, t4, _, _⟩ := hD.open_
  dsimp only at s4 t4
  obtain rfl : n5 = n4 := by have h1 := t4.out; have h2 := l49'.out; omega
  obtain ⟨g4, rfl, hg4l, hg4, _⟩ := s4.at_ (k := 0) (by have h1 := q1'.out; omega)
  have z1 := hb1.size
  have hsto : stoB C = true := (gcB_iff.1 hg).1
  have E1 : EnvS (w1.alloc (.cells #[.int .i64 0, .slice (some ⟨g4, 0, none⟩) n5 c5, .int .i64 a] 29)) w.heap.size w1.heap.size (.slice A0 n0 c0) (.slice A1 n1 c1) (.slice A2 n2 c2) (.slice A3 n3 c3) (.int .i64 0) (.slice A4 n5 c4) (.int .i64 a) (.int .i64 0) (.slice (some ⟨g4, 0, none⟩) n5 c5) (.int .i64 a) := ⟨by simp; omega, (X.below hb1).alloc _, (Y.below hb1).alloc _, Blk3.new _ _ _ _ _⟩
  have B1 : Below w.heap.size w (w1.alloc (.cells #[.int .i64 0, .slice (some ⟨g4, 0, none⟩) n5 c5, .int .i64 a] 29)) := BS_al (BB.trans (hb1.mono (by omega))) (Nat.le_refl _) _
  have R1 : Row (w1.alloc (.cells #[.int .i64 0, .slice (some ⟨g4, 0, none⟩) n5 c5, .int .i64 a] 29)) (w.heap.size + 4) (.slice (some ⟨g4, 0, none⟩) n5 c5) cc := (s4.alloc _).mono (by omega)
  have Z1 := (Z.below hb1).alloc (.cells #[.int .i64 0, .slice (some ⟨g4, 0, none⟩) n5 c5, .int .i64 a] 29)
  have U1 := (U.below hb1).alloc (.cells #[.int .i64 0, .slice (some ⟨g4, 0, none⟩) n5 c5, .int .i64 a] 29)
  have hs2 : w.heap.size ≤ w.heap.size + 1 + 1 := by omega
  have hs3 : w.heap.size ≤ w.heap.size + 1 + 1 + 1 := by omega
  have hl2 : w.heap.size + 1 + 1 < w.heap.size + 4 := by omega
  have hl3 : w.heap.size + 1 + 1 + 1 < w.heap.size + 4 := by omega
  have hd2 : w.heap.size ≠ w.heap.size + 1 + 1 ∧ w.heap.size + 1 ≠ w.heap.size + 1 + 1 ∧ w1.heap.size ≠ w.heap.size + 1 + 1 := by omega
  have hd3 : w.heap.size ≠ w.heap.size + 1 + 1 + 1 ∧ w.heap.size + 1 ≠ w.heap.size + 1 + 1 + 1 ∧ w1.heap.size ≠ w.heap.size + 1 + 1 + 1 := by omega
  have hdg : w.heap.size ≠ g4 ∧ w.heap.size + 1 ≠ g4 ∧ w1.heap.size ≠ g4 := by omega
  have h23 : w.heap.size + 1 + 1 ≠ w.heap.size + 1 + 1 + 1 := by omega
  have h2g : w.heap.size + 1 + 1 ≠ g4 := by omega
  have h3g : w.heap.size + 1 + 1 + 1 ≠ g4 := by omega
  have hgl : w.heap.size + 4 ≤ g4 := by omega
  have hz2 : w.heap.size + 1 + 1 < (w1.alloc (.cells #[.int .i64 0, .slice (some ⟨g4, 0, none⟩) n5 c5, .int .i64 a] 29)).heap.size := by simp; omega
  have hz3 : w.heap.size + 1 + 1 + 1 < (w1.alloc (.cells #[.int .i64 0, .slice (some ⟨g4, 0, none⟩) n5 c5, .int .i64 a] 29)).heap.size := by simp; omega
  have hz4 : w.heap.size + 4 ≤ (w1.alloc (.cells #[.int .i64 0, .slice (some ⟨g4, 0, none⟩) n5 c5, .int .i64 a] 29)).heap.size := by simp; omega
  have KC := fun V (hV : Below w.heap.size w V) => l4Copy_any V lo _ C (h.cv.below hV) hsto
  have SO : ∀ w' : World, EnvS w' w.heap.size w1.heap.size (.slice A0 n0 c0) (.slice A1 n1 c1) (.slice A2 n2 c2) (.slice A3 n3 c3) (.int .i64 0) (.slice A4 n5 c4) (.int .i64 a) (.int .i64 0) (.slice (some ⟨g4, 0, none⟩) n5 c5) (.int .i64 a) → w'.cell? ⟨w.heap.size, 0, none⟩ = some (.slice A0 n0 c0) ∧ w'.cell? ⟨w.heap.size, 1, none⟩ = some (.slice A1 n1 c1) ∧ w'.cell? ⟨w.heap.size, 2, none⟩ = some (.slice A2 n2 c2) ∧ w'.cell? ⟨w.heap.size, 3, none⟩ = some (.slice A3 n3 c3) ∧ w'.cell? ⟨w.heap.size + 1, 0, none⟩ = some (.int .i64 0) ∧ w'.cell? ⟨w.heap.size + 1, 1, none⟩ = some (.slice A4 n5 c4) ∧ w'.cell? ⟨w.heap.size + 1, 2, none⟩ = some (.int .i64 a) ∧ w'.cell? ⟨w1.heap.size, 0, none⟩ = some (.int .i64 0) ∧ w'.cell? ⟨w1.heap.size, 1, none⟩ = some (.slice (some ⟨g4, 0, none⟩) n5 c5) ∧ w'.cell? ⟨w1.heap.size, 2, none⟩ = some (.int .i64 a) := fun w' hX => hX.cells
  clear Cc X Y Z U GV BB hD s4 hb1 hv hk r0 r1 r3 r4 x0 x1 x2 x3 y0 y1 y2 hsto
  obtain ⟨x0, x1, x2, x3, y0, y1, y2, o0, o1, o2⟩ := E1.cells

  have hR : Hid (stepG C ⟨0, cc, a⟩ = (C, ⟨1, List.replicate n5 0, 0⟩)) := by unfold Hid stepG; rw [if_pos rfl]; dsimp only; rw [l49'.out]
  have hn8 : n5 ≤ 8 := by have h1 := q1'.out; have h2 := l49'.out; omega
  obtain ⟨al, hal⟩ : ∃ al : World → World, Hid (∀ W, al W = W.alloc (.cells (madeCells #[.int .i64 0] n5) 3)) := ⟨_, fun _ => rfl⟩
  have hmk : ∀ W, (Instr.makeSlice 23 (.int .i64 (n5 : Int)) (.int .i64 (n5 : Int))).run Tryz.prog W = .ok (.slice (some ⟨W.heap.size, 0, none⟩) n5 n5) (al W) := fun W => by
    rw [hal.out]
    exact run_make_row' 23 3 (.int .i64 0) 8 Tryz.underlying23 Tryz.infoInt rfl .i64 .i64 n5 (by omega) (by omega) W
  have RMK : ∀ (V : World) (lo : Nat), lo ≤ V.heap.size → Row (V.alloc (.cells (madeCells #[.int .i64 0] n5) 3)) lo (.slice (some ⟨V.heap.size, 0, none⟩) n5 n5) (List.replicate n5 0) := fun V lo hl => rowMade V lo n5 hl (by omega)
  have HE : Hid (∀ W, EnvS W w.heap.size w1.heap.size (.slice A0 n0 c0) (.slice A1 n1 c1) (.slice A2 n2 c2) (.slice A3 n3 c3) (.int .i64 0) (.slice A4 n5 c4) (.int .i64 a) (.int .i64 0) (.slice (some ⟨g4, 0, none⟩) n5 c5) (.int .i64 a) → EnvS (al W) w.heap.size w1.heap.size (.slice A0 n0 c0) (.slice A1 n1 c1) (.slice A2 n2 c2) (.slice A3 n3 c3) (.int .i64 0) (.slice A4 n5 c4) (.int .i64 a) (.int .i64 0) (.slice (some ⟨g4, 0, none⟩) n5 c5) (.int .i64 a)) := fun W h => by rw [hal.out]; exact h.alloc _
  have HZ : Hid (∀ W x y z u, Blk4 W (w.heap.size + 1 + 1) x y z u 27 → Blk4 (al W) (w.heap.size + 1 + 1) x y z u 27) := fun W x y z u h => by rw [hal.out]; exact h.alloc _
  have HU : Hid (∀ W x y z, Blk3 W (w.heap.size + 1 + 1 + 1) x y z 29 → Blk3 (al W) (w.heap.size + 1 + 1 + 1) x y z 29) := fun W x y z h => by rw [hal.out]; exact h.alloc _
  have HB : Hid (∀ W, Below w.heap.size w W → Below w.heap.size w (al W)) := fun W h => by rw [hal.out]; exact BS_al h (Nat.le_refl _) _
  have HS : Hid (∀ W n, n ≤ W.heap.size → n ≤ (al W).heap.size) := fun W n h => by rw [hal.out]; exact sz_al h _
  have HG : Hid (∀ W b, b = W.heap.size → w.heap.size + 4 ≤ W.heap.size → Gv (al W) (w.heap.size + 4) (.agg #[.int .i64 1, .slice (some ⟨b, 0, none⟩) n5 n5, .int .i64 0]) ⟨1, List.replicate n5 0, 0⟩) := fun W b hb hl => by subst hb; rw [hal.out]; exact ⟨_, rfl, RMK _ _ hl⟩
  have HC : Hid (∀ W vs b, b = W.heap.size → w.heap.size + 4 ≤ W.heap.size → Cv W (w.heap.size + 4) vs C → CGv (al W) (w.heap.size + 4) vs (.agg #[.int .i64 1, .slice (some ⟨b, 0, none⟩) n5 n5, .int .i64 0]) C ⟨1, List.replicate n5 0, 0⟩) := fun W vs b hb hl h => by rw [hal.out]; exact cg_made hb (RMK _ _ (Nat.le_refl _)) hl h
  clear h hg hph hal RMK
  go_wp2_with fail
  go_cut [] from 9 (fun w' => PostS w C ⟨1, List.replicate n5 0, 0⟩ w')
  case first =>
    go_region_held3 (fun w' => w'.cell? ⟨w.heap.size, 0, none⟩ = some (.slice A0 n0 c0) ∧ w'.cell? ⟨w.heap.size, 1, none⟩ = some (.slice A1 n1 c1) ∧ w'.cell? ⟨w.heap.size, 2, none⟩ = some (.slice A2 n2 c2) ∧ w'.cell? ⟨w.heap.size, 3, none⟩ = some (.slice A3 n3 c3) ∧ w'.cell? ⟨w.heap.size + 1, 0, none⟩ = some (.int .i64 0) ∧ w'.cell? ⟨w.heap.size + 1, 1, none⟩ = some (.slice A4 n5 c4) ∧ w'.cell? ⟨w.heap.size + 1, 2, none⟩ = some (.int .i64 a) ∧ w'.cell? ⟨w1.heap.size, 0, none⟩ = some (.int .i64 0) ∧ w'.cell? ⟨w1.heap.size, 1, none⟩ = some (.slice (some ⟨g4, 0, none⟩) n5 c5) ∧ w'.cell? ⟨w1.heap.size, 2, none⟩ = some (.int .i64 a))
      (((try dsimp only); (refine SO _ ?_); (repeat (with_reducible (first | exact E1 | exact E2 | refine EnvS.drew ?_ | refine EnvS.set ?_ hd2 _ _ | refine EnvS.set ?_ hd3 _ _ | refine HE.out _ ?_)))))
      (first | (go_at_call 125; (refine Calls.mono (KC _ ?_) ?_); (· repeat (with_reducible (first | exact B1 | refine BS_dr ?_ | refine HB.out _ ?_))); rintro e u1 ⟨vk, rfl, K, hbk⟩; (obtain ⟨k0, i0, d0, k1, i1, d1, k2, i2, d2, k3, i3, d3, rfl⟩ := K.letters); (have B2 : Below w.heap.size w u1 := (by refine BS_th ?_ (Nat.le_refl _) hbk; repeat (with_reducible (first | exact B1 | refine BS_dr ?_ | refine HB.out _ ?_)))); (have E2 : EnvS u1 w.heap.size w1.heap.size (.slice A0 n0 c0) (.slice A1 n1 c1) (.slice A2 n2 c2) (.slice A3 n3 c3) (.int .i64 0) (.slice A4 n5 c4) (.int .i64 a) (.int .i64 0) (.slice (some ⟨g4, 0, none⟩) n5 c5) (.int .i64 a) := (by refine EnvS.below ?_ hbk; repeat (with_reducible (first | exact E1 | refine EnvS.drew ?_ | refine HE.out _ ?_)))); (have K2 : Cv u1 (w.heap.size + 4) (.agg #[.slice k0 i0 d0, .slice k1 i1 d1, .slice k2 i2 d2, .slice k3 i3 d3]) C := (by refine K.mono ?_; repeat (with_reducible (first | exact hz4 | refine sz_dr ?_ | refine HS.out _ _ ?_ | refine sz_set ?_ _ _)))); (have hz5 : w.heap.size + 4 ≤ u1.heap.size := E2.1); (have Z2 : Blk4 u1 (w.heap.size + 1 + 1) (.slice none 0 0) (.slice none 0 0) (.slice none 0 0) (.slice none 0 0) 27 := (by refine Blk4.below ?_ hbk; repeat (with_reducible (first | exact Z1 | refine Blk4.drewS ?_ | refine HZ.out _ _ _ _ _ ?_)))); (have U2 : Blk3 u1 (w.heap.size + 1 + 1 + 1) (.int .i64 0) (.slice none 0 0) (.int .i64 0) 29 := (by refine Blk3.below ?_ hbk; repeat (with_reducible (first | exact U1 | refine Blk3.drewS ?_ | refine HU.out _ _ _ _ ?_)))); (obtain ⟨z0, z1, z2, z3, f0, f1, f2, f3⟩ := Z2.cells); (obtain ⟨u0, uu1, u2, h0, h1, h2⟩ := U2.cells); (have ZA := HZ.out _ _ _ _ _ Z2); (have UA := HU.out _ _ _ _ U2); (have US := HU.out ((((u1.setCell ⟨w.heap.size + 1 + 1, 0, none⟩ (.slice k0 i0 d0)).setCell ⟨w.heap.size + 1 + 1, 1, none⟩ (.slice k1 i1 d1)).setCell ⟨w.heap.size + 1 + 1, 2, none⟩ (.slice k2 i2 d2)).setCell ⟨w.heap.size + 1 + 1, 3, none⟩ (.slice k3 i3 d3)) _ _ _ ((((U2.otherS h23.symm 0 _).otherS h23.symm 1 _).otherS h23.symm 2 _).otherS h23.symm 3 _)); (obtain ⟨m0_, m1_, m2_, m3_, m4_, m5_, m6_, m7_⟩ := ZA.cells); (obtain ⟨n0_, n1_, n2_, n3_, n4_, n5_⟩ := UA.cells); (obtain ⟨p0_, p1_, p2_, p3_, p4_, p5_⟩ := US.cells); (try (refine (fun (CG : CGv u1 (w.heap.size + 4) (.agg #[.slice k0 i0 d0, .slice k1 i1 d1, .slice k2 i2 d2, .slice k3 i3 d3]) (.agg #[.int .i64 1, .slice (some ⟨w1.heap.size + 1, 0, none⟩) n5 n5, .int .i64 0]) C ⟨1, List.replicate n5 0, 0⟩) => ?_) ?_; rotate_left; (· (refine CGv.mk' ?_ K ?_ hbk; (· refine HG.out _ _ ?_ ?_; (· first | rfl | (simp; done) | (simp [World.drew]; done)); (· repeat (with_reducible (first | exact hz4 | exact hz5 | refine sz_dr ?_ | refine HS.out _ _ ?_ | refine sz_set ?_ _ _)))); (· repeat (with_reducible (first | exact hz4 | exact hz5 | refine sz_dr ?_ | refine HS.out _ _ ?_ | refine sz_set ?_ _ _)))); done)))))
    all_goals
      (try rename_i hHeld); (try clear hHeld)
      go_wp2_with fail
      go_meet
      case rel =>
        first
          | (refine PostS.of (k0 := .slice k0 i0 d0) (k1 := .slice k1 i1 d1) (k2 := .slice k2 i2 d2) (k3 := .slice k3 i3 d3) (r := .slice (some ⟨w1.heap.size + 1, 0, none⟩) n5 n5) ?hz ?hu ?hc ?hb; (case hu => (repeat (with_reducible (first | exact U2 | refine Blk3.drewS ?_ | refine Blk3.otherS ?_ h23.symm _ _ | refine HU.out _ _ _ _ ?_ | refine Blk3.set2 (z := .int .i64 0) ?_ _ | refine Blk3.set1 (y := .slice none 0 0) ?_ _ | refine Blk3.set0 (x := .int .i64 0) ?_ _))); done); (case hz => repeat (with_reducible (first | exact Z2 | refine Blk4.drewS ?_ | refine Blk4.otherS ?_ h23 _ _ | refine HZ.out _ _ _ _ _ ?_ | refine Blk4.set3 (u := .slice none 0 0) ?_ _ | refine Blk4.set2 (z := .slice none 0 0) ?_ _ | refine Blk4.set1 (y := .slice none 0 0) ?_ _ | refine Blk4.set0 (x := .slice none 0 0) ?_ _))); (case hc => (repeat (with_reducible (first | exact CG | refine CGv.drew ?_ | refine CGv.setS ?_ hl2 _ _ | refine CGv.setS ?_ hl3 _ _))); done); (case hb => repeat (with_reducible (first | exact B2 | refine BS_dr ?_ | refine BS_set ?_ hs2 _ _ | refine BS_set ?_ hs3 _ _ | refine HB.out _ ?_))))
          | (refine PostS.of (k0 := .slice k0 i0 d0) (k1 := .slice k1 i1 d1) (k2 := .slice k2 i2 d2) (k3 := .slice k3 i3 d3) (r := .slice (some ⟨u1.heap.size, 0, none⟩) n5 n5) ?hz ?hu ?hc ?hb; (case hu => (repeat (with_reducible (first | exact U2 | refine Blk3.drewS ?_ | refine Blk3.otherS ?_ h23.symm _ _ | refine HU.out _ _ _ _ ?_ | refine Blk3.set2 (z := .int .i64 0) ?_ _ | refine Blk3.set1 (y := .slice none 0 0) ?_ _ | refine Blk3.set0 (x := .int .i64 0) ?_ _))); done); (case hz => repeat (with_reducible (first | exact Z2 | refine Blk4.drewS ?_ | refine Blk4.otherS ?_ h23 _ _ | refine HZ.out _ _ _ _ _ ?_ | refine Blk4.set3 (u := .slice none 0 0) ?_ _ | refine Blk4.set2 (z := .slice none 0 0) ?_ _ | refine Blk4.set1 (y := .slice none 0 0) ?_ _ | refine Blk4.set0 (x := .slice none 0 0) ?_ _))); (case hc => ((repeat (with_reducible (first | exact trivial | refine CGv.drew ?_ | refine CGv.setS ?_ hl2 _ _ | refine CGv.setS ?_ hl3 _ _))); refine HC.out _ _ _ ?_ ?_ ?_; (· first | rfl | simp [World.setCell]); (· repeat (with_reducible (first | exact hz4 | exact hz5 | refine sz_dr ?_ | refine HS.out _ _ ?_ | refine sz_set ?_ _ _))); (· repeat (with_reducible (first | exact K2 | refine Cv.drewS ?_ | refine Cv.setS ?_ hl2 _ _ | refine Cv.setS ?_ hl3 _ _))))); (case hb => repeat (with_reducible (first | exact B2 | refine BS_dr ?_ | refine BS_set ?_ hs2 _ _ | refine BS_set ?_ hs3 _ _ | refine HB.out _ ?_))))
          | (refine PostS.of (k0 := .slice k0 i0 d0) (k1 := .slice k1 i1 d1) (k2 := .slice k2 i2 d2) (k3 := .slice k3 i3 d3) (r := .slice (some ⟨((((u1.setCell ⟨w.heap.size + 1 + 1, 0, none⟩ (.slice k0 i0 d0)).setCell ⟨w.heap.size + 1 + 1, 1, none⟩ (.slice k1 i1 d1)).setCell ⟨w.heap.size + 1 + 1, 2, none⟩ (.slice k2 i2 d2)).setCell ⟨w.heap.size + 1 + 1, 3, none⟩ (.slice k3 i3 d3)).heap.size, 0, none⟩) n5 n5) ?hz ?hu ?hc ?hb; (case hu => (repeat (with_reducible (first | exact U2 | refine Blk3.drewS ?_ | refine Blk3.otherS ?_ h23.symm _ _ | refine HU.out _ _ _ _ ?_ | refine Blk3.set2 (z := .int .i64 0) ?_ _ | refine Blk3.set1 (y := .slice none 0 0) ?_ _ | refine Blk3.set0 (x := .int .i64 0) ?_ _))); done); (case hz => repeat (with_reducible (first | exact Z2 | refine Blk4.drewS ?_ | refine Blk4.otherS ?_ h23 _ _ | refine HZ.out _ _ _ _ _ ?_ | refine Blk4.set3 (u := .slice none 0 0) ?_ _ | refine Blk4.set2 (z := .slice none 0 0) ?_ _ | refine Blk4.set1 (y := .slice none 0 0) ?_ _ | refine Blk4.set0 (x := .slice none 0 0) ?_ _))); (case hc => ((repeat (with_reducible (first | exact trivial | refine CGv.drew ?_ | refine CGv.setS ?_ hl2 _ _ | refine CGv.setS ?_ hl3 _ _))); refine HC.out _ _ _ ?_ ?_ ?_; (· first | rfl | simp [World.setCell]); (· repeat (with_reducible (first | exact hz4 | exact hz5 | refine sz_dr ?_ | refine HS.out _ _ ?_ | refine sz_set ?_ _ _))); (· repeat (with_reducible (first | exact K2 | refine Cv.drewS ?_ | refine Cv.setS ?_ hl2 _ _ | refine Cv.setS ?_ hl3 _ _))))); (case hb => repeat (with_reducible (first | exact B2 | refine BS_dr ?_ | refine BS_set ?_ hs2 _ _ | refine BS_set ?_ hs3 _ _ | refine HB.out _ ?_))))
  case rest =>
    obtain ⟨k0, k1, k2, k3, r, hZ, hU, hC, hB⟩ := hcut
    obtain ⟨z0, z1, z2, z3, _⟩ := hZ.cells
    obtain ⟨u0, u1, u2, _⟩ := hU.cells
    clear x0 x1 x2 x3 y0 y1 y2 o0 o1 o2
    go_wp2_with fail
    rw [hR.out]
    refine bodyPost_ret (v := .tuple #[.agg #[k0, k1, k2, k3], .agg #[.int .i64 _, r, .int .i64 _]]) ?_ rfl ⟨_, _, rfl, hC.mono (by omega), hB⟩
    simp [results, Tryz.results97, go_sem, z0, z1, z2, z3, u0, u1, u2]

set_option maxRecDepth 100000 in
set_option maxHeartbeats 6000000 in
theorem l6Step1_any (w : World) (lo : Nat) (vs vg : Value) (C : Cp) (G : Gp) (h : CGv w lo vs vg C G) (hg : gcB C G = true) (hp : G.p = 1) :
    Calls Tryz.prog 97 #[vs, vg] w (NewCG w (stepG C G).1 (stepG C G).2) := by
  obtain ⟨A0, n0, c0, A1, n1, c1, A2, n2, c2, A3, n3, c3, A4, n4, c4, p, cc, a, rfl, rfl, rfl, hv, hk, ⟨r0, r1, r2, r3, r4⟩, ⟨l0, l1, l2, l3, l4⟩, ⟨m0, m1, m2, m3, m4⟩⟩ := h.open_
  dsimp only at hp
  subst hp
  obtain ⟨q1, ⟨q2, q3⟩, q4, q5, q6⟩ := gcB_sizes hg
  have hph := phB_iff.1 (gcB_iff.1 hg).2.2
  have hsto : stoB C = true := (gcB_iff.1 hg).1
  dsimp only at q1 q2 q3 q4 q5 q6 hph
  have l09 := l0.out
  have l29 := l2.out
  have l49 := l4.out
  have X := (((Blk4.new w (.slice A0 n0 c0) (.slice A1 n1 c1) (.slice A2 n2 c2) (.slice A3 n3 c3) 27).alloc (.cells #[.int .i64 1, .slice A4 n4 c4, .int .i64 a] 29)).alloc (.cells #[.slice none 0 0, .slice none 0 0, .slice none 0 0, .slice none 0 0] 27)).alloc (.cells #[.int .i64 0, .slice none 0 0, .int .i64 0] 29)
  have Y := ((Blk3.new_at (w := w.alloc (.cells #[.slice A0 n0 c0, .slice A1 n1 c1, .slice A2 n2 c2, .slice A3 n3 c3] 27)) (b := w.heap.size + 1) (by simp) (.int .i64 1) (.slice A4 n4 c4) (.int .i64 a) 29).alloc (.cells #[.slice none 0 0, .slice none 0 0, .slice none 0 0, .slice none 0 0] 27)).alloc (.cells #[.int .i64 0, .slice none 0 0, .int .i64 0] 29)
  have Z := (Blk4.new_at (w := (w.alloc (.cells #[.slice A0 n0 c0, .slice A1 n1 c1, .slice A2 n2 c2, .slice A3 n3 c3] 27)).alloc (.cells #[.int .i64 1, .slice A4 n4 c4, .int .i64 a] 29)) (b := w.heap.size + 1 + 1) (by simp) (.slice none 0 0) (.slice none 0 0) (.slice none 0 0) (.slice none 0 0) 27).alloc (.cells #[.int .i64 0, .slice none 0 0, .int .i64 0] 29)
  have U := Blk3.new_at (w := ((w.alloc (.cells #[.slice A0 n0 c0, .slice A1 n1 c1, .slice A2 n2 c2, .slice A3 n3 c3] 27)).alloc (.cells #[.int .i64 1, .slice A4 n4 c4, .int .i64 a] 29)).alloc (.cells #[.slice none 0 0, .slice none 0 0, .slice none 0 0, .slice none 0 0] 27)) (b := w.heap.size + 1 + 1 + 1) (by simp) (.int .i64 0) (.slice none 0 0) (.int .i64 0) 29
  have GV := (((h.gv.alloc (.cells #[.slice A0 n0 c0, .slice A1 n1 c1, .slice A2 n2 c2, .slice A3 n3 c3] 27)).alloc (.cells #[.int .i64 1, .slice A4 n4 c4, .int .i64 a] 29)).alloc (.cells #[.slice none 0 0, .slice none 0 0, .slice none 0 0, .slice none 0 0] 27)).alloc (.cells #[.int .i64 0, .slice none 0 0, .int .i64 0] 29)
  have BB : Below w.heap.size w ((((w.alloc (.cells #[.slice A0 n0 c0, .slice A1 n1 c1, .slice A2 n2 c2, .slice A3 n3 c3] 27)).alloc (.cells #[.int .i64 1, .slice A4 n4 c4, .int .i64 a] 29)).alloc (.cells #[.slice none 0 0, .slice none 0 0, .slice none 0 0, .slice none 0 0] 27)).alloc (.cells #[.int .i64 0, .slice none 0 0, .int .i64 0] 29)) := ((((Below.refl _ _).alloc (Nat.le_refl _) _).alloc (by simp) _).alloc (by simp <;> omega) _).alloc (by simp <;> omega) _
  have sz : ((((w.alloc (.cells #[.slice A0 n0 c0, .slice A1 n1 c1, .slice A2 n2 c2, .slice A3 n3 c3] 27)).alloc (.cells #[.int .i64 1, .slice A4 n4 c4, .int .i64 a] 29)).alloc (.cells #[.slice none 0 0, .slice none 0 0, .slice none 0 0, .slice none 0 0] 27)).alloc (.cells #[.int .i64 0, .slice none 0 0, .int .i64 0] 29)).heap.size = w.heap.size + 4 := by simp
  go_enter Tryz.func97, Tryz.ntmps97
  go_wp2_with fail
  generalize ((((w.alloc (.cells #[.slice A0 n0 c0, .slice A1 n1 c1, .slice A2 n2 c2, .slice A3 n3 c3] 27)).alloc (.cells #[.int .i64 1, .slice A4 n4 c4, .int .i64 a] 29)).alloc (.cells #[.slice none 0 0, .slice none 0 0, .slice none 0 0, .slice none 0 0] 27)).alloc (.cells #[.int .i64 0, .slice none 0 0, .int .i64 0] 29)) = W at X Y Z U GV BB sz ⊢
  obtain ⟨x0, x1, x2, x3, _⟩ := X.cells
  obtain ⟨y0, y1, y2, _⟩ := Y.cells
  have Cc := l6Copy_any W lo _ ⟨1, cc, a⟩ GV (by dsimp only; omega) (by dsimp only; omega)
  have l09' := Lib.hid l09
  have l29' := Lib.hid l29
  have l49' := Lib.hid l49
  have q1' := Lib.hid q1
  have q4' := Lib.hid q4
  have sz' : w.heap.size + 4 ≤ W.heap.size := by omega
  have szu : W.heap.size ≤ w.heap.size + 4 := by omega
  clear l0 l2 l4 l09 l29 l49 sz q1 q4 hsto
  go_wp2_with fail
  refine Cc.mono ?_; rintro e w1 ⟨vv, rfl, hD, hb1⟩
  obtain ⟨D4, n5, c5, rfl, s4, t4, _, _⟩ := hD.open_
  dsimp only at s4 t4
  obtain rfl : n5 = n4 := by have h1 := t4.out; have h2 := l49'.out; omega
  obtain ⟨g4, rfl, hg4l, hg4, _⟩ := s4.at_ (k := 0) (by have h1 := q1'.out; omega)
  have z1 := hb1.size
  have hsto : stoB C = true := (gcB_iff.1 hg).1
  have E1 : EnvS (w1.alloc (.cells #[.int .i64 1, .slice (some ⟨g4, 0, none⟩) n5 c5, .int .i64 a] 29)) w.heap.size w1.heap.size (.slice A0 n0 c0) (.slice A1 n1 c1) (.slice A2 n2 c2) (.slice A3 n3 c3) (.int .i64 1) (.slice A4 n5 c4) (.int .i64 a) (.int .i64 1) (.slice (some ⟨g4, 0, none⟩) n5 c5) (.int .i64 a) := ⟨by simp; omega, (X.below hb1).alloc _, (Y.below hb1).alloc _, Blk3.new _ _ _ _ _⟩
  have B1 : Below w.heap.size w (w1.alloc (.cells #[.int .i64 1, .slice (some ⟨g4, 0, none⟩) n5 c5, .int .i64 a] 29)) := BS_al (BB.trans (hb1.mono (by omega))) (Nat.le_refl _) _
  have R1 : Row (w1.alloc (.cells #[.int .i64 1, .slice (some ⟨g4, 0, none⟩) n5 c5, .int .i64 a] 29)) (w.heap.size + 4) (.slice (some ⟨g4, 0, none⟩) n5 c5) cc := (s4.alloc _).mono (by omega)
  have Z1 := (Z.below hb1).alloc (.cells #[.int .i64 1, .slice (some ⟨g4, 0, none⟩) n5 c5, .int .i64 a] 29)
  have U1 := (U.below hb1).alloc (.cells #[.int .i64 1, .slice (some ⟨g4, 0, none⟩) n5 c5, .int .i64 a] 29)
  have hs2 : w.heap.size ≤ w.heap.size + 1 + 1 := by omega
  have hs3 : w.heap.size ≤ w.heap.size + 1 + 1 + 1 := by omega
  have hl2 : w.heap.size + 1 + 1 < w.heap.size + 4 := by omega
  have hl3 : w.heap.size + 1 + 1 + 1 < w.heap.size + 4 := by omega
  have hd2 : w.heap.size ≠ w.heap.size + 1 + 1 ∧ w.heap.size + 1 ≠ w.heap.size + 1 + 1 ∧ w1.heap.size ≠ w.heap.size + 1 + 1 := by omega
  have hd3 : w.heap.size ≠ w.heap.size + 1 + 1 + 1 ∧ w.heap.size + 1 ≠ w.heap.size + 1 + 1 + 1 ∧ w1.heap.size ≠ w.heap.size + 1 + 1 + 1 := by omega
  have hdg : w.heap.size ≠ g4 ∧ w.heap.size + 1 ≠ g4 ∧ w1.heap.size ≠ g4 := by omega
  have h23 : w.heap.size + 1 + 1 ≠ w.heap.size + 1 + 1 + 1 := by omega
  have h2g : w.heap.size + 1 + 1 ≠ g4 := by omega
  have h3g : w.heap.size + 1 + 1 + 1 ≠ g4 := by omega
  have hgl : w.heap.size + 4 ≤ g4 := by omega
  have hz2 : w.heap.size + 1 + 1 < (w1.alloc (.cells #[.int .i64 1, .slice (some ⟨g4, 0, none⟩) n5 c5, .int .i64 a] 29)).heap.size := by simp; omega
  have hz3 : w.heap.size + 1 + 1 + 1 < (w1.alloc (.cells #[.int .i64 1, .slice (some ⟨g4, 0, none⟩) n5 c5, .int .i64 a] 29)).heap.size := by simp; omega
  have hz4 : w.heap.size + 4 ≤ (w1.alloc (.cells #[.int .i64 1, .slice (some ⟨g4, 0, none⟩) n5 c5, .int .i64 a] 29)).heap.size := by simp; omega
  have KC := fun V (hV : Below w.heap.size w V) => l4Copy_any V lo _ C (h.cv.below hV) hsto
  have SO : ∀ w' : World, EnvS w' w.heap.size w1.heap.size (.slice A0 n0 c0) (.slice A1 n1 c1) (.slice A2 n2 c2) (.slice A3 n3 c3) (.int .i64 1) (.slice A4 n5 c4) (.int .i64 a) (.int .i64 1) (.slice (some ⟨g4, 0, none⟩) n5 c5) (.int .i64 a) → w'.cell? ⟨w.heap.size, 0, none⟩ = some (.slice A0 n0 c0) ∧ w'.cell? ⟨w.heap.size, 1, none⟩ = some (.slice A1 n1 c1) ∧ w'.cell? ⟨w.heap.size, 2, none⟩ = some (.slice A2 n2 c2) ∧ w'.cell? ⟨w.heap.size, 3, none⟩ = some (.slice A3 n3 c3) ∧ w'.cell? ⟨w.heap.size + 1, 0, none⟩ = some (.int .i64 1) ∧ w'.cell? ⟨w.heap.size + 1, 1, none⟩ = some (.slice A4 n5 c4) ∧ w'.cell? ⟨w.heap.size + 1, 2, none⟩ = some (.int .i64 a) ∧ w'.cell? ⟨w1.heap.size, 0, none⟩ = some (.int .i64 1) ∧ w'.cell? ⟨w1.heap.size, 1, none⟩ = some (.slice (some ⟨g4, 0, none⟩) n5 c5) ∧ w'.cell? ⟨w1.heap.size, 2, none⟩ = some (.int .i64 a) := fun w' hX => hX.cells
  clear Cc X Y Z U GV BB hD s4 hb1 hv hk r0 r1 r3 r4 x0 x1 x2 x3 y0 y1 y2 hsto
  obtain ⟨x0, x1, x2, x3, y0, y1, y2, o0, o1, o2⟩ := E1.cells

  obtain ⟨k, rfl⟩ := Int.eq_ofNat_of_zero_le (show 0 ≤ a by omega)
  have hk2 : k < n2 := by have h1 := l29'.out; omega
  have hki : (k : Int) < (n2 : Int) := by omega
  have hn3 : n2 < 100 := by have h1 := l29'.out; omega
  obtain ⟨gt, x, rfl, _, hgt, hx, hcx0, _⟩ := r2.get (k := k) (by have h1 := l29'.out; omega)
  have hvh : hvB C.h = true := (stoB_parts (gcB_iff.1 hg).1).1
  have hx1 := (hv_range hvh).2.2 x (List.mem_of_getElem? hx.out)
  have hcx : (w1.alloc (.cells #[.int .i64 1, .slice (some ⟨g4, 0, none⟩) n5 c5, .int .i64 (k : Int)] 29)).cell? ⟨gt, k, none⟩ = some (.int .i64 x) := cell_belowS hcx0 B1 hgt
  obtain ⟨cs, hcs⟩ : ∃ cs, cs = shade cc x := ⟨_, rfl⟩
  obtain ⟨q0, qa, hN⟩ : ∃ q0 qa, ∀ c, nextG 1 c (k : Int) n2 2 = ⟨q0, c, qa⟩ := by
    unfold nextG
    by_cases h9 : (k : Int) + 1 < n2
    · exact ⟨_, _, fun c => by rw [if_pos h9]⟩
    · exact ⟨_, _, fun c => by rw [if_neg h9]⟩
  have hR : Hid (stepG C ⟨1, cc, (k : Int)⟩ = (C, ⟨q0, cs, qa⟩)) := by
    unfold Hid stepG; rw [if_neg (by simp), if_pos rfl]; dsimp only
    rw [Int.toNat_natCast, List.getD_eq_getElem?_getD, hx.out, l29'.out, Option.getD_some, ← hcs, hN]
  have KS : ∀ V, Row V (w.heap.size + 4) (.slice (some ⟨g4, 0, none⟩) n5 c5) cc → Calls Tryz.prog 129 #[.slice (some ⟨g4, 0, none⟩) n5 c5, .int .i64 x] V (fun e w' => e = .returned (.slice (some ⟨g4, 0, none⟩) n5 c5) ∧ Row w' (w.heap.size + 4) (.slice (some ⟨g4, 0, none⟩) n5 c5) cs ∧ V.grownBy w' (some g4)) := fun V hr => by
    have K := shade_any V (w.heap.size + 4) g4 n5 c5 cc hr l49'.out x hx1.1 (by have h1 := l09'.out; have h2 := l49'.out; have h3 := q1'.out; omega)
    rw [← hcs] at K
    exact K.mono (fun e w' ⟨h1, h2, h3⟩ => ⟨h1, h2, h3.1⟩)
  have KN : ∀ V, Calls Tryz.prog 135 #[.agg #[.int .i64 1, .slice (some ⟨g4, 0, none⟩) n5 c5, .int .i64 (k : Int)], .int .i64 (n2 : Int), .int .i64 2] V (fun e w' => e = .returned (.agg #[.int .i64 q0, .slice (some ⟨g4, 0, none⟩) n5 c5, .int .i64 qa]) ∧ Below V.heap.size V w') := fun V => by
    have K := l6Next_any V 1 cs (some ⟨g4, 0, none⟩) n5 c5 k n2 2 hk2 hn3
    rw [hN] at K
    exact K
  have hgw : w.heap.size ≤ g4 := by omega
  have hso : w.heap.size ≤ w1.heap.size := by omega
  have hob : w1.heap.size ≠ w.heap.size := by omega
  have hob1 : w1.heap.size ≠ w.heap.size + 1 := by omega
  have hgo : (.slice (some ⟨g4, 0, none⟩) n5 c5 : Value).ownBlock ≠ some w1.heap.size := fun e => by have := Option.some.inj e; simp only at this; omega
  have h2o : w.heap.size + 1 + 1 ≠ w1.heap.size := by omega
  have h3o : w.heap.size + 1 + 1 + 1 ≠ w1.heap.size := by omega
  have SX : ∀ w' : World, EnvS w' w.heap.size w1.heap.size (.slice A0 n0 c0) (.slice A1 n1 c1) (.slice (some ⟨gt, 0, none⟩) n2 c2) (.slice A3 n3 c3) (.int .i64 1) (.slice A4 n5 c4) (.int .i64 (k : Int)) (.int .i64 1) (.slice (some ⟨g4, 0, none⟩) n5 c5) (.int .i64 (k : Int)) → Below w.heap.size w w' → w'.cell? ⟨gt, k, none⟩ = some (.int .i64 x) ∧ w'.cell? ⟨w.heap.size, 0, none⟩ = some (.slice A0 n0 c0) ∧ w'.cell? ⟨w.heap.size, 1, none⟩ = some (.slice A1 n1 c1) ∧ w'.cell? ⟨w.heap.size, 2, none⟩ = some (.slice (some ⟨gt, 0, none⟩) n2 c2) ∧ w'.cell? ⟨w.heap.size, 3, none⟩ = some (.slice A3 n3 c3) ∧ w'.cell? ⟨w.heap.size + 1, 0, none⟩ = some (.int .i64 1) ∧ w'.cell? ⟨w.heap.size + 1, 1, none⟩ = some (.slice A4 n5 c4) ∧ w'.cell? ⟨w.heap.size + 1, 2, none⟩ = some (.int .i64 (k : Int)) ∧ w'.cell? ⟨w1.heap.size, 0, none⟩ = some (.int .i64 1) ∧ w'.cell? ⟨w1.heap.size, 1, none⟩ = some (.slice (some ⟨g4, 0, none⟩) n5 c5) ∧ w'.cell? ⟨w1.heap.size, 2, none⟩ = some (.int .i64 (k : Int)) := fun w' hX hB => ⟨cell_belowS hcx0 hB hgt, hX.cells⟩
  have hgo4 : w1.heap.size ≠ gt := by omega
  clear hN hcs h hg hph hx1 hvh hx hcx0 r2
  go_wp2_with fail
  go_cut [] from 9 (fun w' => EnvS w' w.heap.size w1.heap.size (.slice A0 n0 c0) (.slice A1 n1 c1) (.slice (some ⟨gt, 0, none⟩) n2 c2) (.slice A3 n3 c3) (.int .i64 1) (.slice A4 n5 c4) (.int .i64 (k : Int)) (.int .i64 1) (.slice (some ⟨g4, 0, none⟩) n5 c5) (.int .i64 (k : Int)) ∧ Row w' (w.heap.size + 4) (.slice (some ⟨g4, 0, none⟩) n5 c5) cs ∧ Below w.heap.size w w' ∧ Blk4 w' (w.heap.size + 1 + 1) (.slice none 0 0) (.slice none 0 0) (.slice none 0 0) (.slice none 0 0) 27 ∧ Blk3 w' (w.heap.size + 1 + 1 + 1) (.int .i64 0) (.slice none 0 0) (.int .i64 0) 29)
  case first =>
    go_region_held3 (fun w' => w'.cell? ⟨gt, k, none⟩ = some (.int .i64 x) ∧ w'.cell? ⟨w.heap.size, 0, none⟩ = some (.slice A0 n0 c0) ∧ w'.cell? ⟨w.heap.size, 1, none⟩ = some (.slice A1 n1 c1) ∧ w'.cell? ⟨w.heap.size, 2, none⟩ = some (.slice (some ⟨gt, 0, none⟩) n2 c2) ∧ w'.cell? ⟨w.heap.size, 3, none⟩ = some (.slice A3 n3 c3) ∧ w'.cell? ⟨w.heap.size + 1, 0, none⟩ = some (.int .i64 1) ∧ w'.cell? ⟨w.heap.size + 1, 1, none⟩ = some (.slice A4 n5 c4) ∧ w'.cell? ⟨w.heap.size + 1, 2, none⟩ = some (.int .i64 (k : Int)) ∧ w'.cell? ⟨w1.heap.size, 0, none⟩ = some (.int .i64 1) ∧ w'.cell? ⟨w1.heap.size, 1, none⟩ = some (.slice (some ⟨g4, 0, none⟩) n5 c5) ∧ w'.cell? ⟨w1.heap.size, 2, none⟩ = some (.int .i64 (k : Int)))
      (((try dsimp only); (refine SX _ ?_ ?_); (· repeat (with_reducible (first | exact E1 | exact E3 | exact (EnvS.setO1 E3 hob hob1 _) | refine EnvS.drew ?_ | refine EnvS.set ?_ hd2 _ _ | refine EnvS.set ?_ hd3 _ _ | refine EnvS.alloc ?_ _))); (· repeat (with_reducible (first | exact B1 | exact B3 | refine BS_dr ?_ | refine BS_set ?_ hso _ _)))))
      (first
        | (go_at_call 129; (refine Calls.mono (KS _ ?_) ?_); (· repeat (with_reducible (first | exact R1 | refine Row.drewS ?_ | refine Row.setS ?_ hl2 _ _ | refine Row.setS ?_ hl3 _ _))); rintro e u3 ⟨rfl, RS, hO⟩; (have B3 : Below w.heap.size w u3 := (by refine Below.trans ?_ (below_own hO hgw (Below.size (?_ : Below w.heap.size w _))); (· repeat (with_reducible (first | exact B1 | refine BS_dr ?_ | refine BS_set ?_ hs2 _ _ | refine BS_set ?_ hs3 _ _ | refine BS_al ?_ (Nat.le_refl _) _))); (· repeat (with_reducible (first | exact B1 | refine BS_dr ?_ | refine BS_set ?_ hs2 _ _ | refine BS_set ?_ hs3 _ _ | refine BS_al ?_ (Nat.le_refl _) _))))); (have E3 : EnvS u3 w.heap.size w1.heap.size (.slice A0 n0 c0) (.slice A1 n1 c1) (.slice (some ⟨gt, 0, none⟩) n2 c2) (.slice A3 n3 c3) (.int .i64 1) (.slice A4 n5 c4) (.int .i64 (k : Int)) (.int .i64 1) (.slice (some ⟨g4, 0, none⟩) n5 c5) (.int .i64 (k : Int)) := (by refine EnvS.kept ?_ hO hdg; repeat (with_reducible (first | exact E1 | refine EnvS.drew ?_ | refine EnvS.set ?_ hd2 _ _ | refine EnvS.set ?_ hd3 _ _ | refine EnvS.alloc ?_ _)))); (have Z3 : Blk4 u3 (w.heap.size + 1 + 1) (.slice none 0 0) (.slice none 0 0) (.slice none 0 0) (.slice none 0 0) 27 := (by refine Blk4.kept ?_ hO h2g; repeat (with_reducible (first | exact Z1 | refine Blk4.drewS ?_)))); (have U3 : Blk3 u3 (w.heap.size + 1 + 1 + 1) (.int .i64 0) (.slice none 0 0) (.int .i64 0) 29 := (by refine Blk3.kept ?_ hO h3g; repeat (with_reducible (first | exact U1 | refine Blk3.drewS ?_)))); (obtain ⟨e0_, e1_, e2_, e3_, e4_, e5_⟩ := E3.2.2.2.cells); (obtain ⟨ee0, ee1, ee2, ee3, _⟩ := E3.2.1.cells); (obtain ⟨ef0, ef1, ef2, _⟩ := E3.2.2.1.cells)))
    all_goals
      (try rename_i hHeld); (try clear hHeld)
      go_wp2_with fail
      go_meet
      case rel =>
        refine ⟨?_, ?_, ?_, ?_, ?_⟩
        · repeat (with_reducible (first | exact E3 | refine EnvS.drew ?_ | refine EnvS.setO1 (o1 := .slice (some ⟨g4, 0, none⟩) n5 c5) ?_ hob hob1 _))
        · repeat (with_reducible (first | exact RS | refine Row.drewS ?_ | refine Row.setE ?_ hgo _ _))
        · repeat (with_reducible (first | exact B3 | refine BS_dr ?_ | refine BS_set ?_ hso _ _))
        · repeat (with_reducible (first | exact Z3 | refine Blk4.drewS ?_ | refine Blk4.otherS ?_ h2o _ _))
        · repeat (with_reducible (first | exact U3 | refine Blk3.drewS ?_ | refine Blk3.otherS ?_ h3o _ _))
  case rest =>
    obtain ⟨E4, R4, B4, Z4, U4⟩ := hcut
    clear x0 x1 x2 x3 y0 y1 y2 o0 o1 o2 hcx E1 R1 B1 Z1 U1 hz4 hz2 hz3 KS SX
    obtain ⟨w4, rfl⟩ : ∃ w4, w4 = wc := ⟨_, rfl⟩
    have hz6 : w.heap.size + 4 ≤ w4.heap.size := E4.1
    obtain ⟨x0, x1, x2, x3, y0, y1, y2, o0, o1, o2⟩ := E4.cells
    go_wp2_with fail
    go_cut [] from 9 (fun w' => PostS w C ⟨q0, cs, qa⟩ w')
    case first =>
      go_region_held3 (fun w' => w'.cell? ⟨w.heap.size, 0, none⟩ = some (.slice A0 n0 c0) ∧ w'.cell? ⟨w.heap.size, 1, none⟩ = some (.slice A1 n1 c1) ∧ w'.cell? ⟨w.heap.size, 2, none⟩ = some (.slice (some ⟨gt, 0, none⟩) n2 c2) ∧ w'.cell? ⟨w.heap.size, 3, none⟩ = some (.slice A3 n3 c3) ∧ w'.cell? ⟨w.heap.size + 1, 0, none⟩ = some (.int .i64 1) ∧ w'.cell? ⟨w.heap.size + 1, 1, none⟩ = some (.slice A4 n5 c4) ∧ w'.cell? ⟨w.heap.size + 1, 2, none⟩ = some (.int .i64 (k : Int)) ∧ w'.cell? ⟨w1.heap.size, 0, none⟩ = some (.int .i64 1) ∧ w'.cell? ⟨w1.heap.size, 1, none⟩ = some (.slice (some ⟨g4, 0, none⟩) n5 c5) ∧ w'.cell? ⟨w1.heap.size, 2, none⟩ = some (.int .i64 (k : Int)))
        (((try dsimp only); (refine SO _ ?_); (repeat (with_reducible (first | exact E4 | exact E2 | exact EN | refine EnvS.drew ?_ | refine EnvS.set ?_ hd2 _ _ | refine EnvS.set ?_ hd3 _ _ | refine EnvS.alloc ?_ _)))))
        (first
          | (go_at_call 125; (refine Calls.mono (KC _ ?_) ?_); (· repeat (with_reducible (first | exact B4 | exact BN | refine BS_dr ?_ | refine BS_set ?_ hs2 _ _ | refine BS_set ?_ hs3 _ _ | refine BS_al ?_ (Nat.le_refl _) _))); rintro e u1 ⟨vk, rfl, K, hbk⟩; (obtain ⟨k0, i0, d0, k1, i1, d1, k2, i2, d2, k3, i3, d3, rfl⟩ := K.letters); (have B2 : Below w.heap.size w u1 := (by refine BS_th ?_ (Nat.le_refl _) hbk; repeat (with_reducible (first | exact B4 | exact BN | refine BS_dr ?_ | refine BS_set ?_ hs2 _ _ | refine BS_set ?_ hs3 _ _ | refine BS_al ?_ (Nat.le_refl _) _)))); (have E2 : EnvS u1 w.heap.size w1.heap.size (.slice A0 n0 c0) (.slice A1 n1 c1) (.slice (some ⟨gt, 0, none⟩) n2 c2) (.slice A3 n3 c3) (.int .i64 1) (.slice A4 n5 c4) (.int .i64 (k : Int)) (.int .i64 1) (.slice (some ⟨g4, 0, none⟩) n5 c5) (.int .i64 (k : Int)) := (by refine EnvS.below ?_ hbk; repeat (with_reducible (first | exact E4 | exact EN | refine EnvS.drew ?_ | refine EnvS.set ?_ hd2 _ _ | refine EnvS.set ?_ hd3 _ _ | refine EnvS.alloc ?_ _)))); (have K2 : Cv u1 (w.heap.size + 4) (.agg #[.slice k0 i0 d0, .slice k1 i1 d1, .slice k2 i2 d2, .slice k3 i3 d3]) C := (by refine K.mono ?_; repeat (with_reducible (first | exact hz6 | exact hzN | refine sz_dr ?_ | refine sz_set ?_ _ _ | refine sz_al ?_ _)))); (have hz5 : w.heap.size + 4 ≤ u1.heap.size := E2.1); (have Z2 : Blk4 u1 (w.heap.size + 1 + 1) (.slice none 0 0) (.slice none 0 0) (.slice none 0 0) (.slice none 0 0) 27 := (by refine Blk4.below ?_ hbk; repeat (with_reducible (first | exact Z4 | exact ZN | refine Blk4.drewS ?_ | refine Blk4.alloc ?_ _ | refine Blk4.otherS ?_ h2g _ _)))); (have U2 : Blk3 u1 (w.heap.size + 1 + 1 + 1) (.int .i64 0) (.slice none 0 0) (.int .i64 0) 29 := (by refine Blk3.below ?_ hbk; repeat (with_reducible (first | exact U4 | exact UN | refine Blk3.drewS ?_ | refine Blk3.alloc ?_ _ | refine Blk3.otherS ?_ h3g _ _ | refine Blk3.otherS ?_ h23.symm _ _)))); (obtain ⟨z0, z1, z2, z3, f0, f1, f2, f3⟩ := Z2.cells); (obtain ⟨u0, uu1, u2, h0, h1, h2⟩ := U2.cells); (have CF : CGv u1 (w.heap.size + 4) (.agg #[.slice k0 i0 d0, .slice k1 i1 d1, .slice k2 i2 d2, .slice k3 i3 d3]) (.agg #[.int .i64 q0, .slice (some ⟨g4, 0, none⟩) n5 c5, .int .i64 qa]) C ⟨q0, cs, qa⟩ := (by refine CGv.mk' ?_ K ?_ hbk; (· refine ⟨_, rfl, ?_⟩; repeat (with_reducible (first | exact R4 | exact RN | refine Row.drewS ?_))); (· repeat (with_reducible (first | exact hz6 | exact hzN | refine sz_dr ?_ | refine sz_set ?_ _ _ | refine sz_al ?_ _))))))
          | (go_at_call 135; (refine Calls.mono (KN _) ?_); rintro e u2 ⟨rfl, hbn⟩; (have BN : Below w.heap.size w u2 := (by refine BS_th ?_ (Nat.le_refl _) hbn; repeat (with_reducible (first | exact B4 | exact B2 | refine BS_dr ?_ | refine BS_set ?_ hs2 _ _ | refine BS_set ?_ hs3 _ _ | refine BS_al ?_ (Nat.le_refl _) _)))); (have EN : EnvS u2 w.heap.size w1.heap.size (.slice A0 n0 c0) (.slice A1 n1 c1) (.slice (some ⟨gt, 0, none⟩) n2 c2) (.slice A3 n3 c3) (.int .i64 1) (.slice A4 n5 c4) (.int .i64 (k : Int)) (.int .i64 1) (.slice (some ⟨g4, 0, none⟩) n5 c5) (.int .i64 (k : Int)) := (by refine EnvS.below ?_ hbn; repeat (with_reducible (first | exact E4 | exact E2 | refine EnvS.drew ?_ | refine EnvS.set ?_ hd2 _ _ | refine EnvS.set ?_ hd3 _ _ | refine EnvS.alloc ?_ _)))); (have hzN : w.heap.size + 4 ≤ u2.heap.size := EN.1); (have UN : Blk3 u2 (w.heap.size + 1 + 1 + 1) (.int .i64 0) (.slice none 0 0) (.int .i64 0) 29 := (by refine Blk3.below ?_ hbn; repeat (with_reducible (first | exact U4 | exact U2 | refine Blk3.drewS ?_ | refine Blk3.otherS ?_ h23.symm _ _)))); (obtain ⟨n0_, n1_, n2_, n3_, n4_, n5_⟩ := UN.cells); (try (refine (fun (RN : Row u2 (w.heap.size + 4) (.slice (some ⟨g4, 0, none⟩) n5 c5) cs) => ?_) ?_; rotate_left; (· (refine Row.below ?_ hbn; repeat (with_reducible (first | exact R4 | refine Row.drewS ?_))); done))); (try (refine (fun (ZN : Blk4 u2 (w.heap.size + 1 + 1) (.slice none 0 0) (.slice none 0 0) (.slice none 0 0) (.slice none 0 0) 27) => ?_) ?_; rotate_left; (· (refine Blk4.below ?_ hbn; repeat (with_reducible (first | exact Z4 | exact Z2 | refine Blk4.drewS ?_ | refine Blk4.otherS ?_ h23 _ _))); done); (obtain ⟨m0_, m1_, m2_, m3_, m4_, m5_, m6_, m7_⟩ := ZN.cells))); (try (refine (fun (CN : CGv u2 (w.heap.size + 4) (.agg #[.slice k0 i0 d0, .slice k1 i1 d1, .slice k2 i2 d2, .slice k3 i3 d3]) (.agg #[.int .i64 q0, .slice (some ⟨g4, 0, none⟩) n5 c5, .int .i64 qa]) C ⟨q0, cs, qa⟩) => ?_) ?_; rotate_left; (· (refine CGv.below ?_ hbn; repeat (with_reducible (first | exact CF | refine CGv.drew ?_ | refine CGv.setS ?_ hl2 _ _))); done)))))
      all_goals
        (try rename_i hHeld); (try clear hHeld)
        go_wp2_with fail
        go_meet
        case rel =>
          refine PostS.of (k0 := .slice k0 i0 d0) (k1 := .slice k1 i1 d1) (k2 := .slice k2 i2 d2) (k3 := .slice k3 i3 d3) (r := .slice (some ⟨g4, 0, none⟩) n5 c5) ?hz ?hu ?hc ?hb
          case hz => repeat (with_reducible (first | exact ZN | exact Z2 | refine Blk4.drewS ?_ | refine Blk4.otherS ?_ h23 _ _ | refine Blk4.set3 (u := .slice none 0 0) ?_ _ | refine Blk4.set2 (z := .slice none 0 0) ?_ _ | refine Blk4.set1 (y := .slice none 0 0) ?_ _ | refine Blk4.set0 (x := .slice none 0 0) ?_ _ | refine Blk4.below ?_ hbn))
          case hu => repeat (with_reducible (first | exact UN | exact U2 | refine Blk3.drewS ?_ | refine Blk3.otherS ?_ h23.symm _ _ | refine Blk3.set2 (z := .int .i64 0) ?_ _ | refine Blk3.set1 (y := .slice none 0 0) ?_ _ | refine Blk3.set0 (x := .int .i64 0) ?_ _))
          case hc => repeat (with_reducible (first | exact CN | exact CF | refine CGv.drew ?_ | refine CGv.setS ?_ hl2 _ _ | refine CGv.setS ?_ hl3 _ _))
          case hb => repeat (with_reducible (first | exact B2 | exact BN | refine BS_dr ?_ | refine BS_set ?_ hs2 _ _ | refine BS_set ?_ hs3 _ _ | refine BS_al ?_ (Nat.le_refl _) _))
    case rest =>
      obtain ⟨k0, k1, k2, k3, r, hZ, hU, hC, hB⟩ := hcut
      obtain ⟨z0, z1, z2, z3, _⟩ := hZ.cells
      obtain ⟨u0, u1, u2, _⟩ := hU.cells
      clear x0 x1 x2 x3 y0 y1 y2 o0 o1 o2
      go_wp2_with fail
      rw [hR.out]
      refine bodyPost_ret (v := .tuple #[.agg #[k0, k1, k2, k3], .agg #[.int .i64 _, r, .int .i64 _]]) ?_ rfl ⟨_, _, rfl, hC.mono (by omega), hB⟩
      simp [results, Tryz.results97, go_sem, z0, z1, z2, z3, u0, u1, u2]

set_option maxRecDepth 100000 in
set_option maxHeartbeats 6000000 in
theorem l6Step2_any (w : World) (lo : Nat) (vs vg : Value) (C : Cp) (G : Gp) (h : CGv w lo vs vg C G) (hg : gcB C G = true) (hp : G.p = 2) :
    Calls Tryz.prog 97 #[vs, vg] w (NewCG w (stepG C G).1 (stepG C G).2) := by
  obtain ⟨A0, n0, c0, A1, n1, c1, A2, n2, c2, A3, n3, c3, A4, n4, c4, p, cc, a, rfl, rfl, rfl, hv, hk, ⟨r0, r1, r2, r3, r4⟩, ⟨l0, l1, l2, l3, l4⟩, ⟨m0, m1, m2, m3, m4⟩⟩ := h.open_
  dsimp only at hp
  subst hp
  obtain ⟨q1, ⟨q2, q3⟩, q4, q5, q6⟩ := gcB_sizes hg
  have hph := phB_iff.1 (gcB_iff.1 hg).2.2
  have hsto : stoB C = true := (gcB_iff.1 hg).1
  dsimp only at q1 q2 q3 q4 q5 q6 hph
  have l09 := l0.out
  have l29 := l2.out
  have l49 := l4.out
  have X := (((Blk4.new w (.slice A0 n0 c0) (.slice A1 n1 c1) (.slice A2 n2 c2) (.slice A3 n3 c3) 27).alloc (.cells #[.int .i64 2, .slice A4 n4 c4, .int .i64 a] 29)).alloc (.cells #[.slice none 0 0, .slice none 0 0, .slice none 0 0, .slice none 0 0] 27)).alloc (.cells #[.int .i64 0, .slice none 0 0, .int .i64 0] 29)
  have Y := ((Blk3.new_at (w := w.alloc (.cells #[.slice A0 n0 c0, .slice A1 n1 c1, .slice A2 n2 c2, .slice A3 n3 c3] 27)) (b := w.heap.size + 1) (by simp) (.int .i64 2) (.slice A4 n4 c4) (.int .i64 a) 29).alloc (.cells #[.slice none 0 0, .slice none 0 0, .slice none 0 0, .slice none 0 0] 27)).alloc (.cells #[.int .i64 0, .slice none 0 0, .int .i64 0] 29)
  have Z := (Blk4.new_at (w := (w.alloc (.cells #[.slice A0 n0 c0, .slice A1 n1 c1, .slice A2 n2 c2, .slice A3 n3 c3] 27)).alloc (.cells #[.int .i64 2, .slice A4 n4 c4, .int .i64 a] 29)) (b := w.heap.size + 1 + 1) (by simp) (.slice none 0 0) (.slice none 0 0) (.slice none 0 0) (.slice none 0 0) 27).alloc (.cells #[.int .i64 0, .slice none 0 0, .int .i64 0] 29)
  have U := Blk3.new_at (w := ((w.alloc (.cells #[.slice A0 n0 c0, .slice A1 n1 c1, .slice A2 n2 c2, .slice A3 n3 c3] 27)).alloc (.cells #[.int .i64 2, .slice A4 n4 c4, .int .i64 a] 29)).alloc (.cells #[.slice none 0 0, .slice none 0 0, .slice none 0 0, .slice none 0 0] 27)) (b := w.heap.size + 1 + 1 + 1) (by simp) (.int .i64 0) (.slice none 0 0) (.int .i64 0) 29
  have GV := (((h.gv.alloc (.cells #[.slice A0 n0 c0, .slice A1 n1 c1, .slice A2 n2 c2, .slice A3 n3 c3] 27)).alloc (.cells #[.int .i64 2, .slice A4 n4 c4, .int .i64 a] 29)).alloc (.cells #[.slice none 0 0, .slice none 0 0, .slice none 0 0, .slice none 0 0] 27)).alloc (.cells #[.int .i64 0, .slice none 0 0, .int .i64 0] 29)
  have BB : Below w.heap.size w ((((w.alloc (.cells #[.slice A0 n0 c0, .slice A1 n1 c1, .slice A2 n2 c2, .slice A3 n3 c3] 27)).alloc (.cells #[.int .i64 2, .slice A4 n4 c4, .int .i64 a] 29)).alloc (.cells #[.slice none 0 0, .slice none 0 0, .slice none 0 0, .slice none 0 0] 27)).alloc (.cells #[.int .i64 0, .slice none 0 0, .int .i64 0] 29)) := ((((Below.refl _ _).alloc (Nat.le_refl _) _).alloc (by simp) _).alloc (by simp <;> omega) _).alloc (by simp <;> omega) _
  have sz : ((((w.alloc (.cells #[.slice A0 n0 c0, .slice A1 n1 c1, .slice A2 n2 c2, .slice A3 n3 c3] 27)).alloc (.cells #[.int .i64 2, .slice A4 n4 c4, .int .i64 a] 29)).alloc (.cells #[.slice none 0 0, .slice none 0 0, .slice none 0 0, .slice none 0 0] 27)).alloc (.cells #[.int .i64 0, .slice none 0 0, .int .i64 0] 29)).heap.size = w.heap.size + 4 := by simp
  go_enter Tryz.func97, Tryz.ntmps97
  go_wp2_with fail
  generalize ((((w.alloc (.cells #[.slice A0 n0 c0, .slice A1 n1 c1, .slice A2 n2 c2, .slice A3 n3 c3] 27)).alloc (.cells #[.int .i64 2, .slice A4 n4 c4, .int .i64 a] 29)).alloc (.cells #[.slice none 0 0, .slice none 0 0, .slice none 0 0, .slice none 0 0] 27)).alloc (.cells #[.int .i64 0, .slice none 0 0, .int .i64 0] 29)) = W at X Y Z U GV BB sz ⊢
  obtain ⟨x0, x1, x2, x3, _⟩ := X.cells
  obtain ⟨y0, y1, y2, _⟩ := Y.cells
  have Cc := l6Copy_any W lo _ ⟨2, cc, a⟩ GV (by dsimp only; omega) (by dsimp only; omega)
  have l09' := Lib.hid l09
  have l29' := Lib.hid l29
  have l49' := Lib.hid l49
  have q1' := Lib.hid q1
  have q4' := Lib.hid q4
  have sz' : w.heap.size + 4 ≤ W.heap.size := by omega
  have szu : W.heap.size ≤ w.heap.size + 4 := by omega
  clear l0 l2 l4 l09 l29 l49 sz q1 q4 hsto
  go_wp2_with fail
  refine Cc.mono ?_; rintro e w1 ⟨vv, rfl, hD, hb1⟩
  obtain ⟨D4, n5, c5, rfl, s4, t4, _, _⟩ := hD.open_
  dsimp only at s4 t4
  obtain rfl : n5 = n4 := by have h1 := t4.out; have h2 := l49'.out; omega
  obtain ⟨g4, rfl, hg4l, hg4, _⟩ := s4.at_ (k := 0) (by have h1 := q1'.out; omega)
  have z1 := hb1.size
  have hsto : stoB C = true := (gcB_iff.1 hg).1
  have E1 : EnvS (w1.alloc (.cells #[.int .i64 2, .slice (some ⟨g4, 0, none⟩) n5 c5, .int .i64 a] 29)) w.heap.size w1.heap.size (.slice A0 n0 c0) (.slice A1 n1 c1) (.slice A2 n2 c2) (.slice A3 n3 c3) (.int .i64 2) (.slice A4 n5 c4) (.int .i64 a) (.int .i64 2) (.slice (some ⟨g4, 0, none⟩) n5 c5) (.int .i64 a) := ⟨by simp; omega, (X.below hb1).alloc _, (Y.below hb1).alloc _, Blk3.new _ _ _ _ _⟩
  have B1 : Below w.heap.size w (w1.alloc (.cells #[.int .i64 2, .slice (some ⟨g4, 0, none⟩) n5 c5, .int .i64 a] 29)) := BS_al (BB.trans (hb1.mono (by omega))) (Nat.le_refl _) _
  have R1 : Row (w1.alloc (.cells #[.int .i64 2, .slice (some ⟨g4, 0, none⟩) n5 c5, .int .i64 a] 29)) (w.heap.size + 4) (.slice (some ⟨g4, 0, none⟩) n5 c5) cc := (s4.alloc _).mono (by omega)
  have Z1 := (Z.below hb1).alloc (.cells #[.int .i64 2, .slice (some ⟨g4, 0, none⟩) n5 c5, .int .i64 a] 29)
  have U1 := (U.below hb1).alloc (.cells #[.int .i64 2, .slice (some ⟨g4, 0, none⟩) n5 c5, .int .i64 a] 29)
  have hs2 : w.heap.size ≤ w.heap.size + 1 + 1 := by omega
  have hs3 : w.heap.size ≤ w.heap.size + 1 + 1 + 1 := by omega
  have hl2 : w.heap.size + 1 + 1 < w.heap.size + 4 := by omega
  have hl3 : w.heap.size + 1 + 1 + 1 < w.heap.size + 4 := by omega
  have hd2 : w.heap.size ≠ w.heap.size + 1 + 1 ∧ w.heap.size + 1 ≠ w.heap.size + 1 + 1 ∧ w1.heap.size ≠ w.heap.size + 1 + 1 := by omega
  have hd3 : w.heap.size ≠ w.heap.size + 1 + 1 + 1 ∧ w.heap.size + 1 ≠ w.heap.size + 1 + 1 + 1 ∧ w1.heap.size ≠ w.heap.size + 1 + 1 + 1 := by omega
  have hdg : w.heap.size ≠ g4 ∧ w.heap.size + 1 ≠ g4 ∧ w1.heap.size ≠ g4 := by omega
  have h23 : w.heap.size + 1 + 1 ≠ w.heap.size + 1 + 1 + 1 := by omega
  have h2g : w.heap.size + 1 + 1 ≠ g4 := by omega
  have h3g : w.heap.size + 1 + 1 + 1 ≠ g4 := by omega
  have hgl : w.heap.size + 4 ≤ g4 := by omega
  have hz2 : w.heap.size + 1 + 1 < (w1.alloc (.cells #[.int .i64 2, .slice (some ⟨g4, 0, none⟩) n5 c5, .int .i64 a] 29)).heap.size := by simp; omega
  have hz3 : w.heap.size + 1 + 1 + 1 < (w1.alloc (.cells #[.int .i64 2, .slice (some ⟨g4, 0, none⟩) n5 c5, .int .i64 a] 29)).heap.size := by simp; omega
  have hz4 : w.heap.size + 4 ≤ (w1.alloc (.cells #[.int .i64 2, .slice (some ⟨g4, 0, none⟩) n5 c5, .int .i64 a] 29)).heap.size := by simp; omega
  have KC := fun V (hV : Below w.heap.size w V) => l4Copy_any V lo _ C (h.cv.below hV) hsto
  have SO : ∀ w' : World, EnvS w' w.heap.size w1.heap.size (.slice A0 n0 c0) (.slice A1 n1 c1) (.slice A2 n2 c2) (.slice A3 n3 c3) (.int .i64 2) (.slice A4 n5 c4) (.int .i64 a) (.int .i64 2) (.slice (some ⟨g4, 0, none⟩) n5 c5) (.int .i64 a) → w'.cell? ⟨w.heap.size, 0, none⟩ = some (.slice A0 n0 c0) ∧ w'.cell? ⟨w.heap.size, 1, none⟩ = some (.slice A1 n1 c1) ∧ w'.cell? ⟨w.heap.size, 2, none⟩ = some (.slice A2 n2 c2) ∧ w'.cell? ⟨w.heap.size, 3, none⟩ = some (.slice A3 n3 c3) ∧ w'.cell? ⟨w.heap.size + 1, 0, none⟩ = some (.int .i64 2) ∧ w'.cell? ⟨w.heap.size + 1, 1, none⟩ = some (.slice A4 n5 c4) ∧ w'.cell? ⟨w.heap.size + 1, 2, none⟩ = some (.int .i64 a) ∧ w'.cell? ⟨w1.heap.size, 0, none⟩ = some (.int .i64 2) ∧ w'.cell? ⟨w1.heap.size, 1, none⟩ = some (.slice (some ⟨g4, 0, none⟩) n5 c5) ∧ w'.cell? ⟨w1.heap.size, 2, none⟩ = some (.int .i64 a) := fun w' hX => hX.cells
  clear Cc X Y Z U GV BB hD s4 hb1 hv hk r0 r1 r3 r4 x0 x1 x2 x3 y0 y1 y2 hsto
  obtain ⟨x0, x1, x2, x3, y0, y1, y2, o0, o1, o2⟩ := E1.cells

  have hpa : a = 0 := by omega
  subst hpa
  obtain ⟨mp, mc, hM⟩ : ∃ mp mc, markG C cc = ⟨mp, mc, 0⟩ := by
    unfold markG
    split
    · split <;> exact ⟨_, _, rfl⟩
    · exact ⟨_, _, rfl⟩
  have hR : Hid (stepG C ⟨2, cc, 0⟩ = (C, ⟨mp, mc, 0⟩)) := by unfold Hid stepG; rw [if_neg (by simp), if_neg (by simp), if_pos rfl]; dsimp only; rw [hM]
  have hgw : w.heap.size ≤ g4 := by omega
  have KM : ∀ V, Below w.heap.size w V → Row V (w.heap.size + 4) (.slice (some ⟨g4, 0, none⟩) n5 c5) cc → Calls Tryz.prog 136 #[.agg #[.slice A0 n0 c0, .slice A1 n1 c1, .slice A2 n2 c2, .slice A3 n3 c3], .agg #[.int .i64 2, .slice (some ⟨g4, 0, none⟩) n5 c5, .int .i64 0]] V (fun e w' => e = .returned (.agg #[.int .i64 mp, .slice (some ⟨g4, 0, none⟩) n5 c5, .int .i64 0]) ∧ Row w' (w.heap.size + 4) (.slice (some ⟨g4, 0, none⟩) n5 c5) mc ∧ V.grownBy w' (some g4)) := fun V hV hr => by
    have K := l6Mark_any V 0 (.agg #[.slice A0 n0 c0, .slice A1 n1 c1, .slice A2 n2 c2, .slice A3 n3 c3]) (some ⟨g4, 0, none⟩) n5 c5 C cc (CGv.mk (h.cv.mono (Nat.zero_le lo)) ⟨_, rfl, hr.mono (by have := hV.size; omega)⟩ (Nat.zero_le _) hV) hg
    rw [hM] at K
    exact K.mono (fun e w' ⟨h1, h2, h3⟩ => ⟨h1, h2.raise hgl, h3⟩)
  clear hM h hg hph
  go_wp2_with fail
  go_cut [] from 9 (fun w' => PostS w C ⟨mp, mc, 0⟩ w')
  case first =>
    go_region_held3 (fun w' => w'.cell? ⟨w.heap.size, 0, none⟩ = some (.slice A0 n0 c0) ∧ w'.cell? ⟨w.heap.size, 1, none⟩ = some (.slice A1 n1 c1) ∧ w'.cell? ⟨w.heap.size, 2, none⟩ = some (.slice A2 n2 c2) ∧ w'.cell? ⟨w.heap.size, 3, none⟩ = some (.slice A3 n3 c3) ∧ w'.cell? ⟨w.heap.size + 1, 0, none⟩ = some (.int .i64 2) ∧ w'.cell? ⟨w.heap.size + 1, 1, none⟩ = some (.slice A4 n5 c4) ∧ w'.cell? ⟨w.heap.size + 1, 2, none⟩ = some (.int .i64 0) ∧ w'.cell? ⟨w1.heap.size, 0, none⟩ = some (.int .i64 2) ∧ w'.cell? ⟨w1.heap.size, 1, none⟩ = some (.slice (some ⟨g4, 0, none⟩) n5 c5) ∧ w'.cell? ⟨w1.heap.size, 2, none⟩ = some (.int .i64 0))
      (((try dsimp only); (refine SO _ ?_); (repeat (with_reducible (first | exact E1 | exact E2 | exact EM | refine EnvS.drew ?_ | refine EnvS.set ?_ hd2 _ _ | refine EnvS.set ?_ hd3 _ _ | refine EnvS.alloc ?_ _)))))
      (first
        | (go_at_call 125; (refine Calls.mono (KC _ ?_) ?_); (· repeat (with_reducible (first | exact B1 | exact BM | refine BS_dr ?_ | refine BS_set ?_ hs2 _ _ | refine BS_set ?_ hs3 _ _ | refine BS_al ?_ (Nat.le_refl _) _))); rintro e u1 ⟨vk, rfl, K, hbk⟩; (obtain ⟨k0, i0, d0, k1, i1, d1, k2, i2, d2, k3, i3, d3, rfl⟩ := K.letters); (have B2 : Below w.heap.size w u1 := (by refine BS_th ?_ (Nat.le_refl _) hbk; repeat (with_reducible (first | exact B1 | exact BM | refine BS_dr ?_ | refine BS_set ?_ hs2 _ _ | refine BS_set ?_ hs3 _ _ | refine BS_al ?_ (Nat.le_refl _) _)))); (have E2 : EnvS u1 w.heap.size w1.heap.size (.slice A0 n0 c0) (.slice A1 n1 c1) (.slice A2 n2 c2) (.slice A3 n3 c3) (.int .i64 2) (.slice A4 n5 c4) (.int .i64 0) (.int .i64 2) (.slice (some ⟨g4, 0, none⟩) n5 c5) (.int .i64 0) := (by refine EnvS.below ?_ hbk; repeat (with_reducible (first | exact E1 | exact EM | refine EnvS.drew ?_ | refine EnvS.set ?_ hd2 _ _ | refine EnvS.set ?_ hd3 _ _ | refine EnvS.alloc ?_ _)))); (have K2 : Cv u1 (w.heap.size + 4) (.agg #[.slice k0 i0 d0, .slice k1 i1 d1, .slice k2 i2 d2, .slice k3 i3 d3]) C := (by refine K.mono ?_; repeat (with_reducible (first | exact hz4 | exact hzM | refine sz_dr ?_ | refine sz_set ?_ _ _ | refine sz_al ?_ _)))); (have hz5 : w.heap.size + 4 ≤ u1.heap.size := E2.1); (have Z2 : Blk4 u1 (w.heap.size + 1 + 1) (.slice none 0 0) (.slice none 0 0) (.slice none 0 0) (.slice none 0 0) 27 := (by refine Blk4.below ?_ hbk; repeat (with_reducible (first | exact Z1 | exact ZM | refine Blk4.drewS ?_ | refine Blk4.alloc ?_ _ | refine Blk4.otherS ?_ h2g _ _)))); (have U2 : Blk3 u1 (w.heap.size + 1 + 1 + 1) (.int .i64 0) (.slice none 0 0) (.int .i64 0) 29 := (by refine Blk3.below ?_ hbk; repeat (with_reducible (first | exact U1 | exact UM | refine Blk3.drewS ?_ | refine Blk3.alloc ?_ _ | refine Blk3.otherS ?_ h3g _ _ | refine Blk3.otherS ?_ h23.symm _ _)))); (obtain ⟨z0, z1, z2, z3, f0, f1, f2, f3⟩ := Z2.cells); (obtain ⟨u0, uu1, u2, h0, h1, h2⟩ := U2.cells); (try (refine (fun (CF : CGv u1 (w.heap.size + 4) (.agg #[.slice k0 i0 d0, .slice k1 i1 d1, .slice k2 i2 d2, .slice k3 i3 d3]) (.agg #[.int .i64 mp, .slice (some ⟨g4, 0, none⟩) n5 c5, .int .i64 0]) C ⟨mp, mc, 0⟩) => ?_) ?_; rotate_left; (· (refine CGv.mk' ?_ K ?_ hbk; (· refine ⟨_, rfl, ?_⟩; repeat (with_reducible (first | exact RM | refine Row.drewS ?_ | refine Row.setS ?_ hl2 _ _ | refine Row.setS ?_ hl3 _ _))); (· repeat (with_reducible (first | exact hzM | refine sz_dr ?_ | refine sz_set ?_ _ _ | refine sz_al ?_ _)))); done))); (try (refine (fun (CG0 : CGv u1 (w.heap.size + 4) (.agg #[.slice k0 i0 d0, .slice k1 i1 d1, .slice k2 i2 d2, .slice k3 i3 d3]) (.agg #[.int .i64 2, .slice (some ⟨g4, 0, none⟩) n5 c5, .int .i64 0]) C ⟨2, cc, 0⟩) => ?_) ?_; rotate_left; (· (refine CGv.mk' ?_ K ?_ hbk; (· refine ⟨_, rfl, ?_⟩; repeat (with_reducible (first | exact R1 | refine Row.drewS ?_ | refine Row.setS ?_ hl2 _ _ | refine Row.setS ?_ hl3 _ _))); (· repeat (with_reducible (first | exact hz4 | refine sz_dr ?_ | refine sz_set ?_ _ _ | refine sz_al ?_ _)))); done))); (try (refine (fun (RK : Row u1 (w.heap.size + 4) (.slice (some ⟨g4, 0, none⟩) n5 c5) cc) => ?_) ?_; rotate_left; (· (refine Row.below ?_ hbk; repeat (with_reducible (first | exact R1 | refine Row.drewS ?_ | refine Row.setS ?_ hl2 _ _ | refine Row.setS ?_ hl3 _ _))); done))))
        | (go_at_call 136; (refine Calls.mono (KM _ ?_ ?_) ?_); (· repeat (with_reducible (first | exact B1 | exact B2 | refine BS_dr ?_ | refine BS_set ?_ hs2 _ _ | refine BS_set ?_ hs3 _ _ | refine BS_al ?_ (Nat.le_refl _) _))); (· repeat (with_reducible (first | exact R1 | exact RK | refine Row.drewS ?_ | refine Row.setS ?_ hl2 _ _ | refine Row.setS ?_ hl3 _ _))); rintro e u2 ⟨rfl, RM, hO⟩; (have BM : Below w.heap.size w u2 := (by refine Below.trans ?_ (below_own hO hgw (Below.size (?_ : Below w.heap.size w _))); (· repeat (with_reducible (first | exact B1 | exact B2 | refine BS_dr ?_ | refine BS_set ?_ hs2 _ _ | refine BS_set ?_ hs3 _ _ | refine BS_al ?_ (Nat.le_refl _) _))); (· repeat (with_reducible (first | exact B1 | exact B2 | refine BS_dr ?_ | refine BS_set ?_ hs2 _ _ | refine BS_set ?_ hs3 _ _ | refine BS_al ?_ (Nat.le_refl _) _))))); (have EM : EnvS u2 w.heap.size w1.heap.size (.slice A0 n0 c0) (.slice A1 n1 c1) (.slice A2 n2 c2) (.slice A3 n3 c3) (.int .i64 2) (.slice A4 n5 c4) (.int .i64 0) (.int .i64 2) (.slice (some ⟨g4, 0, none⟩) n5 c5) (.int .i64 0) := (by refine EnvS.kept ?_ hO hdg; repeat (with_reducible (first | exact E1 | exact E2 | refine EnvS.drew ?_ | refine EnvS.set ?_ hd2 _ _ | refine EnvS.set ?_ hd3 _ _ | refine EnvS.alloc ?_ _)))); (have hzM : w.heap.size + 4 ≤ u2.heap.size := EM.1); (have UM : Blk3 u2 (w.heap.size + 1 + 1 + 1) (.int .i64 0) (.slice none 0 0) (.int .i64 0) 29 := (by refine Blk3.kept ?_ hO h3g; repeat (with_reducible (first | exact U1 | exact U2 | refine Blk3.drewS ?_ | refine Blk3.otherS ?_ h23.symm _ _)))); (obtain ⟨n0_, n1_, n2_, n3_, n4_, n5_⟩ := UM.cells); (try (refine (fun (ZM : Blk4 u2 (w.heap.size + 1 + 1) (.slice none 0 0) (.slice none 0 0) (.slice none 0 0) (.slice none 0 0) 27) => ?_) ?_; rotate_left; (· (refine Blk4.kept ?_ hO h2g; repeat (with_reducible (first | exact Z1 | exact Z2 | refine Blk4.drewS ?_ | refine Blk4.otherS ?_ h23 _ _))); done); (obtain ⟨m0_, m1_, m2_, m3_, m4_, m5_, m6_, m7_⟩ := ZM.cells))); (try (refine (fun (CF : CGv u2 (w.heap.size + 4) (.agg #[.slice k0 i0 d0, .slice k1 i1 d1, .slice k2 i2 d2, .slice k3 i3 d3]) (.agg #[.int .i64 mp, .slice (some ⟨g4, 0, none⟩) n5 c5, .int .i64 0]) C ⟨mp, mc, 0⟩) => ?_) ?_; rotate_left; (· (refine CGv.reG (p := 2) (a := 0) (CGv.recolor (cc := cc) ?_ hO RM); repeat (with_reducible (first | exact CG0 | refine CGv.drew ?_ | refine CGv.setS ?_ hl2 _ _))); done)))))
    all_goals
      (try rename_i hHeld); (try clear hHeld)
      go_wp2_with fail
      go_meet
      case rel =>
        refine PostS.of (k0 := .slice k0 i0 d0) (k1 := .slice k1 i1 d1) (k2 := .slice k2 i2 d2) (k3 := .slice k3 i3 d3) (r := .slice (some ⟨g4, 0, none⟩) n5 c5) ?hz ?hu ?hc ?hb
        case hz => repeat (with_reducible (first | exact ZM | exact Z2 | refine Blk4.drewS ?_ | refine Blk4.otherS ?_ h23 _ _ | refine Blk4.set3 (u := .slice none 0 0) ?_ _ | refine Blk4.set2 (z := .slice none 0 0) ?_ _ | refine Blk4.set1 (y := .slice none 0 0) ?_ _ | refine Blk4.set0 (x := .slice none 0 0) ?_ _ | refine Blk4.kept ?_ hO h2g))
        case hu => repeat (with_reducible (first | exact UM | exact U2 | refine Blk3.drewS ?_ | refine Blk3.otherS ?_ h23.symm _ _ | refine Blk3.set2 (z := .int .i64 0) ?_ _ | refine Blk3.set1 (y := .slice none 0 0) ?_ _ | refine Blk3.set0 (x := .int .i64 0) ?_ _))
        case hc => repeat (with_reducible (first | exact CF | refine CGv.drew ?_ | refine CGv.setS ?_ hl2 _ _ | refine CGv.setS ?_ hl3 _ _))
        case hb => repeat (with_reducible (first | exact B2 | exact BM | refine BS_dr ?_ | refine BS_set ?_ hs2 _ _ | refine BS_set ?_ hs3 _ _ | refine BS_al ?_ (Nat.le_refl _) _))
  case rest =>
    obtain ⟨k0, k1, k2, k3, r, hZ, hU, hC, hB⟩ := hcut
    obtain ⟨z0, z1, z2, z3, _⟩ := hZ.cells
    obtain ⟨u0, u1, u2, _⟩ := hU.cells
    clear x0 x1 x2 x3 y0 y1 y2 o0 o1 o2
    go_wp2_with fail
    rw [hR.out]
    refine bodyPost_ret (v := .tuple #[.agg #[k0, k1, k2, k3], .agg #[.int .i64 _, r, .int .i64 _]]) ?_ rfl ⟨_, _, rfl, hC.mono (by omega), hB⟩
    simp [results, Tryz.results97, go_sem, z0, z1, z2, z3, u0, u1, u2]

set_option maxRecDepth 100000 in
set_option maxHeartbeats 6000000 in
theorem l6Step3_any (w : World) (lo : Nat) (vs vg : Value) (C : Cp) (G : Gp) (h : CGv w lo vs vg C G) (hg : gcB C G = true) (hp : G.p = 3) :
    Calls Tryz.prog 97 #[vs, vg] w (NewCG w (stepG C G).1 (stepG C G).2) := by
  obtain ⟨A0, n0, c0, A1, n1, c1, A2, n2, c2, A3, n3, c3, A4, n4, c4, p, cc, a, rfl, rfl, rfl, hv, hk, ⟨r0, r1, r2, r3, r4⟩, ⟨l0, l1, l2, l3, l4⟩, ⟨m0, m1, m2, m3, m4⟩⟩ := h.open_
  dsimp only at hp
  subst hp
  obtain ⟨q1, ⟨q2, q3⟩, q4, q5, q6⟩ := gcB_sizes hg
  have hph := phB_iff.1 (gcB_iff.1 hg).2.2
  have hsto : stoB C = true := (gcB_iff.1 hg).1
  dsimp only at q1 q2 q3 q4 q5 q6 hph
  have l09 := l0.out
  have l29 := l2.out
  have l49 := l4.out
  have X := (((Blk4.new w (.slice A0 n0 c0) (.slice A1 n1 c1) (.slice A2 n2 c2) (.slice A3 n3 c3) 27).alloc (.cells #[.int .i64 3, .slice A4 n4 c4, .int .i64 a] 29)).alloc (.cells #[.slice none 0 0, .slice none 0 0, .slice none 0 0, .slice none 0 0] 27)).alloc (.cells #[.int .i64 0, .slice none 0 0, .int .i64 0] 29)
  have Y := ((Blk3.new_at (w := w.alloc (.cells #[.slice A0 n0 c0, .slice A1 n1 c1, .slice A2 n2 c2, .slice A3 n3 c3] 27)) (b := w.heap.size + 1) (by simp) (.int .i64 3) (.slice A4 n4 c4) (.int .i64 a) 29).alloc (.cells #[.slice none 0 0, .slice none 0 0, .slice none 0 0, .slice none 0 0] 27)).alloc (.cells #[.int .i64 0, .slice none 0 0, .int .i64 0] 29)
  have Z := (Blk4.new_at (w := (w.alloc (.cells #[.slice A0 n0 c0, .slice A1 n1 c1, .slice A2 n2 c2, .slice A3 n3 c3] 27)).alloc (.cells #[.int .i64 3, .slice A4 n4 c4, .int .i64 a] 29)) (b := w.heap.size + 1 + 1) (by simp) (.slice none 0 0) (.slice none 0 0) (.slice none 0 0) (.slice none 0 0) 27).alloc (.cells #[.int .i64 0, .slice none 0 0, .int .i64 0] 29)
  have U := Blk3.new_at (w := ((w.alloc (.cells #[.slice A0 n0 c0, .slice A1 n1 c1, .slice A2 n2 c2, .slice A3 n3 c3] 27)).alloc (.cells #[.int .i64 3, .slice A4 n4 c4, .int .i64 a] 29)).alloc (.cells #[.slice none 0 0, .slice none 0 0, .slice none 0 0, .slice none 0 0] 27)) (b := w.heap.size + 1 + 1 + 1) (by simp) (.int .i64 0) (.slice none 0 0) (.int .i64 0) 29
  have GV := (((h.gv.alloc (.cells #[.slice A0 n0 c0, .slice A1 n1 c1, .slice A2 n2 c2, .slice A3 n3 c3] 27)).alloc (.cells #[.int .i64 3, .slice A4 n4 c4, .int .i64 a] 29)).alloc (.cells #[.slice none 0 0, .slice none 0 0, .slice none 0 0, .slice none 0 0] 27)).alloc (.cells #[.int .i64 0, .slice none 0 0, .int .i64 0] 29)
  have BB : Below w.heap.size w ((((w.alloc (.cells #[.slice A0 n0 c0, .slice A1 n1 c1, .slice A2 n2 c2, .slice A3 n3 c3] 27)).alloc (.cells #[.int .i64 3, .slice A4 n4 c4, .int .i64 a] 29)).alloc (.cells #[.slice none 0 0, .slice none 0 0, .slice none 0 0, .slice none 0 0] 27)).alloc (.cells #[.int .i64 0, .slice none 0 0, .int .i64 0] 29)) := ((((Below.refl _ _).alloc (Nat.le_refl _) _).alloc (by simp) _).alloc (by simp <;> omega) _).alloc (by simp <;> omega) _
  have sz : ((((w.alloc (.cells #[.slice A0 n0 c0, .slice A1 n1 c1, .slice A2 n2 c2, .slice A3 n3 c3] 27)).alloc (.cells #[.int .i64 3, .slice A4 n4 c4, .int .i64 a] 29)).alloc (.cells #[.slice none 0 0, .slice none 0 0, .slice none 0 0, .slice none 0 0] 27)).alloc (.cells #[.int .i64 0, .slice none 0 0, .int .i64 0] 29)).heap.size = w.heap.size + 4 := by simp
  go_enter Tryz.func97, Tryz.ntmps97
  go_wp2_with fail
  generalize ((((w.alloc (.cells #[.slice A0 n0 c0, .slice A1 n1 c1, .slice A2 n2 c2, .slice A3 n3 c3] 27)).alloc (.cells #[.int .i64 3, .slice A4 n4 c4, .int .i64 a] 29)).alloc (.cells #[.slice none 0 0, .slice none 0 0, .slice none 0 0, .slice none 0 0] 27)).alloc (.cells #[.int .i64 0, .slice none 0 0, .int .i64 0] 29)) = W at X Y Z U GV BB sz ⊢
  obtain ⟨x0, x1, x2, x3, _⟩ := X.cells
  obtain ⟨y0, y1, y2, _⟩ := Y.cells
  have Cc := l6Copy_any W lo _ ⟨3, cc, a⟩ GV (by dsimp only; omega) (by dsimp only; omega)
  have l09' := Lib.hid l09
  have l29' := Lib.hid l29
  have l49' := Lib.hid l49
  have q1' := Lib.hid q1
  have q4' := Lib.hid q4
  have sz' : w.heap.size + 4 ≤ W.heap.size := by omega
  have szu : W.heap.size ≤ w.heap.size + 4 := by omega
  clear l0 l2 l4 l09 l29 l49 sz q1 q4 hsto
  go_wp2_with fail
  refine Cc.mono ?_; rintro e w1 ⟨vv, rfl, hD, hb1⟩
  obtain ⟨D4, n5, c5, rfl, s4, t4, _, _⟩ := hD.open_
  dsimp only at s4 t4
  obtain rfl : n5 = n4 := by have h1 := t4.out; have h2 := l49'.out; omega
  obtain ⟨g4, rfl, hg4l, hg4, _⟩ := s4.at_ (k := 0) (by have h1 := q1'.out; omega)
  have z1 := hb1.size
  have hsto : stoB C = true := (gcB_iff.1 hg).1
  have E1 : EnvS (w1.alloc (.cells #[.int .i64 3, .slice (some ⟨g4, 0, none⟩) n5 c5, .int .i64 a] 29)) w.heap.size w1.heap.size (.slice A0 n0 c0) (.slice A1 n1 c1) (.slice A2 n2 c2) (.slice A3 n3 c3) (.int .i64 3) (.slice A4 n5 c4) (.int .i64 a) (.int .i64 3) (.slice (some ⟨g4, 0, none⟩) n5 c5) (.int .i64 a) := ⟨by simp; omega, (X.below hb1).alloc _, (Y.below hb1).alloc _, Blk3.new _ _ _ _ _⟩
  have B1 : Below w.heap.size w (w1.alloc (.cells #[.int .i64 3, .slice (some ⟨g4, 0, none⟩) n5 c5, .int .i64 a] 29)) := BS_al (BB.trans (hb1.mono (by omega))) (Nat.le_refl _) _
  have R1 : Row (w1.alloc (.cells #[.int .i64 3, .slice (some ⟨g4, 0, none⟩) n5 c5, .int .i64 a] 29)) (w.heap.size + 4) (.slice (some ⟨g4, 0, none⟩) n5 c5) cc := (s4.alloc _).mono (by omega)
  have Z1 := (Z.below hb1).alloc (.cells #[.int .i64 3, .slice (some ⟨g4, 0, none⟩) n5 c5, .int .i64 a] 29)
  have U1 := (U.below hb1).alloc (.cells #[.int .i64 3, .slice (some ⟨g4, 0, none⟩) n5 c5, .int .i64 a] 29)
  have hs2 : w.heap.size ≤ w.heap.size + 1 + 1 := by omega
  have hs3 : w.heap.size ≤ w.heap.size + 1 + 1 + 1 := by omega
  have hl2 : w.heap.size + 1 + 1 < w.heap.size + 4 := by omega
  have hl3 : w.heap.size + 1 + 1 + 1 < w.heap.size + 4 := by omega
  have hd2 : w.heap.size ≠ w.heap.size + 1 + 1 ∧ w.heap.size + 1 ≠ w.heap.size + 1 + 1 ∧ w1.heap.size ≠ w.heap.size + 1 + 1 := by omega
  have hd3 : w.heap.size ≠ w.heap.size + 1 + 1 + 1 ∧ w.heap.size + 1 ≠ w.heap.size + 1 + 1 + 1 ∧ w1.heap.size ≠ w.heap.size + 1 + 1 + 1 := by omega
  have hdg : w.heap.size ≠ g4 ∧ w.heap.size + 1 ≠ g4 ∧ w1.heap.size ≠ g4 := by omega
  have h23 : w.heap.size + 1 + 1 ≠ w.heap.size + 1 + 1 + 1 := by omega
  have h2g : w.heap.size + 1 + 1 ≠ g4 := by omega
  have h3g : w.heap.size + 1 + 1 + 1 ≠ g4 := by omega
  have hgl : w.heap.size + 4 ≤ g4 := by omega
  have hz2 : w.heap.size + 1 + 1 < (w1.alloc (.cells #[.int .i64 3, .slice (some ⟨g4, 0, none⟩) n5 c5, .int .i64 a] 29)).heap.size := by simp; omega
  have hz3 : w.heap.size + 1 + 1 + 1 < (w1.alloc (.cells #[.int .i64 3, .slice (some ⟨g4, 0, none⟩) n5 c5, .int .i64 a] 29)).heap.size := by simp; omega
  have hz4 : w.heap.size + 4 ≤ (w1.alloc (.cells #[.int .i64 3, .slice (some ⟨g4, 0, none⟩) n5 c5, .int .i64 a] 29)).heap.size := by simp; omega
  have KC := fun V (hV : Below w.heap.size w V) => l4Copy_any V lo _ C (h.cv.below hV) hsto
  have SO : ∀ w' : World, EnvS w' w.heap.size w1.heap.size (.slice A0 n0 c0) (.slice A1 n1 c1) (.slice A2 n2 c2) (.slice A3 n3 c3) (.int .i64 3) (.slice A4 n5 c4) (.int .i64 a) (.int .i64 3) (.slice (some ⟨g4, 0, none⟩) n5 c5) (.int .i64 a) → w'.cell? ⟨w.heap.size, 0, none⟩ = some (.slice A0 n0 c0) ∧ w'.cell? ⟨w.heap.size, 1, none⟩ = some (.slice A1 n1 c1) ∧ w'.cell? ⟨w.heap.size, 2, none⟩ = some (.slice A2 n2 c2) ∧ w'.cell? ⟨w.heap.size, 3, none⟩ = some (.slice A3 n3 c3) ∧ w'.cell? ⟨w.heap.size + 1, 0, none⟩ = some (.int .i64 3) ∧ w'.cell? ⟨w.heap.size + 1, 1, none⟩ = some (.slice A4 n5 c4) ∧ w'.cell? ⟨w.heap.size + 1, 2, none⟩ = some (.int .i64 a) ∧ w'.cell? ⟨w1.heap.size, 0, none⟩ = some (.int .i64 3) ∧ w'.cell? ⟨w1.heap.size, 1, none⟩ = some (.slice (some ⟨g4, 0, none⟩) n5 c5) ∧ w'.cell? ⟨w1.heap.size, 2, none⟩ = some (.int .i64 a) := fun w' hX => hX.cells
  clear Cc X Y Z U GV BB hD s4 hb1 hv hk r0 r1 r3 r4 x0 x1 x2 x3 y0 y1 y2 hsto
  obtain ⟨x0, x1, x2, x3, y0, y1, y2, o0, o1, o2⟩ := E1.cells

  obtain ⟨k, rfl⟩ := Int.eq_ofNat_of_zero_le (show 0 ≤ a by omega)
  have hkl : k < cc.length := by have h1 := q1'.out; omega
  have hki : (k : Int) < (n5 : Int) := by have h2 := l49'.out; omega
  have hkn : k < n5 := by omega
  have hn1 : n5 < 100 := by have h1 := q1'.out; have h2 := l49'.out; omega
  obtain ⟨q0, qa, hN⟩ : ∃ q0 qa, ∀ c, nextG 3 c (k : Int) n5 0 = ⟨q0, c, qa⟩ := by
    unfold nextG
    by_cases h9 : (k : Int) + 1 < n5
    · exact ⟨_, _, fun c => by rw [if_pos h9]⟩
    · exact ⟨_, _, fun c => by rw [if_neg h9]⟩
  have hR0 : Hid (stepG C ⟨3, cc, (k : Int)⟩ = (clrS C (swI C ⟨3, cc, (k : Int)⟩), ⟨q0, cc.set k 0, qa⟩)) := by
    unfold Hid stepG; rw [if_neg (by simp), if_neg (by simp), if_neg (by simp)]; dsimp only
    rw [Int.toNat_natCast, l49'.out, hN]
  have KN : ∀ V, Calls Tryz.prog 135 #[.agg #[.int .i64 3, .slice (some ⟨g4, 0, none⟩) n5 c5, .int .i64 (k : Int)], .int .i64 (n5 : Int), .int .i64 0] V (fun e w' => e = .returned (.agg #[.int .i64 q0, .slice (some ⟨g4, 0, none⟩) n5 c5, .int .i64 qa]) ∧ Below V.heap.size V w') := fun V => by
    have K := l6Next_any V 3 cc (some ⟨g4, 0, none⟩) n5 c5 k n5 0 hkn hn1
    rw [hN] at K
    exact K
  have KW := fun V (hV : Below w.heap.size w V) => l6Swept_any V lo _ _ C _ (h.below hV) hg
  have KL := fun V (hV : Below w.heap.size w V) lc A n c hr hl hn => l4Clear_any V lo lc _ C (h.cv.below hV) (gcB_iff.1 hg).1 A n c [(k : Int)] hr hl hn
  have hsw := swI_cases C ⟨3, cc, (k : Int)⟩
  dsimp only at hsw
  obtain ⟨sw, hswe⟩ : ∃ sw, sw = swI C ⟨3, cc, (k : Int)⟩ := ⟨_, rfl⟩
  rw [← hswe] at KW hR0 hsw
  have hgw : w.heap.size ≤ g4 := by omega
  clear hN h hg hph hswe
  go_wp2_with fail
  refine (KW _ B1).mono ?_; rintro e w2 ⟨rfl, hb2⟩
  have E2 := E1.below hb2
  have R2' := R1.below hb2
  have Z2 := Z1.below hb2
  have U2 := U1.below hb2
  have B2 := BS_th B1 (Nat.le_refl _) hb2
  have z2 := hb2.size
  simp only [World.size_alloc] at z2
  clear x0 x1 x2 x3 y0 y1 y2 o0 o1 o2 E1 R1 Z1 U1 B1 hb2 KW
  obtain ⟨x0, x1, x2, x3, y0, y1, y2, o0, o1, o2⟩ := E2.cells
  go_wp2_with fail
  refine (KC _ B2).mono ?_; rintro e w3 ⟨vk, rfl, K, hb3⟩
  obtain ⟨k0, i0, d0, k1, i1, d1, k2, i2, d2, k3, i3, d3, rfl⟩ := K.letters
  have z3 := hb3.size
  have CG0 : CGv (w3.alloc (.cells #[.slice k0 i0 d0, .slice k1 i1 d1, .slice k2 i2 d2, .slice k3 i3 d3] 27)) (w.heap.size + 4) (.agg #[.slice k0 i0 d0, .slice k1 i1 d1, .slice k2 i2 d2, .slice k3 i3 d3]) (.agg #[.int .i64 3, .slice (some ⟨g4, 0, none⟩) n5 c5, .int .i64 (k : Int)]) C ⟨3, cc, (k : Int)⟩ := CGv.alloc (CGv.mk' (lo := w.heap.size + 4) (G := ⟨3, cc, (k : Int)⟩) (⟨_, rfl, R2'⟩ : Gv w2 (w.heap.size + 4) (.agg #[.int .i64 3, .slice (some ⟨g4, 0, none⟩) n5 c5, .int .i64 (k : Int)]) ⟨3, cc, (k : Int)⟩) K E2.1 hb3) _
  have E0 := (E2.below hb3).alloc (.cells #[.slice k0 i0 d0, .slice k1 i1 d1, .slice k2 i2 d2, .slice k3 i3 d3] 27)
  have R0 := (R2'.below hb3).alloc (.cells #[.slice k0 i0 d0, .slice k1 i1 d1, .slice k2 i2 d2, .slice k3 i3 d3] 27)
  have Z0 := (Z2.below hb3).alloc (.cells #[.slice k0 i0 d0, .slice k1 i1 d1, .slice k2 i2 d2, .slice k3 i3 d3] 27)
  have U0 := (U2.below hb3).alloc (.cells #[.slice k0 i0 d0, .slice k1 i1 d1, .slice k2 i2 d2, .slice k3 i3 d3] 27)
  have B0 := BS_al (BS_th B2 (Nat.le_refl _) hb3) (Nat.le_refl _) (.cells #[.slice k0 i0 d0, .slice k1 i1 d1, .slice k2 i2 d2, .slice k3 i3 d3] 27)
  have N0 := Blk4.new w3 (.slice k0 i0 d0) (.slice k1 i1 d1) (.slice k2 i2 d2) (.slice k3 i3 d3) 27
  have hng : w3.heap.size ≠ g4 := by omega
  have hn2 : w3.heap.size ≠ w.heap.size + 1 + 1 := by omega
  have hn3 : w3.heap.size ≠ w.heap.size + 1 + 1 + 1 := by omega
  have z2' := z2
  clear x0 x1 x2 x3 y0 y1 y2 o0 o1 o2 E2 R2' Z2 U2 B2 K hb3 KC z2'
  rcases hsw with rfl | ⟨rfl, _⟩
  · have hR : Hid (stepG C ⟨3, cc, (k : Int)⟩ = (C, ⟨q0, cc.set k 0, qa⟩)) := by unfold Hid; rw [hR0.out]; rfl
    clear hR0 KL
    obtain ⟨_, _, e9, _, _, _, hcg, hfg⟩ := R0.get (k := k) hkl
    cases e9
    have hO : (w3.alloc (.cells #[.slice k0 i0 d0, .slice k1 i1 d1, .slice k2 i2 d2, .slice k3 i3 d3] 27)).grownBy ((w3.alloc (.cells #[.slice k0 i0 d0, .slice k1 i1 d1, .slice k2 i2 d2, .slice k3 i3 d3] 27)).setCell ⟨g4, k, none⟩ (.int .i64 0)) (some g4) := grown_set ⟨rfl, rfl, rfl, Nat.le_refl _, fun _ _ _ => rfl⟩ (.inl rfl) _
    have E4 := E0.kept hO hdg
    have R4 := R0.set_ k 0
    have N4 := N0.kept hO hng
    have B4 := B0.trans (below_own hO hgw B0.size)
    have Z4 := Z0.kept hO h2g
    have U4 := U0.kept hO h3g
    have CG4 := CG0.recolor hO R4
    obtain ⟨x0, x1, x2, x3, y0, y1, y2, o0, o1, o2⟩ := E0.cells
    clear R0 N0 B0 Z0 U0 CG0 hO
    go_wp2_with fail
    clear x0 x1 x2 x3 y0 y1 y2 o0 o1 o2 hcg hfg E0
    obtain ⟨x0, x1, x2, x3, y0, y1, y2, o0, o1, o2⟩ := E4.cells
    obtain ⟨v0_, v1_, v2_, v3_, v4_, v5_, v6_, v7_⟩ := N4.cells
    obtain ⟨z0_, z1_, z2_, z3_, z4_, z5_, z6_, z7_⟩ := Z4.cells
    have SN : ∀ w' : World, EnvS w' w.heap.size w1.heap.size (.slice A0 n0 c0) (.slice A1 n1 c1) (.slice A2 n2 c2) (.slice A3 n3 c3) (.int .i64 3) (.slice A4 n5 c4) (.int .i64 (k : Int)) (.int .i64 3) (.slice (some ⟨g4, 0, none⟩) n5 c5) (.int .i64 (k : Int)) → Blk4 w' w3.heap.size (.slice k0 i0 d0) (.slice k1 i1 d1) (.slice k2 i2 d2) (.slice k3 i3 d3) 27 → (w'.cell? ⟨w3.heap.size, 0, none⟩ = some (.slice k0 i0 d0) ∧ w'.cell? ⟨w3.heap.size, 1, none⟩ = some (.slice k1 i1 d1) ∧ w'.cell? ⟨w3.heap.size, 2, none⟩ = some (.slice k2 i2 d2) ∧ w'.cell? ⟨w3.heap.size, 3, none⟩ = some (.slice k3 i3 d3)) ∧ w'.cell? ⟨w.heap.size, 0, none⟩ = some (.slice A0 n0 c0) ∧ w'.cell? ⟨w.heap.size, 1, none⟩ = some (.slice A1 n1 c1) ∧ w'.cell? ⟨w.heap.size, 2, none⟩ = some (.slice A2 n2 c2) ∧ w'.cell? ⟨w.heap.size, 3, none⟩ = some (.slice A3 n3 c3) ∧ w'.cell? ⟨w.heap.size + 1, 0, none⟩ = some (.int .i64 3) ∧ w'.cell? ⟨w.heap.size + 1, 1, none⟩ = some (.slice A4 n5 c4) ∧ w'.cell? ⟨w.heap.size + 1, 2, none⟩ = some (.int .i64 (k : Int)) ∧ w'.cell? ⟨w1.heap.size, 0, none⟩ = some (.int .i64 3) ∧ w'.cell? ⟨w1.heap.size, 1, none⟩ = some (.slice (some ⟨g4, 0, none⟩) n5 c5) ∧ w'.cell? ⟨w1.heap.size, 2, none⟩ = some (.int .i64 (k : Int)) := fun w' hX hN => ⟨⟨hN.cells.1, hN.cells.2.1, hN.cells.2.2.1, hN.cells.2.2.2.1⟩, hX.cells⟩
    go_cut [] from 9 (fun w' => PostS w C ⟨q0, cc.set k 0, qa⟩ w')
    case first =>
      go_region_held3 (fun w' => (w'.cell? ⟨w3.heap.size, 0, none⟩ = some (.slice k0 i0 d0) ∧ w'.cell? ⟨w3.heap.size, 1, none⟩ = some (.slice k1 i1 d1) ∧ w'.cell? ⟨w3.heap.size, 2, none⟩ = some (.slice k2 i2 d2) ∧ w'.cell? ⟨w3.heap.size, 3, none⟩ = some (.slice k3 i3 d3)) ∧ w'.cell? ⟨w.heap.size, 0, none⟩ = some (.slice A0 n0 c0) ∧ w'.cell? ⟨w.heap.size, 1, none⟩ = some (.slice A1 n1 c1) ∧ w'.cell? ⟨w.heap.size, 2, none⟩ = some (.slice A2 n2 c2) ∧ w'.cell? ⟨w.heap.size, 3, none⟩ = some (.slice A3 n3 c3) ∧ w'.cell? ⟨w.heap.size + 1, 0, none⟩ = some (.int .i64 3) ∧ w'.cell? ⟨w.heap.size + 1, 1, none⟩ = some (.slice A4 n5 c4) ∧ w'.cell? ⟨w.heap.size + 1, 2, none⟩ = some (.int .i64 (k : Int)) ∧ w'.cell? ⟨w1.heap.size, 0, none⟩ = some (.int .i64 3) ∧ w'.cell? ⟨w1.heap.size, 1, none⟩ = some (.slice (some ⟨g4, 0, none⟩) n5 c5) ∧ w'.cell? ⟨w1.heap.size, 2, none⟩ = some (.int .i64 (k : Int)))
        (((try dsimp only); (refine SN _ ?_ ?_); (· repeat (with_reducible (first | exact E4 | exact EN | refine EnvS.drew ?_ | refine EnvS.set ?_ hd2 _ _ | refine EnvS.set ?_ hd3 _ _ | refine EnvS.alloc ?_ _))); (· repeat (with_reducible (first | exact N4 | exact NN | refine Blk4.drewS ?_ | refine Blk4.otherS ?_ hn2 _ _ | refine Blk4.otherS ?_ hn3 _ _)))))
        (first | (go_at_call 135; (refine Calls.mono (KN _) ?_); rintro e u2 ⟨rfl, hbn⟩; (have BN : Below w.heap.size w u2 := (by refine BS_th ?_ (Nat.le_refl _) hbn; repeat (with_reducible (first | exact B4 | refine BS_dr ?_ | refine BS_set ?_ hs2 _ _ | refine BS_set ?_ hs3 _ _ | refine BS_al ?_ (Nat.le_refl _) _)))); (have EN : EnvS u2 w.heap.size w1.heap.size (.slice A0 n0 c0) (.slice A1 n1 c1) (.slice A2 n2 c2) (.slice A3 n3 c3) (.int .i64 3) (.slice A4 n5 c4) (.int .i64 (k : Int)) (.int .i64 3) (.slice (some ⟨g4, 0, none⟩) n5 c5) (.int .i64 (k : Int)) := (by refine EnvS.below ?_ hbn; repeat (with_reducible (first | exact E4 | refine EnvS.drew ?_ | refine EnvS.set ?_ hd2 _ _ | refine EnvS.set ?_ hd3 _ _ | refine EnvS.alloc ?_ _)))); (have NN : Blk4 u2 w3.heap.size (.slice k0 i0 d0) (.slice k1 i1 d1) (.slice k2 i2 d2) (.slice k3 i3 d3) 27 := (by refine Blk4.below ?_ hbn; repeat (with_reducible (first | exact N4 | refine Blk4.drewS ?_ | refine Blk4.otherS ?_ hn2 _ _)))); (have UN : Blk3 u2 (w.heap.size + 1 + 1 + 1) (.int .i64 0) (.slice none 0 0) (.int .i64 0) 29 := (by refine Blk3.below ?_ hbn; repeat (with_reducible (first | exact U4 | refine Blk3.drewS ?_ | refine Blk3.otherS ?_ h23.symm _ _)))); (obtain ⟨n0_, n1_, n2_, n3_, n4_, n5_⟩ := UN.cells); (have CN : CGv u2 (w.heap.size + 4) (.agg #[.slice k0 i0 d0, .slice k1 i1 d1, .slice k2 i2 d2, .slice k3 i3 d3]) (.agg #[.int .i64 q0, .slice (some ⟨g4, 0, none⟩) n5 c5, .int .i64 qa]) C ⟨q0, cc.set k 0, qa⟩ := (by refine CGv.reG (p := 3) (a := (k : Int)) (CGv.below ?_ hbn); repeat (with_reducible (first | exact CG4 | refine CGv.drew ?_ | refine CGv.setS ?_ hl2 _ _)))); (try (refine (fun (ZN : Blk4 u2 (w.heap.size + 1 + 1) (.slice none 0 0) (.slice none 0 0) (.slice none 0 0) (.slice none 0 0) 27) => ?_) ?_; rotate_left; (· (refine Blk4.below ?_ hbn; repeat (with_reducible (first | exact Z4 | refine Blk4.drewS ?_))); done); (obtain ⟨m0_, m1_, m2_, m3_, m4_, m5_, m6_, m7_⟩ := ZN.cells)))))
      all_goals
        (try rename_i hHeld); (try clear hHeld)
        go_wp2_with fail
        go_meet
        case rel =>
          refine PostS.of (k0 := .slice k0 i0 d0) (k1 := .slice k1 i1 d1) (k2 := .slice k2 i2 d2) (k3 := .slice k3 i3 d3) (r := .slice (some ⟨g4, 0, none⟩) n5 c5) ?hz ?hu ?hc ?hb
          case hz => repeat (with_reducible (first | exact ZN | exact Z4 | refine Blk4.drewS ?_ | refine Blk4.otherS ?_ h23 _ _ | refine Blk4.set3 (u := .slice none 0 0) ?_ _ | refine Blk4.set2 (z := .slice none 0 0) ?_ _ | refine Blk4.set1 (y := .slice none 0 0) ?_ _ | refine Blk4.set0 (x := .slice none 0 0) ?_ _ | refine Blk4.below ?_ hbn))
          case hu => repeat (with_reducible (first | exact UN | refine Blk3.drewS ?_ | refine Blk3.otherS ?_ h23.symm _ _ | refine Blk3.set2 (z := .int .i64 0) ?_ _ | refine Blk3.set1 (y := .slice none 0 0) ?_ _ | refine Blk3.set0 (x := .int .i64 0) ?_ _))
          case hc => repeat (with_reducible (first | exact CN | refine CGv.drew ?_ | refine CGv.setS ?_ hl2 _ _ | refine CGv.setS ?_ hl3 _ _))
          case hb => repeat (with_reducible (first | exact BN | refine BS_dr ?_ | refine BS_set ?_ hs2 _ _ | refine BS_set ?_ hs3 _ _ | refine BS_al ?_ (Nat.le_refl _) _))
    case rest =>
      obtain ⟨k0, k1, k2, k3, r, hZ, hU, hC, hB⟩ := hcut
      obtain ⟨z0, z1, z2, z3, _⟩ := hZ.cells
      obtain ⟨u0, u1, u2, _⟩ := hU.cells
      clear x0 x1 x2 x3 y0 y1 y2 o0 o1 o2 v0_ v1_ v2_ v3_ v4_ v5_ v6_ v7_ z0_ z1_ z2_ z3_ z4_ z5_ z6_ z7_
      go_wp2_with fail
      rw [hR.out]
      refine bodyPost_ret (v := .tuple #[.agg #[k0, k1, k2, k3], .agg #[.int .i64 _, r, .int .i64 _]]) ?_ rfl ⟨_, _, rfl, hC.mono (by omega), hB⟩
      simp [results, Tryz.results97, go_sem, z0, z1, z2, z3, u0, u1, u2]
  · have hR : Hid (stepG C ⟨3, cc, (k : Int)⟩ = (clearC C [(k : Int)], ⟨q0, cc.set k 0, qa⟩)) := by unfold Hid; rw [hR0.out]; unfold clrS; rw [if_neg (by omega)]
    have hsn : ((k : Int) != -1) = true := by simp only [bne, Bool.not_eq_true', beq_eq_false_iff_ne]; omega
    have LT : Row ((w3.alloc (.cells #[.slice k0 i0 d0, .slice k1 i1 d1, .slice k2 i2 d2, .slice k3 i3 d3] 27)).alloc (.cells #[.int .i64 (k : Int)] 3)) (w3.alloc (.cells #[.slice k0 i0 d0, .slice k1 i1 d1, .slice k2 i2 d2, .slice k3 i3 d3] 27)).heap.size (.slice (some ⟨w3.heap.size + 1, 0, none⟩) 1 1) [(k : Int)] := by rw [show w3.heap.size + 1 = (w3.alloc (.cells #[.slice k0 i0 d0, .slice k1 i1 d1, .slice k2 i2 d2, .slice k3 i3 d3] 27)).heap.size from by simp]; exact Row.lit_lo rfl _ (Nat.le_refl _) [(k : Int)] (by simp)
    have K2 := KL _ (BS_al B0 (Nat.le_refl _) (.cells #[.int .i64 (k : Int)] 3)) _ _ _ _ LT (Lib.hid rfl) (by omega)
    obtain ⟨x0, x1, x2, x3, y0, y1, y2, o0, o1, o2⟩ := E0.cells
    clear hR0 KL CG0
    go_wp2_with fail
    refine K2.mono ?_; rintro e w5 ⟨vv, rfl, hD, hb5⟩
    obtain ⟨m0, j0, f0, m1, j1, f1, m2, j2, f2, m3, j3, f3, rfl⟩ := hD.letters
    have CG5 : CGv w5 (w.heap.size + 4) (.agg #[.slice m0 j0 f0, .slice m1 j1 f1, .slice m2 j2 f2, .slice m3 j3 f3]) (.agg #[.int .i64 3, .slice (some ⟨g4, 0, none⟩) n5 c5, .int .i64 (k : Int)]) (clearC C [(k : Int)]) ⟨3, cc, (k : Int)⟩ := CGv.mk' (lo := w.heap.size + 4) (G := ⟨3, cc, (k : Int)⟩) (⟨_, rfl, R0.alloc (.cells #[.int .i64 (k : Int)] 3)⟩ : Gv ((w3.alloc (.cells #[.slice k0 i0 d0, .slice k1 i1 d1, .slice k2 i2 d2, .slice k3 i3 d3] 27)).alloc (.cells #[.int .i64 (k : Int)] 3)) (w.heap.size + 4) (.agg #[.int .i64 3, .slice (some ⟨g4, 0, none⟩) n5 c5, .int .i64 (k : Int)]) ⟨3, cc, (k : Int)⟩) hD (E0.alloc (.cells #[.int .i64 (k : Int)] 3)).1 hb5
    have E5 := (E0.alloc (.cells #[.int .i64 (k : Int)] 3)).below hb5
    have R5 := (R0.alloc (.cells #[.int .i64 (k : Int)] 3)).below hb5
    have Z5 := (Z0.alloc (.cells #[.int .i64 (k : Int)] 3)).below hb5
    have U5 := (U0.alloc (.cells #[.int .i64 (k : Int)] 3)).below hb5
    have N5 := (N0.alloc (.cells #[.int .i64 (k : Int)] 3)).below hb5
    have B5 := BS_th (BS_al B0 (Nat.le_refl _) (.cells #[.int .i64 (k : Int)] 3)) (Nat.le_refl _) hb5
    have hgn : (.slice (some ⟨g4, 0, none⟩) n5 c5 : Value).ownBlock ≠ some w3.heap.size := fun e => by have := Option.some.inj e; simp only at this; omega
    have lw5 : w3.heap.size < ((w3.alloc (.cells #[.slice k0 i0 d0, .slice k1 i1 d1, .slice k2 i2 d2, .slice k3 i3 d3] 27)).alloc (.cells #[.int .i64 (k : Int)] 3)).heap.size := by simp; omega
    have hF := farG_of hD lw5 hgn
    have hdn : w.heap.size ≠ w3.heap.size ∧ w.heap.size + 1 ≠ w3.heap.size ∧ w1.heap.size ≠ w3.heap.size := by omega
    have hsn3 : w.heap.size ≤ w3.heap.size := by omega
    have h2n : w.heap.size + 1 + 1 ≠ w3.heap.size := by omega
    have h3n : w.heap.size + 1 + 1 + 1 ≠ w3.heap.size := by omega
    clear x0 x1 x2 x3 y0 y1 y2 o0 o1 o2 E0 R0 N0 B0 Z0 U0 K2 LT
    have CG0 := (((CG5.setFar (p := ⟨w3.heap.size, 0, none⟩) hF (.slice m0 j0 f0)).setFar (p := ⟨w3.heap.size, 1, none⟩) hF (.slice m1 j1 f1)).setFar (p := ⟨w3.heap.size, 2, none⟩) hF (.slice m2 j2 f2)).setFar (p := ⟨w3.heap.size, 3, none⟩) hF (.slice m3 j3 f3)
    have E0 := (((E5.set hdn 0 (.slice m0 j0 f0)).set hdn 1 (.slice m1 j1 f1)).set hdn 2 (.slice m2 j2 f2)).set hdn 3 (.slice m3 j3 f3)
    have R0 := (((R5.setE hgn 0 (.slice m0 j0 f0)).setE hgn 1 (.slice m1 j1 f1)).setE hgn 2 (.slice m2 j2 f2)).setE hgn 3 (.slice m3 j3 f3)
    have N0 := (((N5.set0 (.slice m0 j0 f0)).set1 (.slice m1 j1 f1)).set2 (.slice m2 j2 f2)).set3 (.slice m3 j3 f3)
    have Z0 := (((Z5.otherS h2n 0 (.slice m0 j0 f0)).otherS h2n 1 (.slice m1 j1 f1)).otherS h2n 2 (.slice m2 j2 f2)).otherS h2n 3 (.slice m3 j3 f3)
    have U0 := (((U5.otherS h3n 0 (.slice m0 j0 f0)).otherS h3n 1 (.slice m1 j1 f1)).otherS h3n 2 (.slice m2 j2 f2)).otherS h3n 3 (.slice m3 j3 f3)
    have B0 := BS_set (BS_set (BS_set (BS_set B5 hsn3 0 (.slice m0 j0 f0)) hsn3 1 (.slice m1 j1 f1)) hsn3 2 (.slice m2 j2 f2)) hsn3 3 (.slice m3 j3 f3)
    obtain ⟨t0_, t1_, t2_, t3_, t4_, t5_, t6_, t7_⟩ := N5.cells
    clear CG5 E5 R5 N5 Z5 U5 B5 hD hb5 hF
    obtain ⟨_, _, e9, _, _, _, hcg, hfg⟩ := R0.get (k := k) hkl
    cases e9
    have hO : (((((w5.setCell ⟨w3.heap.size, 0, none⟩ (.slice m0 j0 f0)).setCell ⟨w3.heap.size, 1, none⟩ (.slice m1 j1 f1)).setCell ⟨w3.heap.size, 2, none⟩ (.slice m2 j2 f2)).setCell ⟨w3.heap.size, 3, none⟩ (.slice m3 j3 f3))).grownBy ((((((w5.setCell ⟨w3.heap.size, 0, none⟩ (.slice m0 j0 f0)).setCell ⟨w3.heap.size, 1, none⟩ (.slice m1 j1 f1)).setCell ⟨w3.heap.size, 2, none⟩ (.slice m2 j2 f2)).setCell ⟨w3.heap.size, 3, none⟩ (.slice m3 j3 f3))).setCell ⟨g4, k, none⟩ (.int .i64 0)) (some g4) := grown_set ⟨rfl, rfl, rfl, Nat.le_refl _, fun _ _ _ => rfl⟩ (.inl rfl) _
    have E4 := E0.kept hO hdg
    have R4 := R0.set_ k 0
    have N4 := N0.kept hO hng
    have B4 := B0.trans (below_own hO hgw B0.size)
    have Z4 := Z0.kept hO h2g
    have U4 := U0.kept hO h3g
    have CG4 := CG0.recolor hO R4
    obtain ⟨x0, x1, x2, x3, y0, y1, y2, o0, o1, o2⟩ := E0.cells
    clear R0 N0 B0 Z0 U0 CG0 hO
    go_wp2_with fail
    clear x0 x1 x2 x3 y0 y1 y2 o0 o1 o2 hcg hfg E0 t0_ t1_ t2_ t3_ t4_ t5_ t6_ t7_
    obtain ⟨x0, x1, x2, x3, y0, y1, y2, o0, o1, o2⟩ := E4.cells
    obtain ⟨v0_, v1_, v2_, v3_, v4_, v5_, v6_, v7_⟩ := N4.cells
    obtain ⟨z0_, z1_, z2_, z3_, z4_, z5_, z6_, z7_⟩ := Z4.cells
    have SN : ∀ w' : World, EnvS w' w.heap.size w1.heap.size (.slice A0 n0 c0) (.slice A1 n1 c1) (.slice A2 n2 c2) (.slice A3 n3 c3) (.int .i64 3) (.slice A4 n5 c4) (.int .i64 (k : Int)) (.int .i64 3) (.slice (some ⟨g4, 0, none⟩) n5 c5) (.int .i64 (k : Int)) → Blk4 w' w3.heap.size (.slice m0 j0 f0) (.slice m1 j1 f1) (.slice m2 j2 f2) (.slice m3 j3 f3) 27 → (w'.cell? ⟨w3.heap.size, 0, none⟩ = some (.slice m0 j0 f0) ∧ w'.cell? ⟨w3.heap.size, 1, none⟩ = some (.slice m1 j1 f1) ∧ w'.cell? ⟨w3.heap.size, 2, none⟩ = some (.slice m2 j2 f2) ∧ w'.cell? ⟨w3.heap.size, 3, none⟩ = some (.slice m3 j3 f3)) ∧ w'.cell? ⟨w.heap.size, 0, none⟩ = some (.slice A0 n0 c0) ∧ w'.cell? ⟨w.heap.size, 1, none⟩ = some (.slice A1 n1 c1) ∧ w'.cell? ⟨w.heap.size, 2, none⟩ = some (.slice A2 n2 c2) ∧ w'.cell? ⟨w.heap.size, 3, none⟩ = some (.slice A3 n3 c3) ∧ w'.cell? ⟨w.heap.size + 1, 0, none⟩ = some (.int .i64 3) ∧ w'.cell? ⟨w.heap.size + 1, 1, none⟩ = some (.slice A4 n5 c4) ∧ w'.cell? ⟨w.heap.size + 1, 2, none⟩ = some (.int .i64 (k : Int)) ∧ w'.cell? ⟨w1.heap.size, 0, none⟩ = some (.int .i64 3) ∧ w'.cell? ⟨w1.heap.size, 1, none⟩ = some (.slice (some ⟨g4, 0, none⟩) n5 c5) ∧ w'.cell? ⟨w1.heap.size, 2, none⟩ = some (.int .i64 (k : Int)) := fun w' hX hN => ⟨⟨hN.cells.1, hN.cells.2.1, hN.cells.2.2.1, hN.cells.2.2.2.1⟩, hX.cells⟩
    go_cut [] from 9 (fun w' => PostS w (clearC C [(k : Int)]) ⟨q0, cc.set k 0, qa⟩ w')
    case first =>
      go_region_held3 (fun w' => (w'.cell? ⟨w3.heap.size, 0, none⟩ = some (.slice m0 j0 f0) ∧ w'.cell? ⟨w3.heap.size, 1, none⟩ = some (.slice m1 j1 f1) ∧ w'.cell? ⟨w3.heap.size, 2, none⟩ = some (.slice m2 j2 f2) ∧ w'.cell? ⟨w3.heap.size, 3, none⟩ = some (.slice m3 j3 f3)) ∧ w'.cell? ⟨w.heap.size, 0, none⟩ = some (.slice A0 n0 c0) ∧ w'.cell? ⟨w.heap.size, 1, none⟩ = some (.slice A1 n1 c1) ∧ w'.cell? ⟨w.heap.size, 2, none⟩ = some (.slice A2 n2 c2) ∧ w'.cell? ⟨w.heap.size, 3, none⟩ = some (.slice A3 n3 c3) ∧ w'.cell? ⟨w.heap.size + 1, 0, none⟩ = some (.int .i64 3) ∧ w'.cell? ⟨w.heap.size + 1, 1, none⟩ = some (.slice A4 n5 c4) ∧ w'.cell? ⟨w.heap.size + 1, 2, none⟩ = some (.int .i64 (k : Int)) ∧ w'.cell? ⟨w1.heap.size, 0, none⟩ = some (.int .i64 3) ∧ w'.cell? ⟨w1.heap.size, 1, none⟩ = some (.slice (some ⟨g4, 0, none⟩) n5 c5) ∧ w'.cell? ⟨w1.heap.size, 2, none⟩ = some (.int .i64 (k : Int)))
        (((try dsimp only); (refine SN _ ?_ ?_); (· repeat (with_reducible (first | exact E4 | exact EN | refine EnvS.drew ?_ | refine EnvS.set ?_ hd2 _ _ | refine EnvS.set ?_ hd3 _ _ | refine EnvS.alloc ?_ _))); (· repeat (with_reducible (first | exact N4 | exact NN | refine Blk4.drewS ?_ | refine Blk4.otherS ?_ hn2 _ _ | refine Blk4.otherS ?_ hn3 _ _)))))
        (first | (go_at_call 135; (refine Calls.mono (KN _) ?_); rintro e u2 ⟨rfl, hbn⟩; (have BN : Below w.heap.size w u2 := (by refine BS_th ?_ (Nat.le_refl _) hbn; repeat (with_reducible (first | exact B4 | refine BS_dr ?_ | refine BS_set ?_ hs2 _ _ | refine BS_set ?_ hs3 _ _ | refine BS_al ?_ (Nat.le_refl _) _)))); (have EN : EnvS u2 w.heap.size w1.heap.size (.slice A0 n0 c0) (.slice A1 n1 c1) (.slice A2 n2 c2) (.slice A3 n3 c3) (.int .i64 3) (.slice A4 n5 c4) (.int .i64 (k : Int)) (.int .i64 3) (.slice (some ⟨g4, 0, none⟩) n5 c5) (.int .i64 (k : Int)) := (by refine EnvS.below ?_ hbn; repeat (with_reducible (first | exact E4 | refine EnvS.drew ?_ | refine EnvS.set ?_ hd2 _ _ | refine EnvS.set ?_ hd3 _ _ | refine EnvS.alloc ?_ _)))); (have NN : Blk4 u2 w3.heap.size (.slice m0 j0 f0) (.slice m1 j1 f1) (.slice m2 j2 f2) (.slice m3 j3 f3) 27 := (by refine Blk4.below ?_ hbn; repeat (with_reducible (first | exact N4 | refine Blk4.drewS ?_ | refine Blk4.otherS ?_ hn2 _ _)))); (have UN : Blk3 u2 (w.heap.size + 1 + 1 + 1) (.int .i64 0) (.slice none 0 0) (.int .i64 0) 29 := (by refine Blk3.below ?_ hbn; repeat (with_reducible (first | exact U4 | refine Blk3.drewS ?_ | refine Blk3.otherS ?_ h23.symm _ _)))); (obtain ⟨n0_, n1_, n2_, n3_, n4_, n5_⟩ := UN.cells); (have CN : CGv u2 (w.heap.size + 4) (.agg #[.slice m0 j0 f0, .slice m1 j1 f1, .slice m2 j2 f2, .slice m3 j3 f3]) (.agg #[.int .i64 q0, .slice (some ⟨g4, 0, none⟩) n5 c5, .int .i64 qa]) (clearC C [(k : Int)]) ⟨q0, cc.set k 0, qa⟩ := (by refine CGv.reG (p := 3) (a := (k : Int)) (CGv.below ?_ hbn); repeat (with_reducible (first | exact CG4 | refine CGv.drew ?_ | refine CGv.setS ?_ hl2 _ _)))); (try (refine (fun (ZN : Blk4 u2 (w.heap.size + 1 + 1) (.slice none 0 0) (.slice none 0 0) (.slice none 0 0) (.slice none 0 0) 27) => ?_) ?_; rotate_left; (· (refine Blk4.below ?_ hbn; repeat (with_reducible (first | exact Z4 | refine Blk4.drewS ?_))); done); (obtain ⟨m0_, m1_, m2_, m3_, m4_, m5_, m6_, m7_⟩ := ZN.cells)))))
      all_goals
        (try rename_i hHeld); (try clear hHeld)
        go_wp2_with fail
        go_meet
        case rel =>
          refine PostS.of (k0 := .slice m0 j0 f0) (k1 := .slice m1 j1 f1) (k2 := .slice m2 j2 f2) (k3 := .slice m3 j3 f3) (r := .slice (some ⟨g4, 0, none⟩) n5 c5) ?hz ?hu ?hc ?hb
          case hz => repeat (with_reducible (first | exact ZN | exact Z4 | refine Blk4.drewS ?_ | refine Blk4.otherS ?_ h23 _ _ | refine Blk4.set3 (u := .slice none 0 0) ?_ _ | refine Blk4.set2 (z := .slice none 0 0) ?_ _ | refine Blk4.set1 (y := .slice none 0 0) ?_ _ | refine Blk4.set0 (x := .slice none 0 0) ?_ _ | refine Blk4.below ?_ hbn))
          case hu => repeat (with_reducible (first | exact UN | refine Blk3.drewS ?_ | refine Blk3.otherS ?_ h23.symm _ _ | refine Blk3.set2 (z := .int .i64 0) ?_ _ | refine Blk3.set1 (y := .slice none 0 0) ?_ _ | refine Blk3.set0 (x := .int .i64 0) ?_ _))
          case hc => repeat (with_reducible (first | exact CN | refine CGv.drew ?_ | refine CGv.setS ?_ hl2 _ _ | refine CGv.setS ?_ hl3 _ _))
          case hb => repeat (with_reducible (first | exact BN | refine BS_dr ?_ | refine BS_set ?_ hs2 _ _ | refine BS_set ?_ hs3 _ _ | refine BS_al ?_ (Nat.le_refl _) _))
    case rest =>
      obtain ⟨k0, k1, k2, k3, r, hZ, hU, hC, hB⟩ := hcut
      obtain ⟨z0, z1, z2, z3, _⟩ := hZ.cells
      obtain ⟨u0, u1, u2, _⟩ := hU.cells
      clear x0 x1 x2 x3 y0 y1 y2 o0 o1 o2 v0_ v1_ v2_ v3_ v4_ v5_ v6_ v7_ z0_ z1_ z2_ z3_ z4_ z5_ z6_ z7_
      go_wp2_with fail
      rw [hR.out]
      refine bodyPost_ret (v := .tuple #[.agg #[k0, k1, k2, k3], .agg #[.int .i64 _, r, .int .i64 _]]) ?_ rfl ⟨_, _, rfl, hC.mono (by omega), hB⟩
      simp [results, Tryz.results97, go_sem, z0, z1, z2, z3, u0, u1, u2]

theorem l6Step_any (w : World) (lo : Nat) (vs vg : Value) (C : Cp) (G : Gp) (h : CGv w lo vs vg C G) (hg : gcB C G = true) :
    Calls Tryz.prog 97 #[vs, vg] w (NewCG w (stepG C G).1 (stepG C G).2) := by
  have hph := phB_iff.1 (gcB_iff.1 hg).2.2
  rcases hph with ⟨h1 | h1, _⟩ | ⟨h1, _⟩ | ⟨h1, _⟩
  · exact l6Step0_any w lo vs vg C G h hg h1
  · exact l6Step2_any w lo vs vg C G h hg h1
  · exact l6Step1_any w lo vs vg C G h hg h1
  · exact l6Step3_any w lo vs vg C G h hg h1
end Go.Proofs.YtfoimicbmkiigaaGreat
