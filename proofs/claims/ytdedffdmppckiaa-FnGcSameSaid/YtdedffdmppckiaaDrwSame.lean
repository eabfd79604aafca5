/- spec.DrawGcSame. -/
import Derived.Test.YtdedffdmppckiaaCsG
namespace Go.Proofs.Ytdedffdmppckiaa
open Go.RowKit

/-- The state of a drawn case: the two variables, the reader, the two results. -/
structure KS2 (w wr : World) (B rb bs : Nat) (A : Option Addr) (nb c p : Nat) (v0 v1 v2 v3 r : Value) (C : Cp) (G : Gp) : Prop where
  res : Blk3 wr w.heap.size (.int .i64 0) (.slice none 0 0) (.int .i64 0) 29
  reg : Blk3 wr (w.heap.size + 1) (.int .i64 0) (.slice none 0 0) (.int .i64 0) 29
  blk : Blk4 wr bs v0 v1 v2 v3 27
  gbk : Blk3 wr (bs + 1) (.int .i64 G.p) r (.int .i64 G.a) 29
  cg : CGv wr (rb + 1) (.agg #[v0, v1, v2, v3]) (.agg #[.int .i64 G.p, r, .int .i64 G.a]) C G
  rd : Rd wr B rb A nb c p
  bw : Below w.heap.size w wr
  rsb : w.heap.size + 1 < rb
  rbs : rb < bs
section
variable {w wr : World} {B rb bs : Nat} {A : Option Addr} {nb c p : Nat} {v0 v1 v2 v3 r : Value} {C : Cp} {G : Gp}
theorem KS2.pick (h : KS2 w wr B rb bs A nb c p v0 v1 v2 v3 r C G) {w1 : World} {p' : Nat} (hR : Rd w1 B rb A nb c p') (hO : wr.grownBy w1 (some rb)) : KS2 w w1 B rb bs A nb c p' v0 v1 v2 v3 r C G := by
  have h1 := h.rsb
  have h2 := h.rbs
  have h3 := h.bw.size
  exact ⟨h.res.kept hO (by omega), h.reg.kept hO (by omega), h.blk.kept hO (by omega), h.gbk.kept hO (by omega), h.cg.kept_low hO (by omega), hR, h.bw.trans (below_row hO (by omega) h3), h1, h2⟩
theorem KS2.alloc (h : KS2 w wr B rb bs A nb c p v0 v1 v2 v3 r C G) (o : Obj) : KS2 w (wr.alloc o) B rb bs A nb c p v0 v1 v2 v3 r C G :=
  ⟨h.res.alloc o, h.reg.alloc o, h.blk.alloc o, h.gbk.alloc o, h.cg.alloc o, h.rd.alloc o, h.bw.alloc h.bw.size o, h.rsb, h.rbs⟩
theorem KS2.drew (h : KS2 w wr B rb bs A nb c p v0 v1 v2 v3 r C G) : KS2 w wr.drew B rb bs A nb c p v0 v1 v2 v3 r C G := ⟨h.res, h.reg, h.blk, h.gbk, h.cg, h.rd, h.bw.drew, h.rsb, h.rbs⟩
theorem KS2.sz (h : KS2 w wr B rb bs A nb c p v0 v1 v2 v3 r C G) : rb < wr.heap.size := h.rd.lt
end

def DrawnGG (w : World) (e : Ending) (w' : World) : Prop := ∃ va vb G G', e = .returned (.tuple #[va, vb]) ∧ Gv w' w.heap.size va G ∧ Gv w' w.heap.size vb G' ∧ Below w.heap.size w w'
def PostGG (w : World) (w' : World) : Prop := ∃ r s G G', Blk3 w' w.heap.size (.int .i64 G.p) r (.int .i64 G.a) 29 ∧ Blk3 w' (w.heap.size + 1) (.int .i64 G'.p) s (.int .i64 G'.a) 29 ∧ Gv w' w.heap.size (.agg #[.int .i64 G.p, r, .int .i64 G.a]) G ∧ Gv w' w.heap.size (.agg #[.int .i64 G'.p, s, .int .i64 G'.a]) G' ∧ Below w.heap.size w w'
theorem Gv.setS {w : World} {lo b : Nat} {v : Value} {G : Gp} (h : Gv w lo v G) (hb : b < lo) (o : Nat) (u : Value) : Gv (w.setCell ⟨b, o, none⟩ u) lo v G := by
  obtain ⟨r, rfl, hr⟩ := h
  exact ⟨r, rfl, hr.setS hb o u⟩
theorem PostGG.of {w wr : World} {lo : Nat} {r s : Value} {x y x' y' : Int} {cc cc' : List Int} (h1 : Blk3 wr w.heap.size (.int .i64 0) (.slice none 0 0) (.int .i64 0) 29) (h2 : Blk3 wr (w.heap.size + 1) (.int .i64 0) (.slice none 0 0) (.int .i64 0) 29) (hg : Gv wr lo (.agg #[.int .i64 x, r, .int .i64 y]) ⟨x, cc, y⟩) (hg' : Gv wr lo (.agg #[.int .i64 x', s, .int .i64 y']) ⟨x', cc', y'⟩) (hl : w.heap.size + 1 < lo) (hB : Below w.heap.size w wr) :
    PostGG w ((((((wr.setCell ⟨w.heap.size, 0, none⟩ (.int .i64 x)).setCell ⟨w.heap.size, 1, none⟩ r).setCell ⟨w.heap.size, 2, none⟩ (.int .i64 y)).setCell ⟨w.heap.size + 1, 0, none⟩ (.int .i64 x')).setCell ⟨w.heap.size + 1, 1, none⟩ s).setCell ⟨w.heap.size + 1, 2, none⟩ (.int .i64 y')) := by
  have n1 : w.heap.size ≠ w.heap.size + 1 := by omega
  have l1 : w.heap.size < lo := by omega
  refine ⟨r, s, ⟨x, cc, y⟩, ⟨x', cc', y'⟩, ?_, ?_, ?_, ?_, ?_⟩
  · exact ((((Blk3.set3G h1 _ _ _).otherS n1 0 _).otherS n1 1 _).otherS n1 2 _)
  · exact Blk3.set3G (((h2.otherS n1.symm 0 _).otherS n1.symm 1 _).otherS n1.symm 2 _) _ _ _
  · exact ((((((hg.setS l1 0 _).setS l1 1 _).setS l1 2 _).setS hl 0 _).setS hl 1 _).setS hl 2 _).mono (by omega)
  · exact ((((((hg'.setS l1 0 _).setS l1 1 _).setS l1 2 _).setS hl 0 _).setS hl 1 _).setS hl 2 _).mono (by omega)
  · exact (((((hB.setCell (p := ⟨w.heap.size, 0, none⟩) (Nat.le_refl _) _).setCell (p := ⟨w.heap.size, 1, none⟩) (Nat.le_refl _) _).setCell (p := ⟨w.heap.size, 2, none⟩) (Nat.le_refl _) _).setCell (p := ⟨w.heap.size + 1, 0, none⟩) (Nat.le_succ _) _).setCell (p := ⟨w.heap.size + 1, 1, none⟩) (Nat.le_succ _) _).setCell (p := ⟨w.heap.size + 1, 2, none⟩) (Nat.le_succ _) _

set_option maxRecDepth 100000 in
set_option maxHeartbeats 6000000 in
theorem drawGcSame_any (w : World) (A : Option Addr) (n c : Nat) (h : Inp w A n c) : Calls Try.prog 41 #[.slice A n c] w (DrawnGG w) := by
  have h0 := inp_alloc (inp_alloc h (.cells #[.int .i64 0, .slice none 0 0, .int .i64 0] 29)) (.cells #[.int .i64 0, .slice none 0 0, .int .i64 0] 29)
  have Y0 := (Blk3.new w (.int .i64 0) (.slice none 0 0) (.int .i64 0) 29).alloc (.cells #[.int .i64 0, .slice none 0 0, .int .i64 0] 29)
  have U0 := Blk3.new_at (w := w.alloc (.cells #[.int .i64 0, .slice none 0 0, .int .i64 0] 29)) (b := w.heap.size + 1) (by simp) (.int .i64 0) (.slice none 0 0) (.int .i64 0) 29
  have B0 : Below w.heap.size w ((w.alloc (.cells #[.int .i64 0, .slice none 0 0, .int .i64 0] 29)).alloc (.cells #[.int .i64 0, .slice none 0 0, .int .i64 0] 29)) := BS_al (BS_al (Below.refl _ _) (Nat.le_refl _) _) (Nat.le_refl _) _
  have s0 : ((w.alloc (.cells #[.int .i64 0, .slice none 0 0, .int .i64 0] 29)).alloc (.cells #[.int .i64 0, .slice none 0 0, .int .i64 0] 29)).heap.size = w.heap.size + 2 := by simp
  go_enter Try.func41, Try.ntmps41
  go_wp2_with fail
  generalize (w.alloc (.cells #[.int .i64 0, .slice none 0 0, .int .i64 0] 29)).alloc (.cells #[.int .i64 0, .slice none 0 0, .int .i64 0] 29) = W at h0 Y0 U0 B0 s0 ⊢
  have sW1 : w.heap.size + 2 ≤ W.heap.size := by omega
  clear s0
  refine (l13Open_any _ _ _ _ h0).mono ?_; rintro e w1 ⟨rb, A9, n9, c9, rfl, hR1, hb1⟩
  have hB := hR1.2.2.1
  have z1 := hb1.size
  have hl1 := hR1.lt
  go_wp2_with fail
  refine (l6Draw_any _ _ _ _ _ _ _ hR1 (by omega)).mono ?_; rintro e w2 ⟨vs, vg, C, G, p1, rfl, CG, hI, hR2, hp2, hg2⟩
  have z2 := hg2.size
  obtain ⟨A0, n0, c0, A1, n1, c1, A2, n2, c2, A3, n3, c3, A4, n4, c4, P, cc, a, rfl, rfl, rfl, _⟩ := CG.open_
  obtain ⟨zc, ⟨z8, z9⟩, _, _, _⟩ := gcB_sizes hI.1
  have hC : stoB C = true := (gcB_iff.1 hI.1).1
  dsimp only at zc CG
  have st : KS2 w ((w2.alloc (.cells #[.slice A0 n0 c0, .slice A1 n1 c1, .slice A2 n2 c2, .slice A3 n3 c3] 27)).alloc (.cells #[.int .i64 P, .slice A4 n4 c4, .int .i64 a] 29)) W.heap.size rb w2.heap.size A9 n9 c9 p1 (.slice A0 n0 c0) (.slice A1 n1 c1) (.slice A2 n2 c2) (.slice A3 n3 c3) (.slice A4 n4 c4) C ⟨P, cc, a⟩ := {
    res := ((((Y0.below hb1).kept hg2 (by omega)).alloc _).alloc _)
    reg := ((((U0.below hb1).kept hg2 (by omega)).alloc _).alloc _)
    blk := (Blk4.new w2 _ _ _ _ _).alloc _
    gbk := Blk3.new_at (w := w2.alloc (.cells #[.slice A0 n0 c0, .slice A1 n1 c1, .slice A2 n2 c2, .slice A3 n3 c3] 27)) (by simp) _ _ _ _
    cg := ((CG.mono (by omega)).alloc _).alloc _
    rd := (hR2.alloc _).alloc _
    bw := BS_al (BS_al ((B0.trans (hb1.mono (by omega))).trans (below_row hg2 (by omega) (by omega))) (Nat.le_refl _) _) (Nat.le_refl _) _
    rsb := by omega
    rbs := by omega }
  have hp9 : p1 ≤ 1000 := by omega
  have m1 : 1 ≤ cc.length := by omega
  have m8 : cc.length ≤ 8 := by omega
  have hzc := Lib.hid zc
  clear CG hI hR1 hR2 hg2 hb1 B0 Y0 U0 h0 h zc
  go_wp2_with fail
  generalize hW2 : (w2.alloc (.cells #[.slice A0 n0 c0, .slice A1 n1 c1, .slice A2 n2 c2, .slice A3 n3 c3] 27)).alloc (.cells #[.int .i64 P, .slice A4 n4 c4, .int .i64 a] 29) = W2 at st
  have lsz := st.sz
  generalize w2.heap.size = bs at st ⊢
  have X1 := st.blk
  have Y1 : Blk3 W2 (bs + 1) (.int .i64 P) (.slice A4 n4 c4) (.int .i64 a) 29 := st.gbk
  try rw [hW2]
  obtain ⟨r0, r1, r2, r3, r4, r5⟩ := st.res.cells
  obtain ⟨s0, s1, s2, s3, s4, s5⟩ := st.reg.cells
  have nn1 := st.rsb
  have nn2 := st.rbs
  have d1 : bs ≠ w.heap.size := by omega
  have d2 : bs ≠ w.heap.size + 1 := by omega
  have d3 : bs + 1 ≠ w.heap.size := by omega
  have d4 : bs + 1 ≠ w.heap.size + 1 := by omega
  have d5 : bs ≠ rb := by omega
  have d6 : bs + 1 ≠ rb := by omega
  have e1 : w.heap.size ≠ rb := by omega
  have e2 : w.heap.size + 1 ≠ rb := by omega
  have SO : ∀ w' : World, Blk3 w' (bs + 1) (.int .i64 P) (.slice A4 n4 c4) (.int .i64 a) 29 → w'.cell? ⟨bs + 1, 0, none⟩ = some (.int .i64 P) ∧ w'.cell? ⟨bs + 1, 1, none⟩ = some (.slice A4 n4 c4) ∧ w'.cell? ⟨bs + 1, 2, none⟩ = some (.int .i64 a) := fun w' hY => ⟨hY.cells.1, hY.cells.2.1, hY.cells.2.2.1⟩
  go_cut [] from 5 (fun w' => PostGG w w')
  case first =>
    have stA := st.drew
    go_region_held3 (fun w' => w'.cell? ⟨bs + 1, 0, none⟩ = some (.int .i64 P) ∧ w'.cell? ⟨bs + 1, 1, none⟩ = some (.slice A4 n4 c4) ∧ w'.cell? ⟨bs + 1, 2, none⟩ = some (.int .i64 a))
      (((try dsimp only); (refine SO _ ?_); (· repeat (with_reducible (first | exact Y7 | exact Y5 | exact Y3 | exact Y1 | refine Blk3.drewS ?_ | refine Blk3.alloc ?_ _ | refine Blk3.otherS ?_ d3 _ _ | refine Blk3.otherS ?_ d4 _ _)))))
      (first
        | (go_at_call 75; (with_reducible refine (l6Wrong_any _ W.heap.size rb A9 n9 c9 p5 st5.rd hp59 _ _ ⟨P5, k5, a5⟩ hG5 m15 m85).mono ?_); rintro e w7 ⟨vg7, ⟨P7, k7, a7⟩, p7, rfl, hG7, hm7, hR7, hp7, hg7⟩; (dsimp only at hG7 hm7); have st7 := st5.pick hR7 hg7; obtain ⟨D7, i7, f7, rfl, _⟩ := Gv.open_ hG7; have Y7 : Blk3 w7 (bs + 1) (.int .i64 P) (.slice A4 n4 c4) (.int .i64 a) 29 := st7.gbk; have m17 : 1 ≤ k7.length := (by omega); have m87 : k7.length ≤ 8 := (by omega); have hp79 : p7 ≤ 10000 := (by omega); obtain ⟨t0_, t1_, t2_, t3_, t4_, t5_⟩ := st7.res.cells; obtain ⟨q0_, q1_, q2_, q3_, q4_, q5_⟩ := st7.reg.cells)
        | (go_at_call 75; (with_reducible refine (l6Wrong_any _ W.heap.size rb A9 n9 c9 p3 st3.rd hp39 _ _ ⟨P3, k3, a3⟩ hG3 m13 m83).mono ?_); rintro e w5 ⟨vg5, ⟨P5, k5, a5⟩, p5, rfl, hG5, hm5, hR5, hp5, hg5⟩; (dsimp only at hG5 hm5); have st5 := st3.pick hR5 hg5; obtain ⟨D5, i5, f5, rfl, _⟩ := Gv.open_ hG5; have Y5 : Blk3 w5 (bs + 1) (.int .i64 P) (.slice A4 n4 c4) (.int .i64 a) 29 := st5.gbk; have m15 : 1 ≤ k5.length := (by omega); have m85 : k5.length ≤ 8 := (by omega); have hp59 : p5 ≤ 10000 := (by omega))
        | (go_at_call 75; (with_reducible refine (l6Wrong_any _ W.heap.size rb A9 n9 c9 p1 stA.rd (by omega) _ _ ⟨P, cc, a⟩ stA.cg.gv m1 m8).mono ?_); rintro e w3 ⟨vg3, ⟨P3, k3, a3⟩, p3, rfl, hG3, hm3, hR3, hp3, hg3⟩; (dsimp only at hG3 hm3); have st3 := stA.pick hR3 hg3; obtain ⟨D3, i3, f3, rfl, _⟩ := Gv.open_ hG3; have Y3 : Blk3 w3 (bs + 1) (.int .i64 P) (.slice A4 n4 c4) (.int .i64 a) 29 := st3.gbk; have m13 : 1 ≤ k3.length := (by omega); have m83 : k3.length ≤ 8 := (by omega); have hp39 : p3 ≤ 10000 := (by omega)))
    all_goals
      (try rename_i hHeld); (try clear hHeld)
      go_wp2_with fail
      go_meet
      case rel => exact PostGG.of (lo := rb + 1) st7.res st7.reg st7.cg.gv (Gv.mono hG7 (by have := st5.sz; omega)) (by omega) st7.bw
  case rest =>
    obtain ⟨r, s, G2, G3, hZ, hU, hg1, hg2, hBw⟩ := hcut
    obtain ⟨z0, z1', z2', _⟩ := hZ.cells
    obtain ⟨q0, q1, q2, _⟩ := hU.cells
    clear r0 r1 r2 r3 r4 r5 s0 s1 s2 s3 s4 s5 st X1 Y1
    go_wp2_with fail
    refine bodyPost_ret (v := .tuple #[.agg #[.int .i64 G2.p, r, .int .i64 G2.a], .agg #[.int .i64 G3.p, s, .int .i64 G3.a]]) ?_ rfl ⟨_, _, G2, G3, rfl, hg1, hg2, hBw⟩
    simp [results, Try.results41, go_sem, z0, z1', z2', q0, q1, q2]
end Go.Proofs.Ytdedffdmppckiaa
