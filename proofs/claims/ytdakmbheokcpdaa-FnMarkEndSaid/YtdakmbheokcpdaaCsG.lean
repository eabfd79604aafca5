import Derived.Test.YtdakmbheokcpdaaGStepS
import Derived.Test.YtdakmbheokcpdaaGcI
import Derived.Test.YtdakmbheokcpdaaCaseS
import Derived.Test.YtdakmbheokcpdaaGSms
import Derived.OrdersHeld
import Derived.Deep.RegionHeld3
/- Draws of chapter 6: stores and collectors. -/
namespace Go.Proofs.Ytdakmbheokcpdaa
open Go.RowKit

theorem CGv.kept_low {w w' : World} {lo : Nat} {vs vg : Value} {C : Cp} {G : Gp} (h : CGv w lo vs vg C G) {rb : Nat} (hg : w.grownBy w' (some rb)) (hl : rb < lo) : CGv w' lo vs vg C G := by
  obtain ⟨v0, v1, v2, v3, r, e, e', h, hr, a⟩ := h
  exact ⟨v0, v1, v2, v3, r, e, e', h.kept_low hg hl, hr.kept hg (.inr fun e => by have := (hr.lt _ e).1; omega), a⟩
/-- The state of a draw: a store in block bs, a collector in block bg, the reader, the two results; nothing else has turned. -/
structure GSt (w wr : World) (B rb bs bg rs : Nat) (A : Option Addr) (nb c p : Nat) (v0 v1 v2 v3 r : Value) (C : Cp) (G : Gp) : Prop where
  res : Blk4 wr rs (.slice none 0 0) (.slice none 0 0) (.slice none 0 0) (.slice none 0 0) 27
  reg : Blk3 wr (rs + 1) (.int .i64 0) (.slice none 0 0) (.int .i64 0) 29
  blk : Blk4 wr bs v0 v1 v2 v3 27
  gbk : Blk3 wr bg (.int .i64 G.p) r (.int .i64 G.a) 29
  cg : CGv wr (rs + 2) (.agg #[v0, v1, v2, v3]) (.agg #[.int .i64 G.p, r, .int .i64 G.a]) C G
  rd : Rd wr B rb A nb c p
  gr : w.grownBy wr (some rb)
  rbl : rb < rs
  rsw : w.heap.size ≤ rs
  rsb : rs + 1 < bs
  bsg : bs < bg
  fs : FarG v0 v1 v2 v3 r bs
  fg : FarG v0 v1 v2 v3 r bg
section
variable {w wr : World} {B rb bs bg rs : Nat} {A : Option Addr} {nb c p : Nat} {v0 v1 v2 v3 r : Value} {C : Cp} {G : Gp}
theorem GSt.pick (h : GSt w wr B rb bs bg rs A nb c p v0 v1 v2 v3 r C G) {w1 : World} {p' : Nat} (hR : Rd w1 B rb A nb c p') (hO : wr.grownBy w1 (some rb)) : GSt w w1 B rb bs bg rs A nb c p' v0 v1 v2 v3 r C G := by
  have h1 := h.rbl
  have h2 := h.rsb
  have h3 := h.bsg
  exact ⟨h.res.kept hO (by omega), h.reg.kept hO (by omega), h.blk.kept hO (by omega), h.gbk.kept hO (by omega), h.cg.kept_low hO (by omega), hR, grown_trans h.gr hO, h.rbl, h.rsw, h.rsb, h.bsg, h.fs, h.fg⟩
theorem GSt.alloc (h : GSt w wr B rb bs bg rs A nb c p v0 v1 v2 v3 r C G) (o : Obj) : GSt w (wr.alloc o) B rb bs bg rs A nb c p v0 v1 v2 v3 r C G :=
  ⟨h.res.alloc o, h.reg.alloc o, h.blk.alloc o, h.gbk.alloc o, h.cg.alloc o, h.rd.alloc o, grown_alloc h.gr o, h.rbl, h.rsw, h.rsb, h.bsg, h.fs, h.fg⟩
theorem GSt.drew (h : GSt w wr B rb bs bg rs A nb c p v0 v1 v2 v3 r C G) : GSt w wr.drew B rb bs bg rs A nb c p v0 v1 v2 v3 r C G := ⟨h.res, h.reg, h.blk, h.gbk, h.cg, h.rd, grown_drew h.gr, h.rbl, h.rsw, h.rsb, h.bsg, h.fs, h.fg⟩
theorem Blk4.set4G {w : World} {b : Nat} {x y z u : Value} {t : TypeId} (h : Blk4 w b x y z u t) (x' y' z' u' : Value) : Blk4 ((((w.setCell ⟨b, 0, none⟩ x').setCell ⟨b, 1, none⟩ y').setCell ⟨b, 2, none⟩ z').setCell ⟨b, 3, none⟩ u') b x' y' z' u' t := by
  unfold Blk4 at h ⊢; simp [World.setCell, Array.getElem?_modify, h]
theorem Blk3.set3G {w : World} {b : Nat} {x y z : Value} {t : TypeId} (h : Blk3 w b x y z t) (x' y' z' : Value) : Blk3 (((w.setCell ⟨b, 0, none⟩ x').setCell ⟨b, 1, none⟩ y').setCell ⟨b, 2, none⟩ z') b x' y' z' t := by
  unfold Blk3 at h ⊢; simp [World.setCell, Array.getElem?_modify, h]
/-- A variable's cells are set, which lie apart from all that a collector owns. -/
theorem CGv.setVar {w : World} {lo b : Nat} {vs vg : Value} {C : Cp} {G : Gp} (h : CGv w lo vs vg C G) (hb : b < lo) (o : Nat) (u : Value) : CGv (w.setCell ⟨b, o, none⟩ u) lo vs vg C G := h.setS hb o u
theorem farG_cg {w : World} {lo b : Nat} {v0 v1 v2 v3 x r y : Value} {C : Cp} {G : Gp} (h : CGv w lo (.agg #[v0, v1, v2, v3]) (.agg #[x, r, y]) C G) (hb : b < lo) : FarG v0 v1 v2 v3 r b := by
  obtain ⟨_, _, _, _, _, e, e', hv, hr, _⟩ := h
  cases e; cases e'
  exact farG_of hv hb (own_neR hr (.inl hb))
def setS4 (w : World) (b : Nat) (u0 u1 u2 u3 : Value) : World := (((w.setCell ⟨b, 0, none⟩ u0).setCell ⟨b, 1, none⟩ u1).setCell ⟨b, 2, none⟩ u2).setCell ⟨b, 3, none⟩ u3
def setG3 (w : World) (b : Nat) (u0 u1 u2 : Value) : World := ((w.setCell ⟨b, 0, none⟩ u0).setCell ⟨b, 1, none⟩ u1).setCell ⟨b, 2, none⟩ u2
theorem Rd.setD {w : World} {B rb : Nat} {A : Option Addr} {nb c p b : Nat} (h : Rd w B rb A nb c p) (h1 : rb ≠ b) (h2 : B ≤ b) (o : Nat) (u : Value) : Rd (w.setCell ⟨b, o, none⟩ u) B rb A nb c p := h.other (a := ⟨b, o, none⟩) h1 h2 u
theorem grown_setD {w w' : World} {rb b : Nat} (h : w.grownBy w' (some rb)) (hb : w.heap.size ≤ b) (o : Nat) (u : Value) : w.grownBy (w'.setCell ⟨b, o, none⟩ u) (some rb) := grown_set h (p := ⟨b, o, none⟩) (.inr hb) u
/-- A step's answer is laid into both variables. -/
theorem GSt.put (h : GSt w wr B rb bs bg rs A nb c p v0 v1 v2 v3 r C G) {w1 : World} {u0 u1 u2 u3 r' : Value} {C' : Cp} {p' a' : Int} {cc : List Int}
    (hc : CGv w1 wr.heap.size (.agg #[u0, u1, u2, u3]) (.agg #[.int .i64 p', r', .int .i64 a']) C' ⟨p', cc, a'⟩) (hb : Below wr.heap.size wr w1) :
    GSt w (((((((w1.setCell ⟨bs, 0, none⟩ u0).setCell ⟨bs, 1, none⟩ u1).setCell ⟨bs, 2, none⟩ u2).setCell ⟨bs, 3, none⟩ u3).setCell ⟨bg, 0, none⟩ (.int .i64 p')).setCell ⟨bg, 1, none⟩ r').setCell ⟨bg, 2, none⟩ (.int .i64 a')) B rb bs bg rs A nb c p u0 u1 u2 u3 r' C' ⟨p', cc, a'⟩ := by
  have h1 := h.rbl
  have h2 := h.rsb
  have h3 := h.bsg
  have h4 := h.blk.lt
  have h5 := h.gbk.lt
  have h6 := h.rsw
  have h7 := h.rd.2.2.1
  have n1 : rs ≠ bs := by omega
  have n2 : rs ≠ bg := by omega
  have n3 : rs + 1 ≠ bs := by omega
  have n4 : rs + 1 ≠ bg := by omega
  have n5 : rb ≠ bs := by omega
  have n6 : rb ≠ bg := by omega
  have n7 : B ≤ bs := by omega
  have n8 : B ≤ bg := by omega
  have w7 : w.heap.size ≤ bs := by omega
  have w8 : w.heap.size ≤ bg := by omega
  have nsg : bs ≠ bg := by omega
  refine ⟨?_, ?_, ?_, ?_, ?_, ?_, ?_, h1, h6, h2, h3, farG_cg hc h4, farG_cg hc h5⟩
  · exact (((((((h.res.below hb).otherS n1 0 _).otherS n1 1 _).otherS n1 2 _).otherS n1 3 _).otherS n2 0 _).otherS n2 1 _).otherS n2 2 _
  · exact (((((((h.reg.below hb).otherS n3 0 _).otherS n3 1 _).otherS n3 2 _).otherS n3 3 _).otherS n4 0 _).otherS n4 1 _).otherS n4 2 _
  · exact (((((h.blk.below hb).set4G _ _ _ _).otherS nsg 0 _).otherS nsg 1 _).otherS nsg 2 _)
  · exact Blk3.set3G (((((h.gbk.below hb).otherS nsg.symm 0 _).otherS nsg.symm 1 _).otherS nsg.symm 2 _).otherS nsg.symm 3 _) _ _ _
  · exact ((((((((hc.setS h4 0 _).setS h4 1 _).setS h4 2 _).setS h4 3 _).setS h5 0 _).setS h5 1 _).setS h5 2 _)).mono (by omega)
  · exact (((((((h.rd.below hb).setD n5 n7 0 _).setD n5 n7 1 _).setD n5 n7 2 _).setD n5 n7 3 _).setD n6 n8 0 _).setD n6 n8 1 _).setD n6 n8 2 _
  · exact grown_setD (grown_setD (grown_setD (grown_setD (grown_setD (grown_setD (grown_setD (grown_of h.gr hb) w7 0 _) w7 1 _) w7 2 _) w7 3 _) w8 0 _) w8 1 _) w8 2 _
/-- A store and a collector came back, as steps from a beginning leave them. -/
def DrawnCG (w : World) (B rb : Nat) (A : Option Addr) (nb c p : Nat) (e : Ending) (w' : World) : Prop :=
  ∃ vs vg C G p', e = .returned (.tuple #[vs, vg]) ∧ CGv w' w.heap.size vs vg C G ∧ InvG C G ∧ Rd w' B rb A nb c p' ∧ p' ≤ p + 70 ∧ w.grownBy w' (some rb)
/-- What is left at a return: both results hold what the variables held. -/
def PostD (w : World) (B rb : Nat) (A : Option Addr) (nb c p rs : Nat) (C : Cp) (G : Gp) (w' : World) : Prop := ∃ k0 k1 k2 k3 r, Blk4 w' rs k0 k1 k2 k3 27 ∧ Blk3 w' (rs + 1) (.int .i64 G.p) r (.int .i64 G.a) 29 ∧ CGv w' w.heap.size (.agg #[k0, k1, k2, k3]) (.agg #[.int .i64 G.p, r, .int .i64 G.a]) C G ∧ Rd w' B rb A nb c p ∧ w.grownBy w' (some rb)
theorem PostD.drew {w' : World} (h : PostD w B rb A nb c p rs C G w') : PostD w B rb A nb c p rs C G w'.drew := by
  obtain ⟨k0, k1, k2, k3, r, a, b, d, e, f⟩ := h
  exact ⟨k0, k1, k2, k3, r, a, b, d.drew, e, grown_drew f⟩
theorem GSt.post (h : GSt w wr B rb bs bg rs A nb c p v0 v1 v2 v3 r C G) :
    PostD w B rb A nb c p rs C G (((((((wr.setCell ⟨rs, 0, none⟩ v0).setCell ⟨rs, 1, none⟩ v1).setCell ⟨rs, 2, none⟩ v2).setCell ⟨rs, 3, none⟩ v3).setCell ⟨rs + 1, 0, none⟩ (.int .i64 G.p)).setCell ⟨rs + 1, 1, none⟩ r).setCell ⟨rs + 1, 2, none⟩ (.int .i64 G.a)) := by
  have h1 := h.rbl
  have h2 := h.rsb
  have h6 := h.rsw
  have h7 := h.rd.2.2.1
  have n1 : rs ≠ rs + 1 := by omega
  have n5 : rb ≠ rs := by omega
  have n6 : rb ≠ rs + 1 := by omega
  have n7 : B ≤ rs := by omega
  have n8 : B ≤ rs + 1 := by omega
  have l1 : rs < rs + 2 := by omega
  have l2 : rs + 1 < rs + 2 := by omega
  have w8 : w.heap.size ≤ rs + 1 := by omega
  refine ⟨v0, v1, v2, v3, r, ?_, ?_, ?_, ?_, ?_⟩
  · exact ((((h.res.set4G _ _ _ _).otherS n1 0 _).otherS n1 1 _).otherS n1 2 _)
  · exact Blk3.set3G ((((h.reg.otherS n1.symm 0 _).otherS n1.symm 1 _).otherS n1.symm 2 _).otherS n1.symm 3 _) _ _ _
  · exact (((((((h.cg.setS l1 0 _).setS l1 1 _).setS l1 2 _).setS l1 3 _).setS l2 0 _).setS l2 1 _).setS l2 2 _).mono (by omega)
  · exact ((((((h.rd.setD n5 n7 0 _).setD n5 n7 1 _).setD n5 n7 2 _).setD n5 n7 3 _).setD n6 n8 0 _).setD n6 n8 1 _).setD n6 n8 2 _
  · exact grown_setD (grown_setD (grown_setD (grown_setD (grown_setD (grown_setD (grown_setD h.gr h6 0 _) h6 1 _) h6 2 _) h6 3 _) w8 0 _) w8 1 _) w8 2 _
end

set_option maxRecDepth 100000 in
set_option maxHeartbeats 6000000 in
theorem l6Draw_any (w : World) (B rb : Nat) (A : Option Addr) (nb c p : Nat) (h : Rd w B rb A nb c p) (hp : p ≤ 9000) :
    Calls Try.prog 73 #[.pointer (some ⟨rb, 0, none⟩)] w (DrawnCG w B rb A nb c p) := by
  have hrl := h.lt
  have Y0 := (Blk4.new w (.slice none 0 0) (.slice none 0 0) (.slice none 0 0) (.slice none 0 0) 27).alloc (.cells #[.int .i64 0, .slice none 0 0, .int .i64 0] 29)
  have U0 := Blk3.new_at (w := w.alloc (.cells #[.slice none 0 0, .slice none 0 0, .slice none 0 0, .slice none 0 0] 27)) (b := w.heap.size + 1) (by simp) (.int .i64 0) (.slice none 0 0) (.int .i64 0) 29
  have h0 := (h.alloc (.cells #[.slice none 0 0, .slice none 0 0, .slice none 0 0, .slice none 0 0] 27)).alloc (.cells #[.int .i64 0, .slice none 0 0, .int .i64 0] 29)
  have G0 : w.grownBy ((w.alloc (.cells #[.slice none 0 0, .slice none 0 0, .slice none 0 0, .slice none 0 0] 27)).alloc (.cells #[.int .i64 0, .slice none 0 0, .int .i64 0] 29)) (some rb) := grown_alloc (grown_alloc (World.grownBy.refl w _) _) _
  have s0 : ((w.alloc (.cells #[.slice none 0 0, .slice none 0 0, .slice none 0 0, .slice none 0 0] 27)).alloc (.cells #[.int .i64 0, .slice none 0 0, .int .i64 0] 29)).heap.size = w.heap.size + 2 := by simp
  go_enter Try.func73, Try.ntmps73
  go_wp2_with fail
  generalize (w.alloc (.cells #[.slice none 0 0, .slice none 0 0, .slice none 0 0, .slice none 0 0] 27)).alloc (.cells #[.int .i64 0, .slice none 0 0, .int .i64 0] 29) = W at Y0 U0 h0 G0 s0 ⊢
  have sW1 : w.heap.size + 2 ≤ W.heap.size := by omega
  have sW2 : W.heap.size ≤ w.heap.size + 2 := by omega
  clear s0
  refine (l4Draw_any _ _ _ _ _ _ _ h0 (by omega)).mono ?_; rintro e w1 ⟨v1, C, p1, rfl, hv1, hC, hR1, hp1, hg1⟩
  have z1 := hg1.size
  have hvo := hv1
  obtain ⟨A0, n0, c0, A1, n1, c1, A2, n2, c2, A3, n3, c3, rfl, _⟩ := hvo.open_
  have N := specNewGc_any (w1.alloc (.cells #[.slice A0 n0 c0, .slice A1 n1 c1, .slice A2 n2 c2, .slice A3 n3 c3] 27)) _ _ C (hv1.alloc (.cells #[.slice A0 n0 c0, .slice A1 n1 c1, .slice A2 n2 c2, .slice A3 n3 c3] 27))
  rw [show newG C = some ⟨0, List.replicate C.h.l.length 0, 0⟩ by unfold newG; rw [if_pos hC]] at N
  have hI := inv_new hC
  go_wp2_with fail
  refine N.mono ?_; rintro e w2 ⟨vg, rfl, hG, hb2⟩
  simp only [Option.isSome_some, Option.getD_some] at hG ⊢
  have hGo := hG
  obtain ⟨A4, n4, c4, rfl, _⟩ := hGo.open_
  dsimp only at hG ⊢
  have z2 := hb2.size
  simp only [World.size_alloc] at z2
  have CG : CGv w2 (w.heap.size + 2) (.agg #[.slice A0 n0 c0, .slice A1 n1 c1, .slice A2 n2 c2, .slice A3 n3 c3]) (.agg #[.int .i64 0, .slice A4 n4 c4, .int .i64 0]) C ⟨0, List.replicate C.h.l.length 0, 0⟩ := CGv.mk ((hv1.mono (by omega)).alloc (.cells #[.slice A0 n0 c0, .slice A1 n1 c1, .slice A2 n2 c2, .slice A3 n3 c3] 27)) hG (by simp; omega) hb2
  have fS : FarG (.slice A0 n0 c0) (.slice A1 n1 c1) (.slice A2 n2 c2) (.slice A3 n3 c3) (.slice A4 n4 c4) w1.heap.size := by
    obtain ⟨q0, q1, q2, q3⟩ := hv1.rowsS
    obtain ⟨r, e, q4⟩ := hG
    cases e
    exact ⟨own_neR q0 (.inr (Nat.le_refl _)), own_neR q1 (.inr (Nat.le_refl _)), own_neR q2 (.inr (Nat.le_refl _)), own_neR q3 (.inr (Nat.le_refl _)), own_neR q4 (.inl (by simp))⟩
  have fG : FarG (.slice A0 n0 c0) (.slice A1 n1 c1) (.slice A2 n2 c2) (.slice A3 n3 c3) (.slice A4 n4 c4) w2.heap.size := by
    obtain ⟨q0, q1, q2, q3⟩ := CG.cv.rowsS
    obtain ⟨r, e, q4⟩ := hG
    cases e
    exact ⟨own_neR q0 (.inr (Nat.le_refl _)), own_neR q1 (.inr (Nat.le_refl _)), own_neR q2 (.inr (Nat.le_refl _)), own_neR q3 (.inr (Nat.le_refl _)), own_neR q4 (.inr (Nat.le_refl _))⟩
  have st : GSt w (w2.alloc (.cells #[.int .i64 0, .slice A4 n4 c4, .int .i64 0] 29)) B rb w1.heap.size w2.heap.size w.heap.size A nb c p1 (.slice A0 n0 c0) (.slice A1 n1 c1) (.slice A2 n2 c2) (.slice A3 n3 c3) (.slice A4 n4 c4) C ⟨0, List.replicate C.h.l.length 0, 0⟩ := {
    res := (((Y0.kept hg1 (by omega)).alloc (.cells #[.slice A0 n0 c0, .slice A1 n1 c1, .slice A2 n2 c2, .slice A3 n3 c3] 27)).below hb2).alloc _
    reg := (((U0.kept hg1 (by omega)).alloc (.cells #[.slice A0 n0 c0, .slice A1 n1 c1, .slice A2 n2 c2, .slice A3 n3 c3] 27)).below hb2).alloc _
    blk := ((Blk4.new w1 _ _ _ _ _).below hb2).alloc _
    gbk := Blk3.new w2 _ _ _ _
    cg := CG.alloc _
    rd := ((hR1.alloc (.cells #[.slice A0 n0 c0, .slice A1 n1 c1, .slice A2 n2 c2, .slice A3 n3 c3] 27)).below hb2).alloc _
    gr := grown_alloc (grown_of (grown_alloc (grown_trans G0 hg1) _) hb2) _
    rbl := hrl
    rsw := Nat.le_refl _
    rsb := by omega
    bsg := by omega
    fs := fS
    fg := fG }
  have P := fun W hR => num_any W B rb A nb c p1 hR (by omega)
  clear hv1 hvo hR1 hg1 N hG hGo hb2 CG fS fG h0 Y0 U0 G0 h
  go_wp2_with fail
  refine (P _ (st.rd.alloc _) _ _ _ [3, 1, 5, 8, 0, 14, 20] 0 (Row.lit_at (by simp) [3, 1, 5, 8, 0, 14, 20] (by decide)) rfl (by decide) (by decide) (by have := st.rd.lt; simp at this ⊢; omega)).mono ?_
  rintro e w4 ⟨x, hx, rfl, hR4, hO4⟩
  have hxi : ∃ i : Nat, x = i ∧ i ≤ 20 := by
    simp at hx; exact ⟨x.toNat, by omega, by omega⟩
  obtain ⟨i0, rfl, hi20⟩ := hxi
  have st1 := (st.alloc _).pick hR4 hO4.1
  generalize w1.heap.size = bs at st1 ⊢
  generalize w2.heap.size = bg at st1 ⊢
  clear hx st P hR4 hO4
  have hIH := Lib.hid hI
  clear hI hC
  go_wp2_with fail
  go_loopw [7] (fun i wr => ∃ (k : Nat) (C : Cp) (p a : Int) (cc : List Int) (E0 : Option Addr) (u0 e0 : Nat) (E1 : Option Addr) (u1 e1 : Nat) (E2 : Option Addr) (u2 e2 : Nat) (E3 : Option Addr) (u3 e3 : Nat) (E4 : Option Addr) (u4 e4 : Nat), k ≤ 20 ∧ i = .int .i64 k ∧ Hid (InvG C ⟨p, cc, a⟩) ∧ GSt w wr B rb bs bg w.heap.size A nb c (p1 + 1) (.slice E0 u0 e0) (.slice E1 u1 e1) (.slice E2 u2 e2) (.slice E3 u3 e3) (.slice E4 u4 e4) C ⟨p, cc, a⟩) (fun i _ => (intOf i).toNat)
  case atStart => exact ⟨i0, C, 0, 0, List.replicate C.h.l.length 0, _, _, _, _, _, _, _, _, _, _, _, _, _, _, _, hi20, rfl, hIH, st1⟩
  case round =>
    obtain ⟨k, C, p, a, cc, E0, u0, e0, E1, u1, e1, E2, u2, e2, E3, u3, e3, E4, u4, e4, hk, rfl, hI, st⟩ := hrel
    obtain ⟨x0, x1, x2, x3, _⟩ := st.blk.cells
    obtain ⟨y0, y1, y2, _⟩ := st.gbk.cells
    dsimp only at y0 y2
    by_cases k0 : k = 0
    · subst k0
      have n1 := st.rsb
      have n2 := st.bsg
      obtain ⟨r0, r1, r2, r3, r4, r5, r6, r7⟩ := st.res.cells
      obtain ⟨s0, s1, s2, s3, s4, s5⟩ := st.reg.cells
      go_wp2_with fail
      have dr : w.heap.size ≠ bg ∧ w.heap.size ≠ bs ∧ w.heap.size + 1 ≠ bs ∧ w.heap.size + 1 ≠ bg := by omega
      have X1 := st.blk
      have Y1 : Blk3 wr bg (.int .i64 p) (.slice E4 u4 e4) (.int .i64 a) 29 := st.gbk
      have SO : ∀ w' : World, Blk4 w' bs (.slice E0 u0 e0) (.slice E1 u1 e1) (.slice E2 u2 e2) (.slice E3 u3 e3) 27 → Blk3 w' bg (.int .i64 p) (.slice E4 u4 e4) (.int .i64 a) 29 → w'.cell? ⟨bs, 0, none⟩ = some (.slice E0 u0 e0) ∧ w'.cell? ⟨bs, 1, none⟩ = some (.slice E1 u1 e1) ∧ w'.cell? ⟨bs, 2, none⟩ = some (.slice E2 u2 e2) ∧ w'.cell? ⟨bs, 3, none⟩ = some (.slice E3 u3 e3) ∧ w'.cell? ⟨bg, 0, none⟩ = some (.int .i64 p) ∧ w'.cell? ⟨bg, 1, none⟩ = some (.slice E4 u4 e4) ∧ w'.cell? ⟨bg, 2, none⟩ = some (.int .i64 a) :=
        fun w' hX hY => ⟨hX.cells.1, hX.cells.2.1, hX.cells.2.2.1, hX.cells.2.2.2.1, hY.cells.1, hY.cells.2.1, hY.cells.2.2.1⟩
      have d1 : bs ≠ w.heap.size := by omega
      have d2 : bs ≠ w.heap.size + 1 := by omega
      have d3 : bg ≠ w.heap.size := by omega
      have d4 : bg ≠ w.heap.size + 1 := by omega
      clear x0 x1 x2 x3 y0 y1 y2
      go_cut [] from 7 (fun w' => PostD w B rb A nb c (p1 + 1) w.heap.size C ⟨p, cc, a⟩ w')
      case first =>
        go_region_held3 (fun w' => w'.cell? ⟨bs, 0, none⟩ = some (.slice E0 u0 e0) ∧ w'.cell? ⟨bs, 1, none⟩ = some (.slice E1 u1 e1) ∧ w'.cell? ⟨bs, 2, none⟩ = some (.slice E2 u2 e2) ∧ w'.cell? ⟨bs, 3, none⟩ = some (.slice E3 u3 e3) ∧ w'.cell? ⟨bg, 0, none⟩ = some (.int .i64 p) ∧ w'.cell? ⟨bg, 1, none⟩ = some (.slice E4 u4 e4) ∧ w'.cell? ⟨bg, 2, none⟩ = some (.int .i64 a))
          (((try dsimp only); (refine SO _ ?_ ?_); (· repeat (with_reducible (first | exact X1 | refine Blk4.drewS ?_ | refine Blk4.otherS ?_ d1 _ _ | refine Blk4.otherS ?_ d2 _ _))); (· repeat (with_reducible (first | exact Y1 | refine Blk3.drewS ?_ | refine Blk3.otherS ?_ d3 _ _ | refine Blk3.otherS ?_ d4 _ _)))))
          (fail)
        all_goals
          (try rename_i hHeld); (try clear hHeld)
          go_wp2_with fail
          go_meet
          case rel => exact PostD.drew st.post
      case rest =>
        obtain ⟨k0, k1, k2, k3, r, hZ, hU, hCG, hR, hB⟩ := hcut
        obtain ⟨z0, z1, z2, z3, _⟩ := hZ.cells
        obtain ⟨q0, q1, q2, _⟩ := hU.cells
        clear st X1 Y1
        go_wp2_with fail
        refine bodyPost_ret (v := .tuple #[.agg #[k0, k1, k2, k3], .agg #[.int .i64 _, r, .int .i64 _]]) ?_ rfl ⟨_, _, _, _, _, rfl, hCG, hI.out, hR, by omega, hB⟩
        simp [results, Try.results73, go_sem, z0, z1, z2, z3, q0, q1, q2]
    · obtain ⟨j, rfl⟩ : ∃ j, k = j + 1 := ⟨k - 1, by omega⟩
      have jj : (0 : Int) < ((j + 1 : Nat) : Int) := by omega
      have jw : IntKind.i64.wrap (((j + 1 : Nat) : Int) - 1) = (j : Int) := by rw [IntWalk.i64_in _ (by omega)]; omega
      have K := l6Step_any wr _ _ _ C ⟨p, cc, a⟩ st.cg hI.out.1
      have hI2 := inv_step hI.out
      generalize (stepG C ⟨p, cc, a⟩).1 = C2 at K hI2
      generalize (stepG C ⟨p, cc, a⟩).2 = G2 at K hI2
      go_wp2_with fail
      refine K.mono ?_; rintro e w5 ⟨vs, vg, rfl, hc5, hb5⟩
      obtain ⟨B0, m0, d0, B1, m1, d1, B2, m2, d2, B3, m3, d3, B4, m4, d4, p5, cc5, a5, rfl, rfl, rfl, _⟩ := hc5.open_
      have st2 := st.put hc5 hb5
      obtain ⟨x0, x1, x2, x3, i0, i1, i2, i3⟩ := (st.blk.below hb5).cells
      obtain ⟨y0, y1, y2, j0, j1, j2⟩ := (st.gbk.below hb5).cells
      have nsg : bs ≠ bg := by have := st.bsg; omega
      have ngs : bg ≠ bs := nsg.symm
      have lsz := (st.gbk.below hb5).lt
      have lsb := (st.blk.below hb5).lt
      have HI2 := Lib.hid hI2
      clear hI2 K hI
      go_wp2_with fail
      go_roundw
      case rel => exact ⟨j, C2, p5, a5, cc5, _, _, _, _, _, _, _, _, _, _, _, _, _, _, _, by omega, by go_num, HI2, st2⟩
      case measure => simp [intOf]
end Go.Proofs.Ytdakmbheokcpdaa

/- spec.l6Wrong. -/
namespace Go.Proofs.Ytdakmbheokcpdaa
open Go.RowKit

theorem lit4G (w : World) (a b c d : Int) : Row (w.alloc (.cells #[.int .i64 a, .int .i64 b, .int .i64 c, .int .i64 d] 3)) 0 (.slice (some ⟨w.heap.size, 0, none⟩) 4 4) [a, b, c, d] := Row.lit_at rfl [a, b, c, d] (by simp)

/-- The state of l6Wrong: a collector in block bo over a row of the call's own, the reader, the result. -/
structure WSt (w wr : World) (B rb bo rs : Nat) (A : Option Addr) (nb c p : Nat) (x y : Int) (g n cp : Nat) (cc : List Int) : Prop where
  res : Blk3 wr rs (.int .i64 0) (.slice none 0 0) (.int .i64 0) 29
  blk : Blk3 wr bo (.int .i64 x) (.slice (some ⟨g, 0, none⟩) n cp) (.int .i64 y) 29
  row : Row wr (rs + 1) (.slice (some ⟨g, 0, none⟩) n cp) cc
  rd : Rd wr B rb A nb c p
  gr : w.grownBy wr (some rb)
  rbl : rb < rs
  rsw : w.heap.size ≤ rs
  rsb : rs < bo
  far : bo ≠ g
section
variable {w wr : World} {B rb bo rs : Nat} {A : Option Addr} {nb c p : Nat} {x y : Int} {g n cp : Nat} {cc : List Int}
theorem WSt.gl (h : WSt w wr B rb bo rs A nb c p x y g n cp cc) : rs + 1 ≤ g ∧ g < wr.heap.size := h.row.lt g rfl
theorem WSt.pick (h : WSt w wr B rb bo rs A nb c p x y g n cp cc) {w1 : World} {p' : Nat} (hR : Rd w1 B rb A nb c p') (hO : Only rb wr w1) : WSt w w1 B rb bo rs A nb c p' x y g n cp cc := by
  have h1 := h.rbl
  have h2 := h.rsb
  have h3 := h.gl
  exact ⟨h.res.kept hO.1 (by omega), h.blk.kept hO.1 (by omega), h.row.kept hO.1 (.inr (fun e => by have := Option.some.inj e; simp only at this; omega)), hR, grown_trans h.gr hO.1, h.rbl, h.rsw, h.rsb, h.far⟩
theorem WSt.alloc (h : WSt w wr B rb bo rs A nb c p x y g n cp cc) (o : Obj) : WSt w (wr.alloc o) B rb bo rs A nb c p x y g n cp cc :=
  ⟨h.res.alloc o, h.blk.alloc o, h.row.alloc o, h.rd.alloc o, grown_alloc h.gr o, h.rbl, h.rsw, h.rsb, h.far⟩
theorem WSt.drew (h : WSt w wr B rb bo rs A nb c p x y g n cp cc) : WSt w wr.drew B rb bo rs A nb c p x y g n cp cc := ⟨h.res, h.blk, h.row, h.rd, grown_drew h.gr, h.rbl, h.rsw, h.rsb, h.far⟩
theorem WSt.setX (h : WSt w wr B rb bo rs A nb c p x y g n cp cc) (z : Int) : WSt w (wr.setCell ⟨bo, 0, none⟩ (.int .i64 z)) B rb bo rs A nb c p z y g n cp cc := by
  have h1 := h.rbl
  have h2 := h.rsb
  have h3 := h.rsw
  have h7 := h.rd.2.2.1
  exact ⟨h.res.otherS (by omega) 0 _, h.blk.set0 _, h.row.setE (fun e => h.far (Option.some.inj e).symm) 0 _, h.rd.setD (by omega) (by omega) 0 _, grown_setD h.gr (by omega) 0 _, h1, h3, h2, h.far⟩
theorem WSt.setY (h : WSt w wr B rb bo rs A nb c p x y g n cp cc) (z : Int) : WSt w (wr.setCell ⟨bo, 2, none⟩ (.int .i64 z)) B rb bo rs A nb c p x z g n cp cc := by
  have h1 := h.rbl
  have h2 := h.rsb
  have h3 := h.rsw
  have h7 := h.rd.2.2.1
  exact ⟨h.res.otherS (by omega) 2 _, h.blk.set2 _, h.row.setE (fun e => h.far (Option.some.inj e).symm) 2 _, h.rd.setD (by omega) (by omega) 2 _, grown_setD h.gr (by omega) 2 _, h1, h3, h2, h.far⟩
theorem WSt.setC (h : WSt w wr B rb bo rs A nb c p x y g n cp cc) (k : Nat) (z : Int) : WSt w (wr.setCell ⟨g, k, none⟩ (.int .i64 z)) B rb bo rs A nb c p x y g n cp (cc.set k z) := by
  have h1 := h.rbl
  have h2 := h.rsb
  have h3 := h.rsw
  have h7 := h.rd.2.2.1
  have h4 := h.gl
  exact ⟨h.res.otherS (by omega) k _, h.blk.otherS h.far k _, h.row.set_ k z, h.rd.setD (by omega) (by omega) k _, grown_setD h.gr (by omega) k _, h1, h3, h2, h.far⟩
theorem WSt.done (h : WSt w wr B rb bo rs A nb c p x y g n cp cc) (u0 u1 u2 : Value) : Gv (((wr.setCell ⟨rs, 0, none⟩ u0).setCell ⟨rs, 1, none⟩ u1).setCell ⟨rs, 2, none⟩ u2) w.heap.size (.agg #[.int .i64 x, .slice (some ⟨g, 0, none⟩) n cp, .int .i64 y]) ⟨x, cc, y⟩ ∧ Rd (((wr.setCell ⟨rs, 0, none⟩ u0).setCell ⟨rs, 1, none⟩ u1).setCell ⟨rs, 2, none⟩ u2) B rb A nb c p ∧ w.grownBy (((wr.setCell ⟨rs, 0, none⟩ u0).setCell ⟨rs, 1, none⟩ u1).setCell ⟨rs, 2, none⟩ u2) (some rb) := by
  have h1 := h.rbl
  have h3 := h.rsw
  have h7 := h.rd.2.2.1
  have l1 : rs < rs + 1 := by omega
  have n5 : rb ≠ rs := by omega
  have n7 : B ≤ rs := by omega
  exact ⟨⟨_, rfl, (((h.row.setS l1 0 _).setS l1 1 _).setS l1 2 _).mono (by omega)⟩, ((h.rd.setD n5 n7 0 _).setD n5 n7 1 _).setD n5 n7 2 _, grown_setD (grown_setD (grown_setD h.gr h3 0 _) h3 1 _) h3 2 _⟩
end
/-- Some collector came back, with as many colors. -/
def DrawnGv (w : World) (B rb : Nat) (A : Option Addr) (nb c p m : Nat) (e : Ending) (w' : World) : Prop :=
  ∃ v G p', e = .returned v ∧ Gv w' w.heap.size v G ∧ G.c.length = m ∧ Rd w' B rb A nb c p' ∧ p' ≤ p + 8 ∧ w.grownBy w' (some rb)

set_option maxRecDepth 100000 in
set_option maxHeartbeats 4000000 in
theorem l6Wrong_any (w : World) (B rb : Nat) (A : Option Addr) (nb c p : Nat) (h : Rd w B rb A nb c p) (hp : p ≤ 10000) (lo : Nat) (v : Value) (G : Gp) (hv : Gv w lo v G) (m1 : 1 ≤ G.c.length) (m8 : G.c.length ≤ 8) :
    Calls Try.prog 74 #[.pointer (some ⟨rb, 0, none⟩), v] w (DrawnGv w B rb A nb c p G.c.length) := by
  have hrl := h.lt
  have hvo := hv
  obtain ⟨A4, n4, c4, rfl, _, l4, _, _⟩ := hvo.open_
  obtain ⟨P, cc, a⟩ := G
  dsimp only at m1 m8 l4 hv ⊢
  have X0 := (Blk3.new w (.int .i64 P) (.slice A4 n4 c4) (.int .i64 a) 29).alloc (.cells #[.int .i64 0, .slice none 0 0, .int .i64 0] 29)
  have Y0 := Blk3.new_at (w := w.alloc (.cells #[.int .i64 P, .slice A4 n4 c4, .int .i64 a] 29)) (b := w.heap.size + 1) (by simp) (.int .i64 0) (.slice none 0 0) (.int .i64 0) 29
  have h0 := (h.alloc (.cells #[.int .i64 P, .slice A4 n4 c4, .int .i64 a] 29)).alloc (.cells #[.int .i64 0, .slice none 0 0, .int .i64 0] 29)
  have V0 := (hv.alloc (.cells #[.int .i64 P, .slice A4 n4 c4, .int .i64 a] 29)).alloc (.cells #[.int .i64 0, .slice none 0 0, .int .i64 0] 29)
  have G0 : w.grownBy ((w.alloc (.cells #[.int .i64 P, .slice A4 n4 c4, .int .i64 a] 29)).alloc (.cells #[.int .i64 0, .slice none 0 0, .int .i64 0] 29)) (some rb) := grown_alloc (grown_alloc (World.grownBy.refl w _) _) _
  have s0 : ((w.alloc (.cells #[.int .i64 P, .slice A4 n4 c4, .int .i64 a] 29)).alloc (.cells #[.int .i64 0, .slice none 0 0, .int .i64 0] 29)).heap.size = w.heap.size + 2 := by simp
  go_enter Try.func74, Try.ntmps74
  go_wp2_with fail
  generalize (w.alloc (.cells #[.int .i64 P, .slice A4 n4 c4, .int .i64 a] 29)).alloc (.cells #[.int .i64 0, .slice none 0 0, .int .i64 0] 29) = W at X0 Y0 h0 V0 G0 s0 ⊢
  have sW1 : w.heap.size + 2 ≤ W.heap.size := by omega
  clear s0
  obtain ⟨x0, x1, x2, _⟩ := X0.cells
  have K := l6Copy_any W lo _ ⟨P, cc, a⟩ V0 (by dsimp only; omega) (by dsimp only; omega)
  go_wp2_with fail
  refine K.mono ?_; rintro e w1 ⟨vv, rfl, hD, hb1⟩
  obtain ⟨D4, n5, c5, rfl, s4, t4, _, _⟩ := hD.open_
  dsimp only at s4 t4
  obtain ⟨g, rfl, hgl, hg4, _⟩ := s4.at_ (k := 0) (by omega)
  have z1 := hb1.size
  have HT := Lib.hid t4.out
  have st : WSt w (w1.alloc (.cells #[.int .i64 P, .slice (some ⟨g, 0, none⟩) n5 c5, .int .i64 a] 29)) B rb w1.heap.size (w.heap.size + 1) A nb c p P a g n5 c5 cc := {
    res := (Y0.below hb1).alloc _
    blk := Blk3.new w1 _ _ _ _
    row := (s4.mono (by omega)).alloc _
    rd := (h0.below hb1).alloc _
    gr := grown_alloc (grown_of G0 hb1) _
    rbl := by omega
    rsw := by omega
    rsb := by omega
    far := by omega }
  have PK := fun W hR => pick_any W B rb A nb c p hR 20 (by omega) (by omega) (by omega)
  clear hD K hb1 h0 V0 G0 X0 Y0 h hv hvo x0 x1 x2 s4 t4
  go_wp2_with fail
  refine (PK _ st.rd).mono ?_; rintro e w4 ⟨x, rfl, hx, hR4, hO4⟩
  have st1 := st.pick hR4 hO4
  generalize w1.heap.size = bo at st1 ⊢
  clear st PK hR4 hO4
  obtain ⟨x0, x1, x2, f0, f1, f2⟩ := st1.blk.cells
  obtain ⟨y0, y1, y2, i0, i1, i2⟩ := st1.res.cells
  have n1 : bo ≠ w.heap.size + 1 := by have := st1.rsb; omega
  have lb := st1.blk.lt
  have hrb4 : rb < w4.heap.size := st1.rd.lt
  by_cases t3 : 3 ≤ x
  · have e0 : ((x : Int) == 0) = false := by simp; omega
    have e1 : ((x : Int) == 1) = false := by simp; omega
    have e2 : ((x : Int) == 2) = false := by simp; omega
    have dn := st1.done
    go_wp2_with fail
    refine bodyPost_ret (v := .agg #[.int .i64 P, .slice (some ⟨g, 0, none⟩) n5 c5, .int .i64 a]) ?_ rfl ⟨_, ⟨P, cc, a⟩, p + 1, rfl, (dn _ _ _).1, rfl, (dn _ _ _).2.1, by omega, (dn _ _ _).2.2⟩
    simp [results, Try.results74, go_sem, y0, y1, y2]
  by_cases t0 : x = 0
  · subst t0
    have NN := fun W hR => num_any W B rb A nb c (p + 1) hR (by omega)
    go_wp2_with fail
    refine (NN _ (st1.rd.alloc _) _ _ _ [4, -1, 0, 1, 2, 3] 0 (Row.lit_at (by simp) [4, -1, 0, 1, 2, 3] (by decide)) rfl (by decide) (by decide) (by omega)).mono ?_
    rintro e w5 ⟨z, hz, rfl, hR5, hO5⟩
    have st2 := (st1.alloc _).pick hR5 hO5
    have st3 := st2.setX z
    obtain ⟨a0, a1, a2, b0, b1, b2⟩ := st2.blk.cells
    have dn := st3.done
    clear st1 st3 NN x0 x1 x2 f0 f1 f2 y0 y1 y2 i0 i1 i2 hR5 hO5
    obtain ⟨y0, y1, y2, i0, i1, i2⟩ := st2.res.cells
    have lb2 := st2.blk.lt
    clear st2
    go_wp2_with fail
    refine bodyPost_ret (v := .agg #[.int .i64 z, .slice (some ⟨g, 0, none⟩) n5 c5, .int .i64 a]) ?_ rfl ⟨_, ⟨z, cc, a⟩, p + 1 + 1, rfl, (dn _ _ _).1, rfl, (dn _ _ _).2.1, by omega, (dn _ _ _).2.2⟩
    simp [results, Try.results74, go_sem, y0, y1, y2]
  by_cases t1 : x = 1
  · subst t1
    have NN := fun W hR => num_any W B rb A nb c (p + 1) hR (by omega)
    go_wp2_with fail
    refine (NN _ (st1.rd.alloc _) _ _ _ [-1, 8, 1] 0 (Row.lit_at (by simp) [-1, 8, 1] (by decide)) rfl (by decide) (by decide) (by omega)).mono ?_
    rintro e w5 ⟨z, hz, rfl, hR5, hO5⟩
    have st2 := (st1.alloc _).pick hR5 hO5
    have st3 := st2.setY z
    obtain ⟨a0, a1, a2, b0, b1, b2⟩ := st2.blk.cells
    have dn := st3.done
    clear st1 st3 NN x0 x1 x2 f0 f1 f2 y0 y1 y2 i0 i1 i2 hR5 hO5
    obtain ⟨y0, y1, y2, i0, i1, i2⟩ := st2.res.cells
    have lb2 := st2.blk.lt
    clear st2
    go_wp2_with fail
    refine bodyPost_ret (v := .agg #[.int .i64 P, .slice (some ⟨g, 0, none⟩) n5 c5, .int .i64 z]) ?_ rfl ⟨_, ⟨P, cc, z⟩, p + 1 + 1, rfl, (dn _ _ _).1, rfl, (dn _ _ _).2.1, by omega, (dn _ _ _).2.2⟩
    simp [results, Try.results74, go_sem, y0, y1, y2]
  · obtain rfl : x = 2 := by omega
    have u1 : 1 ≤ (n5 : Int) := by have := HT.out; omega
    have u2 : (n5 : Int) ≤ 1048576 := by have := HT.out; omega
    have v1 : p + 1 ≤ 1048576 := by omega
    have v2 : p + 1 + 1 ≤ 1048576 := by omega
    have l4 : ([3, 0, 1, 2] : List Int).length = 4 := rfl
    have fbg := st1.far
    clear x0 x2 f0 f1 f2 y0 y1 y2 i0 i1 i2
    go_wp2_with fail
    go_region_held3 (fun w' => w'.cell? ⟨bo, 1, none⟩ = some (.slice (some ⟨g, 0, none⟩) n5 c5))
      ((with_reducible (first | exact x1 | exact cellD x1 | exact cellA x1 _ | exact cellD (cellA x1 _) | exact cellA (cellD x1) _ | exact y1 | exact cellA y1 _ | exact cellSw z1' fbg | exact z1')))
      (first
        | (go_at_call 96; (with_reducible refine (pick_any _ B rb A nb c (p + 1) st1.rd.drew (n5 : Int) u1 u2 v1).mono ?_); rintro e w5 ⟨xv, rfl, hxv, hR5, hO5⟩; have hxn : xv < cc.length := (by have := HT.out; omega); have st2 := st1.drew.pick hR5 hO5; obtain ⟨y0, y1, y2, _⟩ := st2.blk.cells)
        | (go_at_call 96; (with_reducible refine (pick_any _ B rb A nb c (p + 1) (st1.rd.alloc (.cells #[.int .i64 3, .int .i64 0, .int .i64 1, .int .i64 2] 3)).drew (n5 : Int) u1 u2 v1).mono ?_); rintro e w5 ⟨xv, rfl, hxv, hR5, hO5⟩; have hxn : xv < cc.length := (by have := HT.out; omega); have hlit := Row.kept (row := some rb) (lit4G w4 3 0 1 2).drew hO5.1 (.inr (lit_ne hrb4)); have st2 := (st1.alloc (.cells #[.int .i64 3, .int .i64 0, .int .i64 1, .int .i64 2] 3)).drew.pick hR5 hO5; obtain ⟨y0, y1, y2, _⟩ := st2.blk.cells)
        | (go_at_call 75; (with_reducible refine (num_any _ B rb A nb c (p + 1 + 1) hR5 v2 w4.heap.size 4 4 [3, 0, 1, 2] 0 hlit l4 (by decide) (by decide) (Nat.ne_of_gt hrb4)).mono ?_); rintro e w6 ⟨yv, _, rfl, hR6, hO6⟩; have st3 := st2.pick hR6 hO6; obtain ⟨g', _, e', hg1, hg2, _, hc6, hf6⟩ := st3.row.get (k := xv) hxn; cases e'; obtain ⟨z0', z1', z2', _⟩ := st3.blk.cells)
        | (go_at_call 75; (with_reducible refine (num_any _ B rb A nb c (p + 1 + 1) (hR5.alloc (.cells #[.int .i64 3, .int .i64 0, .int .i64 1, .int .i64 2] 3)) v2 w5.heap.size 4 4 [3, 0, 1, 2] 0 (lit4G w5 3 0 1 2) l4 (by decide) (by decide) (Nat.ne_of_gt hR5.lt)).mono ?_); rintro e w6 ⟨yv, _, rfl, hR6, hO6⟩; have st3 := (st2.alloc (.cells #[.int .i64 3, .int .i64 0, .int .i64 1, .int .i64 2] 3)).pick hR6 hO6; obtain ⟨g', _, e', hg1, hg2, _, hc6, hf6⟩ := st3.row.get (k := xv) hxn; cases e'; obtain ⟨z0', z1', z2', _⟩ := st3.blk.cells))
    all_goals
      have st4 := st3.setC xv yv
      have dn := st4.done
      obtain ⟨x0, x1, x2, _⟩ := st4.blk.cells
      obtain ⟨s0, s1, s2, h0, h1, h2⟩ := st4.res.cells
      clear st4 st3 st2 st1 hR5 hO5 hR6 hO6 y0 y1 y2 z0' z1' z2' hc6 hf6
      go_wp2_with fail
      refine bodyPost_ret (v := .agg #[.int .i64 P, .slice (some ⟨g, 0, none⟩) n5 c5, .int .i64 a]) ?_ rfl ⟨_, ⟨P, cc.set xv yv, a⟩, p + 1 + 1 + 1, rfl, (dn _ _ _).1, by simp, (dn _ _ _).2.1, by omega, (dn _ _ _).2.2⟩
      simp [results, Try.results74, go_sem, s0, s1, s2]
end Go.Proofs.Ytdakmbheokcpdaa

/- spec.l6Case and the draws of chapter 6. -/
namespace Go.Proofs.Ytdakmbheokcpdaa
open Go.RowKit

/-- A store, a collector; nothing that was there has turned. -/
def DrawnSG (w : World) (e : Ending) (w' : World) : Prop := ∃ vs vg C G, e = .returned (.tuple #[vs, vg]) ∧ CGv w' w.heap.size vs vg C G ∧ stoB C = true ∧ G.c.length = C.h.l.length ∧ Below w.heap.size w w'
/-- .. and a number. -/
def DrawnSGI (w : World) (e : Ending) (w' : World) : Prop := ∃ vs vg C G x, e = .returned (.tuple #[vs, vg, .int .i64 x]) ∧ CGv w' w.heap.size vs vg C G ∧ stoB C = true ∧ G.c.length = C.h.l.length ∧ Below w.heap.size w w'
theorem CGv.mkR {w w' : World} {lo rb : Nat} {vs vg : Value} {C : Cp} {G : Gp} (h : Cv w lo vs C) (g : Gv w' w.heap.size vg G) (hl : lo ≤ w.heap.size) (hg : w.grownBy w' (some rb)) (hr : rb < lo) : CGv w' lo vs vg C G := by
  obtain ⟨r, rfl, hr'⟩ := g
  have h' := h
  obtain ⟨v0, v1, v2, v3, rfl, ⟨_, _, _, e, r0, r1, r2, _⟩, r3, _⟩ := h'
  cases e
  have ap : ∀ (v : Value) (xs : List Int), Row w lo v xs → Apart v r := fun v xs rv j e e' => by
    have h1 := (rv.lt j e).2
    have h2 := (hr'.lt j e').1
    omega
  exact ⟨v0, v1, v2, v3, r, rfl, rfl, h.kept_low hg hr, hr'.mono hl, ap _ _ r0, ap _ _ r1, ap _ _ r2, ap _ _ r3⟩
/-- The state of a drawn case: the two variables, the reader, the two results. -/
structure KSt (w wr : World) (B rb bs : Nat) (A : Option Addr) (nb c p : Nat) (v0 v1 v2 v3 r : Value) (C : Cp) (G : Gp) : Prop where
  res : Blk4 wr w.heap.size (.slice none 0 0) (.slice none 0 0) (.slice none 0 0) (.slice none 0 0) 27
  reg : Blk3 wr (w.heap.size + 1) (.int .i64 0) (.slice none 0 0) (.int .i64 0) 29
  blk : Blk4 wr bs v0 v1 v2 v3 27
  gbk : Blk3 wr (bs + 1) (.int .i64 G.p) r (.int .i64 G.a) 29
  cg : CGv wr (rb + 1) (.agg #[v0, v1, v2, v3]) (.agg #[.int .i64 G.p, r, .int .i64 G.a]) C G
  rd : Rd wr B rb A nb c p
  bw : Below w.heap.size w wr
  rsb : w.heap.size + 1 < rb
  rbs : rb < bs
section
variable {w wr : World} {B rb bs : Nat} {A : Option Addr} {nb c p : Nat} {v0 v1 v2 v3 r : Value} {C : Cp} {G : Gp}
theorem KSt.pick (h : KSt w wr B rb bs A nb c p v0 v1 v2 v3 r C G) {w1 : World} {p' : Nat} (hR : Rd w1 B rb A nb c p') (hO : wr.grownBy w1 (some rb)) : KSt w w1 B rb bs A nb c p' v0 v1 v2 v3 r C G := by
  have h1 := h.rsb
  have h2 := h.rbs
  have h3 := h.bw.size
  exact ⟨h.res.kept hO (by omega), h.reg.kept hO (by omega), h.blk.kept hO (by omega), h.gbk.kept hO (by omega), h.cg.kept_low hO (by omega), hR, h.bw.trans (below_row hO (by omega) h3), h1, h2⟩
theorem KSt.alloc (h : KSt w wr B rb bs A nb c p v0 v1 v2 v3 r C G) (o : Obj) : KSt w (wr.alloc o) B rb bs A nb c p v0 v1 v2 v3 r C G :=
  ⟨h.res.alloc o, h.reg.alloc o, h.blk.alloc o, h.gbk.alloc o, h.cg.alloc o, h.rd.alloc o, h.bw.alloc h.bw.size o, h.rsb, h.rbs⟩
theorem KSt.drew (h : KSt w wr B rb bs A nb c p v0 v1 v2 v3 r C G) : KSt w wr.drew B rb bs A nb c p v0 v1 v2 v3 r C G := ⟨h.res, h.reg, h.blk, h.gbk, h.cg, h.rd, h.bw.drew, h.rsb, h.rbs⟩
theorem KSt.sz (h : KSt w wr B rb bs A nb c p v0 v1 v2 v3 r C G) : rb < wr.heap.size := h.rd.lt
end
/-- What is left at a return. -/
def PostK (w : World) (w' : World) : Prop := ∃ k0 k1 k2 k3 r C G, Blk4 w' w.heap.size k0 k1 k2 k3 27 ∧ Blk3 w' (w.heap.size + 1) (.int .i64 G.p) r (.int .i64 G.a) 29 ∧ CGv w' w.heap.size (.agg #[k0, k1, k2, k3]) (.agg #[.int .i64 G.p, r, .int .i64 G.a]) C G ∧ stoB C = true ∧ G.c.length = C.h.l.length ∧ Below w.heap.size w w'
theorem PostK.drew {w w' : World} (h : PostK w w') : PostK w w'.drew := by
  obtain ⟨k0, k1, k2, k3, r, C, G, a, b, d, e, f, g⟩ := h
  exact ⟨k0, k1, k2, k3, r, C, G, a, b, d.drew, e, f, g.drew⟩
theorem PostK.of {w wr : World} {lo : Nat} {v0 v1 v2 v3 r : Value} {C : Cp} {x y : Int} {cc : List Int} (h1 : Blk4 wr w.heap.size (.slice none 0 0) (.slice none 0 0) (.slice none 0 0) (.slice none 0 0) 27) (h2 : Blk3 wr (w.heap.size + 1) (.int .i64 0) (.slice none 0 0) (.int .i64 0) 29) (hc : CGv wr lo (.agg #[v0, v1, v2, v3]) (.agg #[.int .i64 x, r, .int .i64 y]) C ⟨x, cc, y⟩) (hl : w.heap.size + 1 < lo) (hC : stoB C = true) (hn : cc.length = C.h.l.length) (hB : Below w.heap.size w wr) :
    PostK w (((((((wr.setCell ⟨w.heap.size, 0, none⟩ v0).setCell ⟨w.heap.size, 1, none⟩ v1).setCell ⟨w.heap.size, 2, none⟩ v2).setCell ⟨w.heap.size, 3, none⟩ v3).setCell ⟨w.heap.size + 1, 0, none⟩ (.int .i64 x)).setCell ⟨w.heap.size + 1, 1, none⟩ r).setCell ⟨w.heap.size + 1, 2, none⟩ (.int .i64 y)) := by
  have n1 : w.heap.size ≠ w.heap.size + 1 := by omega
  have l1 : w.heap.size < lo := by omega
  have l2 : w.heap.size + 1 < lo := by omega
  refine ⟨v0, v1, v2, v3, r, C, ⟨x, cc, y⟩, ?_, ?_, ?_, hC, hn, ?_⟩
  · exact ((((h1.set4G _ _ _ _).otherS n1 0 _).otherS n1 1 _).otherS n1 2 _)
  · exact Blk3.set3G ((((h2.otherS n1.symm 0 _).otherS n1.symm 1 _).otherS n1.symm 2 _).otherS n1.symm 3 _) _ _ _
  · exact (((((((hc.setS l1 0 _).setS l1 1 _).setS l1 2 _).setS l1 3 _).setS l2 0 _).setS l2 1 _).setS l2 2 _).mono (by omega)
  · exact ((((((hB.setCell (p := ⟨w.heap.size, 0, none⟩) (Nat.le_refl _) _).setCell (p := ⟨w.heap.size, 1, none⟩) (Nat.le_refl _) _).setCell (p := ⟨w.heap.size, 2, none⟩) (Nat.le_refl _) _).setCell (p := ⟨w.heap.size, 3, none⟩) (Nat.le_refl _) _).setCell (p := ⟨w.heap.size + 1, 0, none⟩) (Nat.le_succ _) _).setCell (p := ⟨w.heap.size + 1, 1, none⟩) (Nat.le_succ _) _).setCell (p := ⟨w.heap.size + 1, 2, none⟩) (Nat.le_succ _) _
theorem lit6G (w : World) (a b c d e f : Int) : Row (w.alloc (.cells #[.int .i64 a, .int .i64 b, .int .i64 c, .int .i64 d, .int .i64 e, .int .i64 f] 3)) 0 (.slice (some ⟨w.heap.size, 0, none⟩) 6 6) [a, b, c, d, e, f] := Row.lit_at rfl [a, b, c, d, e, f] (by simp)

set_option maxRecDepth 100000 in
set_option maxHeartbeats 6000000 in
theorem l6Case_any (w : World) (A : Option Addr) (n c : Nat) (h : Inp w A n c) : Calls Try.prog 38 #[.slice A n c] w (DrawnSGI w) := by
  have h0 := inp_alloc (inp_alloc h (.cells #[.slice none 0 0, .slice none 0 0, .slice none 0 0, .slice none 0 0] 27)) (.cells #[.int .i64 0, .slice none 0 0, .int .i64 0] 29)
  have Y0 := (Blk4.new w (.slice none 0 0) (.slice none 0 0) (.slice none 0 0) (.slice none 0 0) 27).alloc (.cells #[.int .i64 0, .slice none 0 0, .int .i64 0] 29)
  have U0 := Blk3.new_at (w := w.alloc (.cells #[.slice none 0 0, .slice none 0 0, .slice none 0 0, .slice none 0 0] 27)) (b := w.heap.size + 1) (by simp) (.int .i64 0) (.slice none 0 0) (.int .i64 0) 29
  have B0 : Below w.heap.size w ((w.alloc (.cells #[.slice none 0 0, .slice none 0 0, .slice none 0 0, .slice none 0 0] 27)).alloc (.cells #[.int .i64 0, .slice none 0 0, .int .i64 0] 29)) := BS_al (BS_al (Below.refl _ _) (Nat.le_refl _) _) (Nat.le_refl _) _
  have s0 : ((w.alloc (.cells #[.slice none 0 0, .slice none 0 0, .slice none 0 0, .slice none 0 0] 27)).alloc (.cells #[.int .i64 0, .slice none 0 0, .int .i64 0] 29)).heap.size = w.heap.size + 2 := by simp
  go_enter Try.func38, Try.ntmps38
  go_wp2_with fail
  generalize (w.alloc (.cells #[.slice none 0 0, .slice none 0 0, .slice none 0 0, .slice none 0 0] 27)).alloc (.cells #[.int .i64 0, .slice none 0 0, .int .i64 0] 29) = W at h0 Y0 U0 B0 s0 ⊢
  have sW1 : w.heap.size + 2 ≤ W.heap.size := by omega
  clear s0
  refine (l13Open_any _ _ _ _ h0).mono ?_; rintro e w1 ⟨rb, A9, n9, c9, rfl, hR1, hb1⟩
  have hB := hR1.2.2.1
  have z1 := hb1.size
  have hl1 := hR1.lt
  go_wp2_with fail
  refine (l6Draw_any _ _ _ _ _ _ _ hR1 (by omega)).mono ?_; rintro e w2 ⟨vs, vg, C, G, p1, rfl, CG, hI, hR2, hp2, hg2⟩
  have z2 := hg2.size
  obtain ⟨A0, n0, c0, A1, n1, c1, A2, n2, c2, A3, n3, c3, A4, n4, c4, P, cc, a, rfl, rfl, rfl, _⟩ := CG.open_
  obtain ⟨zc, ⟨z8, z9⟩, _, _, _⟩ := gcB_sizes hI.1
  have hC : stoB C = true := (gcB_iff.1 hI.1).1
  dsimp only at zc CG
  have st : KSt w ((w2.alloc (.cells #[.slice A0 n0 c0, .slice A1 n1 c1, .slice A2 n2 c2, .slice A3 n3 c3] 27)).alloc (.cells #[.int .i64 P, .slice A4 n4 c4, .int .i64 a] 29)) W.heap.size rb w2.heap.size A9 n9 c9 p1 (.slice A0 n0 c0) (.slice A1 n1 c1) (.slice A2 n2 c2) (.slice A3 n3 c3) (.slice A4 n4 c4) C ⟨P, cc, a⟩ := {
    res := ((((Y0.below hb1).kept hg2 (by omega)).alloc _).alloc _)
    reg := ((((U0.below hb1).kept hg2 (by omega)).alloc _).alloc _)
    blk := (Blk4.new w2 _ _ _ _ _).alloc _
    gbk := Blk3.new_at (w := w2.alloc (.cells #[.slice A0 n0 c0, .slice A1 n1 c1, .slice A2 n2 c2, .slice A3 n3 c3] 27)) (by simp) _ _ _ _
    cg := ((CG.mono (by omega)).alloc _).alloc _
    rd := (hR2.alloc _).alloc _
    bw := BS_al (BS_al ((B0.trans (hb1.mono (by omega))).trans (below_row hg2 (by omega) (by omega))) (Nat.le_refl _) _) (Nat.le_refl _) _
    rsb := by omega
    rbs := by omega }
  have hp9 : p1 ≤ 1000 := by omega
  have m1 : 1 ≤ cc.length := by omega
  have m8 : cc.length ≤ 8 := by omega
  have hzc := Lib.hid zc
  clear CG hI hR1 hR2 hg2 hb1 B0 Y0 U0 h0 h zc
  go_wp2_with fail
  generalize hW2 : (w2.alloc (.cells #[.slice A0 n0 c0, .slice A1 n1 c1, .slice A2 n2 c2, .slice A3 n3 c3] 27)).alloc (.cells #[.int .i64 P, .slice A4 n4 c4, .int .i64 a] 29) = W2 at st
  have lsz := st.sz
  generalize w2.heap.size = bs at st ⊢
  have X1 := st.blk
  have Y1 : Blk3 W2 (bs + 1) (.int .i64 P) (.slice A4 n4 c4) (.int .i64 a) 29 := st.gbk
  try rw [hW2]
  obtain ⟨r0, r1, r2, r3, r4, r5, r6, r7⟩ := st.res.cells
  obtain ⟨s0, s1, s2, s3, s4, s5⟩ := st.reg.cells
  have nn1 := st.rsb
  have nn2 := st.rbs
  have d1 : bs ≠ w.heap.size := by omega
  have d2 : bs ≠ w.heap.size + 1 := by omega
  have d3 : bs + 1 ≠ w.heap.size := by omega
  have d4 : bs + 1 ≠ w.heap.size + 1 := by omega
  have d5 : bs ≠ rb := by omega
  have d6 : bs + 1 ≠ rb := by omega
  have e1 : w.heap.size ≠ rb := by omega
  have e2 : w.heap.size + 1 ≠ rb := by omega
  have SO : ∀ w' : World, Blk4 w' bs (.slice A0 n0 c0) (.slice A1 n1 c1) (.slice A2 n2 c2) (.slice A3 n3 c3) 27 → Blk3 w' (bs + 1) (.int .i64 P) (.slice A4 n4 c4) (.int .i64 a) 29 → w'.cell? ⟨bs, 0, none⟩ = some (.slice A0 n0 c0) ∧ w'.cell? ⟨bs, 1, none⟩ = some (.slice A1 n1 c1) ∧ w'.cell? ⟨bs, 2, none⟩ = some (.slice A2 n2 c2) ∧ w'.cell? ⟨bs, 3, none⟩ = some (.slice A3 n3 c3) ∧ w'.cell? ⟨bs + 1, 0, none⟩ = some (.int .i64 P) ∧ w'.cell? ⟨bs + 1, 1, none⟩ = some (.slice A4 n4 c4) ∧ w'.cell? ⟨bs + 1, 2, none⟩ = some (.int .i64 a) := fun w' hX hY => ⟨hX.cells.1, hX.cells.2.1, hX.cells.2.2.1, hX.cells.2.2.2.1, hY.cells.1, hY.cells.2.1, hY.cells.2.2.1⟩
  go_cut [4] from 5 (fun q w' => ∃ x : Int, q = .int .i64 x ∧ PostK w w')
  case first =>
    have stA := st.drew
    have stB := (st.alloc (.cells #[.int .i64 0, .int .i64 1, .int .i64 2, .int .i64 3, .int .i64 8, .int .i64 (-1)] 3)).drew
    go_region_held3 (fun w' => w'.cell? ⟨bs, 0, none⟩ = some (.slice A0 n0 c0) ∧ w'.cell? ⟨bs, 1, none⟩ = some (.slice A1 n1 c1) ∧ w'.cell? ⟨bs, 2, none⟩ = some (.slice A2 n2 c2) ∧ w'.cell? ⟨bs, 3, none⟩ = some (.slice A3 n3 c3) ∧ w'.cell? ⟨bs + 1, 0, none⟩ = some (.int .i64 P) ∧ w'.cell? ⟨bs + 1, 1, none⟩ = some (.slice A4 n4 c4) ∧ w'.cell? ⟨bs + 1, 2, none⟩ = some (.int .i64 a))
      (((try dsimp only); (refine SO _ ?_ ?_); (· repeat (with_reducible (first | exact X5 | exact X3 | exact X1 | refine Blk4.drewS ?_ | refine Blk4.alloc ?_ _ | refine Blk4.otherS ?_ d1 _ _ | refine Blk4.otherS ?_ d2 _ _))); (· repeat (with_reducible (first | exact Y5 | exact Y3 | exact Y1 | refine Blk3.drewS ?_ | refine Blk3.alloc ?_ _ | refine Blk3.otherS ?_ d3 _ _ | refine Blk3.otherS ?_ d4 _ _)))))
      (first
        | (go_at_call 74; (with_reducible refine (l6Wrong_any _ W.heap.size rb A9 n9 c9 p1 stA.rd (by omega) _ _ ⟨P, cc, a⟩ stA.cg.gv m1 m8).mono ?_); rintro e w3 ⟨vg3, ⟨P3, k3, a3⟩, p3, rfl, hG3, hm3, hR3, hp3, hg3⟩; (dsimp only at hG3 hm3); have st3 := stA.pick hR3 hg3; have CG3 := CGv.mkR stA.cg.cv hG3 (by have := stA.sz; omega) hg3 (Nat.lt_succ_self _); obtain ⟨D3, i3, f3, rfl, _⟩ := hG3.open_; have X3 := st3.blk; have Y3 : Blk3 w3 (bs + 1) (.int .i64 P) (.slice A4 n4 c4) (.int .i64 a) 29 := st3.gbk; have lz3 := st3.sz)
        | (go_at_call 74; (with_reducible refine (l6Wrong_any _ W.heap.size rb A9 n9 c9 p1 stB.rd (by omega) _ _ ⟨P, cc, a⟩ stB.cg.gv m1 m8).mono ?_); rintro e w3 ⟨vg3, ⟨P3, k3, a3⟩, p3, rfl, hG3, hm3, hR3, hp3, hg3⟩; (dsimp only at hG3 hm3); have st3 := stB.pick hR3 hg3; have CG3 := CGv.mkR stB.cg.cv hG3 (by have := stB.sz; omega) hg3 (Nat.lt_succ_self _); obtain ⟨D3, i3, f3, rfl, _⟩ := hG3.open_; have X3 := st3.blk; have Y3 : Blk3 w3 (bs + 1) (.int .i64 P) (.slice A4 n4 c4) (.int .i64 a) 29 := st3.gbk; have lz3 := st3.sz; have hlit := Row.kept (row := some rb) (Row.drewS (lit6G W2 0 1 2 3 8 (-1))) hg3 (.inr (lit_ne lsz)))
        | (go_at_call 75; (with_reducible refine (num_any _ W.heap.size rb A9 n9 c9 p3 hR3 (by omega) W2.heap.size 6 6 [0, 1, 2, 3, 8, -1] 0 hlit rfl (by decide) (by decide) (Nat.ne_of_gt lsz)).mono ?_); rintro e w5 ⟨x, _, rfl, hR5, hO5⟩; have st5 := st3.pick hR5 hO5.1; have CG5 := CG3.kept_low hO5.1 (Nat.lt_succ_self _); have X5 := st5.blk; have Y5 : Blk3 w5 (bs + 1) (.int .i64 P) (.slice A4 n4 c4) (.int .i64 a) 29 := st5.gbk; obtain ⟨t0_, t1_, t2_, t3_, t4_, t5_, t6_, t7_⟩ := st5.res.cells; obtain ⟨q0_, q1_, q2_, q3_, q4_, q5_⟩ := st5.reg.cells; clear hlit)
        | (go_at_call 75; (with_reducible refine (num_any _ W.heap.size rb A9 n9 c9 p3 (hR3.alloc (.cells #[.int .i64 0, .int .i64 1, .int .i64 2, .int .i64 3, .int .i64 8, .int .i64 (-1)] 3)) (by omega) w3.heap.size 6 6 [0, 1, 2, 3, 8, -1] 0 (lit6G w3 0 1 2 3 8 (-1)) rfl (by decide) (by decide) (Nat.ne_of_gt lz3)).mono ?_); rintro e w5 ⟨x, _, rfl, hR5, hO5⟩; have st5 := (st3.alloc (.cells #[.int .i64 0, .int .i64 1, .int .i64 2, .int .i64 3, .int .i64 8, .int .i64 (-1)] 3)).pick hR5 hO5.1; have CG5 := (CG3.alloc (.cells #[.int .i64 0, .int .i64 1, .int .i64 2, .int .i64 3, .int .i64 8, .int .i64 (-1)] 3)).kept_low hO5.1 (Nat.lt_succ_self _); have X5 := st5.blk; have Y5 : Blk3 w5 (bs + 1) (.int .i64 P) (.slice A4 n4 c4) (.int .i64 a) 29 := st5.gbk; obtain ⟨t0_, t1_, t2_, t3_, t4_, t5_, t6_, t7_⟩ := st5.res.cells; obtain ⟨q0_, q1_, q2_, q3_, q4_, q5_⟩ := st5.reg.cells))
    all_goals
      (try rename_i hHeld); (try clear hHeld)
      go_wp2_with fail
      go_meet
      case rel => exact ⟨_, rfl, PostK.of st5.res st5.reg CG5 (by omega) hC (hm3.trans hzc.out) st5.bw⟩
  case rest =>
    obtain ⟨x, rfl, k0, k1, k2, k3, r, C2, G2, hZ, hU, hCG, hC2, hn2, hBw⟩ := hcut
    obtain ⟨z0, z1', z2', z3, _⟩ := hZ.cells
    obtain ⟨q0, q1, q2, _⟩ := hU.cells
    clear r0 r1 r2 r3 r4 r5 r6 r7 s0 s1 s2 s3 s4 s5 st X1 Y1
    go_wp2_with fail
    refine bodyPost_ret (v := .tuple #[.agg #[k0, k1, k2, k3], .agg #[.int .i64 G2.p, r, .int .i64 G2.a], .int .i64 x]) ?_ rfl ⟨_, _, C2, G2, x, rfl, hCG, hC2, hn2, hBw⟩
    simp [results, Try.results38, go_sem, z0, z1', z2', z3, q0, q1, q2]

set_option maxRecDepth 100000 in
set_option maxHeartbeats 4000000 in
theorem drawStepGc_any (w : World) (A : Option Addr) (n c : Nat) (h : Inp w A n c) : Calls Try.prog 9 #[.slice A n c] w (DrawnSG w) := by
  have h0 := inp_alloc (inp_alloc h (.cells #[.slice none 0 0, .slice none 0 0, .slice none 0 0, .slice none 0 0] 27)) (.cells #[.int .i64 0, .slice none 0 0, .int .i64 0] 29)
  have Y0 := (Blk4.new w (.slice none 0 0) (.slice none 0 0) (.slice none 0 0) (.slice none 0 0) 27).alloc (.cells #[.int .i64 0, .slice none 0 0, .int .i64 0] 29)
  have U0 := Blk3.new_at (w := w.alloc (.cells #[.slice none 0 0, .slice none 0 0, .slice none 0 0, .slice none 0 0] 27)) (b := w.heap.size + 1) (by simp) (.int .i64 0) (.slice none 0 0) (.int .i64 0) 29
  have B0 : Below w.heap.size w ((w.alloc (.cells #[.slice none 0 0, .slice none 0 0, .slice none 0 0, .slice none 0 0] 27)).alloc (.cells #[.int .i64 0, .slice none 0 0, .int .i64 0] 29)) := BS_al (BS_al (Below.refl _ _) (Nat.le_refl _) _) (Nat.le_refl _) _
  have s0 : ((w.alloc (.cells #[.slice none 0 0, .slice none 0 0, .slice none 0 0, .slice none 0 0] 27)).alloc (.cells #[.int .i64 0, .slice none 0 0, .int .i64 0] 29)).heap.size = w.heap.size + 2 := by simp
  go_enter Try.func9, Try.ntmps9
  go_wp2_with fail
  generalize (w.alloc (.cells #[.slice none 0 0, .slice none 0 0, .slice none 0 0, .slice none 0 0] 27)).alloc (.cells #[.int .i64 0, .slice none 0 0, .int .i64 0] 29) = W at h0 Y0 U0 B0 s0 ⊢
  have sW1 : w.heap.size + 2 ≤ W.heap.size := by omega
  clear s0
  refine (l6Case_any _ _ _ _ h0).mono ?_; rintro e w1 ⟨vs, vg, C, G, x, rfl, CG, hC, hn, hb1⟩
  have z1 := hb1.size
  obtain ⟨A0, n0, c0, A1, n1, c1, A2, n2, c2, A3, n3, c3, A4, n4, c4, P, cc, a, rfl, rfl, rfl, _⟩ := CG.open_
  have R1 := ((Y0.below hb1).alloc (.cells #[.slice A0 n0 c0, .slice A1 n1 c1, .slice A2 n2 c2, .slice A3 n3 c3] 27)).alloc (.cells #[.int .i64 P, .slice A4 n4 c4, .int .i64 a] 29)
  have R2 := ((U0.below hb1).alloc (.cells #[.slice A0 n0 c0, .slice A1 n1 c1, .slice A2 n2 c2, .slice A3 n3 c3] 27)).alloc (.cells #[.int .i64 P, .slice A4 n4 c4, .int .i64 a] 29)
  have X1 := (Blk4.new w1 (.slice A0 n0 c0) (.slice A1 n1 c1) (.slice A2 n2 c2) (.slice A3 n3 c3) 27).alloc (.cells #[.int .i64 P, .slice A4 n4 c4, .int .i64 a] 29)
  have Y1 := Blk3.new_at (w := w1.alloc (.cells #[.slice A0 n0 c0, .slice A1 n1 c1, .slice A2 n2 c2, .slice A3 n3 c3] 27)) (b := w1.heap.size + 1) (by simp) (.int .i64 P) (.slice A4 n4 c4) (.int .i64 a) 29
  have CG1 := (CG.alloc (.cells #[.slice A0 n0 c0, .slice A1 n1 c1, .slice A2 n2 c2, .slice A3 n3 c3] 27)).alloc (.cells #[.int .i64 P, .slice A4 n4 c4, .int .i64 a] 29)
  have B1 := BS_al (BS_al (B0.trans (hb1.mono (by omega))) (Nat.le_refl _) (.cells #[.slice A0 n0 c0, .slice A1 n1 c1, .slice A2 n2 c2, .slice A3 n3 c3] 27)) (Nat.le_refl _) (.cells #[.int .i64 P, .slice A4 n4 c4, .int .i64 a] 29)
  have d1 : w1.heap.size ≠ w.heap.size := by omega
  have d2 : w1.heap.size ≠ w.heap.size + 1 := by omega
  have d3 : w1.heap.size + 1 ≠ w.heap.size := by omega
  have d4 : w1.heap.size + 1 ≠ w.heap.size + 1 := by omega
  have hl : w.heap.size + 1 < W.heap.size := by omega
  generalize hW2 : (w1.alloc (.cells #[.slice A0 n0 c0, .slice A1 n1 c1, .slice A2 n2 c2, .slice A3 n3 c3] 27)).alloc (.cells #[.int .i64 P, .slice A4 n4 c4, .int .i64 a] 29) = W2 at R1 R2 X1 Y1 CG1 B1
  clear CG h h0 Y0 U0 B0 hb1
  go_wp2_with fail
  try rw [hW2]
  obtain ⟨r0, r1, r2, r3, r4, r5, r6, r7⟩ := R1.cells
  obtain ⟨s0, s1, s2, s3, s4, s5⟩ := R2.cells
  generalize w1.heap.size = bs at X1 Y1 d1 d2 d3 d4 z1 ⊢
  have SO : ∀ w' : World, Blk4 w' bs (.slice A0 n0 c0) (.slice A1 n1 c1) (.slice A2 n2 c2) (.slice A3 n3 c3) 27 → Blk3 w' (bs + 1) (.int .i64 P) (.slice A4 n4 c4) (.int .i64 a) 29 → w'.cell? ⟨bs, 0, none⟩ = some (.slice A0 n0 c0) ∧ w'.cell? ⟨bs, 1, none⟩ = some (.slice A1 n1 c1) ∧ w'.cell? ⟨bs, 2, none⟩ = some (.slice A2 n2 c2) ∧ w'.cell? ⟨bs, 3, none⟩ = some (.slice A3 n3 c3) ∧ w'.cell? ⟨bs + 1, 0, none⟩ = some (.int .i64 P) ∧ w'.cell? ⟨bs + 1, 1, none⟩ = some (.slice A4 n4 c4) ∧ w'.cell? ⟨bs + 1, 2, none⟩ = some (.int .i64 a) := fun w' hX hY => ⟨hX.cells.1, hX.cells.2.1, hX.cells.2.2.1, hX.cells.2.2.2.1, hY.cells.1, hY.cells.2.1, hY.cells.2.2.1⟩
  go_cut [] from 6 (fun w' => PostK w w')
  case first =>
    go_region_held3 (fun w' => w'.cell? ⟨bs, 0, none⟩ = some (.slice A0 n0 c0) ∧ w'.cell? ⟨bs, 1, none⟩ = some (.slice A1 n1 c1) ∧ w'.cell? ⟨bs, 2, none⟩ = some (.slice A2 n2 c2) ∧ w'.cell? ⟨bs, 3, none⟩ = some (.slice A3 n3 c3) ∧ w'.cell? ⟨bs + 1, 0, none⟩ = some (.int .i64 P) ∧ w'.cell? ⟨bs + 1, 1, none⟩ = some (.slice A4 n4 c4) ∧ w'.cell? ⟨bs + 1, 2, none⟩ = some (.int .i64 a))
      (((try dsimp only); (refine SO _ ?_ ?_); (· repeat (with_reducible (first | exact X1 | refine Blk4.drewS ?_ | refine Blk4.alloc ?_ _ | refine Blk4.otherS ?_ d1 _ _ | refine Blk4.otherS ?_ d2 _ _))); (· repeat (with_reducible (first | exact Y1 | refine Blk3.drewS ?_ | refine Blk3.alloc ?_ _ | refine Blk3.otherS ?_ d3 _ _ | refine Blk3.otherS ?_ d4 _ _)))))
      (fail)
    all_goals
      (try rename_i hHeld); (try clear hHeld)
      go_wp2_with fail
      go_meet
      case rel => exact PostK.drew (PostK.of R1 R2 CG1 hl hC hn B1)
  case rest =>
    obtain ⟨k0, k1, k2, k3, r, C2, G2, hZ, hU, hCG, hC2, hn2, hBw⟩ := hcut
    obtain ⟨z0, z1', z2', z3, _⟩ := hZ.cells
    obtain ⟨q0, q1, q2, _⟩ := hU.cells
    clear r0 r1 r2 r3 r4 r5 r6 r7 s0 s1 s2 s3 s4 s5 X1 Y1 R1 R2 CG1 B1 hW2
    go_wp2_with fail
    refine bodyPost_ret (v := .tuple #[.agg #[k0, k1, k2, k3], .agg #[.int .i64 G2.p, r, .int .i64 G2.a]]) ?_ rfl ⟨_, _, C2, G2, rfl, hCG, hC2, hn2, hBw⟩
    simp [results, Try.results9, go_sem, z0, z1', z2', z3, q0, q1, q2]

set_option maxRecDepth 100000 in
set_option maxHeartbeats 4000000 in
theorem drawColorNew_any (w : World) (A : Option Addr) (n c : Nat) (h : Inp w A n c) : Calls Try.prog 19 #[.slice A n c] w (DrawnSGI w) := by
  have h0 := inp_alloc (inp_alloc h (.cells #[.slice none 0 0, .slice none 0 0, .slice none 0 0, .slice none 0 0] 27)) (.cells #[.int .i64 0, .slice none 0 0, .int .i64 0] 29)
  have Y0 := (Blk4.new w (.slice none 0 0) (.slice none 0 0) (.slice none 0 0) (.slice none 0 0) 27).alloc (.cells #[.int .i64 0, .slice none 0 0, .int .i64 0] 29)
  have U0 := Blk3.new_at (w := w.alloc (.cells #[.slice none 0 0, .slice none 0 0, .slice none 0 0, .slice none 0 0] 27)) (b := w.heap.size + 1) (by simp) (.int .i64 0) (.slice none 0 0) (.int .i64 0) 29
  have B0 : Below w.heap.size w ((w.alloc (.cells #[.slice none 0 0, .slice none 0 0, .slice none 0 0, .slice none 0 0] 27)).alloc (.cells #[.int .i64 0, .slice none 0 0, .int .i64 0] 29)) := BS_al (BS_al (Below.refl _ _) (Nat.le_refl _) _) (Nat.le_refl _) _
  have s0 : ((w.alloc (.cells #[.slice none 0 0, .slice none 0 0, .slice none 0 0, .slice none 0 0] 27)).alloc (.cells #[.int .i64 0, .slice none 0 0, .int .i64 0] 29)).heap.size = w.heap.size + 2 := by simp
  go_enter Try.func19, Try.ntmps19
  go_wp2_with fail
  generalize (w.alloc (.cells #[.slice none 0 0, .slice none 0 0, .slice none 0 0, .slice none 0 0] 27)).alloc (.cells #[.int .i64 0, .slice none 0 0, .int .i64 0] 29) = W at h0 Y0 U0 B0 s0 ⊢
  have sW1 : w.heap.size + 2 ≤ W.heap.size := by omega
  clear s0
  refine (l6Case_any _ _ _ _ h0).mono ?_; rintro e w1 ⟨vs, vg, C, G, x, rfl, CG, hC, hn, hb1⟩
  have z1 := hb1.size
  obtain ⟨A0, n0, c0, A1, n1, c1, A2, n2, c2, A3, n3, c3, A4, n4, c4, P, cc, a, rfl, rfl, rfl, _⟩ := CG.open_
  have hl : w.heap.size + 1 < W.heap.size := by omega
  have PK := PostK.of (Y0.below hb1) (U0.below hb1) CG hl hC hn (B0.trans (hb1.mono (by omega)))
  obtain ⟨r0, r1, r2, r3, r4, r5, r6, r7⟩ := (Y0.below hb1).cells
  obtain ⟨s0, s1, s2, s3, s4, s5⟩ := (U0.below hb1).cells
  have hn1 : w.heap.size + 1 < w1.heap.size := by omega
  clear CG h h0 Y0 U0 B0 hb1
  go_wp2_with fail
  obtain ⟨k0, k1, k2, k3, r, C2, G2, hZ, hU, hCG, hC2, hn2, hBw⟩ := PK
  obtain ⟨z0, z1', z2', z3, _⟩ := hZ.cells
  obtain ⟨q0, q1, q2, _⟩ := hU.cells
  refine bodyPost_ret (v := .tuple #[.agg #[k0, k1, k2, k3], .agg #[.int .i64 G2.p, r, .int .i64 G2.a], .int .i64 x]) ?_ rfl ⟨_, _, C2, G2, x, rfl, hCG, hC2, hn2, hBw⟩
  simp [results, Try.results19, go_sem, z0, z1', z2', z3, q0, q1, q2]

set_option maxRecDepth 100000 in
set_option maxHeartbeats 4000000 in
theorem drawShadeGc_any (w : World) (A : Option Addr) (n c : Nat) (h : Inp w A n c) : Calls Try.prog 15 #[.slice A n c] w (DrawnSGI w) := by
  have h0 := inp_alloc (inp_alloc h (.cells #[.slice none 0 0, .slice none 0 0, .slice none 0 0, .slice none 0 0] 27)) (.cells #[.int .i64 0, .slice none 0 0, .int .i64 0] 29)
  have Y0 := (Blk4.new w (.slice none 0 0) (.slice none 0 0) (.slice none 0 0) (.slice none 0 0) 27).alloc (.cells #[.int .i64 0, .slice none 0 0, .int .i64 0] 29)
  have U0 := Blk3.new_at (w := w.alloc (.cells #[.slice none 0 0, .slice none 0 0, .slice none 0 0, .slice none 0 0] 27)) (b := w.heap.size + 1) (by simp) (.int .i64 0) (.slice none 0 0) (.int .i64 0) 29
  have B0 : Below w.heap.size w ((w.alloc (.cells #[.slice none 0 0, .slice none 0 0, .slice none 0 0, .slice none 0 0] 27)).alloc (.cells #[.int .i64 0, .slice none 0 0, .int .i64 0] 29)) := BS_al (BS_al (Below.refl _ _) (Nat.le_refl _) _) (Nat.le_refl _) _
  have s0 : ((w.alloc (.cells #[.slice none 0 0, .slice none 0 0, .slice none 0 0, .slice none 0 0] 27)).alloc (.cells #[.int .i64 0, .slice none 0 0, .int .i64 0] 29)).heap.size = w.heap.size + 2 := by simp
  go_enter Try.func15, Try.ntmps15
  go_wp2_with fail
  generalize (w.alloc (.cells #[.slice none 0 0, .slice none 0 0, .slice none 0 0, .slice none 0 0] 27)).alloc (.cells #[.int .i64 0, .slice none 0 0, .int .i64 0] 29) = W at h0 Y0 U0 B0 s0 ⊢
  have sW1 : w.heap.size + 2 ≤ W.heap.size := by omega
  clear s0
  refine (l6Case_any _ _ _ _ h0).mono ?_; rintro e w1 ⟨vs, vg, C, G, x, rfl, CG, hC, hn, hb1⟩
  have z1 := hb1.size
  obtain ⟨A0, n0, c0, A1, n1, c1, A2, n2, c2, A3, n3, c3, A4, n4, c4, P, cc, a, rfl, rfl, rfl, _⟩ := CG.open_
  have hl : w.heap.size + 1 < W.heap.size := by omega
  have PK := PostK.of (Y0.below hb1) (U0.below hb1) CG hl hC hn (B0.trans (hb1.mono (by omega)))
  obtain ⟨r0, r1, r2, r3, r4, r5, r6, r7⟩ := (Y0.below hb1).cells
  obtain ⟨s0, s1, s2, s3, s4, s5⟩ := (U0.below hb1).cells
  have hn1 : w.heap.size + 1 < w1.heap.size := by omega
  clear CG h h0 Y0 U0 B0 hb1
  go_wp2_with fail
  obtain ⟨k0, k1, k2, k3, r, C2, G2, hZ, hU, hCG, hC2, hn2, hBw⟩ := PK
  obtain ⟨z0, z1', z2', z3, _⟩ := hZ.cells
  obtain ⟨q0, q1, q2, _⟩ := hU.cells
  refine bodyPost_ret (v := .tuple #[.agg #[k0, k1, k2, k3], .agg #[.int .i64 G2.p, r, .int .i64 G2.a], .int .i64 x]) ?_ rfl ⟨_, _, C2, G2, x, rfl, hCG, hC2, hn2, hBw⟩
  simp [results, Try.results15, go_sem, z0, z1', z2', z3, q0, q1, q2]

end Go.Proofs.Ytdakmbheokcpdaa

