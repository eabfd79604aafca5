import Derived.Test.YteogflkahoanlaaCpyD
import Derived.Test.YteogflkahoanlaaDrawDs
import Derived.Test.YteogflkahoanlaaDrawss
import Derived.Test.YteogflkahoanlaaDraws
/- What spoils a counted store: its state. -/
namespace Go.Proofs.Yteogflkahoanlaa
open Go.RowKit

theorem Dv.cvn {w : World} {lo : Nat} {a b c d e : Value} {D : Dp} (h : Dv w lo (.agg #[a, b, c, d, e]) D) : Cv w lo (.agg #[a, b, c, d]) D.C ∧ Row w lo e D.n ∧ (Apart a e ∧ Apart b e ∧ Apart c e ∧ Apart d e) := by
  obtain ⟨_, _, _, _, _, e', h1, h2, h3⟩ := h
  cases e'
  exact ⟨h1, h2, h3⟩
/-- The state of a spoiling: a counted store in block bx, the reader, and nothing else has turned. -/
structure WSt (w wr : World) (B rb bx rs : Nat) (A : Option Addr) (nb c p : Nat) (v0 v1 v2 v3 v4 : Value) (D : Dp) : Prop where
  res : Blk5 wr rs (.slice none 0 0) (.slice none 0 0) (.slice none 0 0) (.slice none 0 0) (.slice none 0 0) 29
  blk : Blk5 wr bx v0 v1 v2 v3 v4 29
  dv : Dv wr (rs + 1) (.agg #[v0, v1, v2, v3, v4]) D
  far : v4.ownBlock ≠ some bx
  rd : Rd wr B rb A nb c p
  gr : w.grownBy wr (some rb)
  rbl : rb < rs
  rsw : w.heap.size ≤ rs
  rsb : rs < bx
section
variable {w wr : World} {B rb bx rs : Nat} {A : Option Addr} {nb c p : Nat} {v0 v1 v2 v3 v4 : Value} {D : Dp}
theorem WSt.pick (h : WSt w wr B rb bx rs A nb c p v0 v1 v2 v3 v4 D) {w1 : World} {p' : Nat} (hR : Rd w1 B rb A nb c p') (hO : Only rb wr w1) : WSt w w1 B rb bx rs A nb c p' v0 v1 v2 v3 v4 D :=
  ⟨h.res.kept hO.1 (by have := h.rbl; omega), h.blk.kept hO.1 (by have := h.rbl; have := h.rsb; omega), h.dv.kept_low hO.1 (by have := h.rbl; omega), h.far, hR, grown_trans h.gr hO.1, h.rbl, h.rsw, h.rsb⟩
theorem WSt.alloc (h : WSt w wr B rb bx rs A nb c p v0 v1 v2 v3 v4 D) (o : Obj) : WSt w (wr.alloc o) B rb bx rs A nb c p v0 v1 v2 v3 v4 D := ⟨h.res.alloc o, h.blk.alloc o, h.dv.alloc o, h.far, h.rd.alloc o, grown_alloc h.gr o, h.rbl, h.rsw, h.rsb⟩
theorem WSt.drew (h : WSt w wr B rb bx rs A nb c p v0 v1 v2 v3 v4 D) : WSt w wr.drew B rb bx rs A nb c p v0 v1 v2 v3 v4 D := ⟨h.res, h.blk, h.dv, h.far, h.rd, grown_drew h.gr, h.rbl, h.rsw, h.rsb⟩
theorem WSt.done (h : WSt w wr B rb bx rs A nb c p v0 v1 v2 v3 v4 D) : Dv (((((wr.setCell ⟨rs, 0, none⟩ v0).setCell ⟨rs, 1, none⟩ v1).setCell ⟨rs, 2, none⟩ v2).setCell ⟨rs, 3, none⟩ v3).setCell ⟨rs, 4, none⟩ v4) w.heap.size (.agg #[v0, v1, v2, v3, v4]) D ∧ Rd (((((wr.setCell ⟨rs, 0, none⟩ v0).setCell ⟨rs, 1, none⟩ v1).setCell ⟨rs, 2, none⟩ v2).setCell ⟨rs, 3, none⟩ v3).setCell ⟨rs, 4, none⟩ v4) B rb A nb c p ∧ w.grownBy (((((wr.setCell ⟨rs, 0, none⟩ v0).setCell ⟨rs, 1, none⟩ v1).setCell ⟨rs, 2, none⟩ v2).setCell ⟨rs, 3, none⟩ v3).setCell ⟨rs, 4, none⟩ v4) (some rb) := by
  have hr := h.rbl
  have hw := h.rsw
  have hB := h.rd.2.2.1
  have n2 : rb ≠ rs := by omega
  have n3 : B ≤ rs := by omega
  exact ⟨(h.dv.low5 (by omega) _ _ _ _ _).mono (by omega), (((((h.rd.other (a := ⟨rs, 0, none⟩) n2 n3 v0).other (a := ⟨rs, 1, none⟩) n2 n3 v1).other (a := ⟨rs, 2, none⟩) n2 n3 v2).other (a := ⟨rs, 3, none⟩) n2 n3 v3).other (a := ⟨rs, 4, none⟩) n2 n3 v4), (grown_set (p := ⟨rs, 4, none⟩) (grown_set (p := ⟨rs, 3, none⟩) (grown_set (p := ⟨rs, 2, none⟩) (grown_set (p := ⟨rs, 1, none⟩) (grown_set (p := ⟨rs, 0, none⟩) h.gr (.inr hw) v0) (.inr hw) v1) (.inr hw) v2) (.inr hw) v3) (.inr hw) v4)⟩
end
/-- A count is another one. -/
theorem WSt.count {w wr : World} {B rb bx rs : Nat} {A : Option Addr} {nb c p : Nat} {v0 v1 v2 v3 : Value} {g n cp : Nat} {D : Dp} (h : WSt w wr B rb bx rs A nb c p v0 v1 v2 v3 (.slice (some ⟨g, 0, none⟩) n cp) D) (k : Nat) (x : Int) :
    WSt w (wr.setCell ⟨g, k, none⟩ (.int .i64 x)) B rb bx rs A nb c p v0 v1 v2 v3 (.slice (some ⟨g, 0, none⟩) n cp) ⟨D.C, D.n.set k x⟩ := by
  have hr := h.rbl
  have hs := h.rsb
  have hw := h.rsw
  have hB := h.rd.2.2.1
  obtain ⟨hc, hn, a0, a1, a2, a3⟩ := h.dv.cvn
  have hg := (hn.lt g rfl).1
  have n0 : bx ≠ g := fun e => h.far (by rw [← e]; rfl)
  have n2 : rb ≠ g := by omega
  have n3 : B ≤ g := by omega
  exact ⟨h.res.other (p := ⟨g, k, none⟩) (by show rs ≠ g; omega) _, h.blk.other (p := ⟨g, k, none⟩) n0 _, ⟨_, _, _, _, _, rfl, hc.set_far (p := ⟨g, k, none⟩) ⟨fun e => a0 g e rfl, fun e => a1 g e rfl, fun e => a2 g e rfl, fun e => a3 g e rfl⟩ _, hn.set_ k x, a0, a1, a2, a3⟩, h.far,
    h.rd.other (a := ⟨g, k, none⟩) n2 n3 _, grown_set (p := ⟨g, k, none⟩) h.gr (.inr (by show _ ≤ g; omega)) _, h.rbl, h.rsw, h.rsb⟩
/-- The store is another one. -/
theorem WSt.store4 {w wr w5 : World} {B rb bx rs lo : Nat} {A : Option Addr} {nb c p p' : Nat} {v0 v1 v2 v3 v4 u0 u1 u2 u3 : Value} {D : Dp} {C : Cp} (h : WSt w wr B rb bx rs A nb c p v0 v1 v2 v3 v4 D) (hg : wr.grownBy w5 (some rb)) (hR : Rd w5 B rb A nb c p') (hc : Cv w5 lo (.agg #[u0, u1, u2, u3]) C) (hlo : wr.heap.size ≤ lo) :
    WSt w ((((w5.setCell ⟨bx, 0, none⟩ u0).setCell ⟨bx, 1, none⟩ u1).setCell ⟨bx, 2, none⟩ u2).setCell ⟨bx, 3, none⟩ u3) B rb bx rs A nb c p' u0 u1 u2 u3 v4 ⟨C, D.n⟩ := by
  have hr := h.rbl
  have hs := h.rsb
  have hw := h.rsw
  have hbl := h.blk.lt
  have hB := h.rd.2.2.1
  have n2 : rb ≠ bx := by omega
  have n3 : B ≤ bx := by omega
  have n1 : rs ≠ bx := by omega
  have hbx : bx < lo := by omega
  obtain ⟨-, hn, -⟩ := h.dv.cvn
  have hn5 := hn.kept hg (.inr fun e => by have := (hn.lt _ e).1; omega)
  have ap : ∀ (u : Value) (xs : List Int), Row w5 lo u xs → Apart u v4 := fun u xs r j e e' => by
    have h1 := (r.lt j e).1
    have h2 := (hn.lt j e').2
    omega
  obtain ⟨q0, q1, q2, q3⟩ := hc.rowsS
  exact ⟨(((((h.res.kept hg (by omega)).other (p := ⟨bx, 0, none⟩) n1 u0).other (p := ⟨bx, 1, none⟩) n1 u1).other (p := ⟨bx, 2, none⟩) n1 u2).other (p := ⟨bx, 3, none⟩) n1 u3), ((((h.blk.kept hg (by omega)).set0 u0).set1 u1).set2 u2).set3 u3, ⟨_, _, _, _, _, rfl, (((((hc.set_low (p := ⟨bx, 0, none⟩) hbx u0).set_low (p := ⟨bx, 1, none⟩) hbx u1).set_low (p := ⟨bx, 2, none⟩) hbx u2).set_low (p := ⟨bx, 3, none⟩) hbx u3)).mono (by omega), ((((hn5.other (a := ⟨bx, 0, none⟩) h.far u0).other (a := ⟨bx, 1, none⟩) h.far u1).other (a := ⟨bx, 2, none⟩) h.far u2).other (a := ⟨bx, 3, none⟩) h.far u3), ap _ _ q0, ap _ _ q1, ap _ _ q2, ap _ _ q3⟩, h.far,
    ((((hR.other (a := ⟨bx, 0, none⟩) n2 n3 u0).other (a := ⟨bx, 1, none⟩) n2 n3 u1).other (a := ⟨bx, 2, none⟩) n2 n3 u2).other (a := ⟨bx, 3, none⟩) n2 n3 u3), (grown_set (p := ⟨bx, 3, none⟩) (grown_set (p := ⟨bx, 2, none⟩) (grown_set (p := ⟨bx, 1, none⟩) (grown_set (p := ⟨bx, 0, none⟩) (grown_trans h.gr hg) (.inr (by show _ ≤ bx; omega)) u0) (.inr (by show _ ≤ bx; omega)) u1) (.inr (by show _ ≤ bx; omega)) u2) (.inr (by show _ ≤ bx; omega)) u3), hr, hw, hs⟩
def SzD (N : Nat) (D : Dp) : Prop := SzS N D.C ∧ 1 ≤ D.n.length ∧ D.n.length ≤ 8
theorem szD_valid {D : Dp} (h : dpB D = true) : SzD 8 D := by
  obtain ⟨h1, h2⟩ := dpB_iff.1 h
  have h3 := hvB_len (stoB_parts h1).1
  exact ⟨szS_valid h1, by rw [h2, cnts_len]; omega, by rw [h2, cnts_len]; omega⟩
def DrawnDW (N : Nat) (w : World) (B rb : Nat) (A : Option Addr) (nb c p : Nat) (e : Ending) (w' : World) : Prop :=
  ∃ v D p', e = .returned v ∧ Dv w' w.heap.size v D ∧ SzD N D ∧ Rd w' B rb A nb c p' ∧ p' ≤ p + 30 ∧ w.grownBy w' (some rb)
theorem lit4D (w : World) (a b c d : Int) : Row (w.alloc (.cells #[.int .i64 a, .int .i64 b, .int .i64 c, .int .i64 d] 3)) 0 (.slice (some ⟨w.heap.size, 0, none⟩) 4 4) [a, b, c, d] := Row.lit_at rfl [a, b, c, d] (by simp)
theorem len4D (a b c d : Int) : [a, b, c, d].length = 4 := rfl
set_option maxRecDepth 100000 in
set_option maxHeartbeats 3200000 in
theorem l9CopyG_any (w : World) (lo : Nat) (v : Value) (D : Dp) (hv : Dv w lo v D) (hS : SzH 20 D.C.h) (hq : D.C.c.length ≤ 1048576) (hlen : 1 ≤ D.n.length) (hn2 : D.n.length ≤ 1048576) : Calls Try.prog 49 #[v] w (NewDv w D) := by
  have hvo := hv
  obtain ⟨A0, n0, c0, A1, n1, c1, A2, n2, c2, A3, n3, c3, A4, n4, c4, rfl, hc, -, ⟨-, -, -, -, r4⟩, ⟨-, -, -, -, l4⟩, -⟩ := hvo.open_
  obtain ⟨g4, rfl, _, _⟩ := r4.at_ (k := 0) (by omega)
  have y4 : n4 = D.n.length := l4.out.symm
  obtain ⟨i0, hi, hz0, hz1, hz2⟩ := info_parts Try.infoInt
  have E4 : (D.n.map iv).length = n4 * 1 := by simp; omega
  have u4a : 0 < n4 := by omega
  have u4b : n4 ≤ 1048576 := by omega
  have M4 : 0 + n4 ≤ maxLen := by unfold maxLen; omega
  have L4 : Hid (0 + n4 = D.n.length) := by unfold Hid; omega
  have X := (Blk5.new w (.slice A0 n0 c0) (.slice A1 n1 c1) (.slice A2 n2 c2) (.slice A3 n3 c3) (.slice (some ⟨g4, 0, none⟩) n4 c4) 29).alloc (.cells #[.slice none 0 0, .slice none 0 0, .slice none 0 0, .slice none 0 0, .slice none 0 0] 29)
  have Y := Blk5.new_at (w := w.alloc (.cells #[.slice A0 n0 c0, .slice A1 n1 c1, .slice A2 n2 c2, .slice A3 n3 c3, .slice (some ⟨g4, 0, none⟩) n4 c4] 29)) (b := w.heap.size + 1) (by simp) (.slice none 0 0) (.slice none 0 0) (.slice none 0 0) (.slice none 0 0) (.slice none 0 0) 29
  have HC := (hc.alloc (.cells #[.slice A0 n0 c0, .slice A1 n1 c1, .slice A2 n2 c2, .slice A3 n3 c3, .slice (some ⟨g4, 0, none⟩) n4 c4] 29)).alloc (.cells #[.slice none 0 0, .slice none 0 0, .slice none 0 0, .slice none 0 0, .slice none 0 0] 29)
  have R4 := (r4.alloc (.cells #[.slice A0 n0 c0, .slice A1 n1 c1, .slice A2 n2 c2, .slice A3 n3 c3, .slice (some ⟨g4, 0, none⟩) n4 c4] 29)).alloc (.cells #[.slice none 0 0, .slice none 0 0, .slice none 0 0, .slice none 0 0, .slice none 0 0] 29)
  have BB : Below w.heap.size w ((w.alloc (.cells #[.slice A0 n0 c0, .slice A1 n1 c1, .slice A2 n2 c2, .slice A3 n3 c3, .slice (some ⟨g4, 0, none⟩) n4 c4] 29)).alloc (.cells #[.slice none 0 0, .slice none 0 0, .slice none 0 0, .slice none 0 0, .slice none 0 0] 29)) := ((Below.refl _ _).alloc (Nat.le_refl _) _).alloc (by simp) _
  have sz : w.heap.size + 2 ≤ ((w.alloc (.cells #[.slice A0 n0 c0, .slice A1 n1 c1, .slice A2 n2 c2, .slice A3 n3 c3, .slice (some ⟨g4, 0, none⟩) n4 c4] 29)).alloc (.cells #[.slice none 0 0, .slice none 0 0, .slice none 0 0, .slice none 0 0, .slice none 0 0] 29)).heap.size := by simp
  clear hv hvo hc r4 y4 hlen hn2
  generalize hW : ((w.alloc (.cells #[.slice A0 n0 c0, .slice A1 n1 c1, .slice A2 n2 c2, .slice A3 n3 c3, .slice (some ⟨g4, 0, none⟩) n4 c4] 29)).alloc (.cells #[.slice none 0 0, .slice none 0 0, .slice none 0 0, .slice none 0 0, .slice none 0 0] 29)) = W at X Y HC R4 BB sz
  obtain ⟨x0, x1, x2, x3, x4, -⟩ := X.cells
  have lX : w.heap.size < w.heap.size + 1 := by omega
  have sz1 : w.heap.size + 1 ≤ W.heap.size := by omega
  have SO : ∀ w' : World, Below (w.heap.size + 1) W w' → w'.cell? ⟨w.heap.size, 0, none⟩ = some (.slice A0 n0 c0) ∧ w'.cell? ⟨w.heap.size, 1, none⟩ = some (.slice A1 n1 c1) ∧ w'.cell? ⟨w.heap.size, 2, none⟩ = some (.slice A2 n2 c2) ∧ w'.cell? ⟨w.heap.size, 3, none⟩ = some (.slice A3 n3 c3) ∧ w'.cell? ⟨w.heap.size, 4, none⟩ = some (.slice (some ⟨g4, 0, none⟩) n4 c4) := fun w' hb => ⟨(X.far hb lX).cells.1, (X.far hb lX).cells.2.1, (X.far hb lX).cells.2.2.1, (X.far hb lX).cells.2.2.2.1, (X.far hb lX).cells.2.2.2.2.1⟩
  have sD : (W.alloc (.cells #[] 3)).drew.heap.size = W.heap.size + 1 := by show (W.alloc (.cells #[] 3)).heap.size = _; simp
  have CP0 := l4CopyG_any W.drew lo _ D.C HC.drew hS hq
  have CP1 := l4CopyG_any (W.alloc (.cells #[] 3)).drew lo _ D.C (HC.alloc _).drew hS hq
  go_enter Try.func49, Try.ntmps49
  go_wp2_with fail
  (try rw [hW])
  go_region_held3 (fun w' => w'.cell? ⟨w.heap.size, 0, none⟩ = some (.slice A0 n0 c0) ∧ w'.cell? ⟨w.heap.size, 1, none⟩ = some (.slice A1 n1 c1) ∧ w'.cell? ⟨w.heap.size, 2, none⟩ = some (.slice A2 n2 c2) ∧ w'.cell? ⟨w.heap.size, 3, none⟩ = some (.slice A3 n3 c3) ∧ w'.cell? ⟨w.heap.size, 4, none⟩ = some (.slice (some ⟨g4, 0, none⟩) n4 c4))
    (((try dsimp only); (refine SO _ ?_); (repeat (with_reducible (first | exact Below.refl _ _ | exact hS2 | exact hS1 | refine Below.drew ?_ | refine B5_lo ?_ _ _ | refine B5_alo ?_ sz1 _)))))
    (first
      | (go_at_call 61; (with_reducible refine CP0.mono ?_); rintro e w1 ⟨vv0, vv1, vv2, vg, vn, vc, rfl, HN, hb0⟩; have HN1 : Cv w1 W.heap.size (.agg #[vv0, vv1, vv2, .slice (some ⟨vg, 0, none⟩) vn vc]) D.C := HN; have hb1 : Below W.heap.size W w1 := B5_th (B5_dr (Below.refl _ _)) hb0; have hS1 : Below (w.heap.size + 1) W w1 := hb1.mono sz1; (have HNo := HN1); (obtain ⟨B0, u0, e0, B1, u1, e1, B2, u2, e2, B3, u3, e3, eX, -⟩ := HNo.open_; cases eX))
      | (go_at_call 61; (with_reducible refine CP1.mono ?_); rintro e w1 ⟨vv0, vv1, vv2, vg, vn, vc, rfl, HN, hb0⟩; have HN1 : Cv w1 W.heap.size (.agg #[vv0, vv1, vv2, .slice (some ⟨vg, 0, none⟩) vn vc]) D.C := HN.mono (by rw [sD]; omega); have hb1 : Below W.heap.size W w1 := B5_th (B5_dr (B5_al (Below.refl _ _) _)) hb0; have hS1 : Below (w.heap.size + 1) W w1 := hb1.mono sz1; (have HNo := HN1); (obtain ⟨B0, u0, e0, B1, u1, e1, B2, u2, e2, B3, u3, e3, eX, -⟩ := HNo.open_; cases eX))
      | (refine step_append_grows rfl (.tmp 6) (.tmp 8) 23 rfl 3 i0 (.int .i64 0) 1 8 Try.underlying23 hi hz0 hz1 hz2 rfl (by decide) _ 0 0 [] (by rfl) (fun _ => ⟨rfl, rfl⟩) rfl (fun _ _ j u hj => nil_get hj) ⟨g4, 0, none⟩ n4 c4 (D.n.map iv) (by rfl) E4 ?_ (ints_oneCell _ _) (by omega) (by omega) (by omega) ?_; (exact Row.cellsV (lo := lo) (n := n4) (c := c4) (xs := D.n) (by repeat (with_reducible (first | refine Row.drew ?_ | refine Row.alloc ?_ _ | refine Row.below ?_ hb1 | exact R4)))); intro vr w2 hown hgr; obtain ⟨A4', c4', rfl, hr, hb2⟩ := after_append (xs := D.n) hown hgr L4.out; have hB2 : Below W.heap.size W w2 := B5_th (by repeat (with_reducible (first | exact hb1 | refine B5_al ?_ _))) hb2; have hS2 : Below (w.heap.size + 1) W w2 := hB2.mono sz1; obtain ⟨q0, q1, q2, q3, q4, f0, f1, f2, f3, f4⟩ := (Y.far hB2 (by omega)).cells; have DD : Dv w2 W.heap.size (.agg #[.slice B0 u0 e0, .slice B1 u1 e1, .slice B2 u2 e2, .slice (some ⟨vg, 0, none⟩) vn vc, .slice A4' D.n.length c4']) ⟨D.C, D.n⟩ := Dv.mk (lo := W.heap.size) (by repeat (with_reducible (first | exact HN1 | refine Cv.alloc ?_ _))) hr (by first | exact hb1.size | (have := hb1.size; (try simp); omega)) hb2))
  all_goals
    rename_i hHeld
    clear hHeld
    obtain ⟨hZ, hB⟩ := dv_done (w := w) (b := w.heap.size + 1) DD (by omega) (by omega) (BB.trans (hB2.mono BB.size)) (.slice B0 u0 e0) (.slice B1 u1 e1) (.slice B2 u2 e2) (.slice (some ⟨vg, 0, none⟩) vn vc) (.slice A4' D.n.length c4')
    clear DD hr HN1 SO X Y x0 x1 x2 x3 x4
    go_wp2_with fail
    refine bodyPost_ret (v := .agg #[.slice B0 u0 e0, .slice B1 u1 e1, .slice B2 u2 e2, .slice (some ⟨vg, 0, none⟩) vn vc, .slice A4' D.n.length c4']) ?_ rfl ⟨_, rfl, hZ, hB⟩
    simp [results, Try.results49, go_sem, q0, q1, q2, q3, q4]

end Go.Proofs.Yteogflkahoanlaa

/- l9Wrong. -/
namespace Go.Proofs.Yteogflkahoanlaa
open Go.RowKit

set_option maxRecDepth 100000 in
set_option maxHeartbeats 4000000 in
theorem l9Wrong_any (N : Nat) (hN : N ≤ 16) (w : World) (B rb : Nat) (A : Option Addr) (nb c p : Nat) (h : Rd w B rb A nb c p) (hp : p ≤ 9800) (lo : Nat) (v : Value) (D : Dp) (hv : Dv w lo v D) (hC : SzD N D) : Calls Try.prog 65 #[.pointer (some ⟨rb, 0, none⟩), v] w (DrawnDW (N + 4) w B rb A nb c p) := by
  have hrl := h.lt
  have hvo := hv
  obtain ⟨A0, n0, c0, A1, n1, c1, A2, n2, c2, A3, n3, c3, A4, n4, c4, rfl, -⟩ := hvo.open_
  obtain ⟨hSS, hn1, hn8⟩ := hC
  have hS20 : SzH 20 D.C.h := by obtain ⟨⟨a1, a2, a3, a4, a5⟩, -⟩ := hSS; exact ⟨a1, a2, a3, by omega, by omega⟩
  have hcN := hSS.2
  have X := (Blk5.new w (.slice A0 n0 c0) (.slice A1 n1 c1) (.slice A2 n2 c2) (.slice A3 n3 c3) (.slice A4 n4 c4) 29).alloc (.cells #[.slice none 0 0, .slice none 0 0, .slice none 0 0, .slice none 0 0, .slice none 0 0] 29)
  have Y := Blk5.new_at (w := w.alloc (.cells #[.slice A0 n0 c0, .slice A1 n1 c1, .slice A2 n2 c2, .slice A3 n3 c3, .slice A4 n4 c4] 29)) (b := w.heap.size + 1) (by simp) (.slice none 0 0) (.slice none 0 0) (.slice none 0 0) (.slice none 0 0) (.slice none 0 0) 29
  have VV := (hv.alloc (.cells #[.slice A0 n0 c0, .slice A1 n1 c1, .slice A2 n2 c2, .slice A3 n3 c3, .slice A4 n4 c4] 29)).alloc (.cells #[.slice none 0 0, .slice none 0 0, .slice none 0 0, .slice none 0 0, .slice none 0 0] 29)
  have RR := (h.alloc (.cells #[.slice A0 n0 c0, .slice A1 n1 c1, .slice A2 n2 c2, .slice A3 n3 c3, .slice A4 n4 c4] 29)).alloc (.cells #[.slice none 0 0, .slice none 0 0, .slice none 0 0, .slice none 0 0, .slice none 0 0] 29)
  have G0 : w.grownBy ((w.alloc (.cells #[.slice A0 n0 c0, .slice A1 n1 c1, .slice A2 n2 c2, .slice A3 n3 c3, .slice A4 n4 c4] 29)).alloc (.cells #[.slice none 0 0, .slice none 0 0, .slice none 0 0, .slice none 0 0, .slice none 0 0] 29)) (some rb) := grown_alloc (grown_alloc (World.grownBy.refl w _) _) _
  have sz : ((w.alloc (.cells #[.slice A0 n0 c0, .slice A1 n1 c1, .slice A2 n2 c2, .slice A3 n3 c3, .slice A4 n4 c4] 29)).alloc (.cells #[.slice none 0 0, .slice none 0 0, .slice none 0 0, .slice none 0 0, .slice none 0 0] 29)).heap.size = w.heap.size + 2 := by simp
  go_enter Try.func65, Try.ntmps65
  go_wp2_with fail
  generalize ((w.alloc (.cells #[.slice A0 n0 c0, .slice A1 n1 c1, .slice A2 n2 c2, .slice A3 n3 c3, .slice A4 n4 c4] 29)).alloc (.cells #[.slice none 0 0, .slice none 0 0, .slice none 0 0, .slice none 0 0, .slice none 0 0] 29)) = W at X Y VV RR G0 sz ⊢
  obtain ⟨x0, x1, x2, x3, x4, -⟩ := X.cells
  have K := l9CopyG_any W _ _ _ VV hS20 (by omega) hn1 (by omega)
  go_wp2_with fail
  refine K.mono ?_; rintro e w3 ⟨vv, rfl, hD, hb3⟩
  have hDo := hD
  obtain ⟨D0, m0, d0, D1, m1, d1, D2, m2, d2, D3, m3, d3, D4, m4, d4, rfl, -⟩ := hDo.open_
  obtain ⟨hDc, hDn, -⟩ := hD.cvn
  have l4 := lenS hDn
  obtain ⟨g, rfl, _, _⟩ := hDn.at_ (k := 0) (by omega)
  have z3 := hb3.size
  have st : WSt w (w3.alloc (.cells #[.slice D0 m0 d0, .slice D1 m1 d1, .slice D2 m2 d2, .slice D3 m3 d3, .slice (some ⟨g, 0, none⟩) m4 d4] 29)) B rb w3.heap.size (w.heap.size + 1) A nb c p (.slice D0 m0 d0) (.slice D1 m1 d1) (.slice D2 m2 d2) (.slice D3 m3 d3) (.slice (some ⟨g, 0, none⟩) m4 d4) D := {
    res := (Y.below hb3).alloc _
    blk := Blk5.new w3 _ _ _ _ _ _
    dv := (hD.mono (by omega)).alloc _
    far := fun e => by have := (hDn.lt _ e).2; omega
    rd := (RR.below hb3).alloc _
    gr := grown_alloc (grown_of G0 hb3) _
    rbl := by omega
    rsw := by omega
    rsb := by omega }
  have P := fun W hR => pick_any W B rb A nb c p hR 20 (by omega) (by omega) (by omega)
  have L4 := Lib.hid l4
  have hm : 1 ≤ m4 ∧ m4 ≤ 8 := by omega
  clear hD hDo hDc hDn hb3 RR G0 Y X VV K h hv hvo x0 x1 x2 x3 x4 l4
  go_wp2_with fail
  refine (P _ (by exact st.rd)).mono ?_; rintro e w4 ⟨x, rfl, hx, hR4, hO4⟩
  have st1 := st.pick hR4 hO4
  generalize w3.heap.size = bx at st1 ⊢
  clear st P hR4 hO4
  obtain ⟨x0, x1, x2, x3, x4, f0, f1, f2, f3, f4⟩ := st1.blk.cells
  by_cases t2 : 2 ≤ x
  · have e0 : ((x : Int) == 0) = false := by simp; omega
    have e1 : ((x : Int) == 1) = false := by simp; omega
    obtain ⟨hH, hR, hG⟩ := st1.done
    obtain ⟨s0, s1, s2, s3, s4, i0, i1, i2, i3, i4⟩ := st1.res.cells
    have hz : SzD (N + 4) D := ⟨⟨by obtain ⟨⟨a1, a2, a3, a4, a5⟩, -⟩ := hSS; exact ⟨a1, a2, a3, by omega, by omega⟩, by omega⟩, hn1, hn8⟩
    clear st1
    go_wp2_with fail
    refine bodyPost_ret (v := .agg #[.slice D0 m0 d0, .slice D1 m1 d1, .slice D2 m2 d2, .slice D3 m3 d3, .slice (some ⟨g, 0, none⟩) m4 d4]) ?_ rfl ⟨_, _, p + 1, rfl, hH, hz, hR, by omega, hG⟩
    simp [results, Try.results65, go_sem, s0, s1, s2, s3, s4]
  by_cases t0 : x = 0
  · subst t0
    have u1 : 1 ≤ (m4 : Int) := by omega
    have u2 : (m4 : Int) ≤ 1048576 := by omega
    have v1 : p + 1 ≤ 1048576 := by omega
    have v2 : p + 1 + 1 ≤ 1048576 := by omega
    have hrb4 : rb < w4.heap.size := st1.rd.lt
    clear x0 x1 x2 x3 f0 f1 f2 f3 f4
    go_wp2_with fail
    go_region_held3 (fun w' => w'.cell? ⟨bx, 4, none⟩ = some (.slice (some ⟨g, 0, none⟩) m4 d4))
      ((with_reducible (first | exact x4 | exact cellD x4 | exact cellA x4 _ | exact cellD (cellA x4 _) | exact cellA (cellD x4) _ | exact y4 | exact cellA y4 _ | exact z4' | (rw [World.cell?_setCell_far _ _ _ _ (by exact hgb)]; exact z4'))))
      (first
        | (go_at_call 86; (with_reducible refine (pick_any _ B rb A nb c (p + 1) st1.rd.drew (m4 : Int) u1 u2 v1).mono ?_); rintro e w5 ⟨xv, rfl, hxv, hR5, hO5⟩; have hxn : xv < D.n.length := (by have := L4.out; omega); have st2 := st1.drew.pick hR5 hO5; obtain ⟨y0, y1, y2, y3, y4, _⟩ := st2.blk.cells)
        | (go_at_call 86; (with_reducible refine (pick_any _ B rb A nb c (p + 1) (st1.rd.alloc (.cells #[.int .i64 (-1), .int .i64 0, .int .i64 1, .int .i64 2] 3)).drew (m4 : Int) u1 u2 v1).mono ?_); rintro e w5 ⟨xv, rfl, hxv, hR5, hO5⟩; have hxn : xv < D.n.length := (by have := L4.out; omega); have hlit := Row.kept (row := some rb) (lit4D w4 (-1) 0 1 2).drew hO5.1 (.inr (lit_ne hrb4)); have st2 := (st1.alloc (.cells #[.int .i64 (-1), .int .i64 0, .int .i64 1, .int .i64 2] 3)).drew.pick hR5 hO5; obtain ⟨y0, y1, y2, y3, y4, _⟩ := st2.blk.cells)
        | (go_at_call 76; (with_reducible refine (num_any _ B rb A nb c (p + 1 + 1) hR5 v2 w4.heap.size 4 4 [-1, 0, 1, 2] 0 hlit (len4D _ _ _ _) (by decide) (by decide) (Nat.ne_of_gt hrb4)).mono ?_); rintro e w6 ⟨yv, _, rfl, hR6, hO6⟩; have st3 := st2.pick hR6 hO6; obtain ⟨g', _, e', hg1, hg2, _, hc6, hf6⟩ := st3.dv.cvn.2.1.get (k := xv) hxn; cases e'; obtain ⟨z0, z1, z2, z3', z4', _⟩ := st3.blk.cells; have hgb : g ≠ bx := (fun e => st3.far (by rw [e]; rfl)))
        | (go_at_call 76; (with_reducible refine (num_any _ B rb A nb c (p + 1 + 1) (hR5.alloc (.cells #[.int .i64 (-1), .int .i64 0, .int .i64 1, .int .i64 2] 3)) v2 w5.heap.size 4 4 [-1, 0, 1, 2] 0 (lit4D w5 (-1) 0 1 2) (len4D _ _ _ _) (by decide) (by decide) (Nat.ne_of_gt hR5.lt)).mono ?_); rintro e w6 ⟨yv, _, rfl, hR6, hO6⟩; have st3 := (st2.alloc (.cells #[.int .i64 (-1), .int .i64 0, .int .i64 1, .int .i64 2] 3)).pick hR6 hO6; obtain ⟨g', _, e', hg1, hg2, _, hc6, hf6⟩ := st3.dv.cvn.2.1.get (k := xv) hxn; cases e'; obtain ⟨z0, z1, z2, z3', z4', _⟩ := st3.blk.cells; have hgb : g ≠ bx := (fun e => st3.far (by rw [e]; rfl))))
    all_goals
      have st4 := st3.count xv yv
      obtain ⟨hH, hR, hG⟩ := st4.done
      obtain ⟨x0, x1, x2, x3, x4, _⟩ := st4.blk.cells
      obtain ⟨s0, s1, s2, s3, s4, h0, h1, h2, h3, h4⟩ := st4.res.cells
      have hz : SzD (N + 4) ⟨D.C, D.n.set xv yv⟩ := ⟨⟨by obtain ⟨⟨a1, a2, a3, a4, a5⟩, -⟩ := hSS; exact ⟨a1, a2, a3, by show D.C.h.r.length ≤ _; omega, by show D.C.h.t.length ≤ _; omega⟩, by show D.C.c.length ≤ _; omega⟩, by show 1 ≤ (D.n.set xv yv).length; rw [List.length_set]; exact hn1, by show (D.n.set xv yv).length ≤ 8; rw [List.length_set]; exact hn8⟩
      clear st4 st3 st2 st1 hR5 hO5 hR6 hO6 y0 y1 y2 y3 y4 z0 z1 z2 z3' z4' hc6 hf6
      go_wp2_with fail
      refine bodyPost_ret (v := .agg #[.slice D0 m0 d0, .slice D1 m1 d1, .slice D2 m2 d2, .slice D3 m3 d3, .slice (some ⟨g, 0, none⟩) m4 d4]) ?_ rfl ⟨_, _, p + 1 + 1 + 1, rfl, hH, hz, hR, by omega, hG⟩
      simp [results, Try.results65, go_sem, s0, s1, s2, s3, s4]
  · obtain rfl : x = 1 := by omega
    obtain ⟨hcc, -, -⟩ := st1.dv.cvn
    have K := l4Wrong_any N (by omega) w4 B rb A nb c (p + 1) st1.rd (by omega) _ _ D.C hcc hSS
    go_wp2_with fail
    refine K.mono ?_; rintro e w5 ⟨vv, C', p', rfl, hN5, hz5, hR5, hp5, hg5⟩
    have K2 := l4Wrong_any (N + 2) (by omega) w5 B rb A nb c p' hR5 (by omega) _ _ C' hN5 hz5
    go_wp2_with fail
    refine K2.mono ?_; rintro e w6 ⟨vv, C'', p'', rfl, hN6, hz6, hR6, hp6, hg6⟩
    obtain ⟨E0, u0, e0, E1, u1, e1, E2, u2, e2, E3, u3, e3, rfl, -⟩ := hN6.open_
    have hg56 := grown_trans hg5 hg6
    have st2 := st1.store4 hg56 hR6 hN6 hg5.size
    obtain ⟨hH, hR, hG⟩ := st2.done
    have X5 := st1.blk.kept hg56 (by have := st1.rbl; have := st1.rsb; omega)
    obtain ⟨p0, p1, p2, p3, p4, pf0, pf1, pf2, pf3, pf4⟩ := X5.cells
    obtain ⟨v0, v1, v2, v3, v4, _⟩ := st2.blk.cells
    obtain ⟨s0, s1, s2, s3, s4, h0, h1, h2, h3, h4⟩ := st2.res.cells
    have hz : SzD (N + 4) ⟨C'', D.n⟩ := ⟨hz6, hn1, hn8⟩
    clear st1 st2 hN5 hN6 hR5 hR6 hg5 hg6 hg56 X5 K K2 x0 x1 x2 x3 x4 f0 f1 f2 f3 f4 hcc
    go_wp2_with fail
    refine bodyPost_ret (v := .agg #[.slice E0 u0 e0, .slice E1 u1 e1, .slice E2 u2 e2, .slice E3 u3 e3, .slice (some ⟨g, 0, none⟩) m4 d4]) ?_ rfl ⟨_, _, p'', rfl, hH, hz, hR, by omega, hG⟩
    simp [results, Try.results65, go_sem, s0, s1, s2, s3, s4]

end Go.Proofs.Yteogflkahoanlaa

/- The draws of chapter 9. -/
namespace Go.Proofs.Yteogflkahoanlaa
open Go.RowKit

def DrawnD (w : World) (e : Ending) (w' : World) : Prop := ∃ v D, e = .returned v ∧ Dv w' w.heap.size v D ∧ Below w.heap.size w w'
def DrawnDI (w : World) (e : Ending) (w' : World) : Prop := ∃ v D x, e = .returned (.tuple #[v, .int .i64 x]) ∧ Dv w' w.heap.size v D ∧ Below w.heap.size w w'
def DrawnDII (w : World) (e : Ending) (w' : World) : Prop := ∃ v D x y, e = .returned (.tuple #[v, .int .i64 x, .int .i64 y]) ∧ Dv w' w.heap.size v D ∧ Below w.heap.size w w'
def DrawnDD (w : World) (e : Ending) (w' : World) : Prop := ∃ v D v' D', e = .returned (.tuple #[v, v']) ∧ Dv w' w.heap.size v D ∧ Dv w' w.heap.size v' D' ∧ Below w.heap.size w w'
set_option maxRecDepth 100000 in
set_option maxHeartbeats 2000000 in
theorem drawCountedValid_any (w : World) (A : Option Addr) (n c : Nat) (h : Inp w A n c) : Calls Try.prog 38 #[.slice A n c] w (DrawnD w) := by
  have h0 := inp_alloc h (.cells #[.slice none 0 0, .slice none 0 0, .slice none 0 0, .slice none 0 0, .slice none 0 0] 29)
  have Y0 := Blk5.new w (.slice none 0 0) (.slice none 0 0) (.slice none 0 0) (.slice none 0 0) (.slice none 0 0) 29
  have B0 : Below w.heap.size w (w.alloc (.cells #[.slice none 0 0, .slice none 0 0, .slice none 0 0, .slice none 0 0, .slice none 0 0] 29)) := (Below.refl _ _).alloc (Nat.le_refl _) _
  have s0 : (w.alloc (.cells #[.slice none 0 0, .slice none 0 0, .slice none 0 0, .slice none 0 0, .slice none 0 0] 29)).heap.size = w.heap.size + 1 := by simp
  go_enter Try.func38, Try.ntmps38
  go_wp2_with fail
  generalize (w.alloc (.cells #[.slice none 0 0, .slice none 0 0, .slice none 0 0, .slice none 0 0, .slice none 0 0] 29)) = W at h0 Y0 B0 s0 ⊢
  refine (l13Open_any _ _ _ _ h0).mono ?_; rintro e w1 ⟨rb, A1, n1, c1, rfl, hR1, hb1⟩
  have hB := hR1.2.2.1
  have z1 := hb1.size
  have hl1 := hR1.lt
  go_wp2_with fail
  refine (l9Draw_any _ _ _ _ _ _ _ hR1 (by omega)).mono ?_; rintro e w2 ⟨v2, D2, p2, rfl, hv2, hC2, hR2, hp2, hg2⟩
  have z2 := hg2.size
  go_wp2_with fail
  refine (l9Wrong_any 8 (by omega) _ _ _ _ _ _ _ hR2 (by omega) _ _ _ hv2 (szD_valid hC2)).mono ?_; rintro e w3 ⟨v3, D3, p3, rfl, hv3, hz3, hR3, hp3, hg3⟩
  have z3 := hg3.size
  go_wp2_with fail
  refine (l9Wrong_any 12 (by omega) _ _ _ _ _ _ _ hR3 (by omega) _ _ _ hv3 hz3).mono ?_; rintro e w4 ⟨v4, D4, p4, rfl, hv4, hz4, hR4, hp4, hg4⟩
  have z4 := hg4.size
  obtain ⟨A0, n0, k0, A1, n1, k1, A2, n2, k2, A3, n3, k3, A4, n4, k4, rfl, -⟩ := hv4.open_
  obtain ⟨y0, y1, y2, y3, y4, i0, i1, i2, i3, i4⟩ := ((((Y0.below hb1).kept hg2 (by omega)).kept hg3 (by omega)).kept hg4 (by omega)).cells
  have B4 := ((((B0.trans (hb1.mono (by omega))).trans (below_row hg2 (by omega) (by omega))).trans (below_row hg3 (by omega) (by omega)))).trans (below_row hg4 (by omega) (by omega))
  obtain ⟨hH, hBf⟩ := dv_done (w := w) (b := w.heap.size) hv4 (Nat.le_refl _) (by omega) B4 (.slice A0 n0 k0) (.slice A1 n1 k1) (.slice A2 n2 k2) (.slice A3 n3 k3) (.slice A4 n4 k4)
  clear hv2 hv3 hv4 Y0 B4
  go_wp2_with fail
  refine bodyPost_ret (v := .agg #[.slice A0 n0 k0, .slice A1 n1 k1, .slice A2 n2 k2, .slice A3 n3 k3, .slice A4 n4 k4]) ?_ rfl ⟨_, D4, rfl, hH, hBf⟩
  simp [results, Try.results38, go_sem, y0, y1, y2, y3, y4]

set_option maxRecDepth 100000 in
set_option maxHeartbeats 2000000 in
theorem l9Case_any (w : World) (A : Option Addr) (n c : Nat) (h : Inp w A n c) : Calls Try.prog 53 #[.slice A n c] w (DrawnDII w) := by
  have h0 := inp_alloc h (.cells #[.slice none 0 0, .slice none 0 0, .slice none 0 0, .slice none 0 0, .slice none 0 0] 29)
  have Y0 := Blk5.new w (.slice none 0 0) (.slice none 0 0) (.slice none 0 0) (.slice none 0 0) (.slice none 0 0) 29
  have B0 : Below w.heap.size w (w.alloc (.cells #[.slice none 0 0, .slice none 0 0, .slice none 0 0, .slice none 0 0, .slice none 0 0] 29)) := (Below.refl _ _).alloc (Nat.le_refl _) _
  have s0 : (w.alloc (.cells #[.slice none 0 0, .slice none 0 0, .slice none 0 0, .slice none 0 0, .slice none 0 0] 29)).heap.size = w.heap.size + 1 := by simp
  go_enter Try.func53, Try.ntmps53
  go_wp2_with fail
  generalize (w.alloc (.cells #[.slice none 0 0, .slice none 0 0, .slice none 0 0, .slice none 0 0, .slice none 0 0] 29)) = W at h0 Y0 B0 s0 ⊢
  refine (l13Open_any _ _ _ _ h0).mono ?_; rintro e w1 ⟨rb, A1, n1, c1, rfl, hR1, hb1⟩
  have hB := hR1.2.2.1
  have z1 := hb1.size
  have hl1 := hR1.lt
  go_wp2_with fail
  refine (l9Draw_any _ _ _ _ _ _ _ hR1 (by omega)).mono ?_; rintro e w2 ⟨v2, D2, p2, rfl, hv2, hC2, hR2, hp2, hg2⟩
  have z2 := hg2.size
  go_wp2_with fail
  refine (l9Wrong_any 8 (by omega) _ _ _ _ _ _ _ hR2 (by omega) _ _ _ hv2 (szD_valid hC2)).mono ?_; rintro e w3 ⟨v3, D3, p3, rfl, hv3, hz3, hR3, hp3, hg3⟩
  have z3 := hg3.size
  obtain ⟨A0, n0, k0, A1, n1, k1, A2, n2, k2, A3, n3, k3, A4, n4, k4, rfl, -⟩ := hv3.open_
  have Y3 := ((Y0.below hb1).kept hg2 (by omega)).kept hg3 (by omega)
  have B3 := ((B0.trans (hb1.mono (by omega))).trans (below_row hg2 (by omega) (by omega))).trans (below_row hg3 (by omega) (by omega))
  clear hv2 hR1 hR2 h0 Y0 B0 hb1 hg2 hg3 h
  go_wp2_with fail
  refine (num_any _ _ _ _ _ _ _ (hR3.alloc _) (by omega) _ _ _ [0, 1, 0, 2, 3, -1] 0 (Row.lit_at rfl [0, 1, 0, 2, 3, -1] (by decide)) rfl (by decide) (by decide) (by omega)).mono ?_
  rintro e w4 ⟨x, hx, rfl, hR4, hO4⟩
  have Y4 := (Y3.alloc (.cells #[.int .i64 0, .int .i64 1, .int .i64 0, .int .i64 2, .int .i64 3, .int .i64 (-1)] 3)).kept hO4.1 (by omega)
  have H4 := (hv3.alloc (.cells #[.int .i64 0, .int .i64 1, .int .i64 0, .int .i64 2, .int .i64 3, .int .i64 (-1)] 3)).kept_low hO4.1 (by omega)
  have B4 := (B3.alloc (by omega) (.cells #[.int .i64 0, .int .i64 1, .int .i64 0, .int .i64 2, .int .i64 3, .int .i64 (-1)] 3)).trans (below_row hO4.1 (by omega) (by simp; omega))
  have z4 : w3.heap.size + 1 ≤ w4.heap.size := by have := hO4.2; simp at this; omega
  clear hx Y3 hv3 B3 hR3 hO4
  go_wp2_with fail
  refine (num_any _ _ _ _ _ _ _ (hR4.alloc _) (by omega) _ _ _ [1, 0, 2, 3] 0 (Row.lit_at (w := w4) rfl [1, 0, 2, 3] (by decide)) rfl (by decide) (by decide) (by omega)).mono ?_
  rintro e w5 ⟨y, hy, rfl, hR5, hO5⟩
  have H5 := (H4.alloc (.cells #[.int .i64 1, .int .i64 0, .int .i64 2, .int .i64 3] 3)).kept_low hO5.1 (by omega)
  have B5 := (B4.alloc (by omega) (.cells #[.int .i64 1, .int .i64 0, .int .i64 2, .int .i64 3] 3)).trans (below_row hO5.1 (by omega) (by simp; omega))
  obtain ⟨y0, y1, y2, y3, y4, i0, i1, i2, i3, i4⟩ := ((Y4.alloc (.cells #[.int .i64 1, .int .i64 0, .int .i64 2, .int .i64 3] 3)).kept hO5.1 (by omega)).cells
  obtain ⟨hH, hBf⟩ := dv_done (w := w) (b := w.heap.size) H5 (Nat.le_refl _) (by omega) B5 (.slice A0 n0 k0) (.slice A1 n1 k1) (.slice A2 n2 k2) (.slice A3 n3 k3) (.slice A4 n4 k4)
  clear hy Y4 H4 H5 B4 B5 hR4 hR5 hO5
  go_wp2_with fail
  refine bodyPost_ret (v := .tuple #[.agg #[.slice A0 n0 k0, .slice A1 n1 k1, .slice A2 n2 k2, .slice A3 n3 k3, .slice A4 n4 k4], .int .i64 x, .int .i64 y]) ?_ rfl ⟨_, D3, _, _, rfl, hH, hBf⟩
  simp [results, Try.results53, go_sem, y0, y1, y2, y3, y4]

set_option maxRecDepth 100000 in
set_option maxHeartbeats 2000000 in
theorem drawCyclesOf_any (w : World) (A : Option Addr) (n c : Nat) (h : Inp w A n c) : Calls Try.prog 28 #[.slice A n c] w (DrawnD w) := by
  have h0 := inp_alloc h (.cells #[.slice none 0 0, .slice none 0 0, .slice none 0 0, .slice none 0 0, .slice none 0 0] 29)
  have Y0 := Blk5.new w (.slice none 0 0) (.slice none 0 0) (.slice none 0 0) (.slice none 0 0) (.slice none 0 0) 29
  have B0 : Below w.heap.size w (w.alloc (.cells #[.slice none 0 0, .slice none 0 0, .slice none 0 0, .slice none 0 0, .slice none 0 0] 29)) := (Below.refl _ _).alloc (Nat.le_refl _) _
  have s0 : (w.alloc (.cells #[.slice none 0 0, .slice none 0 0, .slice none 0 0, .slice none 0 0, .slice none 0 0] 29)).heap.size = w.heap.size + 1 := by simp
  go_enter Try.func28, Try.ntmps28
  go_wp2_with fail
  generalize (w.alloc (.cells #[.slice none 0 0, .slice none 0 0, .slice none 0 0, .slice none 0 0, .slice none 0 0] 29)) = W at h0 Y0 B0 s0 ⊢
  refine (l9Case_any _ _ _ _ h0).mono ?_; rintro e w1 ⟨v3, D3, x, y, rfl, hv3, hb1⟩
  have z1 := hb1.size
  obtain ⟨A0, n0, k0, A1, n1, k1, A2, n2, k2, A3, n3, k3, A4, n4, k4, rfl, -⟩ := hv3.open_
  have B3 := (B0.trans (hb1.mono (by omega))).alloc (by omega) (.cells #[.slice A0 n0 k0, .slice A1 n1 k1, .slice A2 n2 k2, .slice A3 n3 k3, .slice A4 n4 k4] 29)
  obtain ⟨hH, hBf⟩ := dv_done (w := w) (b := w.heap.size) ((hv3.mono (lo' := w.heap.size + 1) (by omega)).alloc (.cells #[.slice A0 n0 k0, .slice A1 n1 k1, .slice A2 n2 k2, .slice A3 n3 k3, .slice A4 n4 k4] 29)) (Nat.le_refl _) (Nat.lt_succ_self _) B3 (.slice A0 n0 k0) (.slice A1 n1 k1) (.slice A2 n2 k2) (.slice A3 n3 k3) (.slice A4 n4 k4)
  obtain ⟨y0, y1, y2, y3, y4, i0, i1, i2, i3, i4⟩ := ((Y0.below hb1).alloc (.cells #[.slice A0 n0 k0, .slice A1 n1 k1, .slice A2 n2 k2, .slice A3 n3 k3, .slice A4 n4 k4] 29)).cells
  clear hv3 Y0 B3
  go_wp2_with fail
  refine bodyPost_ret (v := .agg #[.slice A0 n0 k0, .slice A1 n1 k1, .slice A2 n2 k2, .slice A3 n3 k3, .slice A4 n4 k4]) ?_ rfl ⟨_, D3, rfl, hH, hBf⟩
  simp [results, Try.results28, go_sem, y0, y1, y2, y3, y4]

set_option maxRecDepth 100000 in
set_option maxHeartbeats 2000000 in
theorem drawTakeCounted_any (w : World) (A : Option Addr) (n c : Nat) (h : Inp w A n c) : Calls Try.prog 21 #[.slice A n c] w (DrawnDI w) := by
  have h0 := inp_alloc h (.cells #[.slice none 0 0, .slice none 0 0, .slice none 0 0, .slice none 0 0, .slice none 0 0] 29)
  have Y0 := Blk5.new w (.slice none 0 0) (.slice none 0 0) (.slice none 0 0) (.slice none 0 0) (.slice none 0 0) 29
  have B0 : Below w.heap.size w (w.alloc (.cells #[.slice none 0 0, .slice none 0 0, .slice none 0 0, .slice none 0 0, .slice none 0 0] 29)) := (Below.refl _ _).alloc (Nat.le_refl _) _
  have s0 : (w.alloc (.cells #[.slice none 0 0, .slice none 0 0, .slice none 0 0, .slice none 0 0, .slice none 0 0] 29)).heap.size = w.heap.size + 1 := by simp
  go_enter Try.func21, Try.ntmps21
  go_wp2_with fail
  generalize (w.alloc (.cells #[.slice none 0 0, .slice none 0 0, .slice none 0 0, .slice none 0 0, .slice none 0 0] 29)) = W at h0 Y0 B0 s0 ⊢
  refine (l9Case_any _ _ _ _ h0).mono ?_; rintro e w1 ⟨v3, D3, x, y, rfl, hv3, hb1⟩
  have z1 := hb1.size
  obtain ⟨A0, n0, k0, A1, n1, k1, A2, n2, k2, A3, n3, k3, A4, n4, k4, rfl, -⟩ := hv3.open_
  have B3 := (B0.trans (hb1.mono (by omega))).alloc (by omega) (.cells #[.slice A0 n0 k0, .slice A1 n1 k1, .slice A2 n2 k2, .slice A3 n3 k3, .slice A4 n4 k4] 29)
  obtain ⟨hH, hBf⟩ := dv_done (w := w) (b := w.heap.size) ((hv3.mono (lo' := w.heap.size + 1) (by omega)).alloc (.cells #[.slice A0 n0 k0, .slice A1 n1 k1, .slice A2 n2 k2, .slice A3 n3 k3, .slice A4 n4 k4] 29)) (Nat.le_refl _) (Nat.lt_succ_self _) B3 (.slice A0 n0 k0) (.slice A1 n1 k1) (.slice A2 n2 k2) (.slice A3 n3 k3) (.slice A4 n4 k4)
  obtain ⟨y0, y1, y2, y3, y4, i0, i1, i2, i3, i4⟩ := ((Y0.below hb1).alloc (.cells #[.slice A0 n0 k0, .slice A1 n1 k1, .slice A2 n2 k2, .slice A3 n3 k3, .slice A4 n4 k4] 29)).cells
  clear hv3 Y0 B3
  go_wp2_with fail
  refine bodyPost_ret (v := .tuple #[.agg #[.slice A0 n0 k0, .slice A1 n1 k1, .slice A2 n2 k2, .slice A3 n3 k3, .slice A4 n4 k4], .int .i64 x]) ?_ rfl ⟨_, D3, _, rfl, hH, hBf⟩
  simp [results, Try.results21, go_sem, y0, y1, y2, y3, y4]

set_option maxRecDepth 100000 in
set_option maxHeartbeats 2000000 in
theorem drawDropRoot_any (w : World) (A : Option Addr) (n c : Nat) (h : Inp w A n c) : Calls Try.prog 15 #[.slice A n c] w (DrawnDI w) := by
  have h0 := inp_alloc h (.cells #[.slice none 0 0, .slice none 0 0, .slice none 0 0, .slice none 0 0, .slice none 0 0] 29)
  have Y0 := Blk5.new w (.slice none 0 0) (.slice none 0 0) (.slice none 0 0) (.slice none 0 0) (.slice none 0 0) 29
  have B0 : Below w.heap.size w (w.alloc (.cells #[.slice none 0 0, .slice none 0 0, .slice none 0 0, .slice none 0 0, .slice none 0 0] 29)) := (Below.refl _ _).alloc (Nat.le_refl _) _
  have s0 : (w.alloc (.cells #[.slice none 0 0, .slice none 0 0, .slice none 0 0, .slice none 0 0, .slice none 0 0] 29)).heap.size = w.heap.size + 1 := by simp
  go_enter Try.func15, Try.ntmps15
  go_wp2_with fail
  generalize (w.alloc (.cells #[.slice none 0 0, .slice none 0 0, .slice none 0 0, .slice none 0 0, .slice none 0 0] 29)) = W at h0 Y0 B0 s0 ⊢
  refine (drawTakeCounted_any _ _ _ _ h0).mono ?_; rintro e w1 ⟨v3, D3, x, rfl, hv3, hb1⟩
  have z1 := hb1.size
  obtain ⟨A0, n0, k0, A1, n1, k1, A2, n2, k2, A3, n3, k3, A4, n4, k4, rfl, -⟩ := hv3.open_
  have B3 := B0.trans (hb1.mono (by omega))
  obtain ⟨hH, hBf⟩ := dv_done (w := w) (b := w.heap.size) (hv3.mono (lo' := w.heap.size + 1) (by omega)) (Nat.le_refl _) (Nat.lt_succ_self _) B3 (.slice A0 n0 k0) (.slice A1 n1 k1) (.slice A2 n2 k2) (.slice A3 n3 k3) (.slice A4 n4 k4)
  obtain ⟨y0, y1, y2, y3, y4, i0, i1, i2, i3, i4⟩ := (Y0.below hb1).cells
  clear hv3 Y0 B3
  go_wp2_with fail
  refine bodyPost_ret (v := .tuple #[.agg #[.slice A0 n0 k0, .slice A1 n1 k1, .slice A2 n2 k2, .slice A3 n3 k3, .slice A4 n4 k4], .int .i64 x]) ?_ rfl ⟨_, D3, _, rfl, hH, hBf⟩
  simp [results, Try.results15, go_sem, y0, y1, y2, y3, y4]

set_option maxRecDepth 100000 in
set_option maxHeartbeats 2000000 in
theorem drawLinkCounted_any (w : World) (A : Option Addr) (n c : Nat) (h : Inp w A n c) : Calls Try.prog 25 #[.slice A n c] w (DrawnDII w) := by
  have h0 := inp_alloc h (.cells #[.slice none 0 0, .slice none 0 0, .slice none 0 0, .slice none 0 0, .slice none 0 0] 29)
  have Y0 := Blk5.new w (.slice none 0 0) (.slice none 0 0) (.slice none 0 0) (.slice none 0 0) (.slice none 0 0) 29
  have B0 : Below w.heap.size w (w.alloc (.cells #[.slice none 0 0, .slice none 0 0, .slice none 0 0, .slice none 0 0, .slice none 0 0] 29)) := (Below.refl _ _).alloc (Nat.le_refl _) _
  have s0 : (w.alloc (.cells #[.slice none 0 0, .slice none 0 0, .slice none 0 0, .slice none 0 0, .slice none 0 0] 29)).heap.size = w.heap.size + 1 := by simp
  go_enter Try.func25, Try.ntmps25
  go_wp2_with fail
  generalize (w.alloc (.cells #[.slice none 0 0, .slice none 0 0, .slice none 0 0, .slice none 0 0, .slice none 0 0] 29)) = W at h0 Y0 B0 s0 ⊢
  refine (l9Case_any _ _ _ _ h0).mono ?_; rintro e w1 ⟨v3, D3, x, y, rfl, hv3, hb1⟩
  have z1 := hb1.size
  obtain ⟨A0, n0, k0, A1, n1, k1, A2, n2, k2, A3, n3, k3, A4, n4, k4, rfl, -⟩ := hv3.open_
  have B3 := B0.trans (hb1.mono (by omega))
  obtain ⟨hH, hBf⟩ := dv_done (w := w) (b := w.heap.size) (hv3.mono (lo' := w.heap.size + 1) (by omega)) (Nat.le_refl _) (Nat.lt_succ_self _) B3 (.slice A0 n0 k0) (.slice A1 n1 k1) (.slice A2 n2 k2) (.slice A3 n3 k3) (.slice A4 n4 k4)
  obtain ⟨y0, y1, y2, y3, y4, i0, i1, i2, i3, i4⟩ := (Y0.below hb1).cells
  clear hv3 Y0 B3
  go_wp2_with fail
  refine bodyPost_ret (v := .tuple #[.agg #[.slice A0 n0 k0, .slice A1 n1 k1, .slice A2 n2 k2, .slice A3 n3 k3, .slice A4 n4 k4], .int .i64 x, .int .i64 y]) ?_ rfl ⟨_, D3, _, _, rfl, hH, hBf⟩
  simp [results, Try.results25, go_sem, y0, y1, y2, y3, y4]

end Go.Proofs.Yteogflkahoanlaa

