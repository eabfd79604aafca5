import Derived.Test.YteogflkahoanlaaCVal
import Derived.Test.YteogflkahoanlaaCpyD
import Derived.Test.YteogflkahoanlaaDrawss
import Derived.Test.YteogflkahoanlaaDropS
import Derived.Test.YteogflkahoanlaaLinkDs
import Derived.Test.YteogflkahoanlaaTakeS
import Derived.Test.YteogflkahoanlaaShortD
/- The draw of a counted store: its state. -/
namespace Go.Proofs.Yteogflkahoanlaa
open Go.RowKit

theorem Dv.kept_low {w w' : World} {lo rb : Nat} {v : Value} {D : Dp} (h : Dv w lo v D) (hg : w.grownBy w' (some rb)) (hl : rb < lo) : Dv w' lo v D := by
  obtain ⟨v0, v1, v2, v3, v4, e, hc, hn, a⟩ := h
  exact ⟨v0, v1, v2, v3, v4, e, hc.kept_low hg hl, hn.kept hg (.inr fun e => by have := (hn.lt _ e).1; omega), a⟩
/-- The state of a draw: a counted store in block bx, the store it began with in block sx, the reader, and nothing else has turned. -/
structure DSt (w wr : World) (B rb bx rs sx : Nat) (A : Option Addr) (nb c p : Nat) (S0 S1 S2 S3 v0 v1 v2 v3 v4 : Value) (D : Dp) : Prop where
  res : Blk5 wr rs (.slice none 0 0) (.slice none 0 0) (.slice none 0 0) (.slice none 0 0) (.slice none 0 0) 29
  blk : Blk5 wr bx v0 v1 v2 v3 v4 29
  sto : Blk4 wr sx S0 S1 S2 S3 27
  dv : Dv wr (rs + 1) (.agg #[v0, v1, v2, v3, v4]) D
  rd : Rd wr B rb A nb c p
  gr : w.grownBy wr (some rb)
  rbl : rb < rs
  rsw : w.heap.size ≤ rs
  rsx : rs < sx
  sxb : sx < bx
section
variable {w wr : World} {B rb bx rs sx : Nat} {A : Option Addr} {nb c p : Nat} {S0 S1 S2 S3 v0 v1 v2 v3 v4 : Value} {D : Dp}
theorem DSt.pick (h : DSt w wr B rb bx rs sx A nb c p S0 S1 S2 S3 v0 v1 v2 v3 v4 D) {w1 : World} {p' : Nat} (hR : Rd w1 B rb A nb c p') (hO : Only rb wr w1) : DSt w w1 B rb bx rs sx A nb c p' S0 S1 S2 S3 v0 v1 v2 v3 v4 D :=
  ⟨h.res.kept hO.1 (by have := h.rbl; omega), h.blk.kept hO.1 (by have := h.rbl; have := h.rsx; have := h.sxb; omega), h.sto.kept hO.1 (by have := h.rbl; have := h.rsx; omega), h.dv.kept_low hO.1 (by have := h.rbl; omega), hR, grown_trans h.gr hO.1, h.rbl, h.rsw, h.rsx, h.sxb⟩
theorem DSt.alloc (h : DSt w wr B rb bx rs sx A nb c p S0 S1 S2 S3 v0 v1 v2 v3 v4 D) (o : Obj) : DSt w (wr.alloc o) B rb bx rs sx A nb c p S0 S1 S2 S3 v0 v1 v2 v3 v4 D := ⟨h.res.alloc o, h.blk.alloc o, h.sto.alloc o, h.dv.alloc o, h.rd.alloc o, grown_alloc h.gr o, h.rbl, h.rsw, h.rsx, h.sxb⟩
theorem DSt.below (h : DSt w wr B rb bx rs sx A nb c p S0 S1 S2 S3 v0 v1 v2 v3 v4 D) {w1 : World} (hb : Below wr.heap.size wr w1) : DSt w w1 B rb bx rs sx A nb c p S0 S1 S2 S3 v0 v1 v2 v3 v4 D := ⟨h.res.below hb, h.blk.below hb, h.sto.below hb, h.dv.below hb, h.rd.below hb, grown_of h.gr hb, h.rbl, h.rsw, h.rsx, h.sxb⟩
/-- A new counted store is put in block nx, of which nothing is known. -/
theorem DSt.other5 (h : DSt w wr B rb bx rs sx A nb c p S0 S1 S2 S3 v0 v1 v2 v3 v4 D) {nx : Nat} (hnx : bx < nx) (hd : ∀ k, v0.ownBlock = some k ∨ v1.ownBlock = some k ∨ v2.ownBlock = some k ∨ v3.ownBlock = some k ∨ v4.ownBlock = some k → k ≠ nx) (u0 u1 u2 u3 u4 : Value) : DSt w (((((wr.setCell ⟨nx, 0, none⟩ u0).setCell ⟨nx, 1, none⟩ u1).setCell ⟨nx, 2, none⟩ u2).setCell ⟨nx, 3, none⟩ u3).setCell ⟨nx, 4, none⟩ u4) B rb bx rs sx A nb c p S0 S1 S2 S3 v0 v1 v2 v3 v4 D := by
  have hr := h.rbl
  have hs := h.rsx
  have hx := h.sxb
  have hw := h.rsw
  have hB := h.rd.2.2.1
  have n2 : rb ≠ nx := by omega
  have n3 : B ≤ nx := by omega
  obtain ⟨_, _, _, _, _, e, ⟨_, _, _, _, e1, ⟨_, _, _, e2, r0, r1, r2, a⟩, r3, a'⟩, r4, a''⟩ := h.dv
  cases e; cases e1; cases e2
  have k0 : v0.ownBlock ≠ some nx := fun e => hd nx (.inl e) rfl
  have k1 : v1.ownBlock ≠ some nx := fun e => hd nx (.inr (.inl e)) rfl
  have k2 : v2.ownBlock ≠ some nx := fun e => hd nx (.inr (.inr (.inl e))) rfl
  have k3 : v3.ownBlock ≠ some nx := fun e => hd nx (.inr (.inr (.inr (.inl e)))) rfl
  have k4 : v4.ownBlock ≠ some nx := fun e => hd nx (.inr (.inr (.inr (.inr e)))) rfl
  have K : ∀ {v : Value} {xs : List Int}, v.ownBlock ≠ some nx → Row wr (rs + 1) v xs → Row (((((wr.setCell ⟨nx, 0, none⟩ u0).setCell ⟨nx, 1, none⟩ u1).setCell ⟨nx, 2, none⟩ u2).setCell ⟨nx, 3, none⟩ u3).setCell ⟨nx, 4, none⟩ u4) (rs + 1) v xs := fun f r => (((((r.other (a := ⟨nx, 0, none⟩) f u0).other (a := ⟨nx, 1, none⟩) f u1).other (a := ⟨nx, 2, none⟩) f u2).other (a := ⟨nx, 3, none⟩) f u3).other (a := ⟨nx, 4, none⟩) f u4)
  exact ⟨h.res.far5 (by omega) _ _ _ _ _, h.blk.far5 (by omega) _ _ _ _ _, h.sto.far5 (by omega) _ _ _ _ _, ⟨_, _, _, _, _, rfl, ⟨_, _, _, _, rfl, ⟨_, _, _, rfl, K k0 r0, K k1 r1, K k2 r2, a⟩, K k3 r3, a'⟩, K k4 r4, a''⟩,
    (((((h.rd.other (a := ⟨nx, 0, none⟩) n2 n3 u0).other (a := ⟨nx, 1, none⟩) n2 n3 u1).other (a := ⟨nx, 2, none⟩) n2 n3 u2).other (a := ⟨nx, 3, none⟩) n2 n3 u3).other (a := ⟨nx, 4, none⟩) n2 n3 u4), (grown_set (p := ⟨nx, 4, none⟩) (grown_set (p := ⟨nx, 3, none⟩) (grown_set (p := ⟨nx, 2, none⟩) (grown_set (p := ⟨nx, 1, none⟩) (grown_set (p := ⟨nx, 0, none⟩) h.gr (.inr (by show _ ≤ nx; omega)) u0) (.inr (by show _ ≤ nx; omega)) u1) (.inr (by show _ ≤ nx; omega)) u2) (.inr (by show _ ≤ nx; omega)) u3) (.inr (by show _ ≤ nx; omega)) u4), h.rbl, h.rsw, h.rsx, h.sxb⟩
/-- The counted store in block bx is another one. -/
theorem DSt.put5 (h : DSt w wr B rb bx rs sx A nb c p S0 S1 S2 S3 v0 v1 v2 v3 v4 D) {u0 u1 u2 u3 u4 : Value} {E : Dp} {lo : Nat} (hv : Dv wr lo (.agg #[u0, u1, u2, u3, u4]) E) (hlo : bx < lo) : DSt w (((((wr.setCell ⟨bx, 0, none⟩ u0).setCell ⟨bx, 1, none⟩ u1).setCell ⟨bx, 2, none⟩ u2).setCell ⟨bx, 3, none⟩ u3).setCell ⟨bx, 4, none⟩ u4) B rb bx rs sx A nb c p S0 S1 S2 S3 u0 u1 u2 u3 u4 E := by
  have hr := h.rbl
  have hs := h.rsx
  have hx := h.sxb
  have hw := h.rsw
  have hB := h.rd.2.2.1
  have n2 : rb ≠ bx := by omega
  have n3 : B ≤ bx := by omega
  exact ⟨h.res.far5 (by omega) _ _ _ _ _, h.blk.set5 _ _ _ _ _, h.sto.far5 (by omega) _ _ _ _ _, (hv.low5 hlo _ _ _ _ _).mono (by omega), (((((h.rd.other (a := ⟨bx, 0, none⟩) n2 n3 u0).other (a := ⟨bx, 1, none⟩) n2 n3 u1).other (a := ⟨bx, 2, none⟩) n2 n3 u2).other (a := ⟨bx, 3, none⟩) n2 n3 u3).other (a := ⟨bx, 4, none⟩) n2 n3 u4), (grown_set (p := ⟨bx, 4, none⟩) (grown_set (p := ⟨bx, 3, none⟩) (grown_set (p := ⟨bx, 2, none⟩) (grown_set (p := ⟨bx, 1, none⟩) (grown_set (p := ⟨bx, 0, none⟩) h.gr (.inr (by show _ ≤ bx; omega)) u0) (.inr (by show _ ≤ bx; omega)) u1) (.inr (by show _ ≤ bx; omega)) u2) (.inr (by show _ ≤ bx; omega)) u3) (.inr (by show _ ≤ bx; omega)) u4), h.rbl, h.rsw, h.rsx, h.sxb⟩
theorem DSt.done (h : DSt w wr B rb bx rs sx A nb c p S0 S1 S2 S3 v0 v1 v2 v3 v4 D) : Dv (((((wr.setCell ⟨rs, 0, none⟩ v0).setCell ⟨rs, 1, none⟩ v1).setCell ⟨rs, 2, none⟩ v2).setCell ⟨rs, 3, none⟩ v3).setCell ⟨rs, 4, none⟩ v4) w.heap.size (.agg #[v0, v1, v2, v3, v4]) D ∧ Rd (((((wr.setCell ⟨rs, 0, none⟩ v0).setCell ⟨rs, 1, none⟩ v1).setCell ⟨rs, 2, none⟩ v2).setCell ⟨rs, 3, none⟩ v3).setCell ⟨rs, 4, none⟩ v4) B rb A nb c p ∧ w.grownBy (((((wr.setCell ⟨rs, 0, none⟩ v0).setCell ⟨rs, 1, none⟩ v1).setCell ⟨rs, 2, none⟩ v2).setCell ⟨rs, 3, none⟩ v3).setCell ⟨rs, 4, none⟩ v4) (some rb) := by
  have hr := h.rbl
  have hw := h.rsw
  have hB := h.rd.2.2.1
  have n2 : rb ≠ rs := by omega
  have n3 : B ≤ rs := by omega
  exact ⟨(h.dv.low5 (by omega) _ _ _ _ _).mono (by omega), (((((h.rd.other (a := ⟨rs, 0, none⟩) n2 n3 v0).other (a := ⟨rs, 1, none⟩) n2 n3 v1).other (a := ⟨rs, 2, none⟩) n2 n3 v2).other (a := ⟨rs, 3, none⟩) n2 n3 v3).other (a := ⟨rs, 4, none⟩) n2 n3 v4), (grown_set (p := ⟨rs, 4, none⟩) (grown_set (p := ⟨rs, 3, none⟩) (grown_set (p := ⟨rs, 2, none⟩) (grown_set (p := ⟨rs, 1, none⟩) (grown_set (p := ⟨rs, 0, none⟩) h.gr (.inr hw) v0) (.inr hw) v1) (.inr hw) v2) (.inr hw) v3) (.inr hw) v4)⟩
end
/-- A drawn counted store comes back, and it is valid. -/
def DrawnDv (w : World) (B rb : Nat) (A : Option Addr) (nb c p : Nat) (e : Ending) (w' : World) : Prop :=
  ∃ v D p', e = .returned v ∧ Dv w' w.heap.size v D ∧ dpB D = true ∧ Rd w' B rb A nb c p' ∧ p' ≤ p + 64 ∧ w.grownBy w' (some rb)
theorem newDO_valid {C : Cp} (h : stoB C = true) : newDO C = some ⟨C, cntO C.h⟩ ∧ dpB ⟨C, cntO C.h⟩ = true := by
  constructor
  · unfold newDO; rw [if_pos h]
  · rw [dpB_iff]; exact ⟨h, by unfold cntO; rw [if_pos (stoB_parts h).1]⟩
end Go.Proofs.Yteogflkahoanlaa

/- The draw of a counted store. -/
namespace Go.Proofs.Yteogflkahoanlaa
open Go.RowKit

set_option maxRecDepth 100000 in
set_option maxHeartbeats 8000000 in
theorem l9Draw_any (w : World) (B rb : Nat) (A : Option Addr) (nb c p : Nat) (h : Rd w B rb A nb c p) (hp : p ≤ 9000) : Calls Try.prog 66 #[.pointer (some ⟨rb, 0, none⟩)] w (DrawnDv w B rb A nb c p) := by
  have hrl := h.lt
  have Y0 := Blk5.new w (.slice none 0 0) (.slice none 0 0) (.slice none 0 0) (.slice none 0 0) (.slice none 0 0) 29
  have h0 := h.alloc (.cells #[.slice none 0 0, .slice none 0 0, .slice none 0 0, .slice none 0 0, .slice none 0 0] 29)
  go_enter Try.func66, Try.ntmps66
  go_wp2_with fail
  refine (num_any _ _ _ _ _ _ _ (h0.alloc _) (by omega) _ _ _ [4, 3, 5, 2, 6] 0 (Row.lit_at (g := w.heap.size + 1) (by simp) [4, 3, 5, 2, 6] (by decide)) rfl (by decide) (by decide) (by simp; omega)).mono ?_
  rintro e w1 ⟨x, hx, rfl, hR1, hO1⟩
  have hxn : ∃ n : Nat, x = n ∧ 1 ≤ n ∧ n ≤ 8 := by
    simp at hx; exact ⟨x.toNat, by omega, by omega, by omega⟩
  obtain ⟨n, rfl, hn1, hn8⟩ := hxn
  clear hx
  go_wp2_with fail
  refine (num_any _ _ _ _ _ _ _ (hR1.alloc _) (by omega) _ _ _ [2, 3, 1] 0 (Row.lit_at (w := w1) (g := w1.heap.size) rfl [2, 3, 1] (by decide)) rfl (by decide) (by decide) (by have := hR1.lt; omega)).mono ?_
  rintro e w2 ⟨x, hx, rfl, hR2, hO2⟩
  have hxm : ∃ m : Nat, x = m ∧ 1 ≤ m ∧ m ≤ 3 := by
    simp at hx; exact ⟨x.toNat, by omega, by omega, by omega⟩
  obtain ⟨m, rfl, hm1, hm3⟩ := hxm
  clear hx
  have N := fun W => specNewStore_any W n m
  have hnew : newSO (n : Int) (m : Int) = some ⟨⟨List.replicate n (-1), List.replicate n (-1), List.replicate m (-1)⟩, nums n⟩ := by
    unfold newSO; rw [if_pos (by simp [szB]; omega)]; simp
  rw [hnew] at N
  have valN := newS_valid hn1 hn8 hm1 hm3
  have hlt : (⟨⟨List.replicate n (-1), List.replicate n (-1), List.replicate m (-1)⟩, nums n⟩ : Cp).h.t.length = m := by simp
  generalize (⟨⟨List.replicate n (-1), List.replicate n (-1), List.replicate m (-1)⟩, nums n⟩ : Cp) = C0 at N valN hlt
  clear hnew
  go_wp2_with fail
  refine (N _).mono ?_
  rintro e w3 ⟨v, rfl, hv3, hb3⟩
  simp only [Option.isSome_some, Option.getD_some] at hv3 ⊢
  have hvo := hv3
  obtain ⟨D0, m0, d0, D1, m1, d1, D2, m2, d2, D3, m3, d3, rfl, _⟩ := hvo.open_
  have z2 : w.heap.size + 2 ≤ w2.heap.size := by have a := hO1.2; have b := hO2.2; simp at a b; omega
  have G2 : w.grownBy w2 (some rb) := grown_trans (grown_alloc (grown_trans (grown_alloc (grown_alloc (World.grownBy.refl w _) _) _) hO1.1) _) hO2.1
  have z3 := hb3.size
  have lm2 := lenS hv3.rowsS.2.2.1
  have u21 : 1 ≤ (m2 : Int) := by omega
  have u2m : (m2 : Int) ≤ 1048576 := by omega
  obtain ⟨hnc, hvc⟩ := newDO_valid valN
  have NC := specNewCounted_any (w3.alloc (.cells #[.slice D0 m0 d0, .slice D1 m1 d1, .slice D2 m2 d2, .slice D3 m3 d3] 27)) _ _ C0 (hv3.alloc _)
  rw [hnc] at NC
  have RES3 := (((((Y0.alloc (.cells #[.int .i64 4, .int .i64 3, .int .i64 5, .int .i64 2, .int .i64 6] 3)).kept hO1.1 (by omega)).alloc (.cells #[.int .i64 2, .int .i64 3, .int .i64 1] 3)).kept hO2.1 (by omega)).below hb3).alloc (.cells #[.slice D0 m0 d0, .slice D1 m1 d1, .slice D2 m2 d2, .slice D3 m3 d3] 27)
  have RD3 := (hR2.below hb3).alloc (.cells #[.slice D0 m0 d0, .slice D1 m1 d1, .slice D2 m2 d2, .slice D3 m3 d3] 27)
  have GR3 := grown_alloc (grown_of G2 hb3) (.cells #[.slice D0 m0 d0, .slice D1 m1 d1, .slice D2 m2 d2, .slice D3 m3 d3] 27)
  have ST3 := Blk4.new w3 (.slice D0 m0 d0) (.slice D1 m1 d1) (.slice D2 m2 d2) (.slice D3 m3 d3) 27
  obtain ⟨p0, p1, p2, p3, -⟩ := ST3.cells
  clear hv3 hvo hb3 hR2 hO2 hR1 hO1 h0 Y0 h N G2
  go_wp2_with fail
  refine NC.mono ?_; rintro e w4 ⟨v4, rfl, hv4, hb4⟩
  simp only [Option.isSome_some, Option.getD_some] at hv4 ⊢
  have hvo := hv4
  obtain ⟨E0, u0, e0, E1, u1, e1, E2, u2, e2, E3, u3, e3, E4, u4, e4, rfl, -⟩ := hvo.open_
  have z4 := hb4.size
  simp at z4
  have st : DSt w (w4.alloc (.cells #[.slice E0 u0 e0, .slice E1 u1 e1, .slice E2 u2 e2, .slice E3 u3 e3, .slice E4 u4 e4] 29)) B rb w4.heap.size w.heap.size w3.heap.size A nb c (p + 1 + 1) (.slice D0 m0 d0) (.slice D1 m1 d1) (.slice D2 m2 d2) (.slice D3 m3 d3) (.slice E0 u0 e0) (.slice E1 u1 e1) (.slice E2 u2 e2) (.slice E3 u3 e3) (.slice E4 u4 e4) ⟨C0, cntO C0.h⟩ := {
    res := (RES3.below hb4).alloc _
    blk := Blk5.new w4 _ _ _ _ _ _
    sto := (ST3.below hb4).alloc _
    dv := (hv4.mono (by simp; omega)).alloc _
    rd := (RD3.below hb4).alloc _
    gr := grown_alloc (grown_of GR3 hb4) _
    rbl := hrl
    rsw := Nat.le_refl _
    rsx := by omega
    sxb := by omega }
  have P := fun W hR => num_any W B rb A nb c (p + 1 + 1) hR (by omega)
  clear hv4 hvo hb4 RES3 RD3 GR3 ST3 NC p0 p1 p2 p3 hnc
  go_wp2_with fail
  refine (P _ (st.rd.alloc _) _ _ _ [5, 3, 8, 2, 0, 12] 0 (Row.lit_at (by simp) [5, 3, 8, 2, 0, 12] (by decide)) rfl (by decide) (by decide) (by have := st.rd.lt; simp at this ⊢; omega)).mono ?_
  rintro e w5 ⟨x, hx, rfl, hR5, hO5⟩
  have hxi : ∃ i : Nat, x = i ∧ i ≤ 12 := by
    simp at hx; exact ⟨x.toNat, by omega, by omega⟩
  obtain ⟨i0, rfl, hi12⟩ := hxi
  have st1 := (st.alloc _).pick hR5 hO5
  generalize w4.heap.size = bx at st1 ⊢
  generalize w3.heap.size = sx at st1 ⊢
  clear hx st P hR5 hO5
  have hvalN := Lib.hid hvc
  clear valN hlt hvc lm2 z2 z3 z4
  go_wp2_with fail
  go_loopg [7, 8, 9, 10, 11, 53] i0 (fun gk iv_ _ _ _ _ _ wr => ∃ (k q : Nat) (D : Dp) (E0 : Option Addr) (u0 e0 : Nat) (E1 : Option Addr) (u1 e1 : Nat) (E2 : Option Addr) (u2 e2 : Nat) (E3 : Option Addr) (u3 e3 : Nat) (E4 : Option Addr) (u4 e4 : Nat), k ≤ 12 ∧ k = gk ∧ iv_ = .int .i64 (k : Int) ∧ q + 3 * k ≤ p + 3 + 36 ∧ Hid (dpB D = true) ∧ DSt w wr B rb bx w.heap.size sx A nb c q (.slice D0 m0 d0) (.slice D1 m1 d1) (.slice D2 m2 d2) (.slice D3 m3 d3) (.slice E0 u0 e0) (.slice E1 u1 e1) (.slice E2 u2 e2) (.slice E3 u3 e3) (.slice E4 u4 e4) D)
  case atStart => exact ⟨i0, _, _, _, _, _, _, _, _, _, _, _, _, _, _, _, _, _, hi12, rfl, rfl, by omega, hvalN, st1⟩
  case round =>
    clear st1 hvalN
    obtain ⟨k, q, D, E0, u0, e0, E1, u1, e1, E2, u2, e2, E3, u3, e3, E4, u4, e4, hk, rfl, rfl, hq, val, st⟩ := hrel
    obtain ⟨x0, x1, x2, x3, x4, f0, f1, f2, f3, f4⟩ := st.blk.cells
    obtain ⟨s0, s1, s2, s3, _⟩ := st.sto.cells
    by_cases hz : k = 0
    · subst hz
      obtain ⟨hC, hR, hG⟩ := st.done
      obtain ⟨y0, y1, y2, y3, y4, i0, i1, i2, i3, i4⟩ := st.res.cells
      clear st
      go_wp2_with fail
      refine bodyPost_ret (v := .agg #[.slice E0 u0 e0, .slice E1 u1 e1, .slice E2 u2 e2, .slice E3 u3 e3, .slice E4 u4 e4]) ?_ rfl ⟨_, D, q, rfl, hC, val.out, hR, by omega, hG⟩
      simp [results, Try.results66, go_sem, y0, y1, y2, y3, y4]
    · obtain ⟨j, rfl⟩ : ∃ j, k = j + 1 := ⟨k - 1, by omega⟩
      have hk1 : (0 : Int) < ((j + 1 : Nat) : Int) := by omega
      have P := fun W q9 hR hq9 => pick_any W B rb A nb c q9 hR (m2 : Int) u21 u2m hq9
      go_wp2_with fail
      refine (P _ q (by exact st.rd) (by omega)).mono ?_; rintro e w6 ⟨kk, rfl, hkk, hR6, hO6⟩
      have st6 := st.pick hR6 hO6
      clear st hR6 hO6
      clear x0 x1 x2 x3 x4 f0 f1 f2 f3 f4 s0 s1 s2 s3
      obtain ⟨x0, x1, x2, x3, x4, f0, f1, f2, f3, f4⟩ := st6.blk.cells
      obtain ⟨s0, s1, s2, s3, _⟩ := st6.sto.cells
      go_wp2_with fail
      refine (P _ (q + 1) (by exact st6.rd) (by omega)).mono ?_; rintro e w7 ⟨qq, rfl, hqq, hR7, hO7⟩
      have st7 := st6.pick hR7 hO7
      clear st6 hR7 hO7 P
      clear x0 x1 x2 x3 x4 f0 f1 f2 f3 f4 s0 s1 s2 s3
      obtain ⟨x0, x1, x2, x3, x4, f0, f1, f2, f3, f4⟩ := st7.blk.cells
      obtain ⟨s0, s1, s2, s3, _⟩ := st7.sto.cells
      have TK := specTakeCounted_any w7 _ _ D st7.dv (kk : Int)
      have hbx7 := st7.blk.lt
      have hsb := st7.sxb
      have hr7 := st7.rd.lt
      generalize hoT : takeO D (kk : Int) = oT at TK
      go_wp2_with fail
      refine TK.mono ?_; rintro e w8 ⟨v8, rfl, hc8, hb8⟩
      have z8 := hb8.size
      obtain ⟨K0, t0, k0, K1, t1, k1, K2, t2, k2, K3, t3, k3, K4, t4, k4, rfl, -⟩ := hc8.open_
      have st9 := (st7.below hb8).alloc (.cells #[.slice K0 t0 k0, .slice K1 t1 k1, .slice K2 t2 k2, .slice K3 t3 k3, .slice K4 t4 k4] 29)
      have NX9 := Blk5.new w8 (.slice K0 t0 k0) (.slice K1 t1 k1) (.slice K2 t2 k2) (.slice K3 t3 k3) (.slice K4 t4 k4) 29
      have DK9 := hc8.alloc (.cells #[.slice K0 t0 k0, .slice K1 t1 k1, .slice K2 t2 k2, .slice K3 t3 k3, .slice K4 t4 k4] 29)
      have P := fun W hR => pick_any W B rb A nb c (q + 1 + 1) hR 4 (by omega) (by omega) (by omega)
      have own7 := st7.dv.rows
      clear st7 hc8 hb8 TK
      clear x0 x1 x2 x3 x4 f0 f1 f2 f3 f4 s0 s1 s2 s3
      go_wp2_with fail
      refine (P _ (by exact st9.rd)).mono ?_; rintro e w10 ⟨y, rfl, hy, hR10, hO10⟩
      have z10 : w8.heap.size + 1 ≤ w10.heap.size := by have := hO10.2; simp at this; omega
      have st10 := st9.pick hR10 hO10
      have NX10 := NX9.kept hO10.1 (by omega)
      have DK10 := DK9.kept_low hO10.1 (by omega)
      have hbn : bx < w8.heap.size := by omega
      have hnl : w8.heap.size < w10.heap.size := by omega
      have hfar : ∀ k, (Value.slice E0 u0 e0).ownBlock = some k ∨ (Value.slice E1 u1 e1).ownBlock = some k ∨ (Value.slice E2 u2 e2).ownBlock = some k ∨ (Value.slice E3 u3 e3).ownBlock = some k ∨ (Value.slice E4 u4 e4).ownBlock = some k → k ≠ w8.heap.size := fun k e => by
        obtain ⟨o0, o1, o2, o3, o4⟩ := own7
        rcases e with e | e | e | e | e
        · have := (o0.lt _ e).2; omega
        · have := (o1.lt _ e).2; omega
        · have := (o2.lt _ e).2; omega
        · have := (o3.lt _ e).2; omega
        · have := (o4.lt _ e).2; omega
      clear st9 NX9 DK9 hR10 hO10 own7 P
      obtain ⟨x0, x1, x2, x3, x4, f0, f1, f2, f3, f4⟩ := st10.blk.cells
      obtain ⟨s0, s1, s2, s3, _⟩ := st10.sto.cells
      have y03 : y = 0 ∨ y = 1 ∨ y = 2 ∨ y = 3 := by omega
      rcases y03 with rfl | rfl | y23
      · rcases eo : dropO D (kk : Int) with _ | E9
        · have AL := specDropRoot_any w10 _ _ D st10.dv (kk : Int)
          rw [eo] at AL
          go_wp2_with fail
          refine AL.mono ?_; rintro e w11 ⟨v11, rfl, hc11, hb11⟩
          simp only [Option.isSome_none, Option.getD_none] at hc11 ⊢
          obtain ⟨L0, j0, l0, L1, j1, l1, L2, j2, l2, L3, j3, l3, L4, j4, l4, rfl, -⟩ := hc11.open_
          have st11 := st10.below hb11
          obtain ⟨n0, n1, n2, n3, n4, g0, g1, g2, g3, g4⟩ := (NX10.below hb11).cells
          have st12 := st11.other5 hbn hfar (.slice L0 j0 l0) (.slice L1 j1 l1) (.slice L2 j2 l2) (.slice L3 j3 l3) (.slice L4 j4 l4)
          clear st10 st11 hc11 hb11 AL NX10 DK10 x0 x1 x2 x3 x4 f0 f1 f2 f3 f4 s0 s1 s2 s3
          go_wp2_with fail
          go_roundg j
          case measure => omega
          case rel => exact ⟨j, q + 3, D, _, _, _, _, _, _, _, _, _, _, _, _, _, _, _, by omega, rfl, by go_num, by omega, val, st12⟩
        · have AL := specDropRoot_any w10 _ _ D st10.dv (kk : Int)
          rw [eo] at AL
          have val2 := Lib.hid (dropO_valid eo)
          go_wp2_with fail
          refine AL.mono ?_; rintro e w11 ⟨v11, rfl, hc11, hb11⟩
          simp only [Option.isSome_some, Option.getD_some] at hc11 ⊢
          obtain ⟨L0, j0, l0, L1, j1, l1, L2, j2, l2, L3, j3, l3, L4, j4, l4, rfl, -⟩ := hc11.open_
          have st11 := st10.below hb11
          have NX11 := NX10.below hb11
          obtain ⟨n0, n1, n2, n3, n4, g0, g1, g2, g3, g4⟩ := NX11.cells
          have st12 := st11.other5 hbn hfar (.slice L0 j0 l0) (.slice L1 j1 l1) (.slice L2 j2 l2) (.slice L3 j3 l3) (.slice L4 j4 l4)
          have NX12 := NX11.set5 (.slice L0 j0 l0) (.slice L1 j1 l1) (.slice L2 j2 l2) (.slice L3 j3 l3) (.slice L4 j4 l4)
          have DL := hc11.low5 (c := w8.heap.size) hnl (.slice L0 j0 l0) (.slice L1 j1 l1) (.slice L2 j2 l2) (.slice L3 j3 l3) (.slice L4 j4 l4)
          obtain ⟨y0, y1, y2, y3, y4, -⟩ := NX12.cells
          obtain ⟨h0, h1, h2, h3, h4, i0, i1, i2, i3, i4⟩ := st12.blk.cells
          have st13 := st12.put5 DL (by omega)
          clear st10 st11 hc11 hb11 AL NX10 DK10 NX11 st12 DL NX12 x0 x1 x2 x3 x4 f0 f1 f2 f3 f4 s0 s1 s2 s3
          go_wp2_with fail
          go_roundg j
          case measure => omega
          case rel => exact ⟨j, q + 3, E9, _, _, _, _, _, _, _, _, _, _, _, _, _, _, _, by omega, rfl, by go_num, by omega, val2, st13⟩
      · rcases eo : linkO D (kk : Int) (qq : Int) with _ | E9
        · have AL := specLinkCounted_any w10 _ _ D st10.dv (kk : Int) (qq : Int)
          rw [eo] at AL
          go_wp2_with fail
          refine AL.mono ?_; rintro e w11 ⟨v11, rfl, hc11, hb11⟩
          simp only [Option.isSome_none, Option.getD_none] at hc11 ⊢
          obtain ⟨L0, j0, l0, L1, j1, l1, L2, j2, l2, L3, j3, l3, L4, j4, l4, rfl, -⟩ := hc11.open_
          have st11 := st10.below hb11
          obtain ⟨n0, n1, n2, n3, n4, g0, g1, g2, g3, g4⟩ := (NX10.below hb11).cells
          have st12 := st11.other5 hbn hfar (.slice L0 j0 l0) (.slice L1 j1 l1) (.slice L2 j2 l2) (.slice L3 j3 l3) (.slice L4 j4 l4)
          clear st10 st11 hc11 hb11 AL NX10 DK10 x0 x1 x2 x3 x4 f0 f1 f2 f3 f4 s0 s1 s2 s3
          go_wp2_with fail
          go_roundg j
          case measure => omega
          case rel => exact ⟨j, q + 3, D, _, _, _, _, _, _, _, _, _, _, _, _, _, _, _, by omega, rfl, by go_num, by omega, val, st12⟩
        · have AL := specLinkCounted_any w10 _ _ D st10.dv (kk : Int) (qq : Int)
          rw [eo] at AL
          have val2 := Lib.hid (linkO_valid eo)
          go_wp2_with fail
          refine AL.mono ?_; rintro e w11 ⟨v11, rfl, hc11, hb11⟩
          simp only [Option.isSome_some, Option.getD_some] at hc11 ⊢
          obtain ⟨L0, j0, l0, L1, j1, l1, L2, j2, l2, L3, j3, l3, L4, j4, l4, rfl, -⟩ := hc11.open_
          have st11 := st10.below hb11
          have NX11 := NX10.below hb11
          obtain ⟨n0, n1, n2, n3, n4, g0, g1, g2, g3, g4⟩ := NX11.cells
          have st12 := st11.other5 hbn hfar (.slice L0 j0 l0) (.slice L1 j1 l1) (.slice L2 j2 l2) (.slice L3 j3 l3) (.slice L4 j4 l4)
          have NX12 := NX11.set5 (.slice L0 j0 l0) (.slice L1 j1 l1) (.slice L2 j2 l2) (.slice L3 j3 l3) (.slice L4 j4 l4)
          have DL := hc11.low5 (c := w8.heap.size) hnl (.slice L0 j0 l0) (.slice L1 j1 l1) (.slice L2 j2 l2) (.slice L3 j3 l3) (.slice L4 j4 l4)
          obtain ⟨y0, y1, y2, y3, y4, -⟩ := NX12.cells
          obtain ⟨h0, h1, h2, h3, h4, i0, i1, i2, i3, i4⟩ := st12.blk.cells
          have st13 := st12.put5 DL (by omega)
          clear st10 st11 hc11 hb11 AL NX10 DK10 NX11 st12 DL NX12 x0 x1 x2 x3 x4 f0 f1 f2 f3 f4 s0 s1 s2 s3
          go_wp2_with fail
          go_roundg j
          case measure => omega
          case rel => exact ⟨j, q + 3, E9, _, _, _, _, _, _, _, _, _, _, _, _, _, _, _, by omega, rfl, by go_num, by omega, val2, st13⟩
      · rcases oT with _ | E9
        · simp only [Option.isSome_none] at *
          rcases y23 with rfl | rfl
          all_goals
            go_wp2_with fail
            go_roundg j
            case measure => omega
            case rel => exact ⟨j, q + 3, D, _, _, _, _, _, _, _, _, _, _, _, _, _, _, _, by omega, rfl, by go_num, by omega, val, st10⟩
        · simp only [Option.isSome_some, Option.getD_some] at DK10 ⊢
          have val2 := Lib.hid (takeO_valid hoT)
          obtain ⟨y0, y1, y2, y3, y4, -⟩ := NX10.cells
          have st13 := st10.put5 DK10 (by omega)
          rcases y23 with rfl | rfl
          all_goals
            go_wp2_with fail
            go_roundg j
            case measure => omega
            case rel => exact ⟨j, q + 3, E9, _, _, _, _, _, _, _, _, _, _, _, _, _, _, _, by omega, rfl, by go_num, by omega, val2, st13⟩

end Go.Proofs.Yteogflkahoanlaa

