import Derived.Test.YteogflkahoanlaaWrgA
import Derived.OrdersHeld
import Derived.Deep.RegionHeld3
import Derived.Test.YteogflkahoanlaaStos
import Derived.Deep.AppendLies
/- spec.l4Draw: a valid store comes back, in new blocks; of what was there only the reader has turned. -/
namespace Go.Proofs.Yteogflkahoanlaa
open Go.RowKit

theorem Cv.set_far {w : World} {lo : Nat} {v0 v1 v2 v3 : Value} {C : Cp} (hv : Cv w lo (.agg #[v0, v1, v2, v3]) C) {p : Addr} (f : v0.ownBlock ≠ some p.block ∧ v1.ownBlock ≠ some p.block ∧ v2.ownBlock ≠ some p.block ∧ v3.ownBlock ≠ some p.block) (u : Value) : Cv (w.setCell p u) lo (.agg #[v0, v1, v2, v3]) C := by
  obtain ⟨_, _, _, _, e, ⟨_, _, _, e', r0, r1, r2, a⟩, r3, b⟩ := hv
  cases e; cases e'
  exact ⟨_, _, _, _, rfl, ⟨_, _, _, rfl, r0.other f.1 u, r1.other f.2.1 u, r2.other f.2.2.1 u, a⟩, r3.other f.2.2.2 u, b⟩
theorem Blk4.set4 {w : World} {b : Nat} {x y z u : Value} {t : TypeId} (h : Blk4 w b x y z u t) (x' y' z' u' : Value) : Blk4 ((((w.setCell ⟨b, 0, none⟩ x').setCell ⟨b, 1, none⟩ y').setCell ⟨b, 2, none⟩ z').setCell ⟨b, 3, none⟩ u') b x' y' z' u' t := by
  unfold Blk4 at h ⊢; simp [World.setCell, Array.getElem?_modify, h]
/-- The state of a draw: a store in block bx over rows of the call's own, the reader, and nothing else has turned. -/
structure CSt (w wr : World) (B rb bx rs : Nat) (A : Option Addr) (nb c p : Nat) (v0 v1 v2 v3 : Value) (C : Cp) : Prop where
  res : Blk4 wr rs (.slice none 0 0) (.slice none 0 0) (.slice none 0 0) (.slice none 0 0) 27
  blk : Blk4 wr bx v0 v1 v2 v3 27
  cv : Cv wr (rs + 1) (.agg #[v0, v1, v2, v3]) C
  far : v0.ownBlock ≠ some bx ∧ v1.ownBlock ≠ some bx ∧ v2.ownBlock ≠ some bx ∧ v3.ownBlock ≠ some bx
  rd : Rd wr B rb A nb c p
  gr : w.grownBy wr (some rb)
  rbl : rb < rs
  rsw : w.heap.size ≤ rs
  rsb : rs < bx
section
variable {w wr : World} {B rb bx rs : Nat} {A : Option Addr} {nb c p : Nat} {v0 v1 v2 v3 : Value} {C : Cp}
theorem CSt.pick (h : CSt w wr B rb bx rs A nb c p v0 v1 v2 v3 C) {w1 : World} {p' : Nat} (hR : Rd w1 B rb A nb c p') (hO : Only rb wr w1) : CSt w w1 B rb bx rs A nb c p' v0 v1 v2 v3 C :=
  ⟨h.res.kept hO.1 (by have := h.rbl; omega), h.blk.kept hO.1 (by have := h.rbl; have := h.rsb; omega), h.cv.kept_low hO.1 (by have := h.rbl; omega), h.far, hR, grown_trans h.gr hO.1, h.rbl, h.rsw, h.rsb⟩
theorem CSt.drew (h : CSt w wr B rb bx rs A nb c p v0 v1 v2 v3 C) : CSt w wr.drew B rb bx rs A nb c p v0 v1 v2 v3 C := ⟨h.res, h.blk, h.cv, h.far, h.rd, grown_drew h.gr, h.rbl, h.rsw, h.rsb⟩
theorem CSt.alloc (h : CSt w wr B rb bx rs A nb c p v0 v1 v2 v3 C) (o : Obj) : CSt w (wr.alloc o) B rb bx rs A nb c p v0 v1 v2 v3 C := ⟨h.res.alloc o, h.blk.alloc o, h.cv.alloc o, h.far, h.rd.alloc o, grown_alloc h.gr o, h.rbl, h.rsw, h.rsb⟩
theorem CSt.below (h : CSt w wr B rb bx rs A nb c p v0 v1 v2 v3 C) {w1 : World} (hb : Below wr.heap.size wr w1) : CSt w w1 B rb bx rs A nb c p v0 v1 v2 v3 C := ⟨h.res.below hb, h.blk.below hb, h.cv.below hb, h.far, h.rd.below hb, grown_of h.gr hb, h.rbl, h.rsw, h.rsb⟩
theorem Cv.far_of {w : World} {lo b : Nat} {v0 v1 v2 v3 : Value} {C : Cp} (hv : Cv w lo (.agg #[v0, v1, v2, v3]) C) (hb : b < lo) : v0.ownBlock ≠ some b ∧ v1.ownBlock ≠ some b ∧ v2.ownBlock ≠ some b ∧ v3.ownBlock ≠ some b := by
  obtain ⟨_, _, _, _, e, ⟨_, _, _, e', r0, r1, r2, _⟩, r3, _⟩ := hv
  cases e; cases e'
  exact ⟨fun e => by have := (r0.lt _ e).1; omega, fun e => by have := (r1.lt _ e).1; omega, fun e => by have := (r2.lt _ e).1; omega, fun e => by have := (r3.lt _ e).1; omega⟩
theorem CSt.put4 (h : CSt w wr B rb bx rs A nb c p v0 v1 v2 v3 C) {u0 u1 u2 u3 : Value} {C' : Cp} (hv : Cv wr (rs + 1) (.agg #[u0, u1, u2, u3]) C') (f : u0.ownBlock ≠ some bx ∧ u1.ownBlock ≠ some bx ∧ u2.ownBlock ≠ some bx ∧ u3.ownBlock ≠ some bx) :
    CSt w ((((wr.setCell ⟨bx, 0, none⟩ u0).setCell ⟨bx, 1, none⟩ u1).setCell ⟨bx, 2, none⟩ u2).setCell ⟨bx, 3, none⟩ u3) B rb bx rs A nb c p u0 u1 u2 u3 C' := by
  have hr := h.rbl
  have hs := h.rsb
  have hw := h.rsw
  have hB := h.rd.2.2.1
  have n1 : rs ≠ bx := by omega
  have n2 : rb ≠ bx := by omega
  have n3 : B ≤ bx := by omega
  exact ⟨(((h.res.other (p := ⟨bx, 0, none⟩) n1 _).other (p := ⟨bx, 1, none⟩) n1 _).other (p := ⟨bx, 2, none⟩) n1 _).other (p := ⟨bx, 3, none⟩) n1 _, h.blk.set4 _ _ _ _,
    (((hv.set_far (p := ⟨bx, 0, none⟩) f _).set_far (p := ⟨bx, 1, none⟩) f _).set_far (p := ⟨bx, 2, none⟩) f _).set_far (p := ⟨bx, 3, none⟩) f _, f,
    (((h.rd.other (a := ⟨bx, 0, none⟩) n2 n3 _).other (a := ⟨bx, 1, none⟩) n2 n3 _).other (a := ⟨bx, 2, none⟩) n2 n3 _).other (a := ⟨bx, 3, none⟩) n2 n3 _,
    grown_set (grown_set (grown_set (grown_set h.gr (p := ⟨bx, 0, none⟩) (.inr (by show _ ≤ bx; omega)) _) (p := ⟨bx, 1, none⟩) (.inr (by show _ ≤ bx; omega)) _) (p := ⟨bx, 2, none⟩) (.inr (by show _ ≤ bx; omega)) _) (p := ⟨bx, 3, none⟩) (.inr (by show _ ≤ bx; omega)) _, h.rbl, h.rsw, h.rsb⟩
theorem c_done (h : CSt w wr B rb bx rs A nb c p v0 v1 v2 v3 C) : Cv ((((wr.setCell ⟨rs, 0, none⟩ v0).setCell ⟨rs, 1, none⟩ v1).setCell ⟨rs, 2, none⟩ v2).setCell ⟨rs, 3, none⟩ v3) w.heap.size (.agg #[v0, v1, v2, v3]) C ∧ Rd ((((wr.setCell ⟨rs, 0, none⟩ v0).setCell ⟨rs, 1, none⟩ v1).setCell ⟨rs, 2, none⟩ v2).setCell ⟨rs, 3, none⟩ v3) B rb A nb c p ∧ w.grownBy ((((wr.setCell ⟨rs, 0, none⟩ v0).setCell ⟨rs, 1, none⟩ v1).setCell ⟨rs, 2, none⟩ v2).setCell ⟨rs, 3, none⟩ v3) (some rb) := by
  have hr := h.rbl
  have hs := h.rsb
  have hw := h.rsw
  have hB := h.rd.2.2.1
  have n2 : rb ≠ rs := by omega
  have n3 : B ≤ rs := by omega
  have lt : rs < rs + 1 := by omega
  exact ⟨((((h.cv.set_low (p := ⟨rs, 0, none⟩) lt _).set_low (p := ⟨rs, 1, none⟩) lt _).set_low (p := ⟨rs, 2, none⟩) lt _).set_low (p := ⟨rs, 3, none⟩) lt _).mono (by omega),
    (((h.rd.other (a := ⟨rs, 0, none⟩) n2 n3 _).other (a := ⟨rs, 1, none⟩) n2 n3 _).other (a := ⟨rs, 2, none⟩) n2 n3 _).other (a := ⟨rs, 3, none⟩) n2 n3 _,
    grown_set (grown_set (grown_set (grown_set h.gr (p := ⟨rs, 0, none⟩) (.inr hw) _) (p := ⟨rs, 1, none⟩) (.inr hw) _) (p := ⟨rs, 2, none⟩) (.inr hw) _) (p := ⟨rs, 3, none⟩) (.inr hw) _⟩
end
theorem CSt.cellL {w wr : World} {B rb bx rs : Nat} {A : Option Addr} {nb c p : Nat} {v1 v2 v3 : Value} {g n cp : Nat} {C : Cp} (h : CSt w wr B rb bx rs A nb c p (.slice (some ⟨g, 0, none⟩) n cp) v1 v2 v3 C) (k : Nat) (x : Int) :
    CSt w (wr.setCell ⟨g, k, none⟩ (.int .i64 x)) B rb bx rs A nb c p (.slice (some ⟨g, 0, none⟩) n cp) v1 v2 v3 ⟨⟨C.h.l.set k x, C.h.r, C.h.t⟩, C.c⟩ := by
  obtain ⟨_, _, _, _, e, ⟨_, _, _, e', r0, r1, r2, a01, a02, a12⟩, r3, b0, b1, b2⟩ := h.cv
  cases e; cases e'
  have hg := (r0.lt g rfl).1
  have hr := h.rbl
  have hs := h.rsb
  have hw := h.rsw
  have hB := h.rd.2.2.1
  have fb : bx ≠ g := fun e => h.far.1 (by rw [e]; rfl)
  exact ⟨h.res.other (p := ⟨g, k, none⟩) (by show _ ≠ g; omega) _, h.blk.other (p := ⟨g, k, none⟩) fb _,
    ⟨_, _, _, _, rfl, ⟨_, _, _, rfl, r0.set_ k x, r1.other (a := ⟨g, k, none⟩) (fun e => a01 g rfl e) _, r2.other (a := ⟨g, k, none⟩) (fun e => a02 g rfl e) _, a01, a02, a12⟩, r3.other (a := ⟨g, k, none⟩) (b0 g rfl) _, b0, b1, b2⟩, h.far,
    h.rd.other (a := ⟨g, k, none⟩) (by show _ ≠ g; omega) (by show _ ≤ g; omega) _, grown_set h.gr (p := ⟨g, k, none⟩) (.inr (by show _ ≤ g; omega)) _, h.rbl, h.rsw, h.rsb⟩
theorem CSt.cellR {w wr : World} {B rb bx rs : Nat} {A : Option Addr} {nb c p : Nat} {v0 v2 v3 : Value} {g n cp : Nat} {C : Cp} (h : CSt w wr B rb bx rs A nb c p v0 (.slice (some ⟨g, 0, none⟩) n cp) v2 v3 C) (k : Nat) (x : Int) :
    CSt w (wr.setCell ⟨g, k, none⟩ (.int .i64 x)) B rb bx rs A nb c p v0 (.slice (some ⟨g, 0, none⟩) n cp) v2 v3 ⟨⟨C.h.l, C.h.r.set k x, C.h.t⟩, C.c⟩ := by
  obtain ⟨_, _, _, _, e, ⟨_, _, _, e', r0, r1, r2, a01, a02, a12⟩, r3, b0, b1, b2⟩ := h.cv
  cases e; cases e'
  have hg := (r1.lt g rfl).1
  have hr := h.rbl
  have hs := h.rsb
  have hw := h.rsw
  have hB := h.rd.2.2.1
  have fb : bx ≠ g := fun e => h.far.2.1 (by rw [e]; rfl)
  exact ⟨h.res.other (p := ⟨g, k, none⟩) (by show _ ≠ g; omega) _, h.blk.other (p := ⟨g, k, none⟩) fb _,
    ⟨_, _, _, _, rfl, ⟨_, _, _, rfl, r0.other (a := ⟨g, k, none⟩) (fun e => a01 g e rfl) _, r1.set_ k x, r2.other (a := ⟨g, k, none⟩) (fun e => a12 g rfl e) _, a01, a02, a12⟩, r3.other (a := ⟨g, k, none⟩) (b1 g rfl) _, b0, b1, b2⟩, h.far,
    h.rd.other (a := ⟨g, k, none⟩) (by show _ ≠ g; omega) (by show _ ≤ g; omega) _, grown_set h.gr (p := ⟨g, k, none⟩) (.inr (by show _ ≤ g; omega)) _, h.rbl, h.rsw, h.rsb⟩
theorem CSt.cellT {w wr : World} {B rb bx rs : Nat} {A : Option Addr} {nb c p : Nat} {v0 v1 v3 : Value} {g n cp : Nat} {C : Cp} (h : CSt w wr B rb bx rs A nb c p v0 v1 (.slice (some ⟨g, 0, none⟩) n cp) v3 C) (k : Nat) (x : Int) :
    CSt w (wr.setCell ⟨g, k, none⟩ (.int .i64 x)) B rb bx rs A nb c p v0 v1 (.slice (some ⟨g, 0, none⟩) n cp) v3 ⟨⟨C.h.l, C.h.r, C.h.t.set k x⟩, C.c⟩ := by
  obtain ⟨_, _, _, _, e, ⟨_, _, _, e', r0, r1, r2, a01, a02, a12⟩, r3, b0, b1, b2⟩ := h.cv
  cases e; cases e'
  have hg := (r2.lt g rfl).1
  have hr := h.rbl
  have hs := h.rsb
  have hw := h.rsw
  have hB := h.rd.2.2.1
  have fb : bx ≠ g := fun e => h.far.2.2.1 (by rw [e]; rfl)
  exact ⟨h.res.other (p := ⟨g, k, none⟩) (by show _ ≠ g; omega) _, h.blk.other (p := ⟨g, k, none⟩) fb _,
    ⟨_, _, _, _, rfl, ⟨_, _, _, rfl, r0.other (a := ⟨g, k, none⟩) (fun e => a02 g e rfl) _, r1.other (a := ⟨g, k, none⟩) (fun e => a12 g e rfl) _, r2.set_ k x, a01, a02, a12⟩, r3.other (a := ⟨g, k, none⟩) (b2 g rfl) _, b0, b1, b2⟩, h.far,
    h.rd.other (a := ⟨g, k, none⟩) (by show _ ≠ g; omega) (by show _ ≤ g; omega) _, grown_set h.gr (p := ⟨g, k, none⟩) (.inr (by show _ ≤ g; omega)) _, h.rbl, h.rsw, h.rsb⟩
theorem cellSw {w : World} {a p : Addr} {u v : Value} (h : w.cell? a = some u) (hne : a.block ≠ p.block) : (w.setCell p v).cell? a = some u := (World.cell?_setCell_far w p a v hne.symm).trans h
theorem Cv.rowsS {w : World} {lo : Nat} {v0 v1 v2 v3 : Value} {C : Cp} (h : Cv w lo (.agg #[v0, v1, v2, v3]) C) : Row w lo v0 C.h.l ∧ Row w lo v1 C.h.r ∧ Row w lo v2 C.h.t ∧ Row w lo v3 C.c := by
  obtain ⟨_, _, _, _, e, ⟨_, _, _, e', r0, r1, r2, _⟩, r3, _⟩ := h
  cases e; cases e'
  exact ⟨r0, r1, r2, r3⟩
theorem lenS {w : World} {lo n c : Nat} {A : Option Addr} {xs : List Int} (h : Row w lo (.slice A n c) xs) : xs.length = n := by
  obtain ⟨_, _, e, _⟩ := h.form
  cases e; rfl
/-- A drawn store comes back, and it is valid. -/
def DrawnSv (w : World) (B rb : Nat) (A : Option Addr) (nb c p : Nat) (e : Ending) (w' : World) : Prop :=
  ∃ v C p', e = .returned v ∧ Cv w' w.heap.size v C ∧ stoB C = true ∧ Rd w' B rb A nb c p' ∧ p' ≤ p + 64 ∧ w.grownBy w' (some rb)

set_option maxRecDepth 100000 in
set_option maxHeartbeats 8000000 in
theorem l4Draw_any (w : World) (B rb : Nat) (A : Option Addr) (nb c p : Nat) (h : Rd w B rb A nb c p) (hp : p ≤ 9000) :
    Calls Try.prog 94 #[.pointer (some ⟨rb, 0, none⟩)] w (DrawnSv w B rb A nb c p) := by
  have hrl := h.lt
  have Y0 := Blk4.new w (.slice none 0 0) (.slice none 0 0) (.slice none 0 0) (.slice none 0 0) 27
  have h0 := h.alloc (.cells #[.slice none 0 0, .slice none 0 0, .slice none 0 0, .slice none 0 0] 27)
  go_enter Try.func94, Try.ntmps94
  go_wp2_with fail
  refine (num_any _ _ _ _ _ _ _ (h0.alloc _) (by omega) _ _ _ [4, 3, 5, 6, 2, 8] 0 (Row.lit_at (g := w.heap.size + 1) (by simp) [4, 3, 5, 6, 2, 8] (by decide)) rfl (by decide) (by decide) (by simp; omega)).mono ?_
  rintro e w1 ⟨x, hx, rfl, hR1, hO1⟩
  have hxn : ∃ n : Nat, x = n ∧ 1 ≤ n ∧ n ≤ 8 := by
    simp at hx; exact ⟨x.toNat, by omega, by omega, by omega⟩
  obtain ⟨n, rfl, hn1, hn8⟩ := hxn
  clear hx
  go_wp2_with fail
  refine (num_any _ _ _ _ _ _ _ (hR1.alloc _) (by omega) _ _ _ [2, 1, 3] 0 (Row.lit_at (w := w1) (g := w1.heap.size) rfl [2, 1, 3] (by decide)) rfl (by decide) (by decide) (by have := hR1.lt; omega)).mono ?_
  rintro e w2 ⟨x, hx, rfl, hR2, hO2⟩
  have hxm : ∃ m : Nat, x = m ∧ 1 ≤ m ∧ m ≤ 3 := by
    simp at hx; exact ⟨x.toNat, by omega, by omega, by omega⟩
  obtain ⟨m, rfl, hm1, hm3⟩ := hxm
  clear hx
  have N := fun W => specNewStore_any W n m
  have hnew : newSO (n : Int) (m : Int) = some ⟨⟨List.replicate n (-1), List.replicate n (-1), List.replicate m (-1)⟩, nums n⟩ := by
    unfold newSO; rw [if_pos (by simp [szB]; omega)]; simp
  rw [hnew] at N
  have valN := newS_valid hn1 hn8 hm1 hm3
  have hlt : (⟨⟨List.replicate n (-1), List.replicate n (-1), List.replicate m (-1)⟩, nums n⟩ : Cp).h.t.length = m := by simp
  generalize (⟨⟨List.replicate n (-1), List.replicate n (-1), List.replicate m (-1)⟩, nums n⟩ : Cp) = C0 at N valN hlt
  clear hnew
  go_wp2_with fail
  refine (N _).mono ?_
  rintro e w3 ⟨v, rfl, hv3, hb3⟩
  simp only [Option.isSome_some, Option.getD_some] at hv3 ⊢
  have hvo := hv3
  obtain ⟨D0, m0, d0, D1, m1, d1, D2, m2, d2, D3, m3, d3, rfl, _⟩ := hvo.open_
  have z2 : w.heap.size + 2 ≤ w2.heap.size := by have a := hO1.2; have b := hO2.2; simp at a b; omega
  have G2 : w.grownBy w2 (some rb) := grown_trans (grown_alloc (grown_trans (grown_alloc (grown_alloc (World.grownBy.refl w _) _) _) hO1.1) _) hO2.1
  have z3 := hb3.size
  have st : CSt w (w3.alloc (.cells #[.slice D0 m0 d0, .slice D1 m1 d1, .slice D2 m2 d2, .slice D3 m3 d3] 27)) B rb w3.heap.size w.heap.size A nb c (p + 1 + 1) (.slice D0 m0 d0) (.slice D1 m1 d1) (.slice D2 m2 d2) (.slice D3 m3 d3) C0 := {
    res := (((((Y0.alloc _).kept hO1.1 (by omega)).alloc _).kept hO2.1 (by omega)).below hb3).alloc _
    blk := Blk4.new w3 _ _ _ _ _
    cv := (hv3.mono (by omega)).alloc _
    far := by
      obtain ⟨q0, q1, q2, q3⟩ := hv3.rowsS
      exact ⟨fun e => by have := (q0.lt _ e).2; omega, fun e => by have := (q1.lt _ e).2; omega, fun e => by have := (q2.lt _ e).2; omega, fun e => by have := (q3.lt _ e).2; omega⟩
    rd := (hR2.below hb3).alloc _
    gr := grown_alloc (grown_of G2 hb3) _
    rbl := hrl
    rsw := Nat.le_refl _
    rsb := by omega }
  have P := fun W hR => num_any W B rb A nb c (p + 1 + 1) hR (by omega)
  clear hv3 hvo hb3 hR2 hO2 hR1 hO1 h0 Y0 h N G2 z2
  go_wp2_with fail
  refine (P _ (st.rd.alloc _) _ _ _ [5, 3, 8, 2, 0, 12] 0 (Row.lit_at (by simp) [5, 3, 8, 2, 0, 12] (by decide)) rfl (by decide) (by decide) (by have := st.rd.lt; simp at this ⊢; omega)).mono ?_
  rintro e w4 ⟨x, hx, rfl, hR4, hO4⟩
  have hxi : ∃ i : Nat, x = i ∧ i ≤ 12 := by
    simp at hx; exact ⟨x.toNat, by omega, by omega⟩
  obtain ⟨i0, rfl, hi12⟩ := hxi
  have st1 := (st.alloc _).pick hR4 hO4
  generalize w3.heap.size = bx at st1 ⊢
  clear hx st P hR4 hO4
  have hvalN := Lib.hid valN
  have hlt' := Lib.hid hlt
  clear valN hlt
  go_wp2_with fail
  go_loopw [5, 6, 7, 8, 9, 11, 12, 69, 81, 91] (fun i _ _ _ _ _ _ _ _ _ wr => ∃ (k q : Nat) (C : Cp) (E0 : Option Addr) (u0 e0 : Nat) (E1 : Option Addr) (u1 e1 : Nat) (E2 : Option Addr) (u2 e2 : Nat) (E3 : Option Addr) (u3 e3 : Nat), k ≤ 12 ∧ i = .int .i64 k ∧ q + 3 * k ≤ p + 3 + 36 ∧ Hid (stoB C = true) ∧ CSt w wr B rb bx w.heap.size A nb c q (.slice E0 u0 e0) (.slice E1 u1 e1) (.slice E2 u2 e2) (.slice E3 u3 e3) C) (fun i _ _ _ _ _ _ _ _ _ _ => (intOf i).toNat)
  case atStart => exact ⟨i0, _, C0, _, _, _, _, _, _, _, _, _, _, _, _, hi12, rfl, by omega, hvalN, st1⟩
  case round =>
    clear st1 hvalN hlt'
    obtain ⟨k, q, C, E0, u0, e0, E1, u1, e1, E2, u2, e2, E3, u3, e3, hk, rfl, hq, val, st⟩ := hrel
    obtain ⟨x0, x1, x2, x3, f0, f1, f2, f3⟩ := st.blk.cells
    by_cases hz : k = 0
    · subst hz
      obtain ⟨hC, hR, hG⟩ := c_done st
      obtain ⟨y0, y1, y2, y3, i0, i1, i2, i3⟩ := st.res.cells
      clear st
      go_wp2_with fail
      refine bodyPost_ret (v := .agg #[.slice E0 u0 e0, .slice E1 u1 e1, .slice E2 u2 e2, .slice E3 u3 e3]) ?_ rfl ⟨_, C, q, rfl, hC, val.out, hR, by omega, hG⟩
      simp [results, Try.results94, go_sem, y0, y1, y2, y3]
    · obtain ⟨j, rfl⟩ : ∃ j, k = j + 1 := ⟨k - 1, by omega⟩
      have hk1 : (0 : Int) < ((j + 1 : Nat) : Int) := by omega
      obtain ⟨hvh, _⟩ := stoB_parts val.out
      have h8 := hvB_len hvh
      have lt2 := lenS st.cv.rowsS.2.2.1
      have ll := lenS st.cv.rowsS.1
      have lr := lenS st.cv.rowsS.2.1
      have u21 : 1 ≤ (u2 : Int) := by omega
      have u2m : (u2 : Int) ≤ 1048576 := by omega
      have P := fun W q9 hR hq9 => pick_any W B rb A nb c q9 hR (u2 : Int) u21 u2m hq9
      go_wp2_with fail
      refine (P _ q (by exact st.rd) (by omega)).mono ?_; rintro e w5 ⟨kk, rfl, hkk, hR5, hO5⟩
      have st5 := st.pick hR5 hO5
      clear st hR5 hO5 x0 x1 x2 x3 f0 f1 f2 f3
      obtain ⟨x0, x1, x2, x3, f0, f1, f2, f3⟩ := st5.blk.cells
      go_wp2_with fail
      refine (P _ (q + 1) (by exact st5.rd) (by omega)).mono ?_; rintro e w6 ⟨qq, rfl, hqq, hR6, hO6⟩
      have st6 := st5.pick hR6 hO6
      clear st5 hR6 hO6 x0 x1 x2 x3 f0 f1 f2 f3 P
      obtain ⟨x0, x1, x2, x3, f0, f1, f2, f3⟩ := st6.blk.cells
      obtain ⟨q0, q1, q2, q3⟩ := st6.cv.rowsS
      obtain ⟨gt, a, rfl, _, _, ha, hca, _⟩ := q2.get (k := kk) (by omega)
      obtain ⟨_, b, eb, _, _, hb, hcb, _⟩ := q2.get (k := qq) (by omega)
      cases eb
      obtain ⟨gl, _, rfl, _, _, _, _, _⟩ := q0.get (k := 0) (by omega)
      obtain ⟨gr, _, rfl, _, _, _, _, _⟩ := q1.get (k := 0) (by omega)
      have hkk2 : (kk : Int) < (u2 : Int) := by omega
      have hqq2 : (qq : Int) < (u2 : Int) := by omega
      have ma := List.mem_of_getElem? ha.out
      have mb := List.mem_of_getElem? hb.out
      have pa := root_pt hvh ma
      have pb := root_pt hvh mb
      simp only [ptB, decide_eq_true_eq] at pa pb
      have HM := Lib.hid (And.intro ma mb)
      clear ma mb ha hb hvh q0 q1 q2 q3
      have P := fun W hR => pick_any W B rb A nb c (q + 1 + 1) hR 5 (by omega) (by omega) (by omega)
      go_wp2_with fail
      refine (P _ (by exact st6.rd)).mono ?_; rintro e w7 ⟨y, rfl, hy, hR7, hO7⟩
      have st7 := st6.pick hR7 hO7
      clear st6 hR7 hO7 x0 x1 x2 x3 f0 f1 f2 f3 hca hcb P
      obtain ⟨x0, x1, x2, x3, f0, f1, f2, f3⟩ := st7.blk.cells
      by_cases y1 : y ≤ 1
      · have AL := specAllocCell_any w7 _ _ _ st7.cv (kk : Int)
        have hbx7 := st7.blk.lt
        have hsb := st7.rsb
        have y01 : y = 0 ∨ y = 1 := by omega
        rcases eA : allocB C (kk : Int)
        · rw [eA] at AL
          rcases y01 with rfl | rfl
          all_goals
            go_wp2_with fail
            refine AL.mono ?_; rintro e w8 ⟨v8, rfl, hc8, hb8⟩
            have st8 := st7.below hb8
            obtain ⟨K0, t0, k0, K1, t1, k1, K2, t2, k2, K3, t3, k3, rfl, _⟩ := hc8.open_
            have st9 := st8.alloc (.cells #[.slice K0 t0 k0, .slice K1 t1 k1, .slice K2 t2 k2, .slice K3 t3 k3] 27)
            clear st7 st8 hc8 hb8 AL x0 x1 x2 x3 f0 f1 f2 f3
            go_wp2_with fail
            go_roundw
            case rel => exact ⟨j, q + 1 + 1 + 1, C, _, _, _, _, _, _, _, _, _, _, _, _, by omega, by go_num, by omega, val, st9⟩
            case measure => simp [intOf]
        · rw [eA] at AL
          have val2 := Lib.hid (alloc_valid eA)
          rcases y01 with rfl | rfl
          all_goals
            go_wp2_with fail
            refine AL.mono ?_; rintro e w8 ⟨v8, rfl, hc8, hb8⟩
            have st8 := st7.below hb8
            obtain ⟨K0, t0, k0, K1, t1, k1, K2, t2, k2, K3, t3, k3, rfl, _⟩ := hc8.open_
            have st9 := st8.alloc (.cells #[.slice K0 t0 k0, .slice K1 t1 k1, .slice K2 t2 k2, .slice K3 t3 k3] 27)
            have hc9 := (hc8.mono (lo' := w.heap.size + 1) (by omega)).alloc (.cells #[.slice K0 t0 k0, .slice K1 t1 k1, .slice K2 t2 k2, .slice K3 t3 k3] 27)
            have st10 := st9.put4 hc9 (hc8.far_of (by omega))
            obtain ⟨z0, z1, z2, z3, h0, h1, h2, h3⟩ := st9.blk.cells
            clear st7 st8 st9 hc8 hc9 hb8 AL x0 x1 x2 x3 f0 f1 f2 f3
            go_wp2_with fail
            go_roundw
            case rel => exact ⟨j, q + 1 + 1 + 1, allocC C (kk : Int), _, _, _, _, _, _, _, _, _, _, _, _, by omega, by go_num, by omega, val2, st10⟩
            case measure => simp [intOf]
      · have yb0 : ((y : Int) == 0) = false := by simp; omega
        have yb1 : ((y : Int) == 1) = false := by simp; omega
        obtain ⟨r0, r1, r2, r3⟩ := st7.cv.rowsS
        by_cases y2 : y = 2
        · subst y2
          by_cases a1 : a = -1
          · subst a1
            go_wp2_with fail
            go_roundw
            case rel => exact ⟨j, q + 1 + 1 + 1, C, _, _, _, _, _, _, _, _, _, _, _, _, by omega, by go_num, by omega, val, st7⟩
            case measure => simp [intOf]
          · obtain ⟨an, rfl⟩ := Int.eq_ofNat_of_zero_le (by omega : 0 ≤ a)
            have an1 : ((an : Int) != -1) = true := by simp
            obtain ⟨_, _, e9, _, _, _, hc9, hf9⟩ := r0.get (k := an) (by omega)
            cases e9
            have hau : (an : Int) < (u0 : Int) := by omega
            have val2 := Lib.hid (sto_left val.out HM.out.1 HM.out.2)
            have st8 := st7.cellL an b
            clear r0 r1 r2 r3 st7 HM
            go_wp2_with fail
            go_roundw
            case rel => exact ⟨j, q + 1 + 1 + 1, _, _, _, _, _, _, _, _, _, _, _, _, _, by omega, by go_num, by omega, val2, st8⟩
            case measure => simp [intOf]
        by_cases y3 : y = 3
        · subst y3
          by_cases a1 : a = -1
          · subst a1
            go_wp2_with fail
            go_roundw
            case rel => exact ⟨j, q + 1 + 1 + 1, C, _, _, _, _, _, _, _, _, _, _, _, _, by omega, by go_num, by omega, val, st7⟩
            case measure => simp [intOf]
          · obtain ⟨an, rfl⟩ := Int.eq_ofNat_of_zero_le (by omega : 0 ≤ a)
            have an1 : ((an : Int) != -1) = true := by simp
            obtain ⟨_, _, e9, _, _, _, hc9, hf9⟩ := r1.get (k := an) (by omega)
            cases e9
            have hau : (an : Int) < (u1 : Int) := by omega
            have val2 := Lib.hid (sto_right val.out HM.out.1 HM.out.2)
            have st8 := st7.cellR an b
            clear r0 r1 r2 r3 st7 HM
            go_wp2_with fail
            go_roundw
            case rel => exact ⟨j, q + 1 + 1 + 1, _, _, _, _, _, _, _, _, _, _, _, _, _, by omega, by go_num, by omega, val2, st8⟩
            case measure => simp [intOf]
        · have yb2 : ((y : Int) == 2) = false := by simp; omega
          have yb3 : ((y : Int) == 3) = false := by simp; omega
          by_cases b1 : b = -1
          · subst b1
            go_wp2_with fail
            go_roundw
            case rel => exact ⟨j, q + 1 + 1 + 1, C, _, _, _, _, _, _, _, _, _, _, _, _, by omega, by go_num, by omega, val, st7⟩
            case measure => simp [intOf]
          · obtain ⟨bn, rfl⟩ := Int.eq_ofNat_of_zero_le (by omega : 0 ≤ b)
            have bn1 : ((bn : Int) != -1) = true := by simp
            obtain ⟨_, x, e9, _, _, hx, hc9, hf9⟩ := r0.get (k := bn) (by omega)
            cases e9
            obtain ⟨_, _, e8, _, _, _, hc8, hf8⟩ := r2.get (k := kk) (by omega)
            cases e8
            have hbu : (bn : Int) < (u0 : Int) := by omega
            have val2 := Lib.hid (sto_root val.out kk (.inl (List.mem_of_getElem? hx.out)))
            have st8 := st7.cellT kk x
            have ngb : bx ≠ gt := fun e => st7.far.2.2.1 (by rw [e]; rfl)
            have ngl : gl ≠ gt := fun e => by
              obtain ⟨_, _, _, _, ee, ⟨_, _, _, ee', _, _, _, _, a02, _⟩, _⟩ := st7.cv
              cases ee; cases ee'
              exact a02 gl rfl (by rw [e]; rfl)
            clear r0 r1 r2 r3 HM hx
            go_wp2_with fail
            go_region_held3 (fun w' => w'.cell? ⟨bx, 2, none⟩ = some (.slice (some ⟨gt, 0, none⟩) u2 e2) ∧ w'.cell? ⟨bx, 0, none⟩ = some (.slice (some ⟨gl, 0, none⟩) u0 e0) ∧ w'.cell? ⟨gl, bn, none⟩ = some (.int .i64 x))
              (((try dsimp only); (repeat' apply And.intro) <;> (with_reducible (first | exact cellD (cellSw x2 ngb) | exact cellD (cellSw x0 ngb) | exact cellD (cellSw hc9 ngl) | exact cellSw (cellD x2) ngb | exact cellSw (cellD x0) ngb | exact cellSw (cellD hc9) ngl | exact cellD x2 | exact cellD x0 | exact cellD hc9 | exact x2 | exact x0 | exact hc9))))
              (fail)
            rename_i hHeld
            clear hHeld
            have st9 := st8.drew
            clear st7 st8 x0 x1 x2 x3 hc8 hc9 hf8 hf9
            go_wp2_with fail
            go_roundw
            case rel => exact ⟨j, q + 1 + 1 + 1, _, _, _, _, _, _, _, _, _, _, _, _, _, by omega, by go_num, by omega, val2, st9⟩
            case measure => simp [intOf]
end Go.Proofs.Yteogflkahoanlaa

/- l4Copy of any store. -/
namespace Go.Proofs.Yteogflkahoanlaa
open Go.RowKit

def NewCvB (w : World) (C : Cp) (e : Ending) (w' : World) : Prop := ∃ v0 v1 v2 g n c, e = .returned (.agg #[v0, v1, v2, .slice (some ⟨g, 0, none⟩) n c]) ∧ Cv w' w.heap.size (.agg #[v0, v1, v2, .slice (some ⟨g, 0, none⟩) n c]) C ∧ Below w.heap.size w w'
theorem l1CopyH_any (w : World) (lo : Nat) (v : Value) (h : Hp) (hv : Hv w lo v h) (z0 : 0 < h.l.length) (z1 : 0 < h.r.length) (b0 : h.l.length ≤ 1048576) (b1 : h.r.length ≤ 1048576) (b2 : h.t.length ≤ 1048576) :
    Calls Try.prog 85 #[v] w (NewHv w h) :=
  (l1CopyG_any w lo v h hv z0 z1 b0 b1 b2).mono fun _ _ ⟨_, _, _, _, _, _, e, hH, hB⟩ => ⟨_, e, hH, hB⟩

set_option maxRecDepth 100000 in
set_option maxHeartbeats 3200000 in
theorem l4CopyGP_any (w : World) (lo : Nat) (v : Value) (C : Cp) (hv : Cv w lo v C) (hS : SzH 20 C.h) (hc : C.c.length ≤ 1048576) (hpos : 0 < C.c.length) :
    Calls Try.prog 61 #[v] w (NewCvB w C) := by
  obtain ⟨A0, n0, c0, A1, n1, c1, A2, n2, c2, A3, n3, c3, rfl, hh, ⟨r0, r1, r2, r3⟩, ⟨l0, l1, l2, l3⟩, _, _⟩ := hv.open_
  obtain ⟨e1, e2, e3, e4, e5⟩ := hS
  obtain ⟨g3, rfl, _, _⟩ := r3.at_ (k := 0) (by omega)
  have y3 : n3 = C.c.length := l3.out.symm
  obtain ⟨i0, hi, hz0, hz1, hz2⟩ := info_parts Try.infoInt
  have E3 : (C.c.map iv).length = n3 * 1 := by simp; omega
  have M3 : 0 + n3 ≤ maxLen := by unfold maxLen; omega
  have u3a : 0 < n3 := by omega
  have u3b : n3 ≤ 1048576 := by omega
  have L3 : Hid (0 + n3 = C.c.length) := by unfold Hid; omega
  have z0 : 0 < C.h.l.length := by omega
  have z1 : 0 < C.h.r.length := by omega
  have b0 : C.h.l.length ≤ 1048576 := by omega
  have b1 : C.h.r.length ≤ 1048576 := by omega
  have b2 : C.h.t.length ≤ 1048576 := by omega
  clear hv y3 hc e1 e2 e3 e4 e5 r0 r1 r2 l0 l1 l2 l3
  have P := Blk4.new w (.slice A0 n0 c0) (.slice A1 n1 c1) (.slice A2 n2 c2) (.slice (some ⟨g3, 0, none⟩) n3 c3) 27
  have X := P.alloc (.cells #[.slice none 0 0, .slice none 0 0, .slice none 0 0, .slice none 0 0] 27)
  have Y := Blk4.new_at (w := w.alloc (.cells #[.slice A0 n0 c0, .slice A1 n1 c1, .slice A2 n2 c2, .slice (some ⟨g3, 0, none⟩) n3 c3] 27)) (b := w.heap.size + 1) (by simp) (.slice none 0 0) (.slice none 0 0) (.slice none 0 0) (.slice none 0 0) 27
  have R3 := (r3.alloc (.cells #[.slice A0 n0 c0, .slice A1 n1 c1, .slice A2 n2 c2, .slice (some ⟨g3, 0, none⟩) n3 c3] 27)).alloc (.cells #[.slice none 0 0, .slice none 0 0, .slice none 0 0, .slice none 0 0] 27)
  have HH := (hh.alloc (.cells #[.slice A0 n0 c0, .slice A1 n1 c1, .slice A2 n2 c2, .slice (some ⟨g3, 0, none⟩) n3 c3] 27)).alloc (.cells #[.slice none 0 0, .slice none 0 0, .slice none 0 0, .slice none 0 0] 27)
  have BB : Below w.heap.size w ((w.alloc (.cells #[.slice A0 n0 c0, .slice A1 n1 c1, .slice A2 n2 c2, .slice (some ⟨g3, 0, none⟩) n3 c3] 27)).alloc (.cells #[.slice none 0 0, .slice none 0 0, .slice none 0 0, .slice none 0 0] 27)) := ((Below.refl _ _).alloc (Nat.le_refl _) _).alloc (by simp) _
  have sz : ((w.alloc (.cells #[.slice A0 n0 c0, .slice A1 n1 c1, .slice A2 n2 c2, .slice (some ⟨g3, 0, none⟩) n3 c3] 27)).alloc (.cells #[.slice none 0 0, .slice none 0 0, .slice none 0 0, .slice none 0 0] 27)).heap.size = w.heap.size + 2 := by simp
  go_enter Try.func61, Try.ntmps61
  go_wp2_with fail
  generalize (w.alloc (.cells #[.slice A0 n0 c0, .slice A1 n1 c1, .slice A2 n2 c2, .slice (some ⟨g3, 0, none⟩) n3 c3] 27)).alloc (.cells #[.slice none 0 0, .slice none 0 0, .slice none 0 0, .slice none 0 0] 27) = W at X Y R3 HH BB sz ⊢
  obtain ⟨x0, x1, x2, x3, _⟩ := X.cells
  have hnb : w.heap.size + 1 ≠ w.heap.size := by omega
  have sD : (W.alloc (.cells #[] 3)).drew.heap.size = W.heap.size + 1 := by show (W.alloc (.cells #[] 3)).heap.size = _; simp
  go_region_held3 (fun w' => w'.cell? ⟨w.heap.size, 0, none⟩ = some (.slice A0 n0 c0) ∧ w'.cell? ⟨w.heap.size, 1, none⟩ = some (.slice A1 n1 c1) ∧ w'.cell? ⟨w.heap.size, 2, none⟩ = some (.slice A2 n2 c2) ∧ w'.cell? ⟨w.heap.size, 3, none⟩ = some (.slice (some ⟨g3, 0, none⟩) n3 c3))
    (((try dsimp only); (repeat' apply And.intro) <;> (with_reducible (first | exact cellF4 s0 hnb _ _ _ _ | exact cellF4 s1 hnb _ _ _ _ | exact cellF4 s2 hnb _ _ _ _ | exact cellF4 s3 hnb _ _ _ _ | exact s0 | exact s1 | exact s2 | exact s3 | exact cellA s0 _ | exact cellA s1 _ | exact cellA s2 _ | exact cellA s3 _ | exact p0 | exact p1 | exact p2 | exact p3 | exact cellA p0 _ | exact cellA p1 _ | exact cellA p2 _ | exact cellA p3 _ | exact x0 | exact x1 | exact x2 | exact x3 | exact cellD x0 | exact cellD x1 | exact cellD x2 | exact cellD x3 | exact cellA x0 _ | exact cellA x1 _ | exact cellA x2 _ | exact cellA x3 _ | exact cellD (cellA x0 _) | exact cellD (cellA x1 _) | exact cellD (cellA x2 _) | exact cellD (cellA x3 _) | exact cellA (cellD x0) _ | exact cellA (cellD x1) _ | exact cellA (cellD x2) _ | exact cellA (cellD x3) _)) <;> done))
    (first
      | (go_at_call 85; (with_reducible refine (l1CopyH_any W.drew lo _ C.h HH.drew z0 z1 b0 b1 b2).mono ?_); rintro e w1 ⟨vv, rfl, HN0, hb0⟩; have HN : Hv w1 W.heap.size vv C.h := HN0; have hb1 : Below W.heap.size W w1 := (Below.refl W.heap.size W).drew.trans (hb0.mono (Nat.le_refl _)); (obtain ⟨p0, p1, p2, p3, _⟩ := (X.below hb1).cells); (have hNo := HN); (obtain ⟨B0, m0, d0, B1, m1, d1, B2, m2, d2, rfl, _⟩ := hNo.open_))
      | (go_at_call 85; (with_reducible refine (l1CopyH_any (W.alloc (.cells #[] 3)).drew lo _ C.h (HH.alloc _).drew z0 z1 b0 b1 b2).mono ?_); rintro e w1 ⟨vv, rfl, HN0, hb0⟩; have HN : Hv w1 W.heap.size vv C.h := HN0.mono (by rw [sD]; omega); have hb1 : Below W.heap.size W w1 := (((Below.refl W.heap.size W).alloc (Nat.le_refl _) (.cells #[] 3)).drew).trans (hb0.mono (by rw [sD]; omega)); (obtain ⟨p0, p1, p2, p3, _⟩ := (X.below hb1).cells); (have hNo := HN); (obtain ⟨B0, m0, d0, B1, m1, d1, B2, m2, d2, rfl, _⟩ := hNo.open_))
      | (refine step_append_grows rfl (.tmp 6) (.tmp 8) 23 rfl 3 i0 (.int .i64 0) 1 8 Try.underlying23 hi hz0 hz1 hz2 rfl (by decide) _ 0 0 [] (by rfl) (fun _ => ⟨rfl, rfl⟩) rfl (fun _ _ j u hj => nil_get hj) ⟨g3, 0, none⟩ n3 c3 (C.c.map iv) (by rfl) E3 ?_ (ints_oneCell _ _) (by omega) (by omega) (by omega) ?_; (exact Row.cellsV (lo := lo) (n := n3) (c := c3) (xs := C.c) (by repeat (with_reducible (first | refine Row.drew ?_ | refine Row.alloc ?_ _ | refine Row.below ?_ hb1 | exact R3)))); intro vr w2 hown hgr; obtain ⟨A3', c3', rfl, hr, hb2⟩ := after_append (xs := C.c) hown hgr L3.out; have X2 : Blk4 w2 w.heap.size (.slice A0 n0 c0) (.slice A1 n1 c1) (.slice A2 n2 c2) (.slice (some ⟨g3, 0, none⟩) n3 c3) 27 := (by repeat (with_reducible (first | exact X | refine Blk4.alloc ?_ _ | refine Blk4.below ?_ hb2 | refine Blk4.below ?_ hb1))); obtain ⟨s0, s1, s2, s3, _⟩ := X2.cells; have Y2 : Blk4 w2 (w.heap.size + 1) (.slice none 0 0) (.slice none 0 0) (.slice none 0 0) (.slice none 0 0) 27 := (by repeat (with_reducible (first | exact Y | refine Blk4.alloc ?_ _ | refine Blk4.below ?_ hb2 | refine Blk4.below ?_ hb1))); obtain ⟨q0, q1, q2, q3, k0, k1, k2, k3⟩ := Y2.cells))
  all_goals
    rename_i hHeld
    clear hHeld
    have s1 := hb1.size
    have HN2 : Hv w2 W.heap.size (.agg #[.slice B0 m0 d0, .slice B1 m1 d1, .slice B2 m2 d2]) C.h := by repeat (with_reducible (first | exact HN | refine Hv.alloc ?_ _ | refine Hv.below ?_ hb2))
    have B2' : Below W.heap.size W w2 := Below.trans (by repeat (with_reducible (first | exact hb1 | refine Below.alloc ?_ (by first | omega | (simp <;> omega)) _))) (hb2.mono (by first | omega | (simp <;> omega)))
    have hr' : Row w2 (w.heap.size + 2) (.slice A3' C.c.length c3') C.c := hr.mono (by first | omega | (simp <;> omega))
    have ap : ∀ (v : Value) (xs : List Int), Row w1 W.heap.size v xs → Apart v (.slice A3' C.c.length c3') := fun v xs r j e e' => by
      have h1 := (r.lt j e).2
      have h2 := (hr.lt j e').1
      (try simp at h2)
      omega
    obtain ⟨_, _, _, ev, H0, H1, H2, _⟩ := HN
    cases ev
    obtain ⟨hH, hB⟩ := copyC_done (w := w) (C := C) (HN2.mono (by omega)) hr' ⟨ap _ _ H0, ap _ _ H1, ap _ _ H2⟩ (BB.trans (B2'.mono (by omega)))
    clear s0 s1 s2 s3 p0 p1 p2 p3 x0 x1 x2 x3
    obtain ⟨g9, rfl, _⟩ := hr'.at_ (k := 0) hpos
    go_wp2_with fail
    refine bodyPost_ret (v := .agg #[.slice B0 m0 d0, .slice B1 m1 d1, .slice B2 m2 d2, .slice (some ⟨g9, 0, none⟩) C.c.length c3']) ?_ rfl ⟨_, _, _, _, _, _, rfl, hH, hB⟩
    simp [results, Try.results61, go_sem, q0, q1, q2, q3]

set_option maxRecDepth 100000 in
set_option maxHeartbeats 3200000 in
theorem l4CopyGE_any (w : World) (lo : Nat) (v : Value) (C : Cp) (hv : Cv w lo v C) (hS : SzH 20 C.h) (hnil : C.c.length = 0) :
    Calls Try.prog 61 #[v] w (NewCvB w C) := by
  obtain ⟨A0, n0, c0, A1, n1, c1, A2, n2, c2, A3, n3, c3, rfl, hh, ⟨r0, r1, r2, r3⟩, ⟨l0, l1, l2, l3⟩, _, _⟩ := hv.open_
  obtain ⟨e1, e2, e3, e4, e5⟩ := hS
  have hc0 : C.c = [] := List.eq_nil_of_length_eq_zero hnil
  obtain rfl : n3 = 0 := by rw [← l3.out]; exact hnil
  obtain ⟨i0, hi, hz0, hz1, hz2⟩ := info_parts Try.infoInt
  have z0 : 0 < C.h.l.length := by omega
  have z1 : 0 < C.h.r.length := by omega
  have b0 : C.h.l.length ≤ 1048576 := by omega
  have b1 : C.h.r.length ≤ 1048576 := by omega
  have b2 : C.h.t.length ≤ 1048576 := by omega
  clear hv e1 e2 e3 e4 e5 r0 r1 r2 l0 l1 l2 l3
  have P := Blk4.new w (.slice A0 n0 c0) (.slice A1 n1 c1) (.slice A2 n2 c2) (.slice A3 0 c3) 27
  have X := P.alloc (.cells #[.slice none 0 0, .slice none 0 0, .slice none 0 0, .slice none 0 0] 27)
  have Y := Blk4.new_at (w := w.alloc (.cells #[.slice A0 n0 c0, .slice A1 n1 c1, .slice A2 n2 c2, .slice A3 0 c3] 27)) (b := w.heap.size + 1) (by simp) (.slice none 0 0) (.slice none 0 0) (.slice none 0 0) (.slice none 0 0) 27
  have R3 := (r3.alloc (.cells #[.slice A0 n0 c0, .slice A1 n1 c1, .slice A2 n2 c2, .slice A3 0 c3] 27)).alloc (.cells #[.slice none 0 0, .slice none 0 0, .slice none 0 0, .slice none 0 0] 27)
  have HH := (hh.alloc (.cells #[.slice A0 n0 c0, .slice A1 n1 c1, .slice A2 n2 c2, .slice A3 0 c3] 27)).alloc (.cells #[.slice none 0 0, .slice none 0 0, .slice none 0 0, .slice none 0 0] 27)
  have BB : Below w.heap.size w ((w.alloc (.cells #[.slice A0 n0 c0, .slice A1 n1 c1, .slice A2 n2 c2, .slice A3 0 c3] 27)).alloc (.cells #[.slice none 0 0, .slice none 0 0, .slice none 0 0, .slice none 0 0] 27)) := ((Below.refl _ _).alloc (Nat.le_refl _) _).alloc (by simp) _
  have sz : ((w.alloc (.cells #[.slice A0 n0 c0, .slice A1 n1 c1, .slice A2 n2 c2, .slice A3 0 c3] 27)).alloc (.cells #[.slice none 0 0, .slice none 0 0, .slice none 0 0, .slice none 0 0] 27)).heap.size = w.heap.size + 2 := by simp
  go_enter Try.func61, Try.ntmps61
  go_wp2_with fail
  generalize (w.alloc (.cells #[.slice A0 n0 c0, .slice A1 n1 c1, .slice A2 n2 c2, .slice A3 0 c3] 27)).alloc (.cells #[.slice none 0 0, .slice none 0 0, .slice none 0 0, .slice none 0 0] 27) = W at X Y R3 HH BB sz ⊢
  obtain ⟨x0, x1, x2, x3, _⟩ := X.cells
  have hnb : w.heap.size + 1 ≠ w.heap.size := by omega
  have sD : (W.alloc (.cells #[] 3)).drew.heap.size = W.heap.size + 1 := by show (W.alloc (.cells #[] 3)).heap.size = _; simp
  go_region_held3 (fun w' => w'.cell? ⟨w.heap.size, 0, none⟩ = some (.slice A0 n0 c0) ∧ w'.cell? ⟨w.heap.size, 1, none⟩ = some (.slice A1 n1 c1) ∧ w'.cell? ⟨w.heap.size, 2, none⟩ = some (.slice A2 n2 c2) ∧ w'.cell? ⟨w.heap.size, 3, none⟩ = some (.slice A3 0 c3))
    (((try dsimp only); (repeat' apply And.intro) <;> (with_reducible (first | exact cellF4 p0 hnb _ _ _ _ | exact cellF4 p1 hnb _ _ _ _ | exact cellF4 p2 hnb _ _ _ _ | exact cellF4 p3 hnb _ _ _ _ | exact cellF4 (cellA p0 _) hnb _ _ _ _ | exact cellF4 (cellA p1 _) hnb _ _ _ _ | exact cellF4 (cellA p2 _) hnb _ _ _ _ | exact cellF4 (cellA p3 _) hnb _ _ _ _ | exact cellF4 s0 hnb _ _ _ _ | exact cellF4 s1 hnb _ _ _ _ | exact cellF4 s2 hnb _ _ _ _ | exact cellF4 s3 hnb _ _ _ _ | exact s0 | exact s1 | exact s2 | exact s3 | exact cellA s0 _ | exact cellA s1 _ | exact cellA s2 _ | exact cellA s3 _ | exact p0 | exact p1 | exact p2 | exact p3 | exact cellA p0 _ | exact cellA p1 _ | exact cellA p2 _ | exact cellA p3 _ | exact x0 | exact x1 | exact x2 | exact x3 | exact cellD x0 | exact cellD x1 | exact cellD x2 | exact cellD x3 | exact cellA x0 _ | exact cellA x1 _ | exact cellA x2 _ | exact cellA x3 _ | exact cellD (cellA x0 _) | exact cellD (cellA x1 _) | exact cellD (cellA x2 _) | exact cellD (cellA x3 _) | exact cellA (cellD x0) _ | exact cellA (cellD x1) _ | exact cellA (cellD x2) _ | exact cellA (cellD x3) _)) <;> done))
    (first
      | (go_at_call 85; (with_reducible refine (l1CopyH_any W.drew lo _ C.h HH.drew z0 z1 b0 b1 b2).mono ?_); rintro e w1 ⟨vv, rfl, HN0, hb0⟩; have HN : Hv w1 W.heap.size vv C.h := HN0; have hb1 : Below W.heap.size W w1 := (Below.refl W.heap.size W).drew.trans (hb0.mono (Nat.le_refl _)); (obtain ⟨p0, p1, p2, p3, _⟩ := (X.below hb1).cells); (have hNo := HN); (obtain ⟨B0, m0, d0, B1, m1, d1, B2, m2, d2, rfl, _⟩ := hNo.open_))
      | (go_at_call 85; (with_reducible refine (l1CopyH_any (W.alloc (.cells #[] 3)).drew lo _ C.h (HH.alloc _).drew z0 z1 b0 b1 b2).mono ?_); rintro e w1 ⟨vv, rfl, HN0, hb0⟩; have HN : Hv w1 W.heap.size vv C.h := HN0.mono (by rw [sD]; omega); have hb1 : Below W.heap.size W w1 := (((Below.refl W.heap.size W).alloc (Nat.le_refl _) (.cells #[] 3)).drew).trans (hb0.mono (by rw [sD]; omega)); (obtain ⟨p0, p1, p2, p3, _⟩ := (X.below hb1).cells); (have hNo := HN); (obtain ⟨B0, m0, d0, B1, m1, d1, B2, m2, d2, rfl, _⟩ := hNo.open_))
      | (refine step_append_zero rfl (.tmp 6) (.tmp 8) 23 rfl 3 i0 Try.underlying23 hi _ 0 0 (by rfl) (Nat.le_refl _) A3 c3 (by rfl) ?_; obtain ⟨q0, q1, q2, q3, k0, k1, k2, k3⟩ := (Y.below hb1).cells; obtain ⟨q0', q1', q2', q3', k0', k1', k2', k3'⟩ := ((Y.below hb1).alloc (.cells #[] 3)).cells))
  · rename_i hHeld
    clear hHeld
    have s1 := hb1.size
    have RM := Row.empty w1 (w.heap.size + 2) (by omega)
    have HN2 : Hv (w1.alloc (.cells #[] 3)) W.heap.size (.agg #[.slice B0 m0 d0, .slice B1 m1 d1, .slice B2 m2 d2]) C.h := HN.alloc _
    have ap : ∀ (v : Value) (xs : List Int), Row w1 W.heap.size v xs → Apart v (.slice (some ⟨w1.heap.size, 0, none⟩) 0 0) := fun v xs r j e e' => by
      have h1 := (r.lt j e).2
      have h2 := Option.some.inj e'
      simp at h2
      omega
    obtain ⟨_, _, _, ev, H0, H1, H2, _⟩ := HN
    cases ev
    obtain ⟨hH, hB⟩ := copyC_done (w := w) (C := C) (HN2.mono (by omega)) (by rw [hc0]; exact RM) ⟨ap _ _ H0, ap _ _ H1, ap _ _ H2⟩ ((BB.trans (hb1.mono (by omega))).alloc (by omega) _)
    clear p0 p1 p2 p3 x0 x1 x2 x3
    go_wp2_with fail
    refine bodyPost_ret (v := .agg #[.slice B0 m0 d0, .slice B1 m1 d1, .slice B2 m2 d2, .slice (some ⟨w1.heap.size, 0, none⟩) 0 0]) ?_ rfl ⟨_, _, _, _, _, _, rfl, hH, hB⟩
    simp [results, Try.results61, go_sem, q0', q1', q2', q3']
  · rename_i hHeld
    clear hHeld
    have s1 := hb1.size
    have RM : Row w1 (w.heap.size + 2) (.slice (some ⟨w.heap.size + 2, 0, none⟩) 0 0) [] := by
      have h9 := ((Row.empty W (w.heap.size + 2) (by omega)).drew).below hb0
      rw [sz] at h9; exact h9
    have ap : ∀ (v : Value) (xs : List Int), Row w1 (W.alloc (.cells #[] 3)).drew.heap.size v xs → Apart v (.slice (some ⟨w.heap.size + 2, 0, none⟩) 0 0) := fun v xs r j e e' => by
      have h1 := (r.lt j e).1
      rw [sD] at h1
      have h2 := Option.some.inj e'
      simp at h2
      omega
    obtain ⟨_, _, _, evv, H0, H1, H2, _⟩ := HN0
    cases evv
    obtain ⟨hH, hB⟩ := copyC_done (w := w) (C := C) (HN.mono (by omega)) (by rw [hc0]; exact RM) ⟨ap _ _ H0, ap _ _ H1, ap _ _ H2⟩ (BB.trans (hb1.mono (by omega)))
    clear p0 p1 p2 p3 x0 x1 x2 x3
    go_wp2_with fail
    refine bodyPost_ret (v := .agg #[.slice B0 m0 d0, .slice B1 m1 d1, .slice B2 m2 d2, .slice (some ⟨w.heap.size + 2, 0, none⟩) 0 0]) ?_ rfl ⟨_, _, _, _, _, _, rfl, hH, hB⟩
    simp [results, Try.results61, go_sem, q0, q1, q2, q3]

theorem l4CopyG_any (w : World) (lo : Nat) (v : Value) (C : Cp) (hv : Cv w lo v C) (hS : SzH 20 C.h) (hc : C.c.length ≤ 1048576) :
    Calls Try.prog 61 #[v] w (NewCvB w C) := by
  rcases Nat.eq_zero_or_pos C.c.length with h | h
  · exact l4CopyGE_any w lo v C hv hS h
  · exact l4CopyGP_any w lo v C hv hS hc h
end Go.Proofs.Yteogflkahoanlaa

/- spec.l4Wrong: a store comes back, whatever it is, in new blocks; of what was there only the reader has turned. -/
namespace Go.Proofs.Yteogflkahoanlaa
open Go.RowKit

/-- Sizes of a store that may be wrong. -/
def SzS (N : Nat) (C : Cp) : Prop := SzH N C.h ∧ C.c.length ≤ N
theorem szS_valid {C : Cp} (h : stoB C = true) : SzS 8 C := by
  obtain ⟨hv, hl, _⟩ := stoB_parts h
  have := hvB_len hv
  exact ⟨⟨by omega, by omega, by omega, by omega, by omega⟩, by omega⟩
/-- Some store comes back. -/
def DrawnSW (N : Nat) (w : World) (B rb : Nat) (A : Option Addr) (nb c p : Nat) (e : Ending) (w' : World) : Prop :=
  ∃ v C p', e = .returned v ∧ Cv w' w.heap.size v C ∧ SzS N C ∧ Rd w' B rb A nb c p' ∧ p' ≤ p + 10 ∧ w.grownBy w' (some rb)
theorem lit4 (w : World) (a b c d : Int) : Row (w.alloc (.cells #[.int .i64 a, .int .i64 b, .int .i64 c, .int .i64 d] 3)) 0 (.slice (some ⟨w.heap.size, 0, none⟩) 4 4) [a, b, c, d] := Row.lit_at rfl [a, b, c, d] (by simp)
theorem len4 (a b c d : Int) : [a, b, c, d].length = 4 := rfl
theorem Blk4.set3' {w : World} {b : Nat} {x y z u : Value} {t : TypeId} (h : Blk4 w b x y z u t) (x' y' z' : Value) : Blk4 (((w.setCell ⟨b, 0, none⟩ x').setCell ⟨b, 1, none⟩ y').setCell ⟨b, 2, none⟩ z') b x' y' z' u t := by
  unfold Blk4 at h ⊢; simp [World.setCell, Array.getElem?_modify, h]
/-- The colors were appended to, and stored. -/
theorem CSt.grew {w w4 w5 : World} {B rb bx rs : Nat} {A : Option Addr} {nb c p : Nat} {v0 v1 v2 : Value} {g3 n cp g n' cap : Nat} {C : Cp} {o : Obj} {ys : List Int} (h : CSt w w4 B rb bx rs A nb c p v0 v1 v2 (.slice (some ⟨g3, 0, none⟩) n cp) C)
    (W1 : Row w5 (rs + 1) (.slice (some ⟨g, 0, none⟩) n' cap) ys) (hgr : (w4.alloc o).grownBy w5 (some g3)) (hat : (Value.slice (some ⟨g3, 0, none⟩) n cp).ownBlock = some g ∨ g = w4.heap.size + 1) :
    CSt w (w5.setCell ⟨bx, 3, none⟩ (.slice (some ⟨g, 0, none⟩) n' cap)) B rb bx rs A nb c p v0 v1 v2 (.slice (some ⟨g, 0, none⟩) n' cap) ⟨C.h, ys⟩ := by
  have hr := h.rbl
  have hs := h.rsb
  have hw := h.rsw
  have hB := h.rd.2.2.1
  have hbl := h.blk.lt
  obtain ⟨_, _, _, _, e, ⟨_, _, _, e', r0, r1, r2, a⟩, r3, b0, b1, b2⟩ := h.cv
  cases e; cases e'
  obtain ⟨hg, hgl⟩ := r3.lt g3 rfl
  have fb : bx ≠ g3 := fun e => h.far.2.2.2 (by rw [e]; rfl)
  have fg : (Value.slice (some ⟨g, 0, none⟩) n' cap).ownBlock ≠ some bx := fun e => by
    have e1 : g = bx := by simpa [Value.ownBlock] using e
    rcases hat with h9 | h9
    · have : g3 = g := by simpa [Value.ownBlock] using h9
      omega
    · omega
  have n2 : rb ≠ bx := by omega
  have n3 : B ≤ bx := by omega
  have K0 := (r0.alloc o).kept hgr (.inr fun e => b0 g3 e rfl)
  have K1 := (r1.alloc o).kept hgr (.inr fun e => b1 g3 e rfl)
  have K2 := (r2.alloc o).kept hgr (.inr fun e => b2 g3 e rfl)
  exact ⟨((h.res.alloc o).kept hgr (by omega)).other (p := ⟨bx, 3, none⟩) (by show rs ≠ bx; omega) _, ((h.blk.alloc o).kept hgr fb).set3 _,
    ⟨_, _, _, _, rfl, ⟨_, _, _, rfl, K0.other (fun e => h.far.1 e) _, K1.other (fun e => h.far.2.1 e) _, K2.other (fun e => h.far.2.2.1 e) _, a⟩, W1.other fg _, lies_apart r0 hat b0, lies_apart r1 hat b1, lies_apart r2 hat b2⟩,
    ⟨h.far.1, h.far.2.1, h.far.2.2.1, fg⟩, (((h.rd.alloc o).kept hgr (by omega) (by omega)).other (a := ⟨bx, 3, none⟩) n2 n3 _),
    grown_set (p := ⟨bx, 3, none⟩) (grown_new (grown_alloc h.gr o) hgr (by omega)) (.inr (by show _ ≤ bx; omega)) _, hr, hw, hs⟩
/-- The heap part was replaced by new rows, and stored. -/
theorem CSt.heap {w wr w5 : World} {B rb bx rs : Nat} {A : Option Addr} {nb c p p' : Nat} {v0 v1 v2 v3 u0 u1 u2 : Value} {C : Cp} {h' : Hp} (h : CSt w wr B rb bx rs A nb c p v0 v1 v2 v3 C)
    (hv : Hv w5 wr.heap.size (.agg #[u0, u1, u2]) h') (hR : Rd w5 B rb A nb c p') (hg : wr.grownBy w5 (some rb)) :
    CSt w (((w5.setCell ⟨bx, 0, none⟩ u0).setCell ⟨bx, 1, none⟩ u1).setCell ⟨bx, 2, none⟩ u2) B rb bx rs A nb c p' u0 u1 u2 v3 ⟨h', C.c⟩ := by
  have hr := h.rbl
  have hs := h.rsb
  have hw := h.rsw
  have hB := hR.2.2.1
  have hbl := h.blk.lt
  obtain ⟨_, _, _, _, e, _, r3, _⟩ := h.cv
  cases e
  obtain ⟨_, _, _, e', q0, q1, q2, a⟩ := hv
  cases e'
  have n1 : rs ≠ bx := by omega
  have n2 : rb ≠ bx := by omega
  have n3 : B ≤ bx := by omega
  have f0 : u0.ownBlock ≠ some bx := fun e => by have := (q0.lt _ e).1; omega
  have f1 : u1.ownBlock ≠ some bx := fun e => by have := (q1.lt _ e).1; omega
  have f2 : u2.ownBlock ≠ some bx := fun e => by have := (q2.lt _ e).1; omega
  have R3 := r3.kept hg (.inr fun e => by have := (r3.lt _ e).1; omega)
  have k : ∀ (u : Value) (xs : List Int), u.ownBlock ≠ some bx → Row w5 (rs + 1) u xs → Row (((w5.setCell ⟨bx, 0, none⟩ u0).setCell ⟨bx, 1, none⟩ u1).setCell ⟨bx, 2, none⟩ u2) (rs + 1) u xs :=
    fun u xs f r => ((r.other (a := ⟨bx, 0, none⟩) f _).other (a := ⟨bx, 1, none⟩) f _).other (a := ⟨bx, 2, none⟩) f _
  have ap : ∀ (u : Value) (xs : List Int), Row w5 wr.heap.size u xs → Apart u v3 := fun u xs r j e e' => by
    have h1 := (r.lt j e).1
    have h2 := (r3.lt j e').2
    omega
  exact ⟨(((h.res.kept hg (by omega)).other (p := ⟨bx, 0, none⟩) n1 _).other (p := ⟨bx, 1, none⟩) n1 _).other (p := ⟨bx, 2, none⟩) n1 _, (h.blk.kept hg (by omega)).set3' _ _ _,
    ⟨_, _, _, _, rfl, ⟨_, _, _, rfl, k _ _ f0 (q0.mono (by omega)), k _ _ f1 (q1.mono (by omega)), k _ _ f2 (q2.mono (by omega)), a⟩, k _ _ h.far.2.2.2 R3, ap _ _ q0, ap _ _ q1, ap _ _ q2⟩,
    ⟨f0, f1, f2, h.far.2.2.2⟩, ((hR.other (a := ⟨bx, 0, none⟩) n2 n3 _).other (a := ⟨bx, 1, none⟩) n2 n3 _).other (a := ⟨bx, 2, none⟩) n2 n3 _,
    grown_set (p := ⟨bx, 2, none⟩) (grown_set (p := ⟨bx, 1, none⟩) (grown_set (p := ⟨bx, 0, none⟩) (grown_trans h.gr hg) (.inr (by show _ ≤ bx; omega)) _) (.inr (by show _ ≤ bx; omega)) _) (.inr (by show _ ≤ bx; omega)) _, hr, hw, hs⟩

set_option maxRecDepth 100000 in
set_option maxHeartbeats 4000000 in
theorem l4Wrong_any (N : Nat) (hN : N ≤ 18) (w : World) (B rb : Nat) (A : Option Addr) (nb c p : Nat) (h : Rd w B rb A nb c p) (hp : p ≤ 9900) (lo : Nat) (v : Value) (C : Cp) (hv : Cv w lo v C) (hC : SzS N C) :
    Calls Try.prog 87 #[.pointer (some ⟨rb, 0, none⟩), v] w (DrawnSW (N + 2) w B rb A nb c p) := by
  obtain ⟨i0, hi, hz0, hz1, hz2⟩ := info_parts Try.infoInt
  have hrl := h.lt
  have hvo := hv
  obtain ⟨A0, n0, q0, A1, n1, q1, A2, n2, q2, A3, n3, q3, rfl, _⟩ := hvo.open_
  obtain ⟨hSH, hSc⟩ := hC
  have hS20 : SzH 20 C.h := by obtain ⟨a1, a2, a3, a4, a5⟩ := hSH; exact ⟨a1, a2, a3, by omega, by omega⟩
  have X := (Blk4.new w (.slice A0 n0 q0) (.slice A1 n1 q1) (.slice A2 n2 q2) (.slice A3 n3 q3) 27).alloc (.cells #[.slice none 0 0, .slice none 0 0, .slice none 0 0, .slice none 0 0] 27)
  have Y := Blk4.new_at (w := w.alloc (.cells #[.slice A0 n0 q0, .slice A1 n1 q1, .slice A2 n2 q2, .slice A3 n3 q3] 27)) (b := w.heap.size + 1) (by simp) (.slice none 0 0) (.slice none 0 0) (.slice none 0 0) (.slice none 0 0) 27
  have VV := (hv.alloc (.cells #[.slice A0 n0 q0, .slice A1 n1 q1, .slice A2 n2 q2, .slice A3 n3 q3] 27)).alloc (.cells #[.slice none 0 0, .slice none 0 0, .slice none 0 0, .slice none 0 0] 27)
  have RR := (h.alloc (.cells #[.slice A0 n0 q0, .slice A1 n1 q1, .slice A2 n2 q2, .slice A3 n3 q3] 27)).alloc (.cells #[.slice none 0 0, .slice none 0 0, .slice none 0 0, .slice none 0 0] 27)
  have G0 : w.grownBy ((w.alloc (.cells #[.slice A0 n0 q0, .slice A1 n1 q1, .slice A2 n2 q2, .slice A3 n3 q3] 27)).alloc (.cells #[.slice none 0 0, .slice none 0 0, .slice none 0 0, .slice none 0 0] 27)) (some rb) := grown_alloc (grown_alloc (World.grownBy.refl w _) _) _
  have sz : ((w.alloc (.cells #[.slice A0 n0 q0, .slice A1 n1 q1, .slice A2 n2 q2, .slice A3 n3 q3] 27)).alloc (.cells #[.slice none 0 0, .slice none 0 0, .slice none 0 0, .slice none 0 0] 27)).heap.size = w.heap.size + 2 := by simp
  go_enter Try.func87, Try.ntmps87
  go_wp2_with fail
  generalize (w.alloc (.cells #[.slice A0 n0 q0, .slice A1 n1 q1, .slice A2 n2 q2, .slice A3 n3 q3] 27)).alloc (.cells #[.slice none 0 0, .slice none 0 0, .slice none 0 0, .slice none 0 0] 27) = W at X Y VV RR G0 sz ⊢
  obtain ⟨x0, x1, x2, x3, _⟩ := X.cells
  have K := l4CopyG_any W _ _ _ VV hS20 (by omega)
  go_wp2_with fail
  refine K.mono ?_; rintro e w3 ⟨v0, v1, v2, g, m3, d3, rfl, hD, hb3⟩
  have hDo := hD
  obtain ⟨D0, m0, d0, D1, m1, d1, D2, m2, d2, _, _, _, ev, _⟩ := hDo.open_
  cases ev
  obtain ⟨q0, q1, q2, r3⟩ := hD.rowsS
  have l3 := lenS r3
  have z3 := hb3.size
  have st : CSt w (w3.alloc (.cells #[.slice D0 m0 d0, .slice D1 m1 d1, .slice D2 m2 d2, .slice (some ⟨g, 0, none⟩) m3 d3] 27)) B rb w3.heap.size (w.heap.size + 1) A nb c p (.slice D0 m0 d0) (.slice D1 m1 d1) (.slice D2 m2 d2) (.slice (some ⟨g, 0, none⟩) m3 d3) C := {
    res := (Y.below hb3).alloc _
    blk := Blk4.new w3 _ _ _ _ _
    cv := (hD.mono (by omega)).alloc _
    far := ⟨fun e => by have := (q0.lt _ e).2; omega, fun e => by have := (q1.lt _ e).2; omega, fun e => by have := (q2.lt _ e).2; omega, fun e => by have := (r3.lt _ e).2; omega⟩
    rd := (RR.below hb3).alloc _
    gr := grown_alloc (grown_of G0 hb3) _
    rbl := by omega
    rsw := by omega
    rsb := by omega }
  have P := fun W hR => pick_any W B rb A nb c p hR 20 (by omega) (by omega) (by omega)
  have L3 := Lib.hid l3
  clear hD hDo hb3 RR G0 Y X VV K h hv hvo x0 x1 x2 x3 r3 q0 q1 q2 l3
  go_wp2_with fail
  refine (P _ (by exact st.rd)).mono ?_; rintro e w4 ⟨x, rfl, hx, hR4, hO4⟩
  have st1 := st.pick hR4 hO4
  generalize w3.heap.size = bx at st1 ⊢
  clear st P hR4 hO4
  obtain ⟨x0, x1, x2, x3, f0, f1, f2, f3⟩ := st1.blk.cells
  have hm3 : m3 ≤ N := by rw [← L3.out]; exact hSc
  by_cases t2 : 2 ≤ x
  · have e0 : ((x : Int) == 0) = false := by simp; omega
    have e1 : ((x : Int) == 1) = false := by simp; omega
    obtain ⟨hH, hR, hG⟩ := c_done st1
    obtain ⟨y0, y1, y2, y3, i0, i1, i2, i3⟩ := st1.res.cells
    have hz : SzS (N + 2) C := ⟨by obtain ⟨a1, a2, a3, a4, a5⟩ := hSH; exact ⟨a1, a2, a3, by omega, by omega⟩, by omega⟩
    clear st1
    go_wp2_with fail
    refine bodyPost_ret (v := .agg #[.slice D0 m0 d0, .slice D1 m1 d1, .slice D2 m2 d2, .slice (some ⟨g, 0, none⟩) m3 d3]) ?_ rfl ⟨_, C, p + 1, rfl, hH, hz, hR, by omega, hG⟩
    simp [results, Try.results87, go_sem, y0, y1, y2, y3]
  by_cases t0 : x = 0
  · subst t0
    have v1 : p + 1 ≤ 1048576 := by omega
    have hrb4 : rb < w4.heap.size := st1.rd.lt
    have hbx4 : bx < w4.heap.size := st1.blk.lt
    have hbxl := st1.rsb
    have hrbl := st1.rbl
    have ng : bx ≠ g := fun e => st1.far.2.2.2 (by rw [← e]; rfl)
    have o3a : w.heap.size + 1 + 1 ≤ g := (st1.cv.rowsS.2.2.2.lt g rfl).1
    have nr : w.heap.size + 1 ≠ g := by omega
    have M2 : m3 + 1 ≤ maxLen := by unfold maxLen; omega
    have M3 : (m3 + 1) * 8 ≤ 140737488355328 := by omega
    clear x0 x1 x2 f0 f1 f2
    go_wp2_with fail
    go_region_law (first
        | (refine step_append_lies _ (by rfl) _ _ _ (by rfl) (w.heap.size + 1 + 1) 3 i0 (.int .i64 0) 1 8 Try.underlying23 hi hz0 hz1 hz2 rfl (by decide) (.slice (some ⟨g, 0, none⟩) m3 d3) m3 (C.c.map iv) (by rfl) (own3.alloc _) ⟨w5.heap.size, 0, none⟩ 1 1 [.int .i64 yv] (by rfl) (by rfl) one_new (one_cell yv) (by decide) M2 M3 hbase5 (w5.heap.size + 1) hz5 ?_; intro gn cap w6 hown hgr0 hat hlt6; have hgr : (w5.alloc (.cells #[.int .i64 yv] 3)).grownBy w6 (some g) := hgr0; have X6 := (st2.blk.alloc (.cells #[.int .i64 yv] 3)).kept hgr ng; obtain ⟨q0, q1, q2, q3, qf0, qf1, qf2, qf3⟩ := X6.cells)
        | (go_simp; go_at_call 76; (with_reducible refine (num_any _ B rb A nb c (p + 1) (st1.rd.alloc (.cells #[.int .i64 0, .int .i64 1, .int .i64 8, .int .i64 (-1)] 3)).drew v1 w4.heap.size 4 4 [0, 1, 8, -1] 0 (lit4 w4 0 1 8 (-1)).drew (len4 _ _ _ _) (by decide) (by decide) (Nat.ne_of_gt hrb4)).mono ?_); rintro e w5 ⟨yv, _, rfl, hR5, hO5⟩; have st2 := (st1.alloc (.cells #[.int .i64 0, .int .i64 1, .int .i64 8, .int .i64 (-1)] 3)).drew.pick hR5 hO5; obtain ⟨y0, y1, y2, y3, _⟩ := st2.blk.cells; have hbx5 := st2.blk.lt; have own3 := own_of st2.cv.rowsS.2.2.2 L3.out; have hz5 := size_one w5 yv; have hbase5 := base_one yv (show w.heap.size + 1 + 1 ≤ bx by omega) hbx5))
    all_goals
      have W2 : Row w6 (w.heap.size + 1 + 1) (.slice (some ⟨gn, 0, none⟩) (m3 + 1) cap) (C.c ++ [yv]) := Row.of_own hown (by simp) (by have := L3.out; simp; omega)
      have st3 := st2.grew W2 hgr hat
      obtain ⟨hH, hR, hG⟩ := c_done st3
      obtain ⟨v0', v1', v2', v3', _⟩ := st3.blk.cells
      obtain ⟨s0, s1, s2, s3, h0, h1, h2, h3⟩ := st3.res.cells
      have hz : SzS (N + 2) ⟨C.h, C.c ++ [yv]⟩ := ⟨by obtain ⟨a1, a2, a3, a4, a5⟩ := hSH; exact ⟨a1, a2, a3, by show C.h.r.length ≤ _; omega, by show C.h.t.length ≤ _; omega⟩, by show (C.c ++ [yv]).length ≤ _; have := L3.out; simp; omega⟩
      clear W2 hown hgr hgr0 hat X6 own3 st1 st2 st3 y0 y1 y2 y3 x3
      go_wp2_with fail
      refine bodyPost_ret (v := .agg #[.slice D0 m0 d0, .slice D1 m1 d1, .slice D2 m2 d2, .slice (some ⟨gn, 0, none⟩) (m3 + 1) cap]) ?_ rfl ⟨_, _, p + 1 + 1, rfl, hH, hz, hR, by omega, hG⟩
      simp [results, Try.results87, go_sem, s0, s1, s2, s3]
  · obtain rfl : x = 1 := by omega
    obtain ⟨_, _, _, _, ev, hh, _⟩ := st1.cv
    cases ev
    have K := l1WrongG_any N (by omega) w4 B rb A nb c (p + 1) st1.rd (by omega) _ _ C.h hh hSH
    go_wp2_with fail
    refine K.mono ?_; rintro e w5 ⟨vv, h', p', rfl, hN5, hz5, hR5, hp5, hg5⟩
    have K2 := l1WrongG_any (N + 1) (by omega) w5 B rb A nb c p' hR5 (by omega) _ _ h' hN5 hz5
    go_wp2_with fail
    refine K2.mono ?_; rintro e w6 ⟨vv, h'', p'', rfl, hN6, hz6, hR6, hp6, hg6⟩
    obtain ⟨E0, u0, e0, E1, u1, e1, E2, u2, e2, rfl, _⟩ := hN6.open_
    have hg56 := grown_trans hg5 hg6
    have st2 := st1.heap (hN6.mono hg5.size) hR6 hg56
    obtain ⟨hH, hR, hG⟩ := c_done st2
    have X5 := st1.blk.kept hg56 (by have := st1.rbl; have := st1.rsb; omega)
    obtain ⟨p0, p1, p2, p3, pf0, pf1, pf2, pf3⟩ := X5.cells
    obtain ⟨v0, v1, v2, v3, _⟩ := st2.blk.cells
    obtain ⟨s0, s1, s2, s3, h0, h1, h2, h3⟩ := st2.res.cells
    have hz : SzS (N + 2) ⟨h'', C.c⟩ := ⟨hz6, by show C.c.length ≤ _; omega⟩
    clear st1 st2 hN5 hN6 hR5 hR6 hg5 hg6 hg56 X5 K K2 x0 x1 x2 x3 f0 f1 f2 f3
    go_wp2_with fail
    refine bodyPost_ret (v := .agg #[.slice E0 u0 e0, .slice E1 u1 e1, .slice E2 u2 e2, .slice (some ⟨g, 0, none⟩) m3 d3]) ?_ rfl ⟨_, _, p'', rfl, hH, hz, hR, by omega, hG⟩
    simp [results, Try.results87, go_sem, s0, s1, s2, s3]
end Go.Proofs.Yteogflkahoanlaa

