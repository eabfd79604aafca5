/- spec.l1Wrong of any heap: a heap comes back, whatever it is, in new blocks; of what was there only the reader has turned. -/
import Derived.Test.YthbflohanjnaeaaCopyG
import Derived.Test.YthbflohanjnaeaaWrong
import Derived.Test.YthbflohanjnaeaaCol
import Derived.Test.YthbflohanjnaeaaBlk3
namespace Go.Proofs.Ythbflohanjnaeaa
open Go.RowKit

/-- A heap in block bx over rows of the call's own, the reader, and nothing else has turned. -/
structure HSt (w wr : World) (B rb bx rs : Nat) (A : Option Addr) (nb c p : Nat) (v0 v1 v2 : Value) (h : Hp) : Prop where
  res : Blk3 wr rs (.slice none 0 0) (.slice none 0 0) (.slice none 0 0) 25
  blk : Blk3 wr bx v0 v1 v2 25
  hv : Hv wr (rs + 1) (.agg #[v0, v1, v2]) h
  far : v0.ownBlock ≠ some bx ∧ v1.ownBlock ≠ some bx ∧ v2.ownBlock ≠ some bx
  rd : Rd wr B rb A nb c p
  gr : w.grownBy wr (some rb)
  rbl : rb < rs
  rsw : w.heap.size ≤ rs
  rsb : rs < bx
theorem blk3_kept {w w' : World} {b rb : Nat} {x y z : Value} {t : TypeId} (h : Blk3 w b x y z t) (hg : w.grownBy w' (some rb)) (hb : b ≠ rb) : Blk3 w' b x y z t := (hg.block b h.lt (fun e => hb (Option.some.inj e))).trans h
section
variable {w wr : World} {B rb bx rs : Nat} {A : Option Addr} {nb c p : Nat} {v0 v1 v2 : Value} {h : Hp}
theorem HSt.pick (h1 : HSt w wr B rb bx rs A nb c p v0 v1 v2 h) {w1 : World} {p' : Nat} (hR : Rd w1 B rb A nb c p') (hO : Only rb wr w1) : HSt w w1 B rb bx rs A nb c p' v0 v1 v2 h :=
  ⟨blk3_kept h1.res hO.1 (by have := h1.rbl; omega), blk3_kept h1.blk hO.1 (by have := h1.rbl; have := h1.rsb; omega), h1.hv.low_kept hO.1 (by have := h1.rbl; omega), h1.far, hR, grown_trans h1.gr hO.1, h1.rbl, h1.rsw, h1.rsb⟩
theorem HSt.drew (h1 : HSt w wr B rb bx rs A nb c p v0 v1 v2 h) : HSt w wr.drew B rb bx rs A nb c p v0 v1 v2 h := ⟨h1.res, h1.blk, h1.hv, h1.far, h1.rd, grown_drew h1.gr, h1.rbl, h1.rsw, h1.rsb⟩
theorem HSt.alloc (h1 : HSt w wr B rb bx rs A nb c p v0 v1 v2 h) (o : Obj) : HSt w (wr.alloc o) B rb bx rs A nb c p v0 v1 v2 h := ⟨h1.res.alloc o, h1.blk.alloc o, h1.hv.alloc o, h1.far, h1.rd.alloc o, grown_alloc h1.gr o, h1.rbl, h1.rsw, h1.rsb⟩
theorem h_done (h1 : HSt w wr B rb bx rs A nb c p v0 v1 v2 h) : Hv (((wr.setCell ⟨rs, 0, none⟩ v0).setCell ⟨rs, 1, none⟩ v1).setCell ⟨rs, 2, none⟩ v2) w.heap.size (.agg #[v0, v1, v2]) h ∧ Rd (((wr.setCell ⟨rs, 0, none⟩ v0).setCell ⟨rs, 1, none⟩ v1).setCell ⟨rs, 2, none⟩ v2) B rb A nb c p ∧ w.grownBy (((wr.setCell ⟨rs, 0, none⟩ v0).setCell ⟨rs, 1, none⟩ v1).setCell ⟨rs, 2, none⟩ v2) (some rb) := by
  have hr := h1.rbl
  have hs := h1.rsb
  have hw := h1.rsw
  have hB := h1.rd.2.2.1
  have n2 : rb ≠ rs := by omega
  have n3 : B ≤ rs := by omega
  have lt : rs < rs + 1 := by omega
  exact ⟨(((h1.hv.low_set (p := ⟨rs, 0, none⟩) lt _).low_set (p := ⟨rs, 1, none⟩) lt _).low_set (p := ⟨rs, 2, none⟩) lt _).mono (by omega),
    ((h1.rd.other (a := ⟨rs, 0, none⟩) n2 n3 _).other (a := ⟨rs, 1, none⟩) n2 n3 _).other (a := ⟨rs, 2, none⟩) n2 n3 _,
    grown_set (grown_set (grown_set h1.gr (p := ⟨rs, 0, none⟩) (.inr hw) _) (p := ⟨rs, 1, none⟩) (.inr hw) _) (p := ⟨rs, 2, none⟩) (.inr hw) _⟩
theorem HSt.rows (h1 : HSt w wr B rb bx rs A nb c p v0 v1 v2 h) : Row wr (rs + 1) v0 h.l ∧ Row wr (rs + 1) v1 h.r ∧ Row wr (rs + 1) v2 h.t := by
  obtain ⟨_, _, _, e, r0, r1, r2, _⟩ := h1.hv
  cases e; exact ⟨r0, r1, r2⟩
end
theorem HSt.cell0 {w wr : World} {B rb bx rs : Nat} {A : Option Addr} {nb c p : Nat} {v1 v2 : Value} {g n cp : Nat} {h : Hp} (h1 : HSt w wr B rb bx rs A nb c p (.slice (some ⟨g, 0, none⟩) n cp) v1 v2 h) (k : Nat) (x : Int) :
    HSt w (wr.setCell ⟨g, k, none⟩ (.int .i64 x)) B rb bx rs A nb c p (.slice (some ⟨g, 0, none⟩) n cp) v1 v2 ⟨h.l.set k x, h.r, h.t⟩ := by
  obtain ⟨_, _, _, e, r0, r1, r2, a01, a02, a12⟩ := h1.hv
  cases e
  have hg := (r0.lt g rfl).1
  have hr := h1.rbl
  have hs := h1.rsb
  have hw := h1.rsw
  have hB := h1.rd.2.2.1
  have fb : bx ≠ g := fun e => h1.far.1 (by rw [e]; rfl)
  exact ⟨h1.res.other (p := ⟨g, k, none⟩) (by show _ ≠ g; omega) _, h1.blk.other (p := ⟨g, k, none⟩) fb _,
    ⟨_, _, _, rfl, r0.set_ k x, r1.other (a := ⟨g, k, none⟩) (fun e => a01 g rfl e) _, r2.other (a := ⟨g, k, none⟩) (fun e => a02 g rfl e) _, a01, a02, a12⟩, h1.far,
    h1.rd.other (a := ⟨g, k, none⟩) (by show _ ≠ g; omega) (by show _ ≤ g; omega) _, grown_set h1.gr (p := ⟨g, k, none⟩) (.inr (by show _ ≤ g; omega)) _, h1.rbl, h1.rsw, h1.rsb⟩
/-- Row 1 was appended to, and stored. -/
theorem HSt.grew1 {w w4 w5 : World} {B rb bx rs : Nat} {A : Option Addr} {nb c p : Nat} {v0 v2 : Value} {g3 n cp g n' cap : Nat} {h : Hp} {o : Obj} {ys : List Int} (h1 : HSt w w4 B rb bx rs A nb c p v0 (.slice (some ⟨g3, 0, none⟩) n cp) v2 h)
    (W1 : Row w5 (rs + 1) (.slice (some ⟨g, 0, none⟩) n' cap) ys) (hgr : (w4.alloc o).grownBy w5 (some g3)) (hat : (Value.slice (some ⟨g3, 0, none⟩) n cp).ownBlock = some g ∨ g = w4.heap.size + 1) :
    HSt w (w5.setCell ⟨bx, 1, none⟩ (.slice (some ⟨g, 0, none⟩) n' cap)) B rb bx rs A nb c p v0 (.slice (some ⟨g, 0, none⟩) n' cap) v2 ⟨h.l, ys, h.t⟩ := by
  have hr := h1.rbl
  have hs := h1.rsb
  have hw := h1.rsw
  have hB := h1.rd.2.2.1
  have hbl := h1.blk.lt
  obtain ⟨_, _, _, e, r0, r1, r2, a01, a02, a12⟩ := h1.hv
  cases e
  obtain ⟨hg, hgl⟩ := r1.lt g3 rfl
  have fb : bx ≠ g3 := fun e => h1.far.2.1 (by rw [e]; rfl)
  have fg : (Value.slice (some ⟨g, 0, none⟩) n' cap).ownBlock ≠ some bx := fun e => by
    have e1 : g = bx := by simpa [Value.ownBlock] using e
    rcases hat with h9 | h9
    · have : g3 = g := by simpa [Value.ownBlock] using h9
      omega
    · omega
  have n2 : rb ≠ bx := by omega
  have n3 : B ≤ bx := by omega
  have K0 := (r0.alloc o).kept hgr (.inr fun e => a01 g3 e rfl)
  have K2 := (r2.alloc o).kept hgr (.inr fun e => a12 g3 rfl e)
  exact ⟨(blk3_kept (h1.res.alloc o) hgr (by omega)).other (p := ⟨bx, 1, none⟩) (by show rs ≠ bx; omega) _, (blk3_kept (h1.blk.alloc o) hgr fb).set1 _,
    ⟨_, _, _, rfl, K0.other (a := ⟨bx, 1, none⟩) (fun e => h1.far.1 e) _, W1.other (a := ⟨bx, 1, none⟩) fg _, K2.other (a := ⟨bx, 1, none⟩) (fun e => h1.far.2.2 e) _, lies_apart r0 hat a01, a02, (lies_apart r2 hat a12.symm).symm⟩, ⟨h1.far.1, fg, h1.far.2.2⟩, (((h1.rd.alloc o).kept hgr (by omega) (by omega)).other (a := ⟨bx, 1, none⟩) n2 n3 _),
    grown_set (p := ⟨bx, 1, none⟩) (grown_new (grown_alloc h1.gr o) hgr (by omega)) (.inr (by show _ ≤ bx; omega)) _, hr, hw, hs⟩
/-- Row 2 was appended to, and stored. -/
theorem HSt.grew2 {w w4 w5 : World} {B rb bx rs : Nat} {A : Option Addr} {nb c p : Nat} {v0 v1 : Value} {g3 n cp g n' cap : Nat} {h : Hp} {o : Obj} {ys : List Int} (h1 : HSt w w4 B rb bx rs A nb c p v0 v1 (.slice (some ⟨g3, 0, none⟩) n cp) h)
    (W1 : Row w5 (rs + 1) (.slice (some ⟨g, 0, none⟩) n' cap) ys) (hgr : (w4.alloc o).grownBy w5 (some g3)) (hat : (Value.slice (some ⟨g3, 0, none⟩) n cp).ownBlock = some g ∨ g = w4.heap.size + 1) :
    HSt w (w5.setCell ⟨bx, 2, none⟩ (.slice (some ⟨g, 0, none⟩) n' cap)) B rb bx rs A nb c p v0 v1 (.slice (some ⟨g, 0, none⟩) n' cap) ⟨h.l, h.r, ys⟩ := by
  have hr := h1.rbl
  have hs := h1.rsb
  have hw := h1.rsw
  have hB := h1.rd.2.2.1
  have hbl := h1.blk.lt
  obtain ⟨_, _, _, e, r0, r1, r2, a01, a02, a12⟩ := h1.hv
  cases e
  obtain ⟨hg, hgl⟩ := r2.lt g3 rfl
  have fb : bx ≠ g3 := fun e => h1.far.2.2 (by rw [e]; rfl)
  have fg : (Value.slice (some ⟨g, 0, none⟩) n' cap).ownBlock ≠ some bx := fun e => by
    have e1 : g = bx := by simpa [Value.ownBlock] using e
    rcases hat with h9 | h9
    · have : g3 = g := by simpa [Value.ownBlock] using h9
      omega
    · omega
  have n2 : rb ≠ bx := by omega
  have n3 : B ≤ bx := by omega
  have K0 := (r0.alloc o).kept hgr (.inr fun e => a02 g3 e rfl)
  have K1 := (r1.alloc o).kept hgr (.inr fun e => a12 g3 e rfl)
  exact ⟨(blk3_kept (h1.res.alloc o) hgr (by omega)).other (p := ⟨bx, 2, none⟩) (by show rs ≠ bx; omega) _, (blk3_kept (h1.blk.alloc o) hgr fb).set2 _,
    ⟨_, _, _, rfl, K0.other (a := ⟨bx, 2, none⟩) (fun e => h1.far.1 e) _, K1.other (a := ⟨bx, 2, none⟩) (fun e => h1.far.2.1 e) _, W1.other (a := ⟨bx, 2, none⟩) fg _, a01, lies_apart r0 hat a02, lies_apart r1 hat a12⟩, ⟨h1.far.1, h1.far.2.1, fg⟩, (((h1.rd.alloc o).kept hgr (by omega) (by omega)).other (a := ⟨bx, 2, none⟩) n2 n3 _),
    grown_set (p := ⟨bx, 2, none⟩) (grown_new (grown_alloc h1.gr o) hgr (by omega)) (.inr (by show _ ≤ bx; omega)) _, hr, hw, hs⟩
/-- The roots were replaced by none, and stored. -/
theorem HSt.bare {w wr : World} {B rb bx rs : Nat} {A : Option Addr} {nb c p : Nat} {v0 v1 v2 : Value} {h : Hp} (h1 : HSt w wr B rb bx rs A nb c p v0 v1 v2 h) :
    HSt w ((wr.setCell ⟨bx, 2, none⟩ (.slice (some ⟨wr.heap.size, 0, none⟩) 0 0)).alloc (.cells #[] 3)) B rb bx rs A nb c p v0 v1 (.slice (some ⟨wr.heap.size, 0, none⟩) 0 0) ⟨h.l, h.r, []⟩ := by
  have hr := h1.rbl
  have hs := h1.rsb
  have hw := h1.rsw
  have hB := h1.rd.2.2.1
  have hbl := h1.blk.lt
  obtain ⟨_, _, _, e, r0, r1, r2, a01, a02, a12⟩ := h1.hv
  cases e
  have n2 : rb ≠ bx := by omega
  have n3 : B ≤ bx := by omega
  have fg : (Value.slice (some ⟨wr.heap.size, 0, none⟩) 0 0).ownBlock ≠ some bx := fun e => by
    have e1 : wr.heap.size = bx := by simpa [Value.ownBlock] using e
    omega
  have sz : (wr.setCell ⟨bx, 2, none⟩ (.slice (some ⟨wr.heap.size, 0, none⟩) 0 0)).heap.size = wr.heap.size := by simp [World.setCell]
  have ap : ∀ (v : Value) (xs : List Int), Row wr (rs + 1) v xs → Apart v (.slice (some ⟨wr.heap.size, 0, none⟩) 0 0) := fun v xs r b hb hb' => by
    have h9 := (r.lt b hb).2
    have e1 : wr.heap.size = b := by simpa [Value.ownBlock] using hb'
    omega
  exact ⟨(h1.res.other (p := ⟨bx, 2, none⟩) (by show rs ≠ bx; omega) _).alloc _, (h1.blk.set2 _).alloc _,
    ⟨_, _, _, rfl, (r0.other (a := ⟨bx, 2, none⟩) (fun e => h1.far.1 e) _).alloc _, (r1.other (a := ⟨bx, 2, none⟩) (fun e => h1.far.2.1 e) _).alloc _, rowE_at sz.symm (by rw [sz]; omega), a01, ap _ _ r0, ap _ _ r1⟩, ⟨h1.far.1, h1.far.2.1, fg⟩,
    (h1.rd.other (a := ⟨bx, 2, none⟩) n2 n3 _).alloc _, grown_alloc (grown_set (p := ⟨bx, 2, none⟩) h1.gr (.inr (by show _ ≤ bx; omega)) _) _, hr, hw, hs⟩
/-- Some heap comes back, of bounded rows. -/
def SzH (N : Nat) (h : Hp) : Prop := 1 ≤ h.l.length ∧ h.l.length ≤ 8 ∧ 1 ≤ h.r.length ∧ h.r.length ≤ N ∧ h.t.length ≤ N
def DrawnWB (N : Nat) (w : World) (B rb : Nat) (A : Option Addr) (nb c p : Nat) (e : Ending) (w' : World) : Prop :=
  ∃ v h p', e = .returned v ∧ Hv w' w.heap.size v h ∧ SzH N h ∧ Rd w' B rb A nb c p' ∧ p' ≤ p + 4 ∧ w.grownBy w' (some rb)

set_option maxRecDepth 100000 in
set_option maxHeartbeats 4000000 in
theorem l1WrongG_any (N : Nat) (hN : N ≤ 100) (w : World) (B rb : Nat) (A : Option Addr) (nb c p : Nat) (h : Rd w B rb A nb c p) (hp : p ≤ 10000) (lo : Nat) (v : Value) (hh : Hp) (hv : Hv w lo v hh) (hlen : SzH N hh) :
    Calls Try.prog 57 #[.pointer (some ⟨rb, 0, none⟩), v] w (DrawnWB (N + 1) w B rb A nb c p) := by
  obtain ⟨i0, hi, hz0, hz1, hz2⟩ := info_parts Try.infoInt
  have hrl := h.lt
  obtain ⟨Z0, k0, d0, Z1, k1, d1, Z2, k2, d2, rfl, _⟩ := hv.open_
  have hv1 := (hv.alloc (.cells #[.slice Z0 k0 d0, .slice Z1 k1 d1, .slice Z2 k2 d2] 25)).alloc (.cells #[.slice none 0 0, .slice none 0 0, .slice none 0 0] 25)
  have Y0 := Blk3.new_at (w := w.alloc (.cells #[.slice Z0 k0 d0, .slice Z1 k1 d1, .slice Z2 k2 d2] 25)) (b := w.heap.size + 1) (by simp) (.slice none 0 0) (.slice none 0 0) (.slice none 0 0) 25
  have hR0 := (h.alloc (.cells #[.slice Z0 k0 d0, .slice Z1 k1 d1, .slice Z2 k2 d2] 25)).alloc (.cells #[.slice none 0 0, .slice none 0 0, .slice none 0 0] 25)
  have G0 : w.grownBy ((w.alloc (.cells #[.slice Z0 k0 d0, .slice Z1 k1 d1, .slice Z2 k2 d2] 25)).alloc (.cells #[.slice none 0 0, .slice none 0 0, .slice none 0 0] 25)) (some rb) := grown_alloc (grown_alloc (World.grownBy.refl w _) _) _
  have sz : ((w.alloc (.cells #[.slice Z0 k0 d0, .slice Z1 k1 d1, .slice Z2 k2 d2] 25)).alloc (.cells #[.slice none 0 0, .slice none 0 0, .slice none 0 0] 25)).heap.size = w.heap.size + 2 := by simp
  obtain ⟨ln1, ln2, ln3, ln4, ln5⟩ := hlen
  have C := l1CopyG_any _ _ _ _ hv1 (by omega) (by omega) (by omega) (by omega) (by omega)
  clear hv hv1 h
  go_enter Try.func57, Try.ntmps57
  go_wp2_with fail
  generalize (w.alloc (.cells #[.slice Z0 k0 d0, .slice Z1 k1 d1, .slice Z2 k2 d2] 25)).alloc (.cells #[.slice none 0 0, .slice none 0 0, .slice none 0 0] 25) = W at Y0 hR0 G0 sz C ⊢
  refine C.mono ?_; rintro e w3 ⟨g0, c0, g1, c1, g2, c2, rfl, hv3, hb3⟩
  have z3 := hb3.size
  generalize hn0 : hh.l.length = n0 at hv3 ln1 ln2 ⊢
  generalize hn1 : hh.r.length = n1 at hv3 ln3 ln4 ⊢
  generalize hn2 : hh.t.length = n2 at hv3 ln5 ⊢
  have L0 := Lib.hid hn0
  have L1 := Lib.hid hn1
  have L2 := Lib.hid hn2
  clear hn0 hn1 hn2 C
  have st : HSt w (w3.alloc (.cells #[.slice (some ⟨g0, 0, none⟩) n0 c0, .slice (some ⟨g1, 0, none⟩) n1 c1, .slice (some ⟨g2, 0, none⟩) n2 c2] 25)) B rb w3.heap.size (w.heap.size + 1) A nb c p (.slice (some ⟨g0, 0, none⟩) n0 c0) (.slice (some ⟨g1, 0, none⟩) n1 c1) (.slice (some ⟨g2, 0, none⟩) n2 c2) hh := {
    res := (Y0.below hb3).alloc _
    blk := Blk3.new w3 _ _ _ _
    hv := (hv3.mono (by omega)).alloc _
    far := by
      obtain ⟨_, _, _, e, r0, r1, r2, _⟩ := hv3
      cases e
      exact ⟨fun e => by have := (r0.lt _ e).2; omega, fun e => by have := (r1.lt _ e).2; omega, fun e => by have := (r2.lt _ e).2; omega⟩
    rd := (hR0.below hb3).alloc _
    gr := grown_alloc (grown_of G0 hb3) _
    rbl := by omega
    rsw := by omega
    rsb := by omega }
  have P := fun W hR => pick_any W B rb A nb c p hR 20 (by omega) (by omega) (by omega)
  clear hv3 hb3 hR0 G0 Y0
  go_wp2_with fail
  refine (P _ (by exact st.rd)).mono ?_; rintro e w4 ⟨x, rfl, hx, hR4, hO4⟩
  have st1 := st.pick hR4 hO4
  generalize w3.heap.size = bx at st1 ⊢
  clear st P hR4 hO4
  obtain ⟨x0, x1, x2, xf0, xf1, xf2⟩ := st1.blk.cells
  by_cases t4 : 4 ≤ x
  · have q0 : ((x : Int) == 0) = false := by simp; omega
    have q1 : ((x : Int) == 1) = false := by simp; omega
    have q2 : ((x : Int) == 2) = false := by simp; omega
    have q3 : ((x : Int) == 3) = false := by simp; omega
    obtain ⟨hH, hR, hG⟩ := h_done st1
    obtain ⟨r0, r1, r2, f0, f1, f2⟩ := st1.res.cells
    have hz : SzH (N + 1) hh := ⟨by rw [L0.out]; exact ln1, by rw [L0.out]; exact ln2, by rw [L1.out]; exact ln3, by rw [L1.out]; omega, by rw [L2.out]; omega⟩
    clear st1
    go_wp2_with fail
    refine bodyPost_ret (v := .agg #[.slice (some ⟨g0, 0, none⟩) n0 c0, .slice (some ⟨g1, 0, none⟩) n1 c1, .slice (some ⟨g2, 0, none⟩) n2 c2]) ?_ rfl ⟨_, hh, p + 1, rfl, hH, hz, hR, by omega, hG⟩
    simp [results, Try.results57, go_sem, r0, r1, r2]
  by_cases t0 : x = 0
  · subst t0
    have u1 : 1 ≤ (n0 : Int) := by omega
    have u2 : (n0 : Int) ≤ 1048576 := by omega
    have v1 : p + 1 ≤ 1048576 := by omega
    have v2 : p + 1 + 1 ≤ 1048576 := by omega
    have hrb4 : rb < w4.heap.size := st1.rd.lt
    clear x1 x2 xf0 xf1 xf2
    go_wp2_with fail
    go_region_held3 (fun w' => w'.cell? ⟨bx, 0, none⟩ = some (.slice (some ⟨g0, 0, none⟩) n0 c0))
      ((with_reducible (first | exact x0 | exact cellD x0 | exact cellA x0 _ | exact cellD (cellA x0 _) | exact cellA (cellD x0) _ | exact y0 | exact cellA y0 _ | exact z0 | (rw [World.cell?_setCell_far _ _ _ _ (by exact hgb)]; exact z0))))
      (first
        | (go_at_call 55; (with_reducible refine (pick_any _ B rb A nb c (p + 1) st1.rd.drew (n0 : Int) u1 u2 v1).mono ?_); rintro e w5 ⟨xv, rfl, hxv, hR5, hO5⟩; have hxn : xv < hh.l.length := (by rw [L0.out]; omega); have st2 := st1.drew.pick hR5 hO5; obtain ⟨y0, y1, y2, _⟩ := st2.blk.cells)
        | (go_at_call 55; (with_reducible refine (pick_any _ B rb A nb c (p + 1) (st1.rd.alloc (.cells #[.int .i64 (-2), .int .i64 8, .int .i64 0] 3)).drew (n0 : Int) u1 u2 v1).mono ?_); rintro e w5 ⟨xv, rfl, hxv, hR5, hO5⟩; have hxn : xv < hh.l.length := (by rw [L0.out]; omega); have hlit := Row.kept (row := some rb) (lit3 w4 (-2) 8 0).drew hO5.1 (.inr (lit_ne hrb4)); have st2 := (st1.alloc (.cells #[.int .i64 (-2), .int .i64 8, .int .i64 0] 3)).drew.pick hR5 hO5; obtain ⟨y0, y1, y2, _⟩ := st2.blk.cells)
        | (go_at_call 56; (with_reducible refine (num_any _ B rb A nb c (p + 1 + 1) hR5 v2 w4.heap.size 3 3 [-2, 8, 0] 0 hlit (len3 _ _ _) (by decide) (by decide) (Nat.ne_of_gt hrb4)).mono ?_); rintro e w6 ⟨yv, _, rfl, hR6, hO6⟩; have st3 := st2.pick hR6 hO6; obtain ⟨g', _, e', hg1, hg2, _, hc6, hf6⟩ := st3.rows.1.get (k := xv) hxn; cases e'; obtain ⟨z0, z1, z2, _⟩ := st3.blk.cells; have hgb : g0 ≠ bx := (fun e => st3.far.1 (by rw [e]; rfl)))
        | (go_at_call 56; (with_reducible refine (num_any _ B rb A nb c (p + 1 + 1) (hR5.alloc (.cells #[.int .i64 (-2), .int .i64 8, .int .i64 0] 3)) v2 w5.heap.size 3 3 [-2, 8, 0] 0 (lit3 w5 (-2) 8 0) (len3 _ _ _) (by decide) (by decide) (Nat.ne_of_gt hR5.lt)).mono ?_); rintro e w6 ⟨yv, _, rfl, hR6, hO6⟩; have st3 := (st2.alloc (.cells #[.int .i64 (-2), .int .i64 8, .int .i64 0] 3)).pick hR6 hO6; obtain ⟨g', _, e', hg1, hg2, _, hc6, hf6⟩ := st3.rows.1.get (k := xv) hxn; cases e'; obtain ⟨z0, z1, z2, _⟩ := st3.blk.cells; have hgb : g0 ≠ bx := (fun e => st3.far.1 (by rw [e]; rfl))))
    all_goals
      have st4 := st3.cell0 xv yv
      obtain ⟨hH, hR, hG⟩ := h_done st4
      obtain ⟨x0, x1, x2, _⟩ := st4.blk.cells
      obtain ⟨s0, s1, s2, h0, h1, h2⟩ := st4.res.cells
      have hz : SzH (N + 1) ⟨hh.l.set xv yv, hh.r, hh.t⟩ := ⟨by show 1 ≤ (hh.l.set xv yv).length; rw [List.length_set, L0.out]; exact ln1, by show (hh.l.set xv yv).length ≤ 8; rw [List.length_set, L0.out]; exact ln2, by show 1 ≤ hh.r.length; rw [L1.out]; exact ln3, by show hh.r.length ≤ _; rw [L1.out]; omega, by show hh.t.length ≤ _; rw [L2.out]; omega⟩
      clear st4 st3 st2 st1 hR5 hO5 hR6 hO6 y0 y1 y2 z0 z1 z2 hc6 hf6
      go_wp2_with fail
      refine bodyPost_ret (v := .agg #[.slice (some ⟨g0, 0, none⟩) n0 c0, .slice (some ⟨g1, 0, none⟩) n1 c1, .slice (some ⟨g2, 0, none⟩) n2 c2]) ?_ rfl ⟨_, _, p + 1 + 1 + 1, rfl, hH, hz, hR, by omega, hG⟩
      simp [results, Try.results57, go_sem, s0, s1, s2]
  by_cases t1 : x = 1
  · subst t1
    obtain ⟨_, rr1, _⟩ := st1.rows
    have own1 : w4.ownsRow (w.heap.size + 1 + 1) 3 1 (.slice (some ⟨g1, 0, none⟩) n1 c1) n1 (hh.r.map iv) := own_of rr1 L1.out
    have hbx4 : bx < w4.heap.size := st1.blk.lt
    have hbxl := st1.rsb
    have hz4 : (w4.alloc (.cells #[.int .i64 (-1)] 3)).heap.size = w4.heap.size + 1 := by simp
    have lr := L1.out
    go_wp2_with (at_builtin; refine wpList_append_lies _ rfl _ _ 23 rfl (w.heap.size + 1 + 1) 3 i0 (.int .i64 0) 1 8 Try.underlying23 hi hz0 hz1 hz2 rfl (by decide) _ _ _ rfl (own1.alloc _) ⟨w4.heap.size, 0, none⟩ 1 1 [.int .i64 (-1)] rfl rfl one_new (fun u hu => by simp at hu; subst hu; rfl) (by decide) (by unfold maxLen; omega) (by omega) (by simp; omega) (w4.heap.size + 1) hz4 ?_)
    intro g cap w5 hown hgr0 hat hlt
    have hgr : (w4.alloc (.cells #[.int .i64 (-1)] 3)).grownBy w5 (some g1) := hgr0
    have W1 : Row w5 (w.heap.size + 1 + 1) (.slice (some ⟨g, 0, none⟩) (n1 + 1) cap) (hh.r ++ [-1]) := Row.of_own hown (by simp) (by simp; omega)
    have fb : bx ≠ g1 := fun e => st1.far.2.1 (by rw [e]; rfl)
    have X5 := blk3_kept (st1.blk.alloc (.cells #[.int .i64 (-1)] 3)) hgr fb
    obtain ⟨q0, q1, q2, qf0, qf1, qf2⟩ := X5.cells
    have st2 := st1.grew1 W1 hgr hat
    obtain ⟨hH, hR, hG⟩ := h_done st2
    obtain ⟨v0, v1, v2, _⟩ := st2.blk.cells
    obtain ⟨s0, s1, s2, h0, h1, h2⟩ := st2.res.cells
    have hz : SzH (N + 1) ⟨hh.l, hh.r ++ [-1], hh.t⟩ := ⟨by show 1 ≤ hh.l.length; rw [L0.out]; exact ln1, by show hh.l.length ≤ 8; rw [L0.out]; exact ln2, by show 1 ≤ (hh.r ++ [-1]).length; simp, by show (hh.r ++ [-1]).length ≤ _; simp; omega, by show hh.t.length ≤ _; rw [L2.out]; omega⟩
    clear st1 st2 W1 hown hgr hgr0 hat X5 own1 rr1 x0 x1 x2 lr
    go_wp2_with fail
    refine bodyPost_ret (v := .agg #[.slice (some ⟨g0, 0, none⟩) n0 c0, .slice (some ⟨g, 0, none⟩) (n1 + 1) cap, .slice (some ⟨g2, 0, none⟩) n2 c2]) ?_ rfl ⟨_, _, p + 1, rfl, hH, hz, hR, by omega, hG⟩
    simp [results, Try.results57, go_sem, s0, s1, s2]
  by_cases t2 : x = 2
  · subst t2
    have v1 : p + 1 ≤ 1048576 := by omega
    have hrb4 : rb < w4.heap.size := st1.rd.lt
    have hbx4 : bx < w4.heap.size := st1.blk.lt
    have hbxl := st1.rsb
    have hrbl := st1.rbl
    have hBrb := st1.rd.2.2.1
    have ng : bx ≠ g2 := fun e => st1.far.2.2 (by rw [← e]; rfl)
    have o2a : w.heap.size + 1 + 1 ≤ g2 := (st1.rows.2.2.lt g2 rfl).1
    have nr : w.heap.size + 1 ≠ g2 := by omega
    have M2 : n2 + 1 ≤ maxLen := by unfold maxLen; omega
    have M3 : (n2 + 1) * 8 ≤ 140737488355328 := by omega
    clear x0 x1 xf0 xf1 xf2
    go_wp2_with fail
    go_region_law (first
        | (refine step_append_lies _ (by rfl) _ _ _ (by rfl) (w.heap.size + 1 + 1) 3 i0 (.int .i64 0) 1 8 Try.underlying23 hi hz0 hz1 hz2 rfl (by decide) (.slice (some ⟨g2, 0, none⟩) n2 c2) n2 (hh.t.map iv) (by rfl) (own2.alloc _) ⟨w5.heap.size, 0, none⟩ 1 1 [.int .i64 yv] (by rfl) (by rfl) one_new (one_cell yv) (by decide) M2 M3 hbase5 (w5.heap.size + 1) hz5 ?_; intro g cap w6 hown hgr0 hat hlt6; have hgr : (w5.alloc (.cells #[.int .i64 yv] 3)).grownBy w6 (some g2) := hgr0; have X6 := blk3_kept (st2.blk.alloc (.cells #[.int .i64 yv] 3)) hgr ng; obtain ⟨q0, q1, q2, qf0, qf1, qf2⟩ := X6.cells)
        | (go_simp; go_at_call 56; (with_reducible refine (num_any _ B rb A nb c (p + 1) (st1.rd.alloc (.cells #[.int .i64 0, .int .i64 (-1), .int .i64 9] 3)).drew v1 w4.heap.size 3 3 [0, -1, 9] 0 (lit3 w4 0 (-1) 9).drew (len3 _ _ _) (by decide) (by decide) (Nat.ne_of_gt hrb4)).mono ?_); rintro e w5 ⟨yv, _, rfl, hR5, hO5⟩; have st2 := (st1.alloc (.cells #[.int .i64 0, .int .i64 (-1), .int .i64 9] 3)).drew.pick hR5 hO5; obtain ⟨y0, y1, y2, _⟩ := st2.blk.cells; have hbx5 := st2.blk.lt; have own2 := own_of st2.rows.2.2 L2.out; have hz5 := size_one w5 yv; have hbase5 := base_one yv (show w.heap.size + 1 + 1 ≤ bx by omega) hbx5))
    all_goals
      have W2 : Row w6 (w.heap.size + 1 + 1) (.slice (some ⟨g, 0, none⟩) (n2 + 1) cap) (hh.t ++ [yv]) := Row.of_own hown (by simp) (by have := L2.out; simp; omega)
      have st3 := st2.grew2 W2 hgr hat
      obtain ⟨hH, hR, hG⟩ := h_done st3
      obtain ⟨v0', v1', v2', _⟩ := st3.blk.cells
      obtain ⟨s0, s1, s2, h0, h1, h2⟩ := st3.res.cells
      have hz : SzH (N + 1) ⟨hh.l, hh.r, hh.t ++ [yv]⟩ := ⟨by show 1 ≤ hh.l.length; rw [L0.out]; exact ln1, by show hh.l.length ≤ 8; rw [L0.out]; exact ln2, by show 1 ≤ hh.r.length; rw [L1.out]; exact ln3, by show hh.r.length ≤ _; rw [L1.out]; omega, by show (hh.t ++ [yv]).length ≤ _; have := L2.out; simp; omega⟩
      clear W2 hown hgr hgr0 hat X6 own2 st1 st2 st3 y0 y1 y2 x2
      go_wp2_with fail
      refine bodyPost_ret (v := .agg #[.slice (some ⟨g0, 0, none⟩) n0 c0, .slice (some ⟨g1, 0, none⟩) n1 c1, .slice (some ⟨g, 0, none⟩) (n2 + 1) cap]) ?_ rfl ⟨_, _, p + 1 + 1, rfl, hH, hz, hR, by omega, hG⟩
      simp [results, Try.results57, go_sem, s0, s1, s2]
  · obtain rfl : x = 3 := by omega
    have hbx4 : bx < w4.heap.size := st1.blk.lt
    have st2 := st1.bare
    obtain ⟨hH, hR, hG⟩ := h_done st2
    obtain ⟨v0, v1, v2, _⟩ := st2.blk.cells
    obtain ⟨s0, s1, s2, h0, h1, h2⟩ := st2.res.cells
    have hz : SzH (N + 1) ⟨hh.l, hh.r, []⟩ := ⟨by show 1 ≤ hh.l.length; rw [L0.out]; exact ln1, by show hh.l.length ≤ 8; rw [L0.out]; exact ln2, by show 1 ≤ hh.r.length; rw [L1.out]; exact ln3, by show hh.r.length ≤ _; rw [L1.out]; omega, by simp⟩
    clear st1 st2
    go_wp2_with fail
    refine bodyPost_ret (v := .agg #[.slice (some ⟨g0, 0, none⟩) n0 c0, .slice (some ⟨g1, 0, none⟩) n1 c1, .slice (some ⟨w4.heap.size, 0, none⟩) 0 0]) ?_ rfl ⟨_, _, p + 1, rfl, hH, hz, hR, by omega, hG⟩
    simp [results, Try.results57, go_sem, s0, s1, s2]
end Go.Proofs.Ythbflohanjnaeaa
