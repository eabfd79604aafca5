/- spec.l3Draw: a valid colored heap comes back, in new blocks; of what was there only the reader has turned. -/
import Derived.Test.YtmngkjcdaaladaaDrawV
import Derived.Test.YtmngkjcdaaladaaSNewC
import Derived.Test.YtmngkjcdaaladaaSRoots
import Derived.Test.YtmngkjcdaaladaaSAll
namespace Go.Proofs.Ytmngkjcdaaladaa
open Go.RowKit

/-- The state of a draw: a colored heap in block bx over rows of the call's own, the reader, and nothing else has turned. -/
structure CSt (w wr : World) (B rb bx rs : Nat) (A : Option Addr) (nb c p : Nat) (v0 v1 v2 v3 : Value) (C : Cp) : Prop where
  res : Blk4 wr rs (.slice none 0 0) (.slice none 0 0) (.slice none 0 0) (.slice none 0 0) 27
  blk : Blk4 wr bx v0 v1 v2 v3 27
  cv : Cv wr (rs + 1) (.agg #[v0, v1, v2, v3]) C
  far : v0.ownBlock ≠ some bx ∧ v1.ownBlock ≠ some bx ∧ v2.ownBlock ≠ some bx ∧ v3.ownBlock ≠ some bx
  rd : Rd wr B rb A nb c p
  gr : w.grownBy wr (some rb)
  rbl : rb < rs
  rsw : w.heap.size ≤ rs
  rsb : rs < bx
section
variable {w wr : World} {B rb bx rs : Nat} {A : Option Addr} {nb c p : Nat} {v0 v1 v2 v3 : Value} {C : Cp}
theorem CSt.pick (h : CSt w wr B rb bx rs A nb c p v0 v1 v2 v3 C) {w1 : World} {p' : Nat} (hR : Rd w1 B rb A nb c p') (hO : Only rb wr w1) : CSt w w1 B rb bx rs A nb c p' v0 v1 v2 v3 C :=
  ⟨h.res.kept hO.1 (by have := h.rbl; omega), h.blk.kept hO.1 (by have := h.rbl; have := h.rsb; omega), h.cv.kept_low hO.1 (by have := h.rbl; omega), h.far, hR, grown_trans h.gr hO.1, h.rbl, h.rsw, h.rsb⟩
theorem CSt.drew (h : CSt w wr B rb bx rs A nb c p v0 v1 v2 v3 C) : CSt w wr.drew B rb bx rs A nb c p v0 v1 v2 v3 C := ⟨h.res, h.blk, h.cv, h.far, h.rd, grown_drew h.gr, h.rbl, h.rsw, h.rsb⟩
theorem CSt.alloc (h : CSt w wr B rb bx rs A nb c p v0 v1 v2 v3 C) (o : Obj) : CSt w (wr.alloc o) B rb bx rs A nb c p v0 v1 v2 v3 C := ⟨h.res.alloc o, h.blk.alloc o, h.cv.alloc o, h.far, h.rd.alloc o, grown_alloc h.gr o, h.rbl, h.rsw, h.rsb⟩
theorem CSt.below (h : CSt w wr B rb bx rs A nb c p v0 v1 v2 v3 C) {w1 : World} (hb : Below wr.heap.size wr w1) : CSt w w1 B rb bx rs A nb c p v0 v1 v2 v3 C := ⟨h.res.below hb, h.blk.below hb, h.cv.below hb, h.far, h.rd.below hb, grown_of h.gr hb, h.rbl, h.rsw, h.rsb⟩
theorem Cv.far_of {w : World} {lo b : Nat} {v0 v1 v2 v3 : Value} {C : Cp} (hv : Cv w lo (.agg #[v0, v1, v2, v3]) C) (hb : b < lo) : v0.ownBlock ≠ some b ∧ v1.ownBlock ≠ some b ∧ v2.ownBlock ≠ some b ∧ v3.ownBlock ≠ some b := by
  obtain ⟨_, _, _, _, e, ⟨_, _, _, e', r0, r1, r2, _⟩, r3, _⟩ := hv
  cases e; cases e'
  exact ⟨fun e => by have := (r0.lt _ e).1; omega, fun e => by have := (r1.lt _ e).1; omega, fun e => by have := (r2.lt _ e).1; omega, fun e => by have := (r3.lt _ e).1; omega⟩
theorem CSt.put4 (h : CSt w wr B rb bx rs A nb c p v0 v1 v2 v3 C) {u0 u1 u2 u3 : Value} {C' : Cp} (hv : Cv wr (rs + 1) (.agg #[u0, u1, u2, u3]) C') (f : u0.ownBlock ≠ some bx ∧ u1.ownBlock ≠ some bx ∧ u2.ownBlock ≠ some bx ∧ u3.ownBlock ≠ some bx) :
    CSt w ((((wr.setCell ⟨bx, 0, none⟩ u0).setCell ⟨bx, 1, none⟩ u1).setCell ⟨bx, 2, none⟩ u2).setCell ⟨bx, 3, none⟩ u3) B rb bx rs A nb c p u0 u1 u2 u3 C' := by
  have hr := h.rbl
  have hs := h.rsb
  have hw := h.rsw
  have hB := h.rd.2.2.1
  have n1 : rs ≠ bx := by omega
  have n2 : rb ≠ bx := by omega
  have n3 : B ≤ bx := by omega
  exact ⟨(((h.res.other (p := ⟨bx, 0, none⟩) n1 _).other (p := ⟨bx, 1, none⟩) n1 _).other (p := ⟨bx, 2, none⟩) n1 _).other (p := ⟨bx, 3, none⟩) n1 _, h.blk.set4 _ _ _ _,
    (((hv.set_far (p := ⟨bx, 0, none⟩) f _).set_far (p := ⟨bx, 1, none⟩) f _).set_far (p := ⟨bx, 2, none⟩) f _).set_far (p := ⟨bx, 3, none⟩) f _, f,
    (((h.rd.other (a := ⟨bx, 0, none⟩) n2 n3 _).other (a := ⟨bx, 1, none⟩) n2 n3 _).other (a := ⟨bx, 2, none⟩) n2 n3 _).other (a := ⟨bx, 3, none⟩) n2 n3 _,
    grown_set (grown_set (grown_set (grown_set h.gr (p := ⟨bx, 0, none⟩) (.inr (by show _ ≤ bx; omega)) _) (p := ⟨bx, 1, none⟩) (.inr (by show _ ≤ bx; omega)) _) (p := ⟨bx, 2, none⟩) (.inr (by show _ ≤ bx; omega)) _) (p := ⟨bx, 3, none⟩) (.inr (by show _ ≤ bx; omega)) _, h.rbl, h.rsw, h.rsb⟩
theorem c_done (h : CSt w wr B rb bx rs A nb c p v0 v1 v2 v3 C) : Cv ((((wr.setCell ⟨rs, 0, none⟩ v0).setCell ⟨rs, 1, none⟩ v1).setCell ⟨rs, 2, none⟩ v2).setCell ⟨rs, 3, none⟩ v3) w.heap.size (.agg #[v0, v1, v2, v3]) C ∧ Rd ((((wr.setCell ⟨rs, 0, none⟩ v0).setCell ⟨rs, 1, none⟩ v1).setCell ⟨rs, 2, none⟩ v2).setCell ⟨rs, 3, none⟩ v3) B rb A nb c p ∧ w.grownBy ((((wr.setCell ⟨rs, 0, none⟩ v0).setCell ⟨rs, 1, none⟩ v1).setCell ⟨rs, 2, none⟩ v2).setCell ⟨rs, 3, none⟩ v3) (some rb) := by
  have hr := h.rbl
  have hs := h.rsb
  have hw := h.rsw
  have hB := h.rd.2.2.1
  have n2 : rb ≠ rs := by omega
  have n3 : B ≤ rs := by omega
  have lt : rs < rs + 1 := by omega
  exact ⟨((((h.cv.set_low (p := ⟨rs, 0, none⟩) lt _).set_low (p := ⟨rs, 1, none⟩) lt _).set_low (p := ⟨rs, 2, none⟩) lt _).set_low (p := ⟨rs, 3, none⟩) lt _).mono (by omega),
    (((h.rd.other (a := ⟨rs, 0, none⟩) n2 n3 _).other (a := ⟨rs, 1, none⟩) n2 n3 _).other (a := ⟨rs, 2, none⟩) n2 n3 _).other (a := ⟨rs, 3, none⟩) n2 n3 _,
    grown_set (grown_set (grown_set (grown_set h.gr (p := ⟨rs, 0, none⟩) (.inr hw) _) (p := ⟨rs, 1, none⟩) (.inr hw) _) (p := ⟨rs, 2, none⟩) (.inr hw) _) (p := ⟨rs, 3, none⟩) (.inr hw) _⟩
end
theorem CSt.color {w wr : World} {B rb bx rs : Nat} {A : Option Addr} {nb c p : Nat} {v0 v1 v2 : Value} {g n cp : Nat} {C : Cp} (h : CSt w wr B rb bx rs A nb c p v0 v1 v2 (.slice (some ⟨g, 0, none⟩) n cp) C) (k : Nat) (x : Int) :
    CSt w (wr.setCell ⟨g, k, none⟩ (.int .i64 x)) B rb bx rs A nb c p v0 v1 v2 (.slice (some ⟨g, 0, none⟩) n cp) ⟨C.h, C.c.set k x⟩ := by
  obtain ⟨_, _, _, _, e, ⟨_, _, _, e', r0, r1, r2, a⟩, r3, b0, b1, b2⟩ := h.cv
  cases e; cases e'
  have hg := (r3.lt g rfl).1
  have hr := h.rbl
  have hs := h.rsb
  have hw := h.rsw
  have hB := h.rd.2.2.1
  have fb : bx ≠ g := fun e => h.far.2.2.2 (by rw [e]; rfl)
  exact ⟨h.res.other (p := ⟨g, k, none⟩) (by show _ ≠ g; omega) _, h.blk.other (p := ⟨g, k, none⟩) fb _,
    ⟨_, _, _, _, rfl, ⟨_, _, _, rfl, r0.other (fun e => b0 g e rfl) _, r1.other (fun e => b1 g e rfl) _, r2.other (fun e => b2 g e rfl) _, a⟩, r3.set_ k x, b0, b1, b2⟩, h.far,
    h.rd.other (a := ⟨g, k, none⟩) (by show _ ≠ g; omega) (by show _ ≤ g; omega) _, grown_set h.gr (p := ⟨g, k, none⟩) (.inr (by show _ ≤ g; omega)) _, h.rbl, h.rsw, h.rsb⟩
theorem Cv.last' {w : World} {lo : Nat} {D0 D1 D2 D3 : Option Addr} {m0 d0 m1 d1 m2 d2 m3 d3 : Nat} {C : Cp} (hv : Cv w lo (.agg #[.slice D0 m0 d0, .slice D1 m1 d1, .slice D2 m2 d2, .slice D3 m3 d3]) C) : Row w lo (.slice D3 m3 d3) C.c ∧ C.c.length = m3 := by
  obtain ⟨_, _, _, _, _, _, _, _, _, _, _, _, e, _, ⟨_, _, _, r⟩, ⟨_, _, _, l⟩, _⟩ := hv.open_
  cases e; exact ⟨r, l.out⟩
theorem cvB_of {h : Hp} {c : List Int} (h1 : hvB h = true) (h2 : c.length = h.l.length) (h3 : ∀ x ∈ c, 0 ≤ x ∧ x ≤ 2) : cvB ⟨h, c⟩ = true := by
  simp only [cvB, Bool.and_eq_true, decide_eq_true_eq, List.all_eq_true, colB]
  exact ⟨⟨h1, h2⟩, h3⟩
theorem shadeAll_ok (ks : List Int) : ∀ c : List Int, (∀ x ∈ c, 0 ≤ x ∧ x ≤ 2) → ∀ x ∈ shadeAll c ks, 0 ≤ x ∧ x ≤ 2 := by
  induction ks with
  | nil => intro c h; exact h
  | cons k r ih => intro c h; exact ih (shade c k) (shade_valid k h)
theorem cvB_newC {h : Hp} (hv : hvB h = true) : newCO h = some ⟨h, List.replicate h.l.length 0⟩ ∧ cvB ⟨h, List.replicate h.l.length 0⟩ = true := by
  refine ⟨by unfold newCO; rw [if_pos hv], cvB_of hv (by simp) fun x hx => ?_⟩
  obtain ⟨_, rfl⟩ := List.mem_replicate.1 hx; omega
theorem cvB_roots {C : Cp} (hv : cvB C = true) : rootsO C = some ⟨C.h, shadeAll C.c C.h.t⟩ ∧ cvB ⟨C.h, shadeAll C.c C.h.t⟩ = true := by
  obtain ⟨h1, h2, h3⟩ := cvB_parts hv
  exact ⟨by unfold rootsO; rw [if_pos hv], cvB_of h1 (by rw [shadeAll_len]; exact h2) (shadeAll_ok _ _ h3)⟩
theorem cvB_stepOf {C : Cp} (hv : cvB C = true) : cvB (stepOf C) = true := by
  unfold stepOf
  rw [if_pos hv]
  unfold stepC
  split
  · exact hv
  · exact cvB_black _ hv
theorem cvB_color {C : Cp} (hv : cvB C = true) (k : Nat) (x : Int) (h0 : 0 ≤ x) (h2 : x ≤ 2) : cvB ⟨C.h, C.c.set k x⟩ = true := by
  obtain ⟨h1, h4, h3⟩ := cvB_parts hv
  refine cvB_of h1 (by simpa using h4) fun y hy => ?_
  rcases List.mem_or_eq_of_mem_set hy with h9 | rfl
  · exact h3 y h9
  · exact ⟨h0, h2⟩

/-- A drawn colored heap comes back, and it is valid. -/
def DrawnCv (w : World) (B rb : Nat) (A : Option Addr) (nb c p : Nat) (e : Ending) (w' : World) : Prop :=
  ∃ v C p', e = .returned v ∧ Cv w' w.heap.size v C ∧ cvB C = true ∧ Rd w' B rb A nb c p' ∧ p' ≤ p + 64 ∧ w.grownBy w' (some rb)

set_option maxRecDepth 100000 in
set_option maxHeartbeats 3000000 in
theorem l3Draw_any (w : World) (B rb : Nat) (A : Option Addr) (nb c p : Nat) (h : Rd w B rb A nb c p) (hp : p ≤ 9000) :
    Calls Try.prog 55 #[.pointer (some ⟨rb, 0, none⟩)] w (DrawnCv w B rb A nb c p) := by
  have hrl := h.lt
  have Y0 := Blk4.new w (.slice none 0 0) (.slice none 0 0) (.slice none 0 0) (.slice none 0 0) 27
  have h0 := h.alloc (.cells #[.slice none 0 0, .slice none 0 0, .slice none 0 0, .slice none 0 0] 27)
  have G0 : w.grownBy (w.alloc (.cells #[.slice none 0 0, .slice none 0 0, .slice none 0 0, .slice none 0 0] 27)) (some rb) := grown_alloc (World.grownBy.refl w _) _
  have s0 : (w.alloc (.cells #[.slice none 0 0, .slice none 0 0, .slice none 0 0, .slice none 0 0] 27)).heap.size = w.heap.size + 1 := by simp
  go_enter Try.func55, Try.ntmps55
  go_wp2_with fail
  generalize w.alloc (.cells #[.slice none 0 0, .slice none 0 0, .slice none 0 0, .slice none 0 0] 27) = W0 at Y0 h0 G0 s0 ⊢
  refine (l1DrawV_any _ _ _ _ _ _ _ h0 (by omega)).mono ?_; rintro e w1 ⟨v1, h1, p1, rfl, hv1, val1, hR1, hp1, hg1⟩
  have z1 := hg1.size
  obtain ⟨hN, valN⟩ := cvB_newC val1
  have N := specNewColored_any w1 _ _ _ hv1
  rw [hN] at N
  have hl8 := hvB_len val1
  go_wp2_with fail
  refine N.mono ?_; rintro e w2 ⟨v2, rfl, hc2, hb2⟩
  simp only [Option.isSome_some, Option.getD_some] at hc2 ⊢
  have z2 := hb2.size
  have hc2o := hc2
  obtain ⟨D0, m0, d0, D1, m1, d1, D2, m2, d2, D3, m3, d3, rfl, _⟩ := hc2o.open_
  obtain ⟨r3, l3⟩ := hc2.last'
  simp at l3
  obtain ⟨g, rfl, _, _⟩ := r3.at_ (k := 0) (by simp; omega)
  have st : CSt w (w2.alloc (.cells #[.slice D0 m0 d0, .slice D1 m1 d1, .slice D2 m2 d2, .slice (some ⟨g, 0, none⟩) m3 d3] 27)) B rb w2.heap.size w.heap.size A nb c p1 (.slice D0 m0 d0) (.slice D1 m1 d1) (.slice D2 m2 d2) (.slice (some ⟨g, 0, none⟩) m3 d3) ⟨h1, List.replicate h1.l.length 0⟩ := {
    res := ((Y0.kept hg1 (by omega)).below hb2).alloc _
    blk := Blk4.new w2 _ _ _ _ _
    cv := (hc2.mono (by omega)).alloc _
    far := ⟨fun e => by obtain ⟨_, _, _, _, e9, ⟨_, _, _, e8, q0, q1, q2, _⟩, q3, _⟩ := hc2; cases e9; cases e8; have := (q0.lt _ e).2; omega, fun e => by obtain ⟨_, _, _, _, e9, ⟨_, _, _, e8, q0, q1, q2, _⟩, q3, _⟩ := hc2; cases e9; cases e8; have := (q1.lt _ e).2; omega, fun e => by obtain ⟨_, _, _, _, e9, ⟨_, _, _, e8, q0, q1, q2, _⟩, q3, _⟩ := hc2; cases e9; cases e8; have := (q2.lt _ e).2; omega, fun e => by have := (r3.lt _ e).2; omega⟩
    rd := (hR1.below hb2).alloc _
    gr := grown_alloc (grown_of (grown_trans G0 hg1) hb2) _
    rbl := hrl
    rsw := Nat.le_refl _
    rsb := by omega }
  have P := fun W hR => pick_any W B rb A nb c p1 hR 3 (by omega) (by omega) (by omega)
  clear hc2 hb2 hR1 hg1 hv1 N Y0 h0 G0 h r3
  go_wp2_with fail
  refine (P _ (by exact st.rd)).mono ?_; rintro e w3 ⟨x, rfl, hx, hR3, hO3⟩
  have st3 := st.pick hR3 hO3
  generalize w2.heap.size = bx at st3 ⊢
  generalize hC1 : (⟨h1, List.replicate h1.l.length 0⟩ : Cp) = C1 at st3 valN
  have L1 : Hid (C1.c.length = m3) := by unfold Hid; rw [← hC1]; simpa using l3
  clear st P hR3 hO3 hC1
  obtain ⟨x0, x1, x2, x3, f0, f1, f2, f3⟩ := st3.blk.cells
  have m8 : m3 ≤ 8 := by omega
  by_cases hx0 : x = 0
  · subst hx0
    clear x0 x1 x2 x3 f0 f1 f2 f3
    go_wp2_with fail
    go_loopw [5] (fun i wr => ∃ (k q : Nat) (C : Cp), k ≤ m3 ∧ i = .int .i64 k ∧ q ≤ p1 + 1 + k ∧ Hid (C.c.length = m3) ∧ Hid (cvB C = true) ∧ CSt w wr B rb bx w.heap.size A nb c q (.slice D0 m0 d0) (.slice D1 m1 d1) (.slice D2 m2 d2) (.slice (some ⟨g, 0, none⟩) m3 d3) C) (fun i _ => m3 - (intOf i).toNat)
    case atStart => exact ⟨0, _, C1, Nat.zero_le _, rfl, by omega, L1, valN, st3⟩
    case round =>
      clear st3 valN L1
      obtain ⟨k, q, C, hk, rfl, hq, L, val, st⟩ := hrel
      obtain ⟨x0, x1, x2, x3, f0, f1, f2, f3⟩ := st.blk.cells
      by_cases hlt : k < m3
      · have u1 : (1 : Int) ≤ 3 := by omega
        have u2 : (3 : Int) ≤ 1048576 := by omega
        have v1 : q ≤ 1048576 := by omega
        have b3 : (k : Int) < (m3 : Int) := by omega
        have hLk : k < C.c.length := by rw [L.out]; exact hlt
        go_wp2_with fail
        go_region_held3 (fun w' => w'.cell? ⟨bx, 3, none⟩ = some (.slice (some ⟨g, 0, none⟩) m3 d3))
          ((first | exact x3 | exact y3 | (rw [World.cell?_setCell_far _ _ _ _ (by exact hgb)]; exact y3)))
          (((go_at_call 56; refine (pick_any _ B rb A nb c q st.rd.drew 3 u1 u2 v1).mono ?_; rintro e w4 ⟨xv, rfl, hxv, hR, hO⟩; have st1 := st.drew.pick hR hO; obtain ⟨y0, y1, y2, y3, _⟩ := st1.blk.cells; obtain ⟨g', _, e', _, _, _, hc4, hf4⟩ := st1.cv.last'.1.get (k := k) hLk; cases e'; have hgb : g ≠ bx := (fun e => st1.far.2.2.2 (by rw [e]; rfl)))))
        have st2 := st1.color k (xv : Int)
        have val2 : Hid (cvB ⟨C.h, C.c.set k (xv : Int)⟩ = true) := cvB_color val.out k _ (by omega) (by omega)
        have L2 : Hid ((⟨C.h, C.c.set k (xv : Int)⟩ : Cp).c.length = m3) := by unfold Hid; show (C.c.set k (xv : Int)).length = _; rw [List.length_set]; exact L.out
        clear st st1 x0 x1 x2 x3 y0 y1 y2 y3 hc4 hf4 hR hO val L
        go_wp2_with fail
        go_roundw
        case rel => exact ⟨k + 1, q + 1, _, by omega, by go_num, by omega, L2, val2, st2⟩
        case measure => simp [intOf]; omega
      · obtain rfl : m3 = k := by omega
        obtain ⟨hC, hR, hG⟩ := c_done st
        obtain ⟨y0, y1, y2, y3, i0, i1, i2, i3⟩ := st.res.cells
        clear st
        go_wp2_with fail
        refine bodyPost_ret (v := .agg #[.slice D0 m0 d0, .slice D1 m1 d1, .slice D2 m2 d2, .slice (some ⟨g, 0, none⟩) m3 d3]) ?_ rfl ⟨_, C, q, rfl, hC, val.out, hR, by omega, hG⟩
        simp [results, Try.results55, go_sem, y0, y1, y2, y3]
  · have hxb : ((x : Int) == 0) = false := by simp; omega
    have R := specShadeRoots_any w3 _ _ _ st3.cv
    obtain ⟨hRo, valR⟩ := cvB_roots valN
    rw [hRo] at R
    have hbx3 := st3.blk.lt
    have hsb := st3.rsb
    go_wp2_with fail
    refine R.mono ?_; rintro e w4 ⟨v4, rfl, hc4, hb4⟩
    simp only [Option.isSome_some, Option.getD_some] at hc4 ⊢
    have st4 := st3.below hb4
    obtain ⟨E0, u0, e0, E1, u1, e1, E2, u2, e2, E3, u3, e3, rfl, _⟩ := hc4.open_
    have st5 := st4.put4 (hc4.mono (by omega)) (hc4.far_of (by omega))
    obtain ⟨x0, x1, x2, x3, f0, f1, f2, f3⟩ := st4.blk.cells
    have P := fun W hR => pick_any W B rb A nb c (p1 + 1) hR 4 (by omega) (by omega) (by omega)
    clear st3 st4 hc4 hb4 R
    go_wp2_with fail
    refine (P _ (by exact st5.rd)).mono ?_; rintro e w5 ⟨y, rfl, hy, hR5, hO5⟩
    have st6 := st5.pick hR5 hO5
    generalize (⟨C1.h, shadeAll C1.c C1.h.t⟩ : Cp) = C2 at st6 valR
    clear st5 P hR5 hO5 x0 x1 x2 x3 f0 f1 f2 f3 hRo hN valN
    go_wp2_with fail
    go_loopw [6] (fun i wr => ∃ (k : Nat) (C : Cp) (E0 : Option Addr) (u0 e0 : Nat) (E1 : Option Addr) (u1 e1 : Nat) (E2 : Option Addr) (u2 e2 : Nat) (E3 : Option Addr) (u3 e3 : Nat), k ≤ 4 ∧ i = .int .i64 k ∧ Hid (cvB C = true) ∧ CSt w wr B rb bx w.heap.size A nb c (p1 + 1 + 1) (.slice E0 u0 e0) (.slice E1 u1 e1) (.slice E2 u2 e2) (.slice E3 u3 e3) C) (fun i _ => (intOf i).toNat)
    case atStart => exact ⟨y, C2, _, _, _, _, _, _, _, _, _, _, _, _, by omega, rfl, valR, st6⟩
    case round =>
      clear st6 valR
      obtain ⟨k, C, E0, u0, e0, E1, u1, e1, E2, u2, e2, E3, u3, e3, hk, rfl, val, st⟩ := hrel
      obtain ⟨x0, x1, x2, x3, f0, f1, f2, f3⟩ := st.blk.cells
      by_cases hz : k = 0
      · subst hz
        obtain ⟨hC, hR, hG⟩ := c_done st
        obtain ⟨y0, y1, y2, y3, i0, i1, i2, i3⟩ := st.res.cells
        clear st
        go_wp2_with fail
        refine bodyPost_ret (v := .agg #[.slice E0 u0 e0, .slice E1 u1 e1, .slice E2 u2 e2, .slice E3 u3 e3]) ?_ rfl ⟨_, C, _, rfl, hC, val.out, hR, by omega, hG⟩
        simp [results, Try.results55, go_sem, y0, y1, y2, y3]
      · obtain ⟨j, rfl⟩ : ∃ j, k = j + 1 := ⟨k - 1, by omega⟩
        have hk1 : (0 : Int) < ((j + 1 : Nat) : Int) := by omega
        have M := specMarkStep_any wr _ _ _ st.cv
        have hbxr := st.blk.lt
        have hsb := st.rsb
        have val2 := Lib.hid (cvB_stepOf val.out)
        go_wp2_with fail
        refine M.mono ?_; rintro e w6 ⟨v6, rfl, hc6, hb6⟩
        have st1 := st.below hb6
        obtain ⟨K0, t0, k0, K1, t1, k1, K2, t2, k2, K3, t3, k3, rfl, _⟩ := hc6.open_
        have st2 := st1.put4 (hc6.mono (by omega)) (hc6.far_of (by omega))
        obtain ⟨z0, z1, z2, z3, h0, h1, h2, h3⟩ := st1.blk.cells
        clear st st1 hc6 hb6 M x0 x1 x2 x3 f0 f1 f2 f3 val
        go_wp2_with fail
        go_roundw
        case rel => exact ⟨j, stepOf C, _, _, _, _, _, _, _, _, _, _, _, _, by omega, by go_num, val2, st2⟩
        case measure => simp [intOf]

end Go.Proofs.Ytmngkjcdaaladaa
