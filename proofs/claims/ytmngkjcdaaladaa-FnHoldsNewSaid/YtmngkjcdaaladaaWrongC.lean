/- spec.l3Wrong: a colored heap comes back, whatever it is, in new blocks; of what was there only the reader has turned. -/
import Derived.Test.YtmngkjcdaaladaaDrawC
import Derived.Test.YtmngkjcdaaladaaDraws
import Derived.Test.YtmngkjcdaaladaaSCopy
namespace Go.Proofs.Ytmngkjcdaaladaa
open Go.RowKit

/-- Some colored heap comes back. -/
def DrawnCW3 (w : World) (B rb : Nat) (A : Option Addr) (nb c p : Nat) (e : Ending) (w' : World) : Prop :=
  ∃ v C p', e = .returned v ∧ Cv w' w.heap.size v C ∧ Rd w' B rb A nb c p' ∧ p' ≤ p + 8 ∧ w.grownBy w' (some rb)

theorem Blk4.set3' {w : World} {b : Nat} {x y z u : Value} {t : TypeId} (h : Blk4 w b x y z u t) (x' y' z' : Value) : Blk4 (((w.setCell ⟨b, 0, none⟩ x').setCell ⟨b, 1, none⟩ y').setCell ⟨b, 2, none⟩ z') b x' y' z' u t := by
  unfold Blk4 at h ⊢; simp [World.setCell, Array.getElem?_modify, h]
/-- The colors were appended to, and stored. -/
theorem CSt.grew {w w4 w5 : World} {B rb bx rs : Nat} {A : Option Addr} {nb c p : Nat} {v0 v1 v2 : Value} {g3 n cp g n' cap : Nat} {C : Cp} {o : Obj} {ys : List Int} (h : CSt w w4 B rb bx rs A nb c p v0 v1 v2 (.slice (some ⟨g3, 0, none⟩) n cp) C)
    (W1 : Row w5 (rs + 1) (.slice (some ⟨g, 0, none⟩) n' cap) ys) (hgr : (w4.alloc o).grownBy w5 (some g3)) (hat : (Value.slice (some ⟨g3, 0, none⟩) n cp).ownBlock = some g ∨ g = w4.heap.size + 1) :
    CSt w (w5.setCell ⟨bx, 3, none⟩ (.slice (some ⟨g, 0, none⟩) n' cap)) B rb bx rs A nb c p v0 v1 v2 (.slice (some ⟨g, 0, none⟩) n' cap) ⟨C.h, ys⟩ := by
  have hr := h.rbl
  have hs := h.rsb
  have hw := h.rsw
  have hB := h.rd.2.2.1
  have hbl := h.blk.lt
  obtain ⟨_, _, _, _, e, ⟨_, _, _, e', r0, r1, r2, a⟩, r3, b0, b1, b2⟩ := h.cv
  cases e; cases e'
  obtain ⟨hg, hgl⟩ := r3.lt g3 rfl
  have fb : bx ≠ g3 := fun e => h.far.2.2.2 (by rw [e]; rfl)
  have fg : (Value.slice (some ⟨g, 0, none⟩) n' cap).ownBlock ≠ some bx := fun e => by
    have e1 : g = bx := by simpa [Value.ownBlock] using e
    rcases hat with h9 | h9
    · have : g3 = g := by simpa [Value.ownBlock] using h9
      omega
    · omega
  have n2 : rb ≠ bx := by omega
  have n3 : B ≤ bx := by omega
  have K0 := (r0.alloc o).kept hgr (.inr fun e => b0 g3 e rfl)
  have K1 := (r1.alloc o).kept hgr (.inr fun e => b1 g3 e rfl)
  have K2 := (r2.alloc o).kept hgr (.inr fun e => b2 g3 e rfl)
  exact ⟨((h.res.alloc o).kept hgr (by omega)).other (p := ⟨bx, 3, none⟩) (by show rs ≠ bx; omega) _, ((h.blk.alloc o).kept hgr fb).set3 _,
    ⟨_, _, _, _, rfl, ⟨_, _, _, rfl, K0.other (fun e => h.far.1 e) _, K1.other (fun e => h.far.2.1 e) _, K2.other (fun e => h.far.2.2.1 e) _, a⟩, W1.other fg _, lies_apart r0 hat b0, lies_apart r1 hat b1, lies_apart r2 hat b2⟩,
    ⟨h.far.1, h.far.2.1, h.far.2.2.1, fg⟩, (((h.rd.alloc o).kept hgr (by omega) (by omega)).other (a := ⟨bx, 3, none⟩) n2 n3 _),
    grown_set (p := ⟨bx, 3, none⟩) (grown_new (grown_alloc h.gr o) hgr (by omega)) (.inr (by show _ ≤ bx; omega)) _, hr, hw, hs⟩
/-- The heap part was replaced by new rows, and stored. -/
theorem CSt.heap {w wr w5 : World} {B rb bx rs : Nat} {A : Option Addr} {nb c p p' : Nat} {v0 v1 v2 v3 u0 u1 u2 : Value} {C : Cp} {h' : Hp} (h : CSt w wr B rb bx rs A nb c p v0 v1 v2 v3 C)
    (hv : Hv w5 wr.heap.size (.agg #[u0, u1, u2]) h') (hR : Rd w5 B rb A nb c p') (hg : wr.grownBy w5 (some rb)) :
    CSt w (((w5.setCell ⟨bx, 0, none⟩ u0).setCell ⟨bx, 1, none⟩ u1).setCell ⟨bx, 2, none⟩ u2) B rb bx rs A nb c p' u0 u1 u2 v3 ⟨h', C.c⟩ := by
  have hr := h.rbl
  have hs := h.rsb
  have hw := h.rsw
  have hB := hR.2.2.1
  have hbl := h.blk.lt
  obtain ⟨_, _, _, _, e, _, r3, _⟩ := h.cv
  cases e
  obtain ⟨_, _, _, e', q0, q1, q2, a⟩ := hv
  cases e'
  have n1 : rs ≠ bx := by omega
  have n2 : rb ≠ bx := by omega
  have n3 : B ≤ bx := by omega
  have f0 : u0.ownBlock ≠ some bx := fun e => by have := (q0.lt _ e).1; omega
  have f1 : u1.ownBlock ≠ some bx := fun e => by have := (q1.lt _ e).1; omega
  have f2 : u2.ownBlock ≠ some bx := fun e => by have := (q2.lt _ e).1; omega
  have R3 := r3.kept hg (.inr fun e => by have := (r3.lt _ e).1; omega)
  have k : ∀ (u : Value) (xs : List Int), u.ownBlock ≠ some bx → Row w5 (rs + 1) u xs → Row (((w5.setCell ⟨bx, 0, none⟩ u0).setCell ⟨bx, 1, none⟩ u1).setCell ⟨bx, 2, none⟩ u2) (rs + 1) u xs :=
    fun u xs f r => ((r.other (a := ⟨bx, 0, none⟩) f _).other (a := ⟨bx, 1, none⟩) f _).other (a := ⟨bx, 2, none⟩) f _
  have ap : ∀ (u : Value) (xs : List Int), Row w5 wr.heap.size u xs → Apart u v3 := fun u xs r j e e' => by
    have h1 := (r.lt j e).1
    have h2 := (r3.lt j e').2
    omega
  exact ⟨(((h.res.kept hg (by omega)).other (p := ⟨bx, 0, none⟩) n1 _).other (p := ⟨bx, 1, none⟩) n1 _).other (p := ⟨bx, 2, none⟩) n1 _, (h.blk.kept hg (by omega)).set3' _ _ _,
    ⟨_, _, _, _, rfl, ⟨_, _, _, rfl, k _ _ f0 (q0.mono (by omega)), k _ _ f1 (q1.mono (by omega)), k _ _ f2 (q2.mono (by omega)), a⟩, k _ _ h.far.2.2.2 R3, ap _ _ q0, ap _ _ q1, ap _ _ q2⟩,
    ⟨f0, f1, f2, h.far.2.2.2⟩, ((hR.other (a := ⟨bx, 0, none⟩) n2 n3 _).other (a := ⟨bx, 1, none⟩) n2 n3 _).other (a := ⟨bx, 2, none⟩) n2 n3 _,
    grown_set (p := ⟨bx, 2, none⟩) (grown_set (p := ⟨bx, 1, none⟩) (grown_set (p := ⟨bx, 0, none⟩) (grown_trans h.gr hg) (.inr (by show _ ≤ bx; omega)) _) (.inr (by show _ ≤ bx; omega)) _) (.inr (by show _ ≤ bx; omega)) _, hr, hw, hs⟩

set_option maxRecDepth 100000 in
set_option maxHeartbeats 3000000 in
theorem l3Wrong_any (w : World) (B rb : Nat) (A : Option Addr) (nb c p : Nat) (h : Rd w B rb A nb c p) (hp : p ≤ 9900) (lo : Nat) (v : Value) (C : Cp) (hv : Cv w lo v C) (hC : cvB C = true) :
    Calls Try.prog 57 #[.pointer (some ⟨rb, 0, none⟩), v] w (DrawnCW3 w B rb A nb c p) := by
  obtain ⟨i0, hi, hz0, hz1, hz2⟩ := info_parts Try.infoInt
  have hrl := h.lt
  have hvo := hv
  obtain ⟨A0, n0, q0, A1, n1, q1, A2, n2, q2, A3, n3, q3, rfl, _⟩ := hvo.open_
  obtain ⟨hvh, hlen, hcol⟩ := cvB_parts hC
  have hl8 := hvB_len hvh
  have X := (Blk4.new w (.slice A0 n0 q0) (.slice A1 n1 q1) (.slice A2 n2 q2) (.slice A3 n3 q3) 27).alloc (.cells #[.slice none 0 0, .slice none 0 0, .slice none 0 0, .slice none 0 0] 27)
  have Y := Blk4.new_at (w := w.alloc (.cells #[.slice A0 n0 q0, .slice A1 n1 q1, .slice A2 n2 q2, .slice A3 n3 q3] 27)) (b := w.heap.size + 1) (by simp) (.slice none 0 0) (.slice none 0 0) (.slice none 0 0) (.slice none 0 0) 27
  have VV := (hv.alloc (.cells #[.slice A0 n0 q0, .slice A1 n1 q1, .slice A2 n2 q2, .slice A3 n3 q3] 27)).alloc (.cells #[.slice none 0 0, .slice none 0 0, .slice none 0 0, .slice none 0 0] 27)
  have RR := (h.alloc (.cells #[.slice A0 n0 q0, .slice A1 n1 q1, .slice A2 n2 q2, .slice A3 n3 q3] 27)).alloc (.cells #[.slice none 0 0, .slice none 0 0, .slice none 0 0, .slice none 0 0] 27)
  have G0 : w.grownBy ((w.alloc (.cells #[.slice A0 n0 q0, .slice A1 n1 q1, .slice A2 n2 q2, .slice A3 n3 q3] 27)).alloc (.cells #[.slice none 0 0, .slice none 0 0, .slice none 0 0, .slice none 0 0] 27)) (some rb) := grown_alloc (grown_alloc (World.grownBy.refl w _) _) _
  have sz : ((w.alloc (.cells #[.slice A0 n0 q0, .slice A1 n1 q1, .slice A2 n2 q2, .slice A3 n3 q3] 27)).alloc (.cells #[.slice none 0 0, .slice none 0 0, .slice none 0 0, .slice none 0 0] 27)).heap.size = w.heap.size + 2 := by simp
  go_enter Try.func57, Try.ntmps57
  go_wp2_with fail
  generalize (w.alloc (.cells #[.slice A0 n0 q0, .slice A1 n1 q1, .slice A2 n2 q2, .slice A3 n3 q3] 27)).alloc (.cells #[.slice none 0 0, .slice none 0 0, .slice none 0 0, .slice none 0 0] 27) = W at X Y VV RR G0 sz ⊢
  obtain ⟨x0, x1, x2, x3, _⟩ := X.cells
  have K := l3Copy_any W _ _ _ VV hC
  go_wp2_with fail
  refine K.mono ?_; rintro e w3 ⟨vv, rfl, hD, hb3⟩
  have hDo := hD
  obtain ⟨D0, m0, d0, D1, m1, d1, D2, m2, d2, D3, m3, d3, rfl, _⟩ := hDo.open_
  obtain ⟨r3, l3⟩ := hD.last'
  obtain ⟨g, rfl, _, _⟩ := r3.at_ (k := 0) (by omega)
  have z3 := hb3.size
  have st : CSt w (w3.alloc (.cells #[.slice D0 m0 d0, .slice D1 m1 d1, .slice D2 m2 d2, .slice (some ⟨g, 0, none⟩) m3 d3] 27)) B rb w3.heap.size (w.heap.size + 1) A nb c p (.slice D0 m0 d0) (.slice D1 m1 d1) (.slice D2 m2 d2) (.slice (some ⟨g, 0, none⟩) m3 d3) C := {
    res := (Y.below hb3).alloc _
    blk := Blk4.new w3 _ _ _ _ _
    cv := (hD.mono (by omega)).alloc _
    far := ⟨fun e => by obtain ⟨_, _, _, _, e9, ⟨_, _, _, e8, q0, q1, q2, _⟩, q3, _⟩ := hD; cases e9; cases e8; have := (q0.lt _ e).2; omega, fun e => by obtain ⟨_, _, _, _, e9, ⟨_, _, _, e8, q0, q1, q2, _⟩, q3, _⟩ := hD; cases e9; cases e8; have := (q1.lt _ e).2; omega, fun e => by obtain ⟨_, _, _, _, e9, ⟨_, _, _, e8, q0, q1, q2, _⟩, q3, _⟩ := hD; cases e9; cases e8; have := (q2.lt _ e).2; omega, fun e => by have := (r3.lt _ e).2; omega⟩
    rd := (RR.below hb3).alloc _
    gr := grown_alloc (grown_of G0 hb3) _
    rbl := by omega
    rsw := by omega
    rsb := by omega }
  have P := fun W hR => pick_any W B rb A nb c p hR 20 (by omega) (by omega) (by omega)
  clear hD hDo hb3 RR G0 Y X VV K h hv hvo x0 x1 x2 x3 r3
  go_wp2_with fail
  refine (P _ (by exact st.rd)).mono ?_; rintro e w4 ⟨x, rfl, hx, hR4, hO4⟩
  have st1 := st.pick hR4 hO4
  generalize w3.heap.size = bx at st1 ⊢
  clear st P hR4 hO4
  obtain ⟨x0, x1, x2, x3, f0, f1, f2, f3⟩ := st1.blk.cells
  have hm : 1 ≤ m3 ∧ m3 ≤ 8 := by omega
  by_cases t3 : 3 ≤ x
  · have e0 : ((x : Int) == 0) = false := by simp; omega
    have e1 : ((x : Int) == 1) = false := by simp; omega
    have e2 : ((x : Int) == 2) = false := by simp; omega
    obtain ⟨hH, hR, hG⟩ := c_done st1
    obtain ⟨y0, y1, y2, y3, i0, i1, i2, i3⟩ := st1.res.cells
    clear st1
    go_wp2_with fail
    refine bodyPost_ret (v := .agg #[.slice D0 m0 d0, .slice D1 m1 d1, .slice D2 m2 d2, .slice (some ⟨g, 0, none⟩) m3 d3]) ?_ rfl ⟨_, C, p + 1, rfl, hH, hR, by omega, hG⟩
    simp [results, Try.results57, go_sem, y0, y1, y2, y3]
  by_cases t0 : x = 0
  · subst t0
    have u1 : 1 ≤ (m3 : Int) := by omega
    have u2 : (m3 : Int) ≤ 1048576 := by omega
    have v1 : p + 1 ≤ 1048576 := by omega
    have v2 : p + 1 + 1 ≤ 1048576 := by omega
    have hrb4 : rb < w4.heap.size := st1.rd.lt
    clear x0 x1 x2 f0 f1 f2 f3
    go_wp2_with fail
    go_region_held3 (fun w' => w'.cell? ⟨bx, 3, none⟩ = some (.slice (some ⟨g, 0, none⟩) m3 d3))
      ((with_reducible (first | exact x3 | exact cellD x3 | exact cellA x3 _ | exact cellD (cellA x3 _) | exact cellA (cellD x3) _ | exact y3 | exact cellA y3 _ | exact z3' | (rw [World.cell?_setCell_far _ _ _ _ (by exact hgb)]; exact z3'))))
      (first
        | (go_at_call 56; (with_reducible refine (pick_any _ B rb A nb c (p + 1) st1.rd.drew (m3 : Int) u1 u2 v1).mono ?_); rintro e w5 ⟨xv, rfl, hxv, hR5, hO5⟩; have hxn : xv < C.c.length := (by omega); have st2 := st1.drew.pick hR5 hO5; obtain ⟨y0, y1, y2, y3, _⟩ := st2.blk.cells)
        | (go_at_call 56; (with_reducible refine (pick_any _ B rb A nb c (p + 1) (st1.rd.alloc (.cells #[.int .i64 3, .int .i64 (-1), .int .i64 0] 3)).drew (m3 : Int) u1 u2 v1).mono ?_); rintro e w5 ⟨xv, rfl, hxv, hR5, hO5⟩; have hxn : xv < C.c.length := (by omega); have hlit := Row.kept (row := some rb) (lit3 w4 3 (-1) 0).drew hO5.1 (.inr (lit_ne hrb4)); have st2 := (st1.alloc (.cells #[.int .i64 3, .int .i64 (-1), .int .i64 0] 3)).drew.pick hR5 hO5; obtain ⟨y0, y1, y2, y3, _⟩ := st2.blk.cells)
        | (go_at_call 52; (with_reducible refine (num_any _ B rb A nb c (p + 1 + 1) hR5 v2 w4.heap.size 3 3 [3, -1, 0] 0 hlit (len3 _ _ _) (by decide) (by decide) (Nat.ne_of_gt hrb4)).mono ?_); rintro e w6 ⟨yv, _, rfl, hR6, hO6⟩; have st3 := st2.pick hR6 hO6; obtain ⟨g', _, e', hg1, hg2, _, hc6, hf6⟩ := st3.cv.last'.1.get (k := xv) hxn; cases e'; obtain ⟨z0, z1, z2, z3', _⟩ := st3.blk.cells; have hgb : g ≠ bx := (fun e => st3.far.2.2.2 (by rw [e]; rfl)))
        | (go_at_call 52; (with_reducible refine (num_any _ B rb A nb c (p + 1 + 1) (hR5.alloc (.cells #[.int .i64 3, .int .i64 (-1), .int .i64 0] 3)) v2 w5.heap.size 3 3 [3, -1, 0] 0 (lit3 w5 3 (-1) 0) (len3 _ _ _) (by decide) (by decide) (Nat.ne_of_gt hR5.lt)).mono ?_); rintro e w6 ⟨yv, _, rfl, hR6, hO6⟩; have st3 := (st2.alloc (.cells #[.int .i64 3, .int .i64 (-1), .int .i64 0] 3)).pick hR6 hO6; obtain ⟨g', _, e', hg1, hg2, _, hc6, hf6⟩ := st3.cv.last'.1.get (k := xv) hxn; cases e'; obtain ⟨z0, z1, z2, z3', _⟩ := st3.blk.cells; have hgb : g ≠ bx := (fun e => st3.far.2.2.2 (by rw [e]; rfl))))
    all_goals
      have st4 := st3.color xv yv
      obtain ⟨hH, hR, hG⟩ := c_done st4
      obtain ⟨x0, x1, x2, x3, _⟩ := st4.blk.cells
      obtain ⟨s0, s1, s2, s3, h0, h1, h2, h3⟩ := st4.res.cells
      clear st4 st3 st2 st1 hR5 hO5 hR6 hO6 y0 y1 y2 y3 z0 z1 z2 z3' hc6 hf6
      go_wp2_with fail
      refine bodyPost_ret (v := .agg #[.slice D0 m0 d0, .slice D1 m1 d1, .slice D2 m2 d2, .slice (some ⟨g, 0, none⟩) m3 d3]) ?_ rfl ⟨_, _, p + 1 + 1 + 1, rfl, hH, hR, by omega, hG⟩
      simp [results, Try.results57, go_sem, s0, s1, s2, s3]
  by_cases t1 : x = 1
  · subst t1
    obtain ⟨rr3, ll3⟩ := st1.cv.last'
    have own3 : w4.ownsRow (w.heap.size + 1 + 1) 3 1 (.slice (some ⟨g, 0, none⟩) m3 d3) m3 (C.c.map iv) := own_of rr3 ll3
    have hbx4 : bx < w4.heap.size := st1.blk.lt
    have hbxl := st1.rsb
    have hz4 : (w4.alloc (.cells #[.int .i64 0] 3)).heap.size = w4.heap.size + 1 := by simp
    go_wp2_with (at_builtin; refine wpList_append_lies _ rfl _ _ 23 rfl (w.heap.size + 1 + 1) 3 i0 (.int .i64 0) 1 8 Try.underlying23 hi hz0 hz1 hz2 rfl (by decide) _ _ _ rfl (own3.alloc _) ⟨w4.heap.size, 0, none⟩ 1 1 [.int .i64 0] rfl rfl one_new (fun u hu => by simp at hu; subst hu; rfl) (by decide) (by unfold maxLen; omega) (by omega) (by simp; omega) (w4.heap.size + 1) hz4 ?_)
    intro gn cap w5 hown hgr0 hat hlt
    have hgr : (w4.alloc (.cells #[.int .i64 0] 3)).grownBy w5 (some g) := hgr0
    have W1 : Row w5 (w.heap.size + 1 + 1) (.slice (some ⟨gn, 0, none⟩) (m3 + 1) cap) (C.c ++ [0]) := Row.of_own hown (by simp) (by simp; omega)
    have fb : bx ≠ g := fun e => st1.far.2.2.2 (by rw [e]; rfl)
    have X5 := (st1.blk.alloc (.cells #[.int .i64 0] 3)).kept hgr fb
    obtain ⟨p0, p1, p2, p3, pf0, pf1, pf2, pf3⟩ := X5.cells
    have st2 := st1.grew W1 hgr hat
    obtain ⟨hH, hR, hG⟩ := c_done st2
    obtain ⟨v0, v1, v2, v3, _⟩ := st2.blk.cells
    obtain ⟨s0, s1, s2, s3, h0, h1, h2, h3⟩ := st2.res.cells
    clear st1 st2 W1 hown hgr hgr0 hat X5 own3 rr3 x0 x1 x2 x3 f0 f1 f2 f3
    go_wp2_with fail
    refine bodyPost_ret (v := .agg #[.slice D0 m0 d0, .slice D1 m1 d1, .slice D2 m2 d2, .slice (some ⟨gn, 0, none⟩) (m3 + 1) cap]) ?_ rfl ⟨_, _, p + 1, rfl, hH, hR, by omega, hG⟩
    simp [results, Try.results57, go_sem, s0, s1, s2, s3]
  · obtain rfl : x = 2 := by omega
    obtain ⟨_, _, _, _, ev, hh, _⟩ := st1.cv
    cases ev
    have K := l1Wrong_any w4 B rb A nb c (p + 1) st1.rd (by omega) _ _ C.h hh (by omega)
    go_wp2_with fail
    refine K.mono ?_; rintro e w5 ⟨vv, h', p', rfl, hN, hR5, hp5, hg5⟩
    obtain ⟨E0, u0, e0, E1, u1, e1, E2, u2, e2, rfl, _⟩ := hN.open_
    have st2 := st1.heap hN hR5 hg5
    obtain ⟨hH, hR, hG⟩ := c_done st2
    have X5 := st1.blk.kept hg5 (by have := st1.rbl; have := st1.rsb; omega)
    obtain ⟨p0, p1, p2, p3, pf0, pf1, pf2, pf3⟩ := X5.cells
    obtain ⟨v0, v1, v2, v3, _⟩ := st2.blk.cells
    obtain ⟨s0, s1, s2, s3, h0, h1, h2, h3⟩ := st2.res.cells
    clear st1 st2 hN hR5 hg5 X5 K x0 x1 x2 x3 f0 f1 f2 f3
    go_wp2_with fail
    refine bodyPost_ret (v := .agg #[.slice E0 u0 e0, .slice E1 u1 e1, .slice E2 u2 e2, .slice (some ⟨g, 0, none⟩) m3 d3]) ?_ rfl ⟨_, _, p', rfl, hH, hR, by omega, hG⟩
    simp [results, Try.results57, go_sem, s0, s1, s2, s3]

end Go.Proofs.Ytmngkjcdaaladaa
