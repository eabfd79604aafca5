/- spec.l1Wrong: a heap comes back, whatever it is, in new blocks; of what was there only the reader has turned. -/
import Derived.Test.YtapkhgpifpgleaaDraw
import Derived.Deep.AppendLies
namespace Go.Proofs.Ytapkhgpifpgleaa
open Go.RowKit

theorem wrong_done {w wr : World} {B rb : Nat} {A : Option Addr} {nb c p : Nat} {s0 s1 s2 : Value} {xs ys zs : List Int} {lo rs : Nat}
    (r0 : Row wr lo s0 xs) (r1 : Row wr lo s1 ys) (r2 : Row wr lo s2 zs) (a01 : Apart s0 s1) (a02 : Apart s0 s2) (a12 : Apart s1 s2) (hlo : rs < lo) (hs : w.heap.size ≤ rs) (hrb : rb < w.heap.size) (rd : Rd wr B rb A nb c p) (gr : w.grownBy wr (some rb)) :
    Hv (((wr.setCell ⟨rs, 0, none⟩ s0).setCell ⟨rs, 1, none⟩ s1).setCell ⟨rs, 2, none⟩ s2) w.heap.size (.agg #[s0, s1, s2]) ⟨xs, ys, zs⟩ ∧
      Rd (((wr.setCell ⟨rs, 0, none⟩ s0).setCell ⟨rs, 1, none⟩ s1).setCell ⟨rs, 2, none⟩ s2) B rb A nb c p ∧ w.grownBy (((wr.setCell ⟨rs, 0, none⟩ s0).setCell ⟨rs, 1, none⟩ s1).setCell ⟨rs, 2, none⟩ s2) (some rb) := by
  have k : ∀ (v : Value) (xs : List Int), Row wr lo v xs → v.ownBlock ≠ some rs := fun v xs r e => by have := (r.lt _ e).1; omega
  have t : ∀ (v : Value) (xs : List Int), Row wr lo v xs → Row (((wr.setCell ⟨rs, 0, none⟩ s0).setCell ⟨rs, 1, none⟩ s1).setCell ⟨rs, 2, none⟩ s2) w.heap.size v xs :=
    fun v xs r => (((r.other (k v xs r) _).other (k v xs r) _).other (k v xs r) _).mono (by omega)
  have hne : rb ≠ rs := by omega
  have hB : B ≤ rs := by have := rd.2.2.1; omega
  exact ⟨⟨s0, s1, s2, rfl, t _ _ r0, t _ _ r1, t _ _ r2, a01, a02, a12⟩, ((rd.other hne hB _).other hne hB _).other hne hB _, grown_set (grown_set (grown_set gr (.inr hs) _) (.inr hs) _) (.inr hs) _⟩

theorem DrawSt.alloc {w wr : World} {B rb b : Nat} {A : Option Addr} {nb c p : Nat} {s0 s1 s2 : Value} {n m lo rs : Nat} (h : DrawSt w wr B rb b A nb c p s0 s1 s2 n m lo rs) (o : Obj) : DrawSt w (wr.alloc o) B rb b A nb c p s0 s1 s2 n m lo rs := by
  obtain ⟨xs, e0, r0⟩ := h.r0
  obtain ⟨ys, e1, r1⟩ := h.r1
  obtain ⟨zs, e2, r2⟩ := h.r2
  exact ⟨⟨xs, e0, r0.alloc o⟩, ⟨ys, e1, r1.alloc o⟩, ⟨zs, e2, r2.alloc o⟩, h.res.alloc o, h.blk.alloc o, h.rd.alloc o, grown_alloc h.gr o, h.bb, h.rbl, h.rsl, h.rsh, h.n0, h.n1, h.n2, h.a01, h.a02, h.a12⟩

theorem Row.lit_lo {w : World} {g : Nat} (hg : g = w.heap.size) (lo : Nat) (hlo : lo ≤ w.heap.size) (xs : List Int) (hn : xs.length ≤ 1048576) : Row (w.alloc (.cells (xs.map iv).toArray 3)) lo (.slice (some ⟨g, 0, none⟩) xs.length xs.length) xs := by
  subst hg; exact Row.lit w lo xs hlo hn
theorem Rd.kept {w w' : World} {B rb g : Nat} {A : Option Addr} {n c p : Nat} (h : Rd w B rb A n c p) (hg : w.grownBy w' (some g)) (hne : rb ≠ g) (hB : B ≤ g) : Rd w' B rb A n c p :=
  ⟨(hg.block rb h.lt (by simp; exact hne)).trans h.1, h.2.1.grown hg hB (by have := h.2.2.1; have := h.lt; omega), h.2.2⟩
theorem grown_new {a b c : World} {row : Option Nat} {g : Nat} (h : a.grownBy b row) (k : b.grownBy c (some g)) (hg : a.heap.size ≤ g) : a.grownBy c row :=
  ⟨k.os.trans h.os, k.tape.trans h.tape, k.output.trans h.output, Nat.le_trans h.size k.size, fun i hi hne => (k.block i (Nat.lt_of_lt_of_le hi h.size) (by simp; omega)).trans (h.block i hi hne)⟩

/-- What an append to one row of a drawn heap leaves. -/
theorem lies_apart {w4 : World} {g1 g lo n0 c0 n c : Nat} {v : Value} {xs : List Int} (hr : Row w4 lo v xs) (hat : (Value.slice (some ⟨g1, 0, none⟩) n0 c0).ownBlock = some g ∨ g = w4.heap.size + 1) (ha : Apart v (.slice (some ⟨g1, 0, none⟩) n0 c0)) : Apart v (.slice (some ⟨g, 0, none⟩) n c) := by
  intro b hb hb'
  have hgb : g = b := by simpa [Value.ownBlock] using hb'
  subst hgb
  rcases hat with h | h
  · exact ha g hb h
  · have := (hr.lt g hb).2; omega

theorem lit_ne {g rb n c : Nat} (h : rb < g) : (Value.slice (some ⟨g, 0, none⟩) n c).ownBlock ≠ some rb := by simp [Value.ownBlock]; omega

theorem lit3 (w : World) (a b c : Int) : Row (w.alloc (.cells #[.int .i64 a, .int .i64 b, .int .i64 c] 3)) 0 (.slice (some ⟨w.heap.size, 0, none⟩) 3 3) [a, b, c] := Row.lit_at rfl [a, b, c] (by simp)
theorem len3 (a b c : Int) : [a, b, c].length = 3 := rfl
theorem one_cell (x : Int) : ∀ u ∈ [Value.int .i64 x], u.oneCell' = true := fun u hu => by simp at hu; subst hu; rfl
theorem size_one (w : World) (x : Int) : (w.alloc (.cells #[.int .i64 x] 3)).heap.size = w.heap.size + 1 := by simp
theorem base_one {w : World} {lo b : Nat} (x : Int) (h : lo ≤ b) (h' : b < w.heap.size) : lo ≤ (w.alloc (.cells #[.int .i64 x] 3)).heap.size := by simp; omega
theorem own_of {w : World} {lo n : Nat} {v : Value} {zs : List Int} (h : Row w lo v zs) (e : zs.length = n) : w.ownsRow lo 3 1 v n (zs.map iv) := by subst e; exact h

/-- Some heap comes back. -/
def DrawnW (w : World) (B rb : Nat) (A : Option Addr) (nb c p : Nat) (e : Ending) (w' : World) : Prop :=
  ∃ v h p', e = .returned v ∧ Hv w' w.heap.size v h ∧ Rd w' B rb A nb c p' ∧ p' ≤ p + 4 ∧ w.grownBy w' (some rb)

set_option maxRecDepth 100000 in
set_option maxHeartbeats 1600000 in
theorem l1Wrong_any (w : World) (B rb : Nat) (A : Option Addr) (nb c p : Nat) (h : Rd w B rb A nb c p) (hp : p ≤ 10000) (lo : Nat) (v : Value) (hh : Hp) (hv : Hv w lo v hh)
    (hlen : 1 ≤ hh.l.length ∧ hh.l.length ≤ 8 ∧ hh.r.length = hh.l.length ∧ 1 ≤ hh.t.length ∧ hh.t.length ≤ 3) :
    Calls Try.prog 73 #[.pointer (some ⟨rb, 0, none⟩), v] w (DrawnW w B rb A nb c p) := by
  obtain ⟨i0, hi, hz0, hz1, hz2⟩ := info_parts Try.infoInt
  have hrl := h.lt
  obtain ⟨Z0, k0, d0, Z1, k1, d1, Z2, k2, d2, rfl, _⟩ := hv.open_
  have hv1 := (hv.alloc (.cells #[.slice Z0 k0 d0, .slice Z1 k1 d1, .slice Z2 k2 d2] 27)).alloc (.cells #[.slice none 0 0, .slice none 0 0, .slice none 0 0] 27)
  have Y0 := Blk3.new_at (w := w.alloc (.cells #[.slice Z0 k0 d0, .slice Z1 k1 d1, .slice Z2 k2 d2] 27)) (b := w.heap.size + 1) (by simp) (.slice none 0 0) (.slice none 0 0) (.slice none 0 0) 27
  have hR0 := (h.alloc (.cells #[.slice Z0 k0 d0, .slice Z1 k1 d1, .slice Z2 k2 d2] 27)).alloc (.cells #[.slice none 0 0, .slice none 0 0, .slice none 0 0] 27)
  have G0 : w.grownBy ((w.alloc (.cells #[.slice Z0 k0 d0, .slice Z1 k1 d1, .slice Z2 k2 d2] 27)).alloc (.cells #[.slice none 0 0, .slice none 0 0, .slice none 0 0] 27)) (some rb) := grown_alloc (grown_alloc (World.grownBy.refl w _) _) _
  have C := l1Copy_any _ _ _ _ hv1 (by omega) (by omega) (by omega) (by omega) (by omega) (by omega)
  clear hv hv1 h
  go_enter Try.func73, Try.ntmps73
  go_wp2_with fail
  refine C.mono ?_; rintro e w3 ⟨v, rfl, hv3, hb3⟩
  have z3 : w.heap.size + 2 ≤ w3.heap.size := by have := hb3.size; (try simp at this); omega
  obtain ⟨A0, n0, c0, A1, n1, c1, A2, n2, c2, rfl, ⟨r0, r1, r2⟩, ⟨l0, l1, l2⟩, _, _, a01, a02, a12⟩ := hv3.open_
  obtain ⟨ln1, ln2, ln3, ln4, ln5⟩ := hlen
  have en : n1 = n0 := by have := l0.out; have := l1.out; omega
  have hn1 : 1 ≤ n0 ∧ n0 ≤ 8 := by have := l0.out; omega
  have hm1 : 1 ≤ n2 ∧ n2 ≤ 3 := by have := l2.out; omega
  subst en
  have r0' := r0.mono (lo' := w.heap.size + 2) (by simp)
  have r1' := r1.mono (lo' := w.heap.size + 2) (by simp)
  have r2' := r2.mono (lo' := w.heap.size + 2) (by simp)
  have st : DrawSt w (w3.alloc (.cells #[.slice A0 n1 c0, .slice A1 n1 c1, .slice A2 n2 c2] 27)) B rb w3.heap.size A nb c p
      (.slice A0 n1 c0) (.slice A1 n1 c1) (.slice A2 n2 c2) n1 n2 (w.heap.size + 2) (w.heap.size + 1) := {
    r0 := ⟨_, l0.out, r0'.alloc _⟩
    r1 := ⟨_, l1.out, r1'.alloc _⟩
    r2 := ⟨_, l2.out, r2'.alloc _⟩
    res := (Y0.below hb3).alloc _
    blk := Blk3.new w3 _ _ _ _
    rd := (hR0.below hb3).alloc _
    gr := grown_alloc (grown_of G0 hb3) _
    bb := z3
    rbl := hrl
    rsl := by omega
    rsh := by omega
    n0 := fun e => by have := (r0.lt _ e).2; omega
    n1 := fun e => by have := (r1.lt _ e).2; omega
    n2 := fun e => by have := (r2.lt _ e).2; omega
    a01 := a01
    a02 := a02
    a12 := a12 }
  clear hv3 r0 r1 r2 r0' r1' r2' l0 l1 l2 a01 a02 a12 hb3 hR0 G0 Y0 ln1 ln2 ln3 ln4 ln5 C
  obtain ⟨g0, _, rfl, _⟩ := st.r0.get (k := 0) (by omega)
  obtain ⟨g1, _, rfl, _⟩ := st.r1.get (k := 0) (by omega)
  obtain ⟨g2, _, rfl, _⟩ := st.r2.get (k := 0) (by omega)
  have P := fun W hR => pick_any W B rb A nb c p hR 20 (by omega) (by omega) (by omega)
  go_wp2_with fail
  refine (P _ (by exact st.rd)).mono ?_; rintro e w4 ⟨x, rfl, hx, hR4, hO4⟩
  have st1 := st.pick hR4 hO4
  generalize w3.heap.size = bx at st1 ⊢
  clear st P hR4 hO4
  obtain ⟨x0, x1, x2, xf0, xf1, xf2⟩ := st1.blk.cells
  obtain ⟨r0, r1, r2, f0, f1, f2⟩ := st1.res.cells
  have hbr : w.heap.size + 1 ≠ bx := by have := st1.bb; omega
  have hbr' : bx ≠ w.heap.size + 1 := by have := st1.bb; omega
  by_cases t4 : 4 ≤ x
  · have q0 : ((x : Int) == 0) = false := by simp; omega
    have q1 : ((x : Int) == 1) = false := by simp; omega
    have q2 : ((x : Int) == 2) = false := by simp; omega
    have q3 : ((x : Int) == 3) = false := by simp; omega
    obtain ⟨h', hH, e0, e1, e2, hR, hG⟩ := draw_done st1
    go_wp2_with fail
    refine bodyPost_ret (v := .agg #[.slice (some ⟨g0, 0, none⟩) n1 c0, .slice (some ⟨g1, 0, none⟩) n1 c1, .slice (some ⟨g2, 0, none⟩) n2 c2]) ?_ rfl ⟨_, h', p + 1, rfl, hH, hR, by omega, hG⟩
    simp [results, Try.results73, go_sem, r0, r1, r2]
  by_cases t0 : x = 0
  · subst t0
    have u1 : 1 ≤ (n1 : Int) := by omega
    have u2 : (n1 : Int) ≤ 1048576 := by omega
    have v1 : p + 1 ≤ 1048576 := by omega
    have v2 : p + 1 + 1 ≤ 1048576 := by omega
    have hrb4 : rb < w4.heap.size := st1.rd.lt
    have hbx4 : bx < w4.heap.size := st1.blk.lt
    clear x1 x2 xf0 xf1 xf2 r0 r1 r2 f0 f1 f2
    go_wp2_with fail
    go_region_held3 (fun w' => w'.cell? ⟨bx, 0, none⟩ = some (.slice (some ⟨g0, 0, none⟩) n1 c0))
      ((with_reducible (first | exact x0 | exact cellD x0 | exact cellA x0 _ | exact cellD (cellA x0 _) | exact y0 | exact cellA y0 _ | exact z0 | (rw [World.cell?_setCell_far _ _ _ _ (by exact hgb)]; exact z0))))
      (first
        | (go_at_call 62; (with_reducible refine (pick_any _ B rb A nb c (p + 1) st1.rd.drew (n1 : Int) u1 u2 v1).mono ?_); rintro e w5 ⟨xv, rfl, hxv, hR5, hO5⟩; have hxn : xv < n1 := (by omega); have st2 := st1.drew.pick hR5 hO5; obtain ⟨y0, y1, y2, _⟩ := st2.blk.cells)
        | (go_at_call 62; (with_reducible refine (pick_any _ B rb A nb c (p + 1) (st1.rd.alloc (.cells #[.int .i64 (-2), .int .i64 8, .int .i64 0] 3)).drew (n1 : Int) u1 u2 v1).mono ?_); rintro e w5 ⟨xv, rfl, hxv, hR5, hO5⟩; have hxn : xv < n1 := (by omega); have hlit := Row.kept (row := some rb) (lit3 w4 (-2) 8 0).drew hO5.1 (.inr (lit_ne hrb4)); have st2 := (st1.alloc (.cells #[.int .i64 (-2), .int .i64 8, .int .i64 0] 3)).drew.pick hR5 hO5; obtain ⟨y0, y1, y2, _⟩ := st2.blk.cells)
        | (go_at_call 63; (with_reducible refine (num_any _ B rb A nb c (p + 1 + 1) hR5 v2 w4.heap.size 3 3 [-2, 8, 0] 0 hlit (len3 _ _ _) (by decide) (by decide) (Nat.ne_of_gt hrb4)).mono ?_); rintro e w6 ⟨yv, _, rfl, hR6, hO6⟩; have st3 := st2.pick hR6 hO6; obtain ⟨g', _, e', hg1, hg2, hc6, hf6⟩ := st3.r0.get (k := xv) hxn; cases e'; obtain ⟨z0, z1, z2, _⟩ := st3.blk.cells; have hgb : g0 ≠ bx := (fun e => st3.n0 (by rw [e]; rfl)))
        | (go_at_call 63; (with_reducible refine (num_any _ B rb A nb c (p + 1 + 1) (hR5.alloc (.cells #[.int .i64 (-2), .int .i64 8, .int .i64 0] 3)) v2 w5.heap.size 3 3 [-2, 8, 0] 0 (lit3 w5 (-2) 8 0) (len3 _ _ _) (by decide) (by decide) (Nat.ne_of_gt hR5.lt)).mono ?_); rintro e w6 ⟨yv, _, rfl, hR6, hO6⟩; have st3 := (st2.alloc (.cells #[.int .i64 (-2), .int .i64 8, .int .i64 0] 3)).pick hR6 hO6; obtain ⟨g', _, e', hg1, hg2, hc6, hf6⟩ := st3.r0.get (k := xv) hxn; cases e'; obtain ⟨z0, z1, z2, _⟩ := st3.blk.cells; have hgb : g0 ≠ bx := (fun e => st3.n0 (by rw [e]; rfl))))
    all_goals
      have st4 := st3.put0 hg1 xv yv
      obtain ⟨h', hH, e0, e1, e2, hR, hG⟩ := draw_done st4
      obtain ⟨x0, x1, x2, _⟩ := st4.blk.cells
      obtain ⟨s0, s1, s2, h0, h1, h2⟩ := st4.res.cells
      clear st4 st3 st2 st1 hR5 hO5 hR6 hO6 y0 y1 y2 z0 z1 z2 hc6 hf6
      go_wp2_with fail
      refine bodyPost_ret (v := .agg #[.slice (some ⟨g0, 0, none⟩) n1 c0, .slice (some ⟨g1, 0, none⟩) n1 c1, .slice (some ⟨g2, 0, none⟩) n2 c2]) ?_ rfl ⟨_, h', p + 1 + 1 + 1, rfl, hH, hR, by omega, hG⟩
      simp [results, Try.results73, go_sem, s0, s1, s2]
  by_cases t1 : x = 1
  · subst t1
    obtain ⟨xs, e0, rr0⟩ := st1.r0
    obtain ⟨ys, e1, rr1⟩ := st1.r1
    obtain ⟨zs, e2, rr2⟩ := st1.r2
    have own1 : w4.ownsRow (w.heap.size + 2) 3 1 (.slice (some ⟨g1, 0, none⟩) n1 c1) n1 (ys.map iv) := by have := rr1; unfold Row at this; rw [e1] at this; exact this
    have z4 : w.heap.size + 2 ≤ w4.heap.size := Nat.le_trans st1.bb (Nat.le_of_lt st1.blk.lt)
    have hbx4 : bx < w4.heap.size := st1.blk.lt
    have hbxl := st1.bb
    have o1a : w.heap.size + 2 ≤ g1 := (rr1.lt g1 rfl).1
    have o1b : g1 < w4.heap.size := (rr1.lt g1 rfl).2
    have ng : bx ≠ g1 := fun e => st1.n1 (by rw [← e]; rfl)
    have hz4 : (w4.alloc (.cells #[.int .i64 (-1)] 3)).heap.size = w4.heap.size + 1 := by simp
    go_wp2_with (at_builtin; refine wpList_append_lies _ rfl _ _ 22 rfl (w.heap.size + 2) 3 i0 (.int .i64 0) 1 8 Try.underlying22 hi hz0 hz1 hz2 rfl (by decide) _ _ _ rfl (own1.alloc _) ⟨w4.heap.size, 0, none⟩ 1 1 [.int .i64 (-1)] rfl rfl one_new (fun u hu => by simp at hu; subst hu; rfl) (by decide) (by unfold maxLen; omega) (by omega) (by simp; omega) (w4.heap.size + 1) hz4 ?_)
    intro g cap w5 hown hgr0 hat hlt
    have hgr : (w4.alloc (.cells #[.int .i64 (-1)] 3)).grownBy w5 (some g1) := hgr0
    have W1 : Row w5 (w.heap.size + 2) (.slice (some ⟨g, 0, none⟩) (n1 + 1) cap) (ys ++ [-1]) := Row.of_own hown (by simp) (by simp; omega)
    have X5 := (st1.blk.alloc (.cells #[.int .i64 (-1)] 3)).kept hgr ng
    have Y5 := (st1.res.alloc (.cells #[.int .i64 (-1)] 3)).kept hgr (by omega)
    have D5 := (st1.rd.alloc (.cells #[.int .i64 (-1)] 3)).kept hgr (by have := st1.rbl; omega) (by have := st1.rd.2.2.1; have := st1.rbl; omega)
    have G5 := grown_new (grown_alloc st1.gr (.cells #[.int .i64 (-1)] 3)) hgr (by omega)
    have K0 := (rr0.alloc (.cells #[.int .i64 (-1)] 3)).kept hgr (.inr fun e => st1.a01 g1 e rfl)
    have K2 := (rr2.alloc (.cells #[.int .i64 (-1)] 3)).kept hgr (.inr fun e => st1.a12 g1 rfl e)
    have hat' : g1 = g ∨ g = w4.heap.size + 1 := by
      rcases hat with h | h
      · left; simpa [Value.ownBlock] using h
      · exact .inr h
    have gbx : (Value.slice (some ⟨g, 0, none⟩) (n1 + 1) cap).ownBlock ≠ some bx := by
      simp [Value.ownBlock]; omega
    have n01 := lies_apart (n := n1 + 1) (c := cap) rr0 hat st1.a01
    have n12 := (lies_apart (n := n1 + 1) (c := cap) rr2 hat st1.a12.symm).symm
    have R0 := K0.other (a := ⟨bx, 1, none⟩) (fun e => st1.n0 e) (.slice (some ⟨g, 0, none⟩) (n1 + 1) cap)
    have R1 := W1.other (a := ⟨bx, 1, none⟩) gbx (.slice (some ⟨g, 0, none⟩) (n1 + 1) cap)
    have R2 := K2.other (a := ⟨bx, 1, none⟩) (fun e => st1.n2 e) (.slice (some ⟨g, 0, none⟩) (n1 + 1) cap)
    have rd5 := D5.other (a := ⟨bx, 1, none⟩) (by have := st1.rbl; simp; omega) (by have := st1.rd.2.2.1; have := st1.rbl; simp; omega) (.slice (some ⟨g, 0, none⟩) (n1 + 1) cap)
    have g5 := grown_set (p := ⟨bx, 1, none⟩) G5 (.inr (by simp; omega)) (.slice (some ⟨g, 0, none⟩) (n1 + 1) cap)
    obtain ⟨s0, s1, s2, h0, h1, h2⟩ := (Y5.other (p := ⟨bx, 1, none⟩) hbr (.slice (some ⟨g, 0, none⟩) (n1 + 1) cap)).cells
    obtain ⟨v0, v1, v2, _⟩ := (X5.set1 (.slice (some ⟨g, 0, none⟩) (n1 + 1) cap)).cells
    obtain ⟨q0, q1, q2, qf0, qf1, qf2⟩ := X5.cells
    obtain ⟨hH, hR, hG⟩ := wrong_done R0 R1 R2 n01 st1.a02 n12 st1.rsh st1.rsl st1.rbl rd5 g5
    clear R0 R1 R2 W1 K0 K2 rd5 g5 D5 G5 hown hgr hgr0 hat X5 Y5 own1 rr0 rr1 rr2 x0 x1 x2 r0 r1 r2
    go_wp2_with fail
    refine bodyPost_ret (v := .agg #[.slice (some ⟨g0, 0, none⟩) n1 c0, .slice (some ⟨g, 0, none⟩) (n1 + 1) cap, .slice (some ⟨g2, 0, none⟩) n2 c2]) ?_ rfl ⟨_, ⟨xs, ys ++ [-1], zs⟩, p + 1, rfl, hH, hR, by omega, hG⟩
    simp [results, Try.results73, go_sem, s0, s1, s2]
  by_cases t2 : x = 2
  · subst t2
    have v1 : p + 1 ≤ 1048576 := by omega
    have hrb4 : rb < w4.heap.size := st1.rd.lt
    have hbx4 : bx < w4.heap.size := st1.blk.lt
    have hbxl := st1.bb
    have hrbl := st1.rbl
    have hBrb := st1.rd.2.2.1
    have ng : bx ≠ g2 := fun e => st1.n2 (by rw [← e]; rfl)
    have o2a : w.heap.size + 2 ≤ g2 := by obtain ⟨zs, e2, rr2⟩ := st1.r2; exact (rr2.lt g2 rfl).1
    have nr : w.heap.size + 1 ≠ g2 := by omega
    have M2 : n2 + 1 ≤ maxLen := by unfold maxLen; omega
    have M3 : (n2 + 1) * 8 ≤ 140737488355328 := by omega
    clear x0 x1 xf0 xf1 xf2 r0 r1 r2 f0 f1 f2
    go_wp2_with fail
    go_region_law (first
        | (refine step_append_lies _ (by rfl) _ _ _ (by rfl) (w.heap.size + 2) 3 i0 (.int .i64 0) 1 8 Try.underlying22 hi hz0 hz1 hz2 rfl (by decide) (.slice (some ⟨g2, 0, none⟩) n2 c2) n2 (zs.map iv) (by rfl) (own2.alloc _) ⟨w5.heap.size, 0, none⟩ 1 1 [.int .i64 yv] (by rfl) (by rfl) one_new (one_cell yv) (by decide) M2 M3 hbase5 (w5.heap.size + 1) hz5 ?_; intro g cap w6 hown hgr0 hat hlt6; have hgr : (w5.alloc (.cells #[.int .i64 yv] 3)).grownBy w6 (some g2) := hgr0; have X6 := (st2.blk.alloc (.cells #[.int .i64 yv] 3)).kept hgr ng; have Y6 := (st2.res.alloc (.cells #[.int .i64 yv] 3)).kept hgr nr; obtain ⟨q0, q1, q2, qf0, qf1, qf2⟩ := X6.cells)
        | (go_simp; go_at_call 63; (with_reducible refine (num_any _ B rb A nb c (p + 1) (st1.rd.alloc (.cells #[.int .i64 0, .int .i64 (-1), .int .i64 9] 3)).drew v1 w4.heap.size 3 3 [0, -1, 9] 0 (lit3 w4 0 (-1) 9).drew (len3 _ _ _) (by decide) (by decide) (Nat.ne_of_gt hrb4)).mono ?_); rintro e w5 ⟨yv, _, rfl, hR5, hO5⟩; have st2 := (st1.alloc (.cells #[.int .i64 0, .int .i64 (-1), .int .i64 9] 3)).drew.pick hR5 hO5; obtain ⟨y0, y1, y2, _⟩ := st2.blk.cells; have hbx5 := st2.blk.lt; obtain ⟨zs, e2, rr2⟩ := st2.r2; have own2 := own_of rr2 e2; have hz5 := size_one w5 yv; have hbase5 := base_one yv st2.bb hbx5))
    all_goals
      obtain ⟨xs, e0, rr0⟩ := st2.r0
      obtain ⟨ys, e1, rr1⟩ := st2.r1
      have W2 : Row w6 (w.heap.size + 2) (.slice (some ⟨g, 0, none⟩) (n2 + 1) cap) (zs ++ [yv]) := Row.of_own hown (by simp) (by simp; omega)
      have D6 := (st2.rd.alloc (.cells #[.int .i64 yv] 3)).kept hgr (by omega) (by omega)
      have G6 := grown_new (grown_alloc st2.gr (.cells #[.int .i64 yv] 3)) hgr (by omega)
      have K0 := (rr0.alloc (.cells #[.int .i64 yv] 3)).kept hgr (.inr fun e => st2.a02 g2 e rfl)
      have K1 := (rr1.alloc (.cells #[.int .i64 yv] 3)).kept hgr (.inr fun e => st2.a12 g2 e rfl)
      have hat' : g2 = g ∨ g = w5.heap.size + 1 := by
        rcases hat with h | h
        · left; simpa [Value.ownBlock] using h
        · exact .inr h
      have gbx : (Value.slice (some ⟨g, 0, none⟩) (n2 + 1) cap).ownBlock ≠ some bx := by
        simp [Value.ownBlock]; omega
      have n02 := lies_apart (n := n2 + 1) (c := cap) rr0 hat st2.a02
      have n12 := lies_apart (n := n2 + 1) (c := cap) rr1 hat st2.a12
      have R0 := K0.other (a := ⟨bx, 2, none⟩) (fun e => st2.n0 e) (.slice (some ⟨g, 0, none⟩) (n2 + 1) cap)
      have R1 := K1.other (a := ⟨bx, 2, none⟩) (fun e => st2.n1 e) (.slice (some ⟨g, 0, none⟩) (n2 + 1) cap)
      have R2 := W2.other (a := ⟨bx, 2, none⟩) gbx (.slice (some ⟨g, 0, none⟩) (n2 + 1) cap)
      have rd6 := D6.other (a := ⟨bx, 2, none⟩) (by simp; omega) (by simp; omega) (.slice (some ⟨g, 0, none⟩) (n2 + 1) cap)
      have g6 := grown_set (p := ⟨bx, 2, none⟩) G6 (.inr (by simp; omega)) (.slice (some ⟨g, 0, none⟩) (n2 + 1) cap)
      obtain ⟨s0, s1, s2, h0, h1, h2⟩ := (Y6.other (p := ⟨bx, 2, none⟩) hbr (.slice (some ⟨g, 0, none⟩) (n2 + 1) cap)).cells
      obtain ⟨t0, t1, t2, _⟩ := (X6.set2 (.slice (some ⟨g, 0, none⟩) (n2 + 1) cap)).cells
      obtain ⟨hH, hR, hG⟩ := wrong_done R0 R1 R2 st2.a01 n02 n12 st2.rsh st2.rsl st2.rbl rd6 g6
      clear R0 R1 R2 W2 K0 K1 rd6 g6 D6 G6 hown hgr hgr0 hat X6 Y6 own2 rr0 rr1 rr2 st1 st2 y0 y1 y2 x2
      go_wp2_with fail
      refine bodyPost_ret (v := .agg #[.slice (some ⟨g0, 0, none⟩) n1 c0, .slice (some ⟨g1, 0, none⟩) n1 c1, .slice (some ⟨g, 0, none⟩) (n2 + 1) cap]) ?_ rfl ⟨_, ⟨xs, ys, zs ++ [yv]⟩, p + 1 + 1, rfl, hH, hR, by omega, hG⟩
      simp [results, Try.results73, go_sem, s0, s1, s2]
  · obtain rfl : x = 3 := by omega
    obtain ⟨xs, e0, rr0⟩ := st1.r0
    obtain ⟨ys, e1, rr1⟩ := st1.r1
    have z4 : w.heap.size + 2 ≤ w4.heap.size := Nat.le_trans st1.bb (Nat.le_of_lt st1.blk.lt)
    have hbx4 : bx < w4.heap.size := st1.blk.lt
    have sz : (w4.setCell ⟨bx, 2, none⟩ (.slice (some ⟨w4.heap.size, 0, none⟩) 0 0)).heap.size = w4.heap.size := by simp [World.setCell]
    have W1 := Row.lit_lo (w := w4.setCell ⟨bx, 2, none⟩ (.slice (some ⟨w4.heap.size, 0, none⟩) 0 0)) (g := w4.heap.size) sz.symm (w.heap.size + 2) (by rw [sz]; exact z4) [] (by decide)
    have R0 := (rr0.other (a := ⟨bx, 2, none⟩) (fun e => st1.n0 e) (.slice (some ⟨w4.heap.size, 0, none⟩) 0 0)).alloc (.cells #[] 3)
    have R1 := (rr1.other (a := ⟨bx, 2, none⟩) (fun e => st1.n1 e) (.slice (some ⟨w4.heap.size, 0, none⟩) 0 0)).alloc (.cells #[] 3)
    have a02 : Apart (.slice (some ⟨g0, 0, none⟩) n1 c0) (.slice (some ⟨w4.heap.size, 0, none⟩) 0 0) := fun b hb hb' => by have := (rr0.lt b hb).2; simp [Value.ownBlock] at hb'; omega
    have a12 : Apart (.slice (some ⟨g1, 0, none⟩) n1 c1) (.slice (some ⟨w4.heap.size, 0, none⟩) 0 0) := fun b hb hb' => by have := (rr1.lt b hb).2; simp [Value.ownBlock] at hb'; omega
    have rd5 := (st1.rd.other (a := ⟨bx, 2, none⟩) (by have := st1.rbl; have := st1.bb; simp; omega) (by have := st1.rd.2.2.1; have := st1.rbl; have := st1.bb; simp; omega) (.slice (some ⟨w4.heap.size, 0, none⟩) 0 0)).alloc (.cells #[] 3)
    have g5 := grown_alloc (grown_set (p := ⟨bx, 2, none⟩) st1.gr (.inr (by have := st1.bb; simp; omega)) (.slice (some ⟨w4.heap.size, 0, none⟩) 0 0)) (.cells #[] 3)
    obtain ⟨s0, s1, s2, h0, h1, h2⟩ := ((st1.res.other (p := ⟨bx, 2, none⟩) hbr (.slice (some ⟨w4.heap.size, 0, none⟩) 0 0)).alloc (.cells #[] 3)).cells
    obtain ⟨v0, v1, v2, _⟩ := ((st1.blk.set2 (.slice (some ⟨w4.heap.size, 0, none⟩) 0 0)).alloc (.cells #[] 3)).cells
    obtain ⟨hH, hR, hG⟩ := wrong_done R0 R1 W1 st1.a01 a02 a12 st1.rsh st1.rsl st1.rbl rd5 g5
    clear R0 R1 W1 rd5 g5 sz
    go_wp2_with fail
    refine bodyPost_ret (v := .agg #[.slice (some ⟨g0, 0, none⟩) n1 c0, .slice (some ⟨g1, 0, none⟩) n1 c1, .slice (some ⟨w4.heap.size, 0, none⟩) 0 0]) ?_ rfl ⟨_, ⟨xs, ys, []⟩, p + 1, rfl, hH, hR, by omega, hG⟩
    simp [results, Try.results73, go_sem, s0, s1, s2]
end Go.Proofs.Ytapkhgpifpgleaa
