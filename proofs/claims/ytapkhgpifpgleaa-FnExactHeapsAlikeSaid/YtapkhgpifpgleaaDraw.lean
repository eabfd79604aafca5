/- spec.l1Draw: whatever the source gives, a heap with 1 to 8 cells and 1 to 3 roots comes back, in new blocks; of what was there only the reader has turned. -/
import Derived.Test.YtapkhgpifpgleaaRdA
import Derived.Test.YtapkhgpifpgleaaCopys
namespace Go.Proofs.Ytapkhgpifpgleaa
open Go.RowKit

/-- A row of n ints, whatever they are. -/
def RowN (w : World) (lo : Nat) (v : Value) (n : Nat) : Prop := ∃ xs : List Int, xs.length = n ∧ Row w lo v xs

/-- The state of a draw: a heap in block b over three rows of the call's own, the reader, and nothing else has turned. -/
structure DrawSt (w wr : World) (B rb b : Nat) (A : Option Addr) (nb c p : Nat) (s0 s1 s2 : Value) (n m lo rs : Nat) : Prop where
  r0 : RowN wr lo s0 n
  r1 : RowN wr lo s1 n
  r2 : RowN wr lo s2 m
  res : Blk3 wr rs (.slice none 0 0) (.slice none 0 0) (.slice none 0 0) 27
  blk : Blk3 wr b s0 s1 s2 27
  rd : Rd wr B rb A nb c p
  gr : w.grownBy wr (some rb)
  bb : lo ≤ b
  rbl : rb < w.heap.size
  rsl : w.heap.size ≤ rs
  rsh : rs < lo
  n0 : s0.ownBlock ≠ some b
  n1 : s1.ownBlock ≠ some b
  n2 : s2.ownBlock ≠ some b
  a01 : Apart s0 s1
  a02 : Apart s0 s2
  a12 : Apart s1 s2

section
variable {w wr : World} {B rb b : Nat} {A : Option Addr} {nb c p : Nat} {s0 s1 s2 : Value} {n m lo rs : Nat}
theorem RowN.kept {w w' : World} {lo rb n : Nat} {v : Value} (h : RowN w lo v n) (hg : w.grownBy w' (some rb)) (hl : rb < lo) : RowN w' lo v n := by
  obtain ⟨xs, hn, hr⟩ := h
  refine ⟨xs, hn, hr.kept hg (.inr fun e => ?_)⟩
  have := (hr.lt rb e).1; omega
theorem RowN.other {w : World} {lo n : Nat} {v : Value} (h : RowN w lo v n) {a : Addr} (ha : v.ownBlock ≠ some a.block) (u : Value) : RowN (w.setCell a u) lo v n := by
  obtain ⟨xs, hn, hr⟩ := h
  exact ⟨xs, hn, hr.other ha u⟩
theorem RowN.set_ {w : World} {lo n g l cp : Nat} (h : RowN w lo (.slice (some ⟨g, 0, none⟩) l cp) n) (k : Nat) (x : Int) : RowN (w.setCell ⟨g, k, none⟩ (.int .i64 x)) lo (.slice (some ⟨g, 0, none⟩) l cp) n := by
  obtain ⟨xs, hn, hr⟩ := h
  exact ⟨xs.set k x, by simpa using hn, hr.set_ k x⟩
theorem RowN.get {w : World} {lo n l cp : Nat} {A : Option Addr} (h : RowN w lo (.slice A l cp) n) {k : Nat} (hk : k < n) :
    ∃ g x, A = some ⟨g, 0, none⟩ ∧ lo ≤ g ∧ g < w.heap.size ∧ w.cell? ⟨g, k, none⟩ = some (.int .i64 x) ∧ w.frozen? ⟨g, k, none⟩ = false := by
  obtain ⟨xs, hn, hr⟩ := h
  obtain ⟨g, x, h1, h2, h3, _, h4, h5⟩ := hr.get (k := k) (by omega)
  exact ⟨g, x, h1, h2, h3, h4, h5⟩
theorem DrawSt.pick (h : DrawSt w wr B rb b A nb c p s0 s1 s2 n m lo rs) {w1 : World} {p' : Nat} (hR : Rd w1 B rb A nb c p') (hO : Only rb wr w1) : DrawSt w w1 B rb b A nb c p' s0 s1 s2 n m lo rs :=
  ⟨h.r0.kept hO.1 (by have := h.rbl; have := h.rsl; have := h.rsh; omega), h.r1.kept hO.1 (by have := h.rbl; have := h.rsl; have := h.rsh; omega), h.r2.kept hO.1 (by have := h.rbl; have := h.rsl; have := h.rsh; omega), h.res.kept hO.1 (by have := h.rbl; have := h.rsl; omega), h.blk.kept hO.1 (by have := h.bb; have := h.rbl; have := h.rsl; have := h.rsh; omega), hR, grown_trans h.gr hO.1, h.bb, h.rbl, h.rsl, h.rsh, h.n0, h.n1, h.n2, h.a01, h.a02, h.a12⟩
theorem DrawSt.drew (h : DrawSt w wr B rb b A nb c p s0 s1 s2 n m lo rs) : DrawSt w wr.drew B rb b A nb c p s0 s1 s2 n m lo rs :=
  ⟨h.r0, h.r1, h.r2, h.res, h.blk, h.rd, grown_drew h.gr, h.bb, h.rbl, h.rsl, h.rsh, h.n0, h.n1, h.n2, h.a01, h.a02, h.a12⟩
theorem DrawSt.put0 {g l cp : Nat} (h : DrawSt w wr B rb b A nb c p (.slice (some ⟨g, 0, none⟩) l cp) s1 s2 n m lo rs) (hg : lo ≤ g) (k : Nat) (x : Int) :
    DrawSt w (wr.setCell ⟨g, k, none⟩ (.int .i64 x)) B rb b A nb c p (.slice (some ⟨g, 0, none⟩) l cp) s1 s2 n m lo rs :=
  ⟨h.r0.set_ k x, h.r1.other (fun e => h.a01 g rfl e) _, h.r2.other (fun e => h.a02 g rfl e) _, h.res.other (by have := h.rsh; simp; omega) _, h.blk.other (fun e => h.n0 (by simp [Value.ownBlock]; exact e.symm)) _, h.rd.other (by have := h.rbl; have := h.rsl; have := h.rsh; simp; omega) (by have := h.rd.2.2.1; have := h.rbl; have := h.rsl; have := h.rsh; simp; omega) _,
    grown_set h.gr (.inr (by have := h.rsl; have := h.rsh; simp; omega)) _, h.bb, h.rbl, h.rsl, h.rsh, h.n0, h.n1, h.n2, h.a01, h.a02, h.a12⟩
theorem DrawSt.put1 {g l cp : Nat} (h : DrawSt w wr B rb b A nb c p s0 (.slice (some ⟨g, 0, none⟩) l cp) s2 n m lo rs) (hg : lo ≤ g) (k : Nat) (x : Int) :
    DrawSt w (wr.setCell ⟨g, k, none⟩ (.int .i64 x)) B rb b A nb c p s0 (.slice (some ⟨g, 0, none⟩) l cp) s2 n m lo rs :=
  ⟨h.r0.other (fun e => h.a01 g e rfl) _, h.r1.set_ k x, h.r2.other (fun e => h.a12 g rfl e) _, h.res.other (by have := h.rsh; simp; omega) _, h.blk.other (fun e => h.n1 (by simp [Value.ownBlock]; exact e.symm)) _, h.rd.other (by have := h.rbl; have := h.rsl; have := h.rsh; simp; omega) (by have := h.rd.2.2.1; have := h.rbl; have := h.rsl; have := h.rsh; simp; omega) _,
    grown_set h.gr (.inr (by have := h.rsl; have := h.rsh; simp; omega)) _, h.bb, h.rbl, h.rsl, h.rsh, h.n0, h.n1, h.n2, h.a01, h.a02, h.a12⟩
theorem DrawSt.put2 {g l cp : Nat} (h : DrawSt w wr B rb b A nb c p s0 s1 (.slice (some ⟨g, 0, none⟩) l cp) n m lo rs) (hg : lo ≤ g) (k : Nat) (x : Int) :
    DrawSt w (wr.setCell ⟨g, k, none⟩ (.int .i64 x)) B rb b A nb c p s0 s1 (.slice (some ⟨g, 0, none⟩) l cp) n m lo rs :=
  ⟨h.r0.other (fun e => h.a02 g e rfl) _, h.r1.other (fun e => h.a12 g e rfl) _, h.r2.set_ k x, h.res.other (by have := h.rsh; simp; omega) _, h.blk.other (fun e => h.n2 (by simp [Value.ownBlock]; exact e.symm)) _, h.rd.other (by have := h.rbl; have := h.rsl; have := h.rsh; simp; omega) (by have := h.rd.2.2.1; have := h.rbl; have := h.rsl; have := h.rsh; simp; omega) _,
    grown_set h.gr (.inr (by have := h.rsl; have := h.rsh; simp; omega)) _, h.bb, h.rbl, h.rsl, h.rsh, h.n0, h.n1, h.n2, h.a01, h.a02, h.a12⟩
end

theorem draw_done {w wr : World} {B rb b : Nat} {A : Option Addr} {nb c p : Nat} {s0 s1 s2 : Value} {n m lo rs : Nat} (st : DrawSt w wr B rb b A nb c p s0 s1 s2 n m lo rs) :
    ∃ h : Hp, Hv (((wr.setCell ⟨rs, 0, none⟩ s0).setCell ⟨rs, 1, none⟩ s1).setCell ⟨rs, 2, none⟩ s2) w.heap.size (.agg #[s0, s1, s2]) h ∧ h.l.length = n ∧ h.r.length = n ∧ h.t.length = m ∧
      Rd (((wr.setCell ⟨rs, 0, none⟩ s0).setCell ⟨rs, 1, none⟩ s1).setCell ⟨rs, 2, none⟩ s2) B rb A nb c p ∧ w.grownBy (((wr.setCell ⟨rs, 0, none⟩ s0).setCell ⟨rs, 1, none⟩ s1).setCell ⟨rs, 2, none⟩ s2) (some rb) := by
  have k : ∀ (v : Value) (xs : List Int), Row wr lo v xs → v.ownBlock ≠ some rs := fun v xs r e => by have := (r.lt _ e).1; have := st.rsh; omega
  have t : ∀ (v : Value) (xs : List Int), Row wr lo v xs → Row (((wr.setCell ⟨rs, 0, none⟩ s0).setCell ⟨rs, 1, none⟩ s1).setCell ⟨rs, 2, none⟩ s2) w.heap.size v xs :=
    fun v xs r => (((r.other (k v xs r) _).other (k v xs r) _).other (k v xs r) _).mono (by have := st.rsl; have := st.rsh; omega)
  obtain ⟨xs, e0, r0⟩ := st.r0
  obtain ⟨ys, e1, r1⟩ := st.r1
  obtain ⟨zs, e2, r2⟩ := st.r2
  have hne : rb ≠ rs := by have := st.rbl; have := st.rsl; omega
  have hB : B ≤ rs := by have := st.rbl; have := st.rsl; have := st.rd.2.2.1; omega
  have hs : w.heap.size ≤ rs := st.rsl
  exact ⟨⟨xs, ys, zs⟩, ⟨s0, s1, s2, rfl, t _ _ r0, t _ _ r1, t _ _ r2, st.a01, st.a02, st.a12⟩, e0, e1, e2, ((st.rd.other hne hB _).other hne hB _).other hne hB _, grown_set (grown_set (grown_set st.gr (.inr hs) _) (.inr hs) _) (.inr hs) _⟩

/-- A drawn heap comes back. -/
def DrawnH (w : World) (B rb : Nat) (A : Option Addr) (nb c p : Nat) (e : Ending) (w' : World) : Prop :=
  ∃ v h p', e = .returned v ∧ Hv w' w.heap.size v h ∧ (1 ≤ h.l.length ∧ h.l.length ≤ 8 ∧ h.r.length = h.l.length ∧ 1 ≤ h.t.length ∧ h.t.length ≤ 3) ∧ Rd w' B rb A nb c p' ∧ p' ≤ p + 32 ∧ w.grownBy w' (some rb)

theorem Row.lit_at {w : World} {g : Nat} (hg : g = w.heap.size) (xs : List Int) (hn : xs.length ≤ 1048576) : Row (w.alloc (.cells (xs.map iv).toArray 3)) 0 (.slice (some ⟨g, 0, none⟩) xs.length xs.length) xs := by
  subst hg; exact Row.lit w 0 xs (by omega) hn

theorem wrap_sub1 {x : Nat} {N : Int} (h : (x : Int) < N) (hN : N ≤ 1048576) : IntKind.i64.wrap ((x : Int) - 1) = (x : Int) - 1 := IntWalk.i64_in _ (by omega)
theorem wrap_sub2 {x : Nat} {N : Int} (h : (x : Int) < N) (hN : N ≤ 1048576) : IntKind.i64.wrap ((x : Int) - 2) = (x : Int) - 2 := IntWalk.i64_in _ (by omega)

theorem shut_guard {α : Type} (x : α) : ∃ y, y = x := ⟨x, rfl⟩

set_option maxRecDepth 100000 in
set_option maxHeartbeats 600000 in
theorem l1Draw_any (w : World) (B rb : Nat) (A : Option Addr) (nb c p : Nat) (h : Rd w B rb A nb c p) (hp : p ≤ 10000) :
    Calls Try.prog 61 #[.pointer (some ⟨rb, 0, none⟩)] w (DrawnH w B rb A nb c p) := by
  have hrl := h.lt
  have Y0 := Blk3.new w (.slice none 0 0) (.slice none 0 0) (.slice none 0 0) 27
  have h0 := h.alloc (.cells #[.slice none 0 0, .slice none 0 0, .slice none 0 0] 27)
  go_enter Try.func61, Try.ntmps61
  go_wp2_with fail
  refine (num_any _ _ _ _ _ _ _ (h0.alloc _) (by omega) _ _ _ [4, 3, 5, 6, 2, 8, 1] 0 (Row.lit_at (g := w.heap.size + 1) (by simp) [4, 3, 5, 6, 2, 8, 1] (by decide)) rfl (by decide) (by decide) (by simp; omega)).mono ?_
  rintro e w1 ⟨x, hx, rfl, hR1, hO1⟩
  have hxn : ∃ n : Nat, x = n ∧ 1 ≤ n ∧ n ≤ 8 := by
    simp at hx; exact ⟨x.toNat, by omega, by omega, by omega⟩
  obtain ⟨n, rfl, hn1, hn8⟩ := hxn
  clear hx
  go_wp2_with fail
  refine (num_any _ _ _ _ _ _ _ (hR1.alloc _) (by omega) _ _ _ [2, 1, 3] 0 (Row.lit_at (w := w1) (g := w1.heap.size) rfl [2, 1, 3] (by decide)) rfl (by decide) (by decide) (by have := hR1.lt; omega)).mono ?_
  rintro e w2 ⟨x, hx, rfl, hR2, hO2⟩
  have hxm : ∃ m : Nat, x = m ∧ 1 ≤ m ∧ m ≤ 3 := by
    simp at hx; exact ⟨x.toNat, by omega, by omega, by omega⟩
  obtain ⟨m, rfl, hm1, hm3⟩ := hxm
  clear hx
  have N := fun W => specNewHeap_any W n m
  have hnew : newO (n : Int) (m : Int) = some ⟨List.replicate n (-1), List.replicate n (-1), List.replicate m (-1)⟩ := by
    unfold newO; rw [if_pos (by simp [szB]; omega)]; simp
  rw [hnew] at N
  clear hnew
  go_wp2_with fail
  refine (N _).mono ?_
  rintro e w3 ⟨v, rfl, hv3, hb3⟩
  simp only [Option.isSome_some, Option.getD_some] at hv3 ⊢
  obtain ⟨A0, n0, c0, A1, n1, c1, A2, n2, c2, rfl, ⟨r0, r1, r2⟩, ⟨l0, l1, l2⟩, _, _, a01, a02, a12⟩ := hv3.open_
  obtain rfl : n = n0 := by have := l0.out; simpa using this
  obtain rfl : n = n1 := by have := l1.out; simpa using this
  obtain rfl : m = n2 := by have := l2.out; simpa using this
  obtain ⟨g0, _, rfl, _⟩ := RowN.get (w := w3) (lo := w2.heap.size) (n := n) ⟨_, l0.out, r0⟩ (k := 0) (by omega)
  obtain ⟨g1, _, rfl, _⟩ := RowN.get (w := w3) (lo := w2.heap.size) (n := n) ⟨_, l1.out, r1⟩ (k := 0) (by omega)
  obtain ⟨g2, _, rfl, _⟩ := RowN.get (w := w3) (lo := w2.heap.size) (n := m) ⟨_, l2.out, r2⟩ (k := 0) (by omega)
  have z2 : w.heap.size + 2 ≤ w2.heap.size := by have a := hO1.2; have b := hO2.2; simp at a b; omega
  have G2 : w.grownBy w2 (some rb) := grown_trans (grown_alloc (grown_trans (grown_alloc (grown_alloc (World.grownBy.refl w _) _) _) hO1.1) _) hO2.1
  have st : DrawSt w (w3.alloc (.cells #[.slice (some ⟨g0, 0, none⟩) n c0, .slice (some ⟨g1, 0, none⟩) n c1, .slice (some ⟨g2, 0, none⟩) m c2] 27)) B rb w3.heap.size A nb c (p + 1 + 1)
      (.slice (some ⟨g0, 0, none⟩) n c0) (.slice (some ⟨g1, 0, none⟩) n c1) (.slice (some ⟨g2, 0, none⟩) m c2) n m (w.heap.size + 1) w.heap.size := {
    r0 := ⟨_, l0.out, (r0.mono (by omega)).alloc _⟩
    r1 := ⟨_, l1.out, (r1.mono (by omega)).alloc _⟩
    r2 := ⟨_, l2.out, (r2.mono (by omega)).alloc _⟩
    res := (((((Y0.alloc _).kept hO1.1 (by omega)).alloc _).kept hO2.1 (by omega)).below hb3).alloc _
    blk := Blk3.new w3 _ _ _ _
    rd := (hR2.below hb3).alloc _
    gr := grown_alloc (grown_of G2 hb3) _
    bb := by have := hb3.size; omega
    rbl := hrl
    rsl := Nat.le_refl _
    rsh := by omega
    n0 := fun e => by have := (r0.lt _ e).2; omega
    n1 := fun e => by have := (r1.lt _ e).2; omega
    n2 := fun e => by have := (r2.lt _ e).2; omega
    a01 := a01
    a02 := a02
    a12 := a12 }
  clear hv3 r0 r1 r2 l0 l1 l2 a01 a02 a12 hb3 hR2 hO2 hR1 hO1 h0 Y0 h N G2 z2
  go_wp2_with fail
  generalize w3.heap.size = bx at st ⊢
  go_loopw [6] (fun i wr => ∃ k q : Nat, k ≤ n ∧ i = .int .i64 k ∧ q ≤ p + 2 + 2 * k ∧ DrawSt w wr B rb bx A nb c q (.slice (some ⟨g0, 0, none⟩) n c0) (.slice (some ⟨g1, 0, none⟩) n c1) (.slice (some ⟨g2, 0, none⟩) m c2) n m (w.heap.size + 1) w.heap.size) (fun i _ => n - (intOf i).toNat)
  case atStart => exact ⟨0, _, Nat.zero_le _, rfl, by omega, st⟩
  case round =>
    clear st
    obtain ⟨k, q, hk, rfl, hq, st⟩ := hrel
    by_cases hlt : k < n
    · obtain ⟨x0, x1, x2, _⟩ := st.blk.cells
      have u1 : 1 ≤ (n : Int) + 2 := by omega
      have u2 : (n : Int) + 2 ≤ 1048576 := by omega
      have v1 : q ≤ 1048576 := by omega
      have v2 : q + 1 ≤ 1048576 := by omega
      have b3 : (k : Int) < (n : Int) := by omega
      have sA : IntKind.i64.wrap ((n : Int) + 2) = (n : Int) + 2 := IntWalk.i64_in _ (by omega)
      go_wp2_with fail
      go_region_held3 (fun w' => w'.cell? ⟨bx, 0, none⟩ = some (.slice (some ⟨g0, 0, none⟩) n c0))
        ((first | exact x0 | exact y0 | (rw [World.cell?_setCell_far _ _ _ _ (by exact hgb)]; exact y0)))
        (((go_at_call 62; refine (pick_any _ B rb A nb c q st.rd.drew ((n : Int) + 2) u1 u2 v1).mono ?_; rintro e w4 ⟨xv, rfl, hx, hR, hO⟩; have sB := wrap_sub1 hx u2; have st1 := st.drew.pick hR hO; obtain ⟨y0, y1, y2, _⟩ := st1.blk.cells; obtain ⟨g', _, e', hg1, hg2, hc4, hf4⟩ := st1.r0.get hlt; cases e'; have hgb : g0 ≠ bx := (fun e => st1.n0 (by rw [e]; rfl)))))
      have st2 := st1.put0 hg1 k ((xv : Int) - 1)
      generalize w4.setCell ⟨g0, k, none⟩ (.int .i64 ((xv : Int) - 1)) = W2 at st2 ⊢
      rename_i hHeld
      clear hHeld y0 y1 y2 hc4 hf4 hg2 hgb st1 hR hO hx sB
      clear x0 x1 x2 st
      obtain ⟨x0, x1, x2, _⟩ := st2.blk.cells
      go_wp2_with fail
      go_region_held3 (fun w' => w'.cell? ⟨bx, 1, none⟩ = some (.slice (some ⟨g1, 0, none⟩) n c1))
        ((first | exact x1 | exact y1 | (rw [World.cell?_setCell_far _ _ _ _ (by exact hgb)]; exact y1)))
        (((go_at_call 62; refine (pick_any _ B rb A nb c (q + 1) st2.rd.drew ((n : Int) + 2) u1 u2 v2).mono ?_; rintro e w5 ⟨xw, rfl, hx, hR, hO⟩; have sB := wrap_sub2 hx u2; have st3 := st2.drew.pick hR hO; obtain ⟨y0, y1, y2, _⟩ := st3.blk.cells; obtain ⟨g', _, e', hg1, hg2, hc4, hf4⟩ := st3.r1.get hlt; cases e'; have hgb : g1 ≠ bx := (fun e => st3.n1 (by rw [e]; rfl)))))
      have st4 := st3.put1 hg1 k ((xw : Int) - 2)
      generalize w5.setCell ⟨g1, k, none⟩ (.int .i64 ((xw : Int) - 2)) = W4 at st4 ⊢
      rename_i hHeld
      clear hHeld y0 y1 y2 hc4 hf4 hg2 hgb st3 hR hO hx sB sA
      clear x0 x1 x2 st2
      obtain ⟨x0, x1, x2, _⟩ := st4.blk.cells
      obtain ⟨g', u0, e', hg1, hg2, hc0, hf0⟩ := st4.r0.get hlt
      cases e'
      obtain ⟨g', u1, e', hg1', hg2', hc1, hf1⟩ := st4.r1.get hlt
      cases e'
      have a01 : g0 ≠ g1 := fun e => st4.a01 g0 rfl (by rw [e]; rfl)
      have b0 : g0 ≠ bx := fun e => st4.n0 (by rw [e]; rfl)
      have b1 : g1 ≠ bx := fun e => st4.n1 (by rw [e]; rfl)
      by_cases t0 : (n : Int) ≤ u0
      · have st5 := st4.put0 hg1 k (-1)
        obtain ⟨z0, z1, z2, _⟩ := st5.blk.cells
        obtain ⟨g', u2, e', _, _, hc2, hf2⟩ := st5.r1.get hlt
        cases e'
        by_cases t1 : u2 < -1
        · have st6 := st5.put1 hg1' k (-1)
          go_wp2_with fail
          go_roundw
          case rel => exact ⟨k + 1, q + 1 + 1, by omega, by go_num, by omega, st6⟩
          case measure => simp [intOf]; omega
        · go_wp2_with fail
          go_roundw
          case rel => exact ⟨k + 1, q + 1 + 1, by omega, by go_num, by omega, st5⟩
          case measure => simp [intOf]; omega
      · by_cases t1 : u1 < -1
        · have st6 := st4.put1 hg1' k (-1)
          go_wp2_with fail
          go_roundw
          case rel => exact ⟨k + 1, q + 1 + 1, by omega, by go_num, by omega, st6⟩
          case measure => simp [intOf]; omega
        · go_wp2_with fail
          go_roundw
          case rel => exact ⟨k + 1, q + 1 + 1, by omega, by go_num, by omega, st4⟩
          case measure => simp [intOf]; omega
    · obtain rfl : n = k := by omega
      go_wp2_with fail
      go_loopw [7] (fun i wr => ∃ j q : Nat, j ≤ m ∧ i = .int .i64 j ∧ q ≤ p + 18 + j ∧ DrawSt w wr B rb bx A nb c q (.slice (some ⟨g0, 0, none⟩) n c0) (.slice (some ⟨g1, 0, none⟩) n c1) (.slice (some ⟨g2, 0, none⟩) m c2) n m (w.heap.size + 1) w.heap.size) (fun i _ => m - (intOf i).toNat)
      case atStart => exact ⟨0, _, Nat.zero_le _, rfl, by omega, st⟩
      case round =>
        clear st hq hlt
        obtain ⟨k, q, hk, rfl, hq, st⟩ := hrel
        by_cases hlt : k < m
        · obtain ⟨x0, x1, x2, _⟩ := st.blk.cells
          have u1 : 1 ≤ (n : Int) + 1 := by omega
          have u2 : (n : Int) + 1 ≤ 1048576 := by omega
          have v1 : q ≤ 1048576 := by omega
          have b3 : (k : Int) < (m : Int) := by omega
          have sA : IntKind.i64.wrap ((n : Int) + 1) = (n : Int) + 1 := IntWalk.i64_in _ (by omega)
          go_wp2_with fail
          go_region_held3 (fun w' => w'.cell? ⟨bx, 2, none⟩ = some (.slice (some ⟨g2, 0, none⟩) m c2))
            ((first | exact x2 | exact y2 | (rw [World.cell?_setCell_far _ _ _ _ (by exact hgb)]; exact y2)))
            (((go_at_call 62; refine (pick_any _ B rb A nb c q st.rd.drew ((n : Int) + 1) u1 u2 v1).mono ?_; rintro e w4 ⟨xv, rfl, hx, hR, hO⟩; have sB := wrap_sub1 hx u2; have st1 := st.drew.pick hR hO; obtain ⟨y0, y1, y2, _⟩ := st1.blk.cells; obtain ⟨g', _, e', hg1, hg2, hc4, hf4⟩ := st1.r2.get hlt; cases e'; have hgb : g2 ≠ bx := (fun e => st1.n2 (by rw [e]; rfl)))))
          have st2 := st1.put2 hg1 k ((xv : Int) - 1)
          generalize w4.setCell ⟨g2, k, none⟩ (.int .i64 ((xv : Int) - 1)) = W2 at st2 ⊢
          rename_i hHeld
          clear hHeld y0 y1 y2 hc4 hf4 hg2 hgb st1 hR hO hx sB sA
          clear x0 x1 x2 st
          go_wp2_with fail
          go_roundw
          case rel => exact ⟨k + 1, q + 1, by omega, by go_num, by omega, st2⟩
          case measure => simp [intOf]; omega
        · obtain ⟨h, hH, e0, e1, e2, hR, hG⟩ := draw_done st
          obtain ⟨x0, x1, x2, _⟩ := st.blk.cells
          obtain ⟨r0, r1, r2, f0, f1, f2⟩ := st.res.cells
          have hbx : w.heap.size ≠ bx := by have := st.bb; omega
          have b3 : ¬ (k : Int) < (m : Int) := by omega
          go_wp2_with fail
          refine bodyPost_ret (v := .agg #[.slice (some ⟨g0, 0, none⟩) n c0, .slice (some ⟨g1, 0, none⟩) n c1, .slice (some ⟨g2, 0, none⟩) m c2]) ?_ rfl ⟨_, h, q, rfl, hH, ⟨by omega, by omega, by omega, by omega, by omega⟩, hR, by omega, hG⟩
          simp [results, Try.results61, go_sem, r0, r1, r2]
end Go.Proofs.Ytapkhgpifpgleaa
