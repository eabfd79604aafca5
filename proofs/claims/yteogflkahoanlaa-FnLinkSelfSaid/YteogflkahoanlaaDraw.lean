/- spec.l1Draw: whatever the source gives, a heap with 1 to 8 cells and 1 to 3 roots comes back, in new blocks; of what was there only the reader has turned. -/
import Derived.Test.YteogflkahoanlaaRdA
import Derived.Test.YteogflkahoanlaaCopys
namespace Go.Proofs.Yteogflkahoanlaa
open Go.RowKit

/-- A row of n ints, whatever they are. -/
def RowN (w : World) (lo : Nat) (v : Value) (n : Nat) : Prop := ∃ xs : List Int, xs.length = n ∧ Row w lo v xs

/-- The state of a draw: a heap in block b over three rows of the call's own, the reader, and nothing else has turned. -/
structure DrawSt (w wr : World) (B rb b : Nat) (A : Option Addr) (nb c p : Nat) (s0 s1 s2 : Value) (n m lo rs : Nat) : Prop where
  r0 : RowN wr lo s0 n
  r1 : RowN wr lo s1 n
  r2 : RowN wr lo s2 m
  res : Blk3 wr rs (.slice none 0 0) (.slice none 0 0) (.slice none 0 0) 25
  blk : Blk3 wr b s0 s1 s2 25
  rd : Rd wr B rb A nb c p
  gr : w.grownBy wr (some rb)
  bb : lo ≤ b
  rbl : rb < w.heap.size
  rsl : w.heap.size ≤ rs
  rsh : rs < lo
  n0 : s0.ownBlock ≠ some b
  n1 : s1.ownBlock ≠ some b
  n2 : s2.ownBlock ≠ some b
  a01 : Apart s0 s1
  a02 : Apart s0 s2
  a12 : Apart s1 s2

section
variable {w wr : World} {B rb b : Nat} {A : Option Addr} {nb c p : Nat} {s0 s1 s2 : Value} {n m lo rs : Nat}
theorem RowN.kept {w w' : World} {lo rb n : Nat} {v : Value} (h : RowN w lo v n) (hg : w.grownBy w' (some rb)) (hl : rb < lo) : RowN w' lo v n := by
  obtain ⟨xs, hn, hr⟩ := h
  refine ⟨xs, hn, hr.kept hg (.inr fun e => ?_)⟩
  have := (hr.lt rb e).1; omega
theorem RowN.other {w : World} {lo n : Nat} {v : Value} (h : RowN w lo v n) {a : Addr} (ha : v.ownBlock ≠ some a.block) (u : Value) : RowN (w.setCell a u) lo v n := by
  obtain ⟨xs, hn, hr⟩ := h
  exact ⟨xs, hn, hr.other ha u⟩
theorem RowN.set_ {w : World} {lo n g l cp : Nat} (h : RowN w lo (.slice (some ⟨g, 0, none⟩) l cp) n) (k : Nat) (x : Int) : RowN (w.setCell ⟨g, k, none⟩ (.int .i64 x)) lo (.slice (some ⟨g, 0, none⟩) l cp) n := by
  obtain ⟨xs, hn, hr⟩ := h
  exact ⟨xs.set k x, by simpa using hn, hr.set_ k x⟩
theorem RowN.get {w : World} {lo n l cp : Nat} {A : Option Addr} (h : RowN w lo (.slice A l cp) n) {k : Nat} (hk : k < n) :
    ∃ g x, A = some ⟨g, 0, none⟩ ∧ lo ≤ g ∧ g < w.heap.size ∧ w.cell? ⟨g, k, none⟩ = some (.int .i64 x) ∧ w.frozen? ⟨g, k, none⟩ = false := by
  obtain ⟨xs, hn, hr⟩ := h
  obtain ⟨g, x, h1, h2, h3, _, h4, h5⟩ := hr.get (k := k) (by omega)
  exact ⟨g, x, h1, h2, h3, h4, h5⟩
theorem DrawSt.pick (h : DrawSt w wr B rb b A nb c p s0 s1 s2 n m lo rs) {w1 : World} {p' : Nat} (hR : Rd w1 B rb A nb c p') (hO : Only rb wr w1) : DrawSt w w1 B rb b A nb c p' s0 s1 s2 n m lo rs :=
  ⟨h.r0.kept hO.1 (by have := h.rbl; have := h.rsl; have := h.rsh; omega), h.r1.kept hO.1 (by have := h.rbl; have := h.rsl; have := h.rsh; omega), h.r2.kept hO.1 (by have := h.rbl; have := h.rsl; have := h.rsh; omega), h.res.kept hO.1 (by have := h.rbl; have := h.rsl; omega), h.blk.kept hO.1 (by have := h.bb; have := h.rbl; have := h.rsl; have := h.rsh; omega), hR, grown_trans h.gr hO.1, h.bb, h.rbl, h.rsl, h.rsh, h.n0, h.n1, h.n2, h.a01, h.a02, h.a12⟩
theorem DrawSt.drew (h : DrawSt w wr B rb b A nb c p s0 s1 s2 n m lo rs) : DrawSt w wr.drew B rb b A nb c p s0 s1 s2 n m lo rs :=
  ⟨h.r0, h.r1, h.r2, h.res, h.blk, h.rd, grown_drew h.gr, h.bb, h.rbl, h.rsl, h.rsh, h.n0, h.n1, h.n2, h.a01, h.a02, h.a12⟩
theorem DrawSt.put0 {g l cp : Nat} (h : DrawSt w wr B rb b A nb c p (.slice (some ⟨g, 0, none⟩) l cp) s1 s2 n m lo rs) (hg : lo ≤ g) (k : Nat) (x : Int) :
    DrawSt w (wr.setCell ⟨g, k, none⟩ (.int .i64 x)) B rb b A nb c p (.slice (some ⟨g, 0, none⟩) l cp) s1 s2 n m lo rs :=
  ⟨h.r0.set_ k x, h.r1.other (fun e => h.a01 g rfl e) _, h.r2.other (fun e => h.a02 g rfl e) _, h.res.other (by have := h.rsh; simp; omega) _, h.blk.other (fun e => h.n0 (by simp [Value.ownBlock]; exact e.symm)) _, h.rd.other (by have := h.rbl; have := h.rsl; have := h.rsh; simp; omega) (by have := h.rd.2.2.1; have := h.rbl; have := h.rsl; have := h.rsh; simp; omega) _,
    grown_set h.gr (.inr (by have := h.rsl; have := h.rsh; simp; omega)) _, h.bb, h.rbl, h.rsl, h.rsh, h.n0, h.n1, h.n2, h.a01, h.a02, h.a12⟩
theorem DrawSt.put1 {g l cp : Nat} (h : DrawSt w wr B rb b A nb c p s0 (.slice (some ⟨g, 0, none⟩) l cp) s2 n m lo rs) (hg : lo ≤ g) (k : Nat) (x : Int) :
    DrawSt w (wr.setCell ⟨g, k, none⟩ (.int .i64 x)) B rb b A nb c p s0 (.slice (some ⟨g, 0, none⟩) l cp) s2 n m lo rs :=
  ⟨h.r0.other (fun e => h.a01 g e rfl) _, h.r1.set_ k x, h.r2.other (fun e => h.a12 g rfl e) _, h.res.other (by have := h.rsh; simp; omega) _, h.blk.other (fun e => h.n1 (by simp [Value.ownBlock]; exact e.symm)) _, h.rd.other (by have := h.rbl; have := h.rsl; have := h.rsh; simp; omega) (by have := h.rd.2.2.1; have := h.rbl; have := h.rsl; have := h.rsh; simp; omega) _,
    grown_set h.gr (.inr (by have := h.rsl; have := h.rsh; simp; omega)) _, h.bb, h.rbl, h.rsl, h.rsh, h.n0, h.n1, h.n2, h.a01, h.a02, h.a12⟩
theorem DrawSt.put2 {g l cp : Nat} (h : DrawSt w wr B rb b A nb c p s0 s1 (.slice (some ⟨g, 0, none⟩) l cp) n m lo rs) (hg : lo ≤ g) (k : Nat) (x : Int) :
    DrawSt w (wr.setCell ⟨g, k, none⟩ (.int .i64 x)) B rb b A nb c p s0 s1 (.slice (some ⟨g, 0, none⟩) l cp) n m lo rs :=
  ⟨h.r0.other (fun e => h.a02 g e rfl) _, h.r1.other (fun e => h.a12 g e rfl) _, h.r2.set_ k x, h.res.other (by have := h.rsh; simp; omega) _, h.blk.other (fun e => h.n2 (by simp [Value.ownBlock]; exact e.symm)) _, h.rd.other (by have := h.rbl; have := h.rsl; have := h.rsh; simp; omega) (by have := h.rd.2.2.1; have := h.rbl; have := h.rsl; have := h.rsh; simp; omega) _,
    grown_set h.gr (.inr (by have := h.rsl; have := h.rsh; simp; omega)) _, h.bb, h.rbl, h.rsl, h.rsh, h.n0, h.n1, h.n2, h.a01, h.a02, h.a12⟩
end

theorem draw_done {w wr : World} {B rb b : Nat} {A : Option Addr} {nb c p : Nat} {s0 s1 s2 : Value} {n m lo rs : Nat} (st : DrawSt w wr B rb b A nb c p s0 s1 s2 n m lo rs) :
    ∃ h : Hp, Hv (((wr.setCell ⟨rs, 0, none⟩ s0).setCell ⟨rs, 1, none⟩ s1).setCell ⟨rs, 2, none⟩ s2) w.heap.size (.agg #[s0, s1, s2]) h ∧ h.l.length = n ∧ h.r.length = n ∧ h.t.length = m ∧
      Rd (((wr.setCell ⟨rs, 0, none⟩ s0).setCell ⟨rs, 1, none⟩ s1).setCell ⟨rs, 2, none⟩ s2) B rb A nb c p ∧ w.grownBy (((wr.setCell ⟨rs, 0, none⟩ s0).setCell ⟨rs, 1, none⟩ s1).setCell ⟨rs, 2, none⟩ s2) (some rb) := by
  have k : ∀ (v : Value) (xs : List Int), Row wr lo v xs → v.ownBlock ≠ some rs := fun v xs r e => by have := (r.lt _ e).1; have := st.rsh; omega
  have t : ∀ (v : Value) (xs : List Int), Row wr lo v xs → Row (((wr.setCell ⟨rs, 0, none⟩ s0).setCell ⟨rs, 1, none⟩ s1).setCell ⟨rs, 2, none⟩ s2) w.heap.size v xs :=
    fun v xs r => (((r.other (k v xs r) _).other (k v xs r) _).other (k v xs r) _).mono (by have := st.rsl; have := st.rsh; omega)
  obtain ⟨xs, e0, r0⟩ := st.r0
  obtain ⟨ys, e1, r1⟩ := st.r1
  obtain ⟨zs, e2, r2⟩ := st.r2
  have hne : rb ≠ rs := by have := st.rbl; have := st.rsl; omega
  have hB : B ≤ rs := by have := st.rbl; have := st.rsl; have := st.rd.2.2.1; omega
  have hs : w.heap.size ≤ rs := st.rsl
  exact ⟨⟨xs, ys, zs⟩, ⟨s0, s1, s2, rfl, t _ _ r0, t _ _ r1, t _ _ r2, st.a01, st.a02, st.a12⟩, e0, e1, e2, ((st.rd.other hne hB _).other hne hB _).other hne hB _, grown_set (grown_set (grown_set st.gr (.inr hs) _) (.inr hs) _) (.inr hs) _⟩

/-- A drawn heap comes back. -/
def DrawnH (w : World) (B rb : Nat) (A : Option Addr) (nb c p : Nat) (e : Ending) (w' : World) : Prop :=
  ∃ v h p', e = .returned v ∧ Hv w' w.heap.size v h ∧ (1 ≤ h.l.length ∧ h.l.length ≤ 8 ∧ h.r.length = h.l.length ∧ 1 ≤ h.t.length ∧ h.t.length ≤ 3) ∧ Rd w' B rb A nb c p' ∧ p' ≤ p + 32 ∧ w.grownBy w' (some rb)

theorem Row.lit_at {w : World} {g : Nat} (hg : g = w.heap.size) (xs : List Int) (hn : xs.length ≤ 1048576) : Row (w.alloc (.cells (xs.map iv).toArray 3)) 0 (.slice (some ⟨g, 0, none⟩) xs.length xs.length) xs := by
  subst hg; exact Row.lit w 0 xs (by omega) hn

theorem wrap_sub1 {x : Nat} {N : Int} (h : (x : Int) < N) (hN : N ≤ 1048576) : IntKind.i64.wrap ((x : Int) - 1) = (x : Int) - 1 := IntWalk.i64_in _ (by omega)
theorem wrap_sub2 {x : Nat} {N : Int} (h : (x : Int) < N) (hN : N ≤ 1048576) : IntKind.i64.wrap ((x : Int) - 2) = (x : Int) - 2 := IntWalk.i64_in _ (by omega)

theorem shut_guard {α : Type} (x : α) : ∃ y, y = x := ⟨x, rfl⟩

end Go.Proofs.Yteogflkahoanlaa
