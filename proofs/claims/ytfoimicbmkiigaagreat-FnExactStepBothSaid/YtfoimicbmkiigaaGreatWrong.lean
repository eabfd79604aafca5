/- spec.l1Wrong: a heap comes back, whatever it is, in new blocks; of what was there only the reader has turned. -/
import Derived.Test.YtfoimicbmkiigaaGreatDraw
import Derived.Deep.AppendLies
namespace Go.Proofs.YtfoimicbmkiigaaGreat
open Go.RowKit

theorem wrong_done {w wr : World} {B rb : Nat} {A : Option Addr} {nb c p : Nat} {s0 s1 s2 : Value} {xs ys zs : List Int} {lo rs : Nat}
    (r0 : Row wr lo s0 xs) (r1 : Row wr lo s1 ys) (r2 : Row wr lo s2 zs) (a01 : Apart s0 s1) (a02 : Apart s0 s2) (a12 : Apart s1 s2) (hlo : rs < lo) (hs : w.heap.size ≤ rs) (hrb : rb < w.heap.size) (rd : Rd wr B rb A nb c p) (gr : w.grownBy wr (some rb)) :
    Hv (((wr.setCell ⟨rs, 0, none⟩ s0).setCell ⟨rs, 1, none⟩ s1).setCell ⟨rs, 2, none⟩ s2) w.heap.size (.agg #[s0, s1, s2]) ⟨xs, ys, zs⟩ ∧
      Rd (((wr.setCell ⟨rs, 0, none⟩ s0).setCell ⟨rs, 1, none⟩ s1).setCell ⟨rs, 2, none⟩ s2) B rb A nb c p ∧ w.grownBy (((wr.setCell ⟨rs, 0, none⟩ s0).setCell ⟨rs, 1, none⟩ s1).setCell ⟨rs, 2, none⟩ s2) (some rb) := by
  have k : ∀ (v : Value) (xs : List Int), Row wr lo v xs → v.ownBlock ≠ some rs := fun v xs r e => by have := (r.lt _ e).1; omega
  have t : ∀ (v : Value) (xs : List Int), Row wr lo v xs → Row (((wr.setCell ⟨rs, 0, none⟩ s0).setCell ⟨rs, 1, none⟩ s1).setCell ⟨rs, 2, none⟩ s2) w.heap.size v xs :=
    fun v xs r => (((r.other (k v xs r) _).other (k v xs r) _).other (k v xs r) _).mono (by omega)
  have hne : rb ≠ rs := by omega
  have hB : B ≤ rs := by have := rd.2.2.1; omega
  exact ⟨⟨s0, s1, s2, rfl, t _ _ r0, t _ _ r1, t _ _ r2, a01, a02, a12⟩, ((rd.other hne hB _).other hne hB _).other hne hB _, grown_set (grown_set (grown_set gr (.inr hs) _) (.inr hs) _) (.inr hs) _⟩

theorem DrawSt.alloc {w wr : World} {B rb b : Nat} {A : Option Addr} {nb c p : Nat} {s0 s1 s2 : Value} {n m lo rs : Nat} (h : DrawSt w wr B rb b A nb c p s0 s1 s2 n m lo rs) (o : Obj) : DrawSt w (wr.alloc o) B rb b A nb c p s0 s1 s2 n m lo rs := by
  obtain ⟨xs, e0, r0⟩ := h.r0
  obtain ⟨ys, e1, r1⟩ := h.r1
  obtain ⟨zs, e2, r2⟩ := h.r2
  exact ⟨⟨xs, e0, r0.alloc o⟩, ⟨ys, e1, r1.alloc o⟩, ⟨zs, e2, r2.alloc o⟩, h.res.alloc o, h.blk.alloc o, h.rd.alloc o, grown_alloc h.gr o, h.bb, h.rbl, h.rsl, h.rsh, h.n0, h.n1, h.n2, h.a01, h.a02, h.a12⟩

theorem Row.lit_lo {w : World} {g : Nat} (hg : g = w.heap.size) (lo : Nat) (hlo : lo ≤ w.heap.size) (xs : List Int) (hn : xs.length ≤ 1048576) : Row (w.alloc (.cells (xs.map iv).toArray 3)) lo (.slice (some ⟨g, 0, none⟩) xs.length xs.length) xs := by
  subst hg; exact Row.lit w lo xs hlo hn
theorem Rd.kept {w w' : World} {B rb g : Nat} {A : Option Addr} {n c p : Nat} (h : Rd w B rb A n c p) (hg : w.grownBy w' (some g)) (hne : rb ≠ g) (hB : B ≤ g) : Rd w' B rb A n c p :=
  ⟨(hg.block rb h.lt (by simp; exact hne)).trans h.1, h.2.1.grown hg hB (by have := h.2.2.1; have := h.lt; omega), h.2.2⟩
theorem grown_new {a b c : World} {row : Option Nat} {g : Nat} (h : a.grownBy b row) (k : b.grownBy c (some g)) (hg : a.heap.size ≤ g) : a.grownBy c row :=
  ⟨k.os.trans h.os, k.tape.trans h.tape, k.output.trans h.output, Nat.le_trans h.size k.size, fun i hi hne => (k.block i (Nat.lt_of_lt_of_le hi h.size) (by simp; omega)).trans (h.block i hi hne)⟩

/-- What an append to one row of a drawn heap leaves. -/
theorem lies_apart {w4 : World} {g1 g lo n0 c0 n c : Nat} {v : Value} {xs : List Int} (hr : Row w4 lo v xs) (hat : (Value.slice (some ⟨g1, 0, none⟩) n0 c0).ownBlock = some g ∨ g = w4.heap.size + 1) (ha : Apart v (.slice (some ⟨g1, 0, none⟩) n0 c0)) : Apart v (.slice (some ⟨g, 0, none⟩) n c) := by
  intro b hb hb'
  have hgb : g = b := by simpa [Value.ownBlock] using hb'
  subst hgb
  rcases hat with h | h
  · exact ha g hb h
  · have := (hr.lt g hb).2; omega

theorem lit_ne {g rb n c : Nat} (h : rb < g) : (Value.slice (some ⟨g, 0, none⟩) n c).ownBlock ≠ some rb := by simp [Value.ownBlock]; omega

theorem lit3 (w : World) (a b c : Int) : Row (w.alloc (.cells #[.int .i64 a, .int .i64 b, .int .i64 c] 3)) 0 (.slice (some ⟨w.heap.size, 0, none⟩) 3 3) [a, b, c] := Row.lit_at rfl [a, b, c] (by simp)
theorem len3 (a b c : Int) : [a, b, c].length = 3 := rfl
theorem one_cell (x : Int) : ∀ u ∈ [Value.int .i64 x], u.oneCell' = true := fun u hu => by simp at hu; subst hu; rfl
theorem size_one (w : World) (x : Int) : (w.alloc (.cells #[.int .i64 x] 3)).heap.size = w.heap.size + 1 := by simp
theorem base_one {w : World} {lo b : Nat} (x : Int) (h : lo ≤ b) (h' : b < w.heap.size) : lo ≤ (w.alloc (.cells #[.int .i64 x] 3)).heap.size := by simp; omega
theorem own_of {w : World} {lo n : Nat} {v : Value} {zs : List Int} (h : Row w lo v zs) (e : zs.length = n) : w.ownsRow lo 3 1 v n (zs.map iv) := by subst e; exact h

/-- Some heap comes back. -/
def DrawnW (w : World) (B rb : Nat) (A : Option Addr) (nb c p : Nat) (e : Ending) (w' : World) : Prop :=
  ∃ v h p', e = .returned v ∧ Hv w' w.heap.size v h ∧ Rd w' B rb A nb c p' ∧ p' ≤ p + 4 ∧ w.grownBy w' (some rb)

end Go.Proofs.YtfoimicbmkiigaaGreat
