import Derived.Test.YtfoimicbmkiigaaGreatExactE
import Derived.Test.YtfoimicbmkiigaaGreatOp
import Derived.Test.YtfoimicbmkiigaaGreatSDoH
import Derived.Test.YtfoimicbmkiigaaGreatBlks1
import Derived.Deep.CutRange
import Derived.Test.YtfoimicbmkiigaaGreatExacts
import Derived.Test.YtfoimicbmkiigaaGreatCntA
import Derived.Test.YtfoimicbmkiigaaGreatOps
/- The helpers of the exact laws over operations: toOp; what a region with a result's variable leaves. -/
namespace Go.Proofs.YtfoimicbmkiigaaGreat
open Go.RowKit

set_option maxRecDepth 100000 in
set_option maxHeartbeats 1000000 in
theorem toOp_any (w : World) (o : Opv) : Calls Tryz.prog 105 #[opV o] w fun e w' => e = .returned (opV o) ∧ Below w.heap.size w w' := by
  obtain ⟨k, a, b⟩ := o
  show Calls Tryz.prog 105 #[.agg #[.int .i64 k, .int .i64 a, .int .i64 b]] w _
  have Q := (Blk3.new_at (w := w.alloc (.cells #[.int .i64 k, .int .i64 a, .int .i64 b] 140)) (b := w.heap.size + 1) (by simp) (.int .i64 k) (.int .i64 a) (.int .i64 b) 40).alloc (.cells #[.int .i64 k, .int .i64 a, .int .i64 b] 40)
  have B0 : Below w.heap.size w (((w.alloc (.cells #[.int .i64 k, .int .i64 a, .int .i64 b] 140)).alloc (.cells #[.int .i64 k, .int .i64 a, .int .i64 b] 40)).alloc (.cells #[.int .i64 k, .int .i64 a, .int .i64 b] 40)) := (((Below.refl _ w).alloc (Nat.le_refl _) _).alloc (by simp) _).alloc (by simp; omega) _
  obtain ⟨q0, q1, q2, _⟩ := Q.cells
  go_enter Tryz.func105, Tryz.ntmps105
  go_wp2_with fail
  refine bodyPost_ret (v := .agg #[.int .i64 k, .int .i64 a, .int .i64 b]) ?_ rfl ⟨rfl, B0⟩
  simp [results, Tryz.results105, go_sem, q0, q1, q2]
theorem Blk3.drewO {w : World} {b : Nat} {x y z : Value} {t : TypeId} (h : Blk3 w b x y z t) : Blk3 w.drew b x y z t := h
theorem Blk4.drewO {w : World} {b : Nat} {x y z q : Value} {t : TypeId} (h : Blk4 w b x y z q t) : Blk4 w.drew b x y z q t := h
theorem Blk4.far4O {w : World} {b c : Nat} {x y z u : Value} {t : TypeId} (h : Blk4 w b x y z u t) (hne : c ≠ b) (u0 u1 u2 u3 : Value) : Blk4 ((((w.setCell ⟨c, 0, none⟩ u0).setCell ⟨c, 1, none⟩ u1).setCell ⟨c, 2, none⟩ u2).setCell ⟨c, 3, none⟩ u3) b x y z u t := h.far4 hne.symm u0 u1 u2 u3
theorem Blk3.far4O {w : World} {b c : Nat} {x y z : Value} {t : TypeId} (h : Blk3 w b x y z t) (hne : c ≠ b) (u0 u1 u2 u3 : Value) : Blk3 ((((w.setCell ⟨c, 0, none⟩ u0).setCell ⟨c, 1, none⟩ u1).setCell ⟨c, 2, none⟩ u2).setCell ⟨c, 3, none⟩ u3) b x y z t :=
  (((h.other (p := ⟨c, 0, none⟩) hne.symm u0).other (p := ⟨c, 1, none⟩) hne.symm u1).other (p := ⟨c, 2, none⟩) hne.symm u2).other (p := ⟨c, 3, none⟩) hne.symm u3
/-- A store came back into a variable of its own. -/
def GotS (W0 : World) (D : Cp) (x : Int) (b : Bool) (p e1 e2 : Value) (w' : World) : Prop :=
  ∃ (bk : Nat) (v0 v1 v2 v3 : Value), p = .pointer (some ⟨bk, 0, none⟩) ∧ e1 = .int .i64 x ∧ e2 = .bool b ∧ Blk4 w' bk v0 v1 v2 v3 27 ∧ Cv w' W0.heap.size (.agg #[v0, v1, v2, v3]) D ∧ NotC (.agg #[v0, v1, v2, v3]) bk ∧ W0.heap.size ≤ bk ∧ Below W0.heap.size W0 w'
theorem notC_of {v0 v1 v2 v3 : Value} {b : Nat} (h : v0.ownBlock ≠ some b ∧ v1.ownBlock ≠ some b ∧ v2.ownBlock ≠ some b ∧ v3.ownBlock ≠ some b) : NotC (.agg #[v0, v1, v2, v3]) b := by
  intro u0 u1 u2 u3 e
  cases e
  exact ⟨fun e => h.1 e.symm, fun e => h.2.1 e.symm, fun e => h.2.2.1 e.symm, fun e => h.2.2.2 e.symm⟩
theorem got_new {W0 w' : World} {lo : Nat} {v0 v1 v2 v3 : Value} {D : Cp} {x : Int} {b : Bool} (hN : Cv w' lo (.agg #[v0, v1, v2, v3]) D) (hl : W0.heap.size ≤ lo) (hB : Below W0.heap.size W0 w') :
    GotS W0 D x b (.pointer (some ⟨w'.heap.size, 0, none⟩)) (.int .i64 x) (.bool b) (w'.alloc (.cells #[v0, v1, v2, v3] 27)) :=
  ⟨_, _, _, _, _, rfl, rfl, rfl, Blk4.new _ _ _ _ _ _, (hN.alloc _).mono hl, notC_of (hN.ownLt w'.heap.size (.inr (Nat.le_refl _))), hB.size, hB.alloc hB.size _⟩
theorem got_set {W0 w' : World} {lo zb : Nat} {v0 v1 v2 v3 u0 u1 u2 u3 : Value} {D : Cp} {x : Int} {b : Bool} (hZ : Blk4 w' zb u0 u1 u2 u3 27) (hN : Cv w' lo (.agg #[v0, v1, v2, v3]) D) (hz : W0.heap.size ≤ zb) (hl : zb < lo) (hB : Below W0.heap.size W0 w') :
    GotS W0 D x b (.pointer (some ⟨zb, 0, none⟩)) (.int .i64 x) (.bool b) ((((w'.setCell ⟨zb, 0, none⟩ v0).setCell ⟨zb, 1, none⟩ v1).setCell ⟨zb, 2, none⟩ v2).setCell ⟨zb, 3, none⟩ v3) :=
  ⟨_, _, _, _, _, rfl, rfl, rfl, hZ.set4R _ _ _ _, (hN.set4O (hN.ownLt zb (.inl hl)) _ _ _ _).mono (by omega), notC_of (hN.ownLt zb (.inl hl)), hz, below_set4 hB hz _ _ _ _⟩
end Go.Proofs.YtfoimicbmkiigaaGreat

/- The helpers of the exact laws over programs: szOpS, toOpS, eqOpS, markOpS. -/
namespace Go.Proofs.YtfoimicbmkiigaaGreat
open Go.RowKit

theorem infoOpP : (Tryz.prog.info? 40).map (fun i => (i.zero, i.size, i.bytes)) = some (some (.agg #[.int .i64 0, .int .i64 0, .int .i64 0]), 3, 24) := by kernel_rfl
/-- The operations of an argument: they lie somewhere below B. -/
def OIn (w : World) (B : Nat) (A : Option Addr) (n : Nat) (os : List Opv) : Prop :=
  os.length = n ∧ (n = 0 ∨ ∃ b off, A = some ⟨b, off, none⟩ ∧ b < B ∧ ∀ k, k < n → w.cell? ⟨b, off + k * 3, none⟩ = some (.int .i64 (os.getD k Opv.zero).k) ∧ w.cell? ⟨b, off + k * 3 + 1, none⟩ = some (.int .i64 (os.getD k Opv.zero).a) ∧ w.cell? ⟨b, off + k * 3 + 2, none⟩ = some (.int .i64 (os.getD k Opv.zero).b))
theorem OIn.below {w w' : World} {B : Nat} {A : Option Addr} {n : Nat} {os : List Opv} (h : OIn w B A n os) (hb : Below B w w') : OIn w' B A n os := by
  refine ⟨h.1, ?_⟩
  rcases h.2 with h | ⟨b, off, e, hlt, hc⟩
  · exact .inl h
  · exact .inr ⟨b, off, e, hlt, fun k hk => ⟨(hb.cell (p := ⟨b, off + k * 3, none⟩) hlt).trans (hc k hk).1, (hb.cell (p := ⟨b, off + k * 3 + 1, none⟩) hlt).trans (hc k hk).2.1, (hb.cell (p := ⟨b, off + k * 3 + 2, none⟩) hlt).trans (hc k hk).2.2⟩⟩
theorem OIn.get {w : World} {B : Nat} {A : Option Addr} {n : Nat} {os : List Opv} (h : OIn w B A n os) {k : Nat} (hk : k < n) :
    ∃ b off o, A = some ⟨b, off, none⟩ ∧ b < B ∧ Hid (os[k]? = some o) ∧ w.cell? ⟨b, off + k * 3, none⟩ = some (.int .i64 o.k) ∧ w.cell? ⟨b, off + k * 3 + 1, none⟩ = some (.int .i64 o.a) ∧ w.cell? ⟨b, off + k * 3 + 2, none⟩ = some (.int .i64 o.b) := by
  rcases h.2 with h0 | ⟨b, off, e, hlt, hc⟩
  · omega
  · have hkl : k < os.length := by have := h.1; omega
    exact ⟨b, off, os.getD k Opv.zero, e, hlt, by unfold Hid; simp [List.getD, List.getElem?_eq_getElem hkl], (hc k hk).1, (hc k hk).2.1, (hc k hk).2.2⟩

theorem ovs_rep (n : Nat) : ovs (List.replicate n Opv.zero) = List.replicate (n * 3) (.int .i64 0) := by
  induction n with
  | zero => rfl
  | succ n ih => rw [List.replicate_succ, ovs_cons, ih, Nat.succ_mul, show n * 3 + 3 = (n * 3) + 1 + 1 + 1 from rfl, List.replicate_succ, List.replicate_succ, List.replicate_succ]; rfl
theorem mc_op (n : Nat) : (madeCells #[Value.int .i64 0, .int .i64 0, .int .i64 0] (n * 3)).toList = ovs (List.replicate n Opv.zero) := by
  rw [ovs_rep]
  apply List.ext_getElem?
  intro j
  by_cases hj : j < n * 3
  · have : j % 3 = 0 ∨ j % 3 = 1 ∨ j % 3 = 2 := by omega
    rcases this with e | e | e <;> simp [madeCells, hj, e]
  · simp [madeCells, hj]
theorem ovs_set : ∀ (os : List Opv) (k : Nat) (o : Opv), k < os.length → (((ovs os).set (k * 3) (.int .i64 o.k)).set (k * 3 + 1) (.int .i64 o.a)).set (k * 3 + 2) (.int .i64 o.b) = ovs (os.set k o)
  | [], _, _, h => by simp at h
  | p :: os, 0, o, _ => by simp [ovs_cons]
  | p :: os, k + 1, o, h => by
    have ih := ovs_set os k o (by simp at h; omega)
    rw [List.set_cons_succ, ovs_cons, ovs_cons, ← ih, show (k + 1) * 3 = k * 3 + 1 + 1 + 1 by omega]
    simp only [List.set_cons_succ, show k * 3 + 1 + 1 + 1 + 1 = k * 3 + 1 + 1 + 1 + 1 from rfl, show k * 3 + 1 + 1 + 1 + 2 = k * 3 + 2 + 1 + 1 + 1 by omega]
theorem ORow.set3 {w : World} {lo g n c : Nat} {os : List Opv} (h : ORow w lo (.slice (some ⟨g, 0, none⟩) n c) os) {k : Nat} (hk : k < os.length) (o : Opv) :
    ORow (((w.setCell ⟨g, k * 3, none⟩ (.int .i64 o.k)).setCell ⟨g, k * 3 + 1, none⟩ (.int .i64 o.a)).setCell ⟨g, k * 3 + 2, none⟩ (.int .i64 o.b)) lo (.slice (some ⟨g, 0, none⟩) n c) (os.set k o) ∧ w.grownBy (((w.setCell ⟨g, k * 3, none⟩ (.int .i64 o.k)).setCell ⟨g, k * 3 + 1, none⟩ (.int .i64 o.a)).setCell ⟨g, k * 3 + 2, none⟩ (.int .i64 o.b)) (some g) := by
  obtain ⟨A, c', e, _, _⟩ := h.form
  cases e
  unfold ORow at *
  have h1 := World.ownsRow.stored h (k * 3) (.int .i64 o.k)
  have h2 := World.ownsRow.stored h1.1 (k * 3 + 1) (.int .i64 o.a)
  have h3 := World.ownsRow.stored h2.1 (k * 3 + 2) (.int .i64 o.b)
  rw [ovs_set _ _ _ hk] at h3
  refine ⟨by simpa using h3.1, ?_⟩
  exact ⟨rfl, rfl, rfl, by simp, fun i hi hne => ((h3.2.block i (by simpa using hi) hne).trans (h2.2.block i (by simpa using hi) hne)).trans (h1.2.block i hi hne)⟩
theorem ORow.frozen {w : World} {lo g n c : Nat} {os : List Opv} (h : ORow w lo (.slice (some ⟨g, 0, none⟩) n c) os) (j : Nat) : w.frozen? ⟨g, j, none⟩ = false := by
  obtain ⟨A, c', e, _, _⟩ := h.form
  cases e
  exact World.ownsRow.frozenAt h j
theorem take_snocO {os : List Opv} {k : Nat} {o : Opv} (hx : os[k]? = some o) : os.take (k + 1) = os.take k ++ [o] := by rw [List.take_add_one, hx]; rfl
theorem eq_takeO {xs ys : List Opv} {k : Nat} {x : Opv} (hx : xs[k]? = some x) (hy : ys[k]? = some x) (h : xs.take k = ys.take k) : xs.take (k + 1) = ys.take (k + 1) := by
  rw [take_snocO hx, take_snocO hy, h]
theorem set_rowO {xs : List Opv} {k n : Nat} {x : Opv} (hk : k < n) (hn : xs.length = n) (hx : xs[k]? = some x) :
    (xs.take k ++ List.replicate (n - k) Opv.zero).set k x = xs.take (k + 1) ++ List.replicate (n - (k + 1)) Opv.zero := by
  have hl : (xs.take k).length = k := by simp; omega
  rw [List.set_append, if_neg (by omega), hl, Nat.sub_self, show n - k = (n - (k + 1)) + 1 from by omega, List.replicate_succ, List.set_cons_zero, take_snocO hx]
  simp
instance : DecidableEq Opv := fun a b => if h : a.k = b.k ∧ a.a = b.a ∧ a.b = b.b then isTrue (by cases a; cases b; simp at h; simp [h]) else isFalse (by rintro rfl; simp at h)

set_option maxHeartbeats 400000 in
theorem szOpS_any (w : World) (A : Option Addr) (n c : Nat) (left : Int) (h0 : 0 ≤ left) (h1 : left ≤ 1048576) (hn : n ≤ 9223372036854775807) :
    Calls Tryz.prog 56 #[.slice A n c, .int .i64 left] w fun e w' => e = .returned (.int .i64 (szV n left)) ∧ w = w' := by
  have hw : IntKind.i64.wrap (left - n) = left - n := IntWalk.i64_in _ (by omega)
  by_cases hle : (n : Int) ≤ left
  · have hneg : ¬ (left - n < 0) := by omega
    have hf : Hid (szV n left = left - n) := by unfold Hid szV; rw [if_pos hle]
    go_enter Tryz.func56, Tryz.ntmps56
    go_wp2_with fail
    go_ret
    exact ⟨ret_int hf.out.symm, rfl⟩
  · have hneg : left - n < 0 := by omega
    have hf : Hid (szV n left = -1) := by unfold Hid szV; rw [if_neg hle]
    go_enter Tryz.func56, Tryz.ntmps56
    go_wp2_with fail
    go_ret
    exact ⟨ret_int hf.out.symm, rfl⟩

/-- A new row of operations comes back. -/
def NewORow (w : World) (os : List Opv) (e : Ending) (w' : World) : Prop := ∃ A c, e = .returned (.slice A os.length c) ∧ ORow w' w.heap.size (.slice A os.length c) os ∧ Below w.heap.size w w'

set_option maxRecDepth 100000 in
set_option maxHeartbeats 1000000 in
theorem toOpS_any (w : World) (A : Option Addr) (n c : Nat) (os : List Opv) (h : OIn w w.heap.size A n os) (hm : n ≤ 1048576) :
    Calls Tryz.prog 59 #[.slice A n c] w (NewORow w os) := by
  obtain ⟨i0, hi, hz0, hz1, hz2⟩ := info_parts infoOpP
  have TO := fun W o => toOp_any W o
  go_enter Tryz.func59, Tryz.ntmps59
  go_wp2_with (at_make; refine wpList_make_full _ rfl _ _ 30 rfl w.heap.size 40 i0 (.agg #[.int .i64 0, .int .i64 0, .int .i64 0]) 3 Tryz.underlying30 hi hz0 hz1 _ _ _ _ n rfl rfl rfl rfl ?b2 ?b3 (Nat.le_refl _) ?_)
  case b2 => rw [hz2]; omega
  case b3 => unfold maxLen; omega
  intro w0 hown0 hgrow0
  rw [mc_op] at hown0
  have hrow0 : ORow w0 w.heap.size (.slice (some ⟨w.heap.size, 0, none⟩) n n) (List.replicate n Opv.zero) := by unfold ORow; simpa using hown0
  have hb0 : Below w.heap.size w w0 := (Below.refl _ _).grown hgrow0 (Nat.le_refl _) (fun k h => by cases h)
  have hn := h.1
  clear hown0 hgrow0 hz0 hz1 hz2
  go_wp2_with fail
  go_loopw [4] (fun i wr => ∃ k : Nat, k ≤ n ∧ i = .int .i64 k ∧ ORow wr w.heap.size (.slice (some ⟨w.heap.size, 0, none⟩) n n) (os.take k ++ List.replicate (n - k) Opv.zero) ∧ Below w.heap.size w wr) (fun i _ => n - (intOf i).toNat)
  case atStart => exact ⟨0, Nat.zero_le _, rfl, by simpa using hrow0, hb0⟩
  case round =>
    obtain ⟨k, hk, rfl, hrow, hb⟩ := hrel
    by_cases hlt : k < n
    · have hrl : (os.take k ++ List.replicate (n - k) Opv.zero).length = n := by simp; omega
      obtain ⟨b, off, ⟨ok, oa, oq⟩, rfl, hbB, hy, o0, o1, o2⟩ := (h.below hb).get hlt
      simp only at o0 o1 o2
      have hlti : (k : Int) < (n : Int) := by omega
      have hset := Lib.hid (set_rowO hlt hn hy.out)
      have T := fun W => TO W ⟨ok, oa, oq⟩
      clear hrow0 hy TO hb0
      go_wp2_with fail
      refine (T _).mono ?_; rintro e w4 ⟨rfl, hb4⟩
      have R4 := hrow.below hb4
      have B4 := hb.trans (hb4.mono hb.size)
      clear hrow
      obtain ⟨g, ⟨zk, za, zq⟩, e, _, _, _, z0, z1, z2⟩ := R4.get (k := k) (by rw [hrl]; exact hlt)
      cases e
      simp only at z0 z1 z2
      have f0 := R4.frozen (k * 3)
      have f1 := R4.frozen (k * 3 + 1)
      have f2 := R4.frozen (k * 3 + 2)
      have R5 := (R4.set3 (k := k) (by rw [hrl]; exact hlt) ⟨ok, oa, oq⟩).1
      have B5 : Below w.heap.size w (((w4.setCell ⟨w.heap.size, k * 3, none⟩ (.int .i64 ok)).setCell ⟨w.heap.size, k * 3 + 1, none⟩ (.int .i64 oa)).setCell ⟨w.heap.size, k * 3 + 2, none⟩ (.int .i64 oq)) := ((B4.setCell (Nat.le_refl _) _).setCell (Nat.le_refl _) _).setCell (Nat.le_refl _) _
      rw [hset.out] at R5
      clear R4 h
      go_wp2_with fail
      go_roundw
      case rel => exact ⟨k + 1, by omega, by go_num, R5, B5⟩
      case measure => simp [intOf]; omega
    · obtain rfl : k = n := by omega
      have hrow' : ORow wr w.heap.size (.slice (some ⟨w.heap.size, 0, none⟩) os.length k) os := by
        have := hrow; rw [List.take_of_length_le (by omega)] at this; simpa [hn] using this
      clear hrow hrow0
      go_wp2_with fail
      go_ret
      exact ⟨some ⟨w.heap.size, 0, none⟩, k, by simp [hn], hrow', hb⟩
set_option maxRecDepth 100000 in
set_option maxHeartbeats 1000000 in
theorem eqOp_any (w : World) (a b : Opv) : Calls Tryz.prog 108 #[opV a, opV b] w (RetB w (decide (a = b))) := by
  obtain ⟨k, a, q⟩ := a
  obtain ⟨k2, a2, q2⟩ := b
  show Calls Tryz.prog 108 #[.agg #[.int .i64 k, .int .i64 a, .int .i64 q], .agg #[.int .i64 k2, .int .i64 a2, .int .i64 q2]] w _
  have B0 : Below w.heap.size w ((w.alloc (.cells #[.int .i64 k, .int .i64 a, .int .i64 q] 40)).alloc (.cells #[.int .i64 k2, .int .i64 a2, .int .i64 q2] 40)) := ((Below.refl _ w).alloc (Nat.le_refl _) _).alloc (by simp) _
  obtain ⟨p0, p1, p2, _⟩ := ((Blk3.new w (.int .i64 k) (.int .i64 a) (.int .i64 q) 40).alloc (.cells #[.int .i64 k2, .int .i64 a2, .int .i64 q2] 40)).cells
  obtain ⟨q0, q1, q2', _⟩ := (Blk3.new_at (w := w.alloc (.cells #[.int .i64 k, .int .i64 a, .int .i64 q] 40)) (b := w.heap.size + 1) (by simp) (.int .i64 k2) (.int .i64 a2) (.int .i64 q2) 40).cells
  by_cases e0 : k = k2
  · have x0 : (k != k2) = false := by simpa using e0
    by_cases e1 : a = a2
    · have x1 : (a != a2) = false := by simpa using e1
      by_cases e2 : q = q2
      · have x2 : (q != q2) = false := by simpa using e2
        have Hf : Hid (decide ((⟨k, a, q⟩ : Opv) = ⟨k2, a2, q2⟩) = true) := by unfold Hid; simp [e0, e1, e2]
        clear e0 e1 e2
        go_enter Tryz.func108, Tryz.ntmps108
        go_wp2_with fail
        go_ret
        exact ⟨ret_bool Hf.out.symm, B0⟩
      · have x2 : (q != q2) = true := by simpa using e2
        have Hf : Hid (decide ((⟨k, a, q⟩ : Opv) = ⟨k2, a2, q2⟩) = false) := by unfold Hid; simp [e2]
        clear e0 e1 e2
        go_enter Tryz.func108, Tryz.ntmps108
        go_wp2_with fail
        go_ret
        exact ⟨ret_bool Hf.out.symm, B0⟩
    · have x1 : (a != a2) = true := by simpa using e1
      have Hf : Hid (decide ((⟨k, a, q⟩ : Opv) = ⟨k2, a2, q2⟩) = false) := by unfold Hid; simp [e1]
      clear e0 e1
      go_enter Tryz.func108, Tryz.ntmps108
      go_wp2_with fail
      go_ret
      exact ⟨ret_bool Hf.out.symm, B0⟩
  · have x0 : (k != k2) = true := by simpa using e0
    have Hf : Hid (decide ((⟨k, a, q⟩ : Opv) = ⟨k2, a2, q2⟩) = false) := by unfold Hid; simp [e0]
    clear e0
    go_enter Tryz.func108, Tryz.ntmps108
    go_wp2_with fail
    go_ret
    exact ⟨ret_bool Hf.out.symm, B0⟩

set_option maxRecDepth 100000 in
set_option maxHeartbeats 1000000 in
theorem eqOpS_any (w : World) (lo lo' : Nat) (A A' : Option Addr) (n c n' c' : Nat) (xs ys : List Opv) (h : ORow w lo (.slice A n c) xs) (hn : xs.length = n) (hm : n ≤ 9223372036854775807)
    (h' : ORow w lo' (.slice A' n' c') ys) (hn' : ys.length = n') (hm' : n' ≤ 9223372036854775807) :
    Calls Tryz.prog 62 #[.slice A n c, .slice A' n' c'] w (RetB w (decide (xs = ys))) := by
  have EO := fun W a b => eqOp_any W a b
  by_cases hne : n = n'
  · subst hne
    go_enter Tryz.func62, Tryz.ntmps62
    go_wp2_with fail
    go_loopw [5] (fun i wr => ∃ k : Nat, k ≤ n ∧ i = .int .i64 k ∧ Hid (xs.take k = ys.take k) ∧ ORow wr lo (.slice A n c) xs ∧ ORow wr lo' (.slice A' n c') ys ∧ Below w.heap.size w wr) (fun i _ => n - (intOf i).toNat)
    case atStart => exact ⟨0, Nat.zero_le _, rfl, rfl, h, h', Below.refl _ _⟩
    case round =>
      obtain ⟨k, hk, rfl, ht, U3, V3, B3⟩ := hrel
      clear h h'
      by_cases hlt : k < n
      · obtain ⟨g, ⟨ok, oa, oq⟩, rfl, _, hg, hx, o0, o1, o2⟩ := U3.get (k := k) (by omega)
        obtain ⟨g', ⟨zk, za, zq⟩, rfl, _, hg', hy, z0, z1, z2⟩ := V3.get (k := k) (by omega)
        simp only at o0 o1 o2 z0 z1 z2
        have hb1 : (k : Int) < (n : Int) := by omega
        have E := fun W => EO W ⟨ok, oa, oq⟩ ⟨zk, za, zq⟩
        by_cases hxy : (⟨ok, oa, oq⟩ : Opv) = ⟨zk, za, zq⟩
        · have Ht : Hid (xs.take (k + 1) = ys.take (k + 1)) := eq_takeO hx.out (hxy ▸ hy.out) ht.out
          rw [decide_eq_true hxy] at E
          clear ht hx hy EO hxy
          go_wp2_with fail
          go_region_held3 (fun w' => w'.cell? ⟨g, k * 3, none⟩ = some (.int .i64 ok) ∧ w'.cell? ⟨g, k * 3 + 1, none⟩ = some (.int .i64 oa) ∧ w'.cell? ⟨g, k * 3 + 2, none⟩ = some (.int .i64 oq) ∧ w'.cell? ⟨g', k * 3, none⟩ = some (.int .i64 zk) ∧ w'.cell? ⟨g', k * 3 + 1, none⟩ = some (.int .i64 za) ∧ w'.cell? ⟨g', k * 3 + 2, none⟩ = some (.int .i64 zq))
            (((try dsimp only); (repeat' apply And.intro) <;> (with_reducible (first | exact p0 | exact p1 | exact p2 | exact p3 | exact p4 | exact p5 | exact cellD o0 | exact cellD o1 | exact cellD o2 | exact cellD z0 | exact cellD z1 | exact cellD z2 | exact o0 | exact o1 | exact o2 | exact z0 | exact z1 | exact z2))))
            ((go_at_call 108; (with_reducible refine (E _).mono ?_); rintro e w4 ⟨rfl, hb40⟩; (have hb4 : Below wr.heap.size wr w4 := (Below.refl wr.heap.size wr).drew.trans hb40); (have p0 := (hb4.cell (p := ⟨g, k * 3, none⟩) hg).trans o0); (have p1 := (hb4.cell (p := ⟨g, k * 3 + 1, none⟩) hg).trans o1); (have p2 := (hb4.cell (p := ⟨g, k * 3 + 2, none⟩) hg).trans o2); (have p3 := (hb4.cell (p := ⟨g', k * 3, none⟩) hg').trans z0); (have p4 := (hb4.cell (p := ⟨g', k * 3 + 1, none⟩) hg').trans z1); (have p5 := (hb4.cell (p := ⟨g', k * 3 + 2, none⟩) hg').trans z2)))
          rename_i hHeld
          clear hHeld
          have U4 := U3.below hb4
          have V4 := V3.below hb4
          have B4 := B3.trans (hb4.mono B3.size)
          clear U3 V3
          go_wp2_with fail
          go_roundw
          case rel => exact ⟨k + 1, by omega, by go_num, Ht, U4, V4, B4⟩
          case measure => simp [intOf]; omega
        · have Hf : Hid (decide (xs = ys) = false) := by
            unfold Hid; simp only [decide_eq_false_iff_not]; rintro rfl
            have e := hx.out.symm.trans hy.out
            exact hxy (by simpa using e)
          rw [decide_eq_false hxy] at E
          clear ht hx hy EO hxy
          go_wp2_with fail
          go_region_held3 (fun w' => w'.cell? ⟨g, k * 3, none⟩ = some (.int .i64 ok) ∧ w'.cell? ⟨g, k * 3 + 1, none⟩ = some (.int .i64 oa) ∧ w'.cell? ⟨g, k * 3 + 2, none⟩ = some (.int .i64 oq) ∧ w'.cell? ⟨g', k * 3, none⟩ = some (.int .i64 zk) ∧ w'.cell? ⟨g', k * 3 + 1, none⟩ = some (.int .i64 za) ∧ w'.cell? ⟨g', k * 3 + 2, none⟩ = some (.int .i64 zq))
            (((try dsimp only); (repeat' apply And.intro) <;> (with_reducible (first | exact p0 | exact p1 | exact p2 | exact p3 | exact p4 | exact p5 | exact cellD o0 | exact cellD o1 | exact cellD o2 | exact cellD z0 | exact cellD z1 | exact cellD z2 | exact o0 | exact o1 | exact o2 | exact z0 | exact z1 | exact z2))))
            ((go_at_call 108; (with_reducible refine (E _).mono ?_); rintro e w4 ⟨rfl, hb40⟩; (have hb4 : Below wr.heap.size wr w4 := (Below.refl wr.heap.size wr).drew.trans hb40); (have p0 := (hb4.cell (p := ⟨g, k * 3, none⟩) hg).trans o0); (have p1 := (hb4.cell (p := ⟨g, k * 3 + 1, none⟩) hg).trans o1); (have p2 := (hb4.cell (p := ⟨g, k * 3 + 2, none⟩) hg).trans o2); (have p3 := (hb4.cell (p := ⟨g', k * 3, none⟩) hg').trans z0); (have p4 := (hb4.cell (p := ⟨g', k * 3 + 1, none⟩) hg').trans z1); (have p5 := (hb4.cell (p := ⟨g', k * 3 + 2, none⟩) hg').trans z2)))
          rename_i hHeld
          clear hHeld
          have B4 := B3.trans (hb4.mono B3.size)
          go_wp2_with fail
          go_ret
          exact ⟨ret_bool Hf.out.symm, B4⟩
      · obtain rfl : k = n := by omega
        have Hf : Hid (decide (xs = ys) = true) := by
          have := ht.out; rw [List.take_of_length_le (by omega), List.take_of_length_le (by omega)] at this; unfold Hid; simpa using this
        go_wp2_with fail
        go_ret
        exact ⟨ret_bool Hf.out.symm, B3⟩
  · have hne2 : ((n : Int) != (n' : Int)) = true := by simp; omega
    have Hf : Hid (decide (xs = ys) = false) := by
      unfold Hid; simp only [decide_eq_false_iff_not]; rintro rfl; omega
    go_enter Tryz.func62, Tryz.ntmps62
    go_wp2_with fail
    go_ret
    exact ⟨ret_bool Hf.out.symm, Below.refl _ _⟩

/-- k, k+1, .. as operations: three numbers each. -/
def seqO (k n : Nat) : List Opv := (List.range n).map fun i => ⟨((k + i * 3 : Nat) : Int), ((k + i * 3 + 1 : Nat) : Int), ((k + i * 3 + 2 : Nat) : Int)⟩
theorem seqO_len (k n : Nat) : (seqO k n).length = n := by simp [seqO]
theorem seqO_succ (k n : Nat) : seqO k (n + 1) = seqO k n ++ [⟨((k + n * 3 : Nat) : Int), ((k + n * 3 + 1 : Nat) : Int), ((k + n * 3 + 2 : Nat) : Int)⟩] := by simp [seqO, List.range_succ]
theorem seqO_set {xs : List Opv} {k j : Nat} (h : j < xs.length) : (seqO k j ++ xs.drop j).set j ⟨((k + j * 3 : Nat) : Int), ((k + j * 3 + 1 : Nat) : Int), ((k + j * 3 + 2 : Nat) : Int)⟩ = seqO k (j + 1) ++ xs.drop (j + 1) := by
  rw [List.set_append, if_neg (by rw [seqO_len]; omega), seqO_len, Nat.sub_self, List.drop_eq_getElem_cons h, List.set_cons_zero, seqO_succ]
  simp

set_option maxRecDepth 100000 in
set_option maxHeartbeats 1000000 in
theorem markOpS_any (w : World) (lo : Nat) (A : Option Addr) (n c : Nat) (os : List Opv) (h : ORow w lo (.slice A n c) os) (hn : os.length = n) (hm : n ≤ 1048576) (k : Nat) (hk : k ≤ 1073741824) :
    Calls Tryz.prog 65 #[.slice A n c, .int .i64 k] w fun e w' => e = .returned (.int .i64 ((k + n * 3 : Nat) : Int)) ∧ w.grownBy w' (Value.slice A n c).ownBlock ∧ w'.heap.size = w.heap.size := by
  go_enter Tryz.func65, Tryz.ntmps65
  go_wp2_with fail
  go_loopw [1, 5] (fun q i wr => ∃ j : Nat, j ≤ n ∧ i = .int .i64 j ∧ q = .int .i64 ((k + j * 3 : Nat) : Int) ∧ ORow wr lo (.slice A n c) (seqO k j ++ os.drop j) ∧ Hid (w.grownBy wr (Value.slice A n c).ownBlock ∧ wr.heap.size = w.heap.size)) (fun _ i _ => n - (intOf i).toNat)
  case atStart => exact ⟨0, Nat.zero_le _, rfl, rfl, h, World.grownBy.refl _ _, rfl⟩
  case round =>
    obtain ⟨j, hj, rfl, rfl, hr, hg⟩ := hrel
    by_cases hlt : j < n
    · have hrl : (seqO k j ++ os.drop j).length = n := by simp [seqO_len]; omega
      obtain ⟨g, ⟨zk, za, zq⟩, rfl, _, _, _, z0, z1, z2⟩ := hr.get (k := j) (by rw [hrl]; exact hlt)
      simp only at z0 z1 z2
      have f0 := hr.frozen (j * 3)
      have f1 := hr.frozen (j * 3 + 1)
      have f2 := hr.frozen (j * 3 + 2)
      obtain ⟨hr', hgr⟩ := hr.set3 (k := j) (by rw [hrl]; exact hlt) ⟨((k + j * 3 : Nat) : Int), ((k + j * 3 + 1 : Nat) : Int), ((k + j * 3 + 2 : Nat) : Int)⟩
      rw [seqO_set (by omega)] at hr'
      have e1 : ((k + j * 3 + 1 : Nat) : Int) = ((k + j * 3 : Nat) : Int) + 1 := by omega
      have e2 : ((k + j * 3 + 2 : Nat) : Int) = ((k + j * 3 : Nat) : Int) + 1 + 1 := by omega
      simp only [e1, e2] at hr' hgr
      have hg' : Hid (w.grownBy ((((wr.setCell ⟨g, j * 3, none⟩ (.int .i64 ((k + j * 3 : Nat) : Int))).setCell ⟨g, j * 3 + 1, none⟩ (.int .i64 (((k + j * 3 : Nat) : Int) + 1))).setCell ⟨g, j * 3 + 2, none⟩ (.int .i64 (((k + j * 3 : Nat) : Int) + 1 + 1)))) (Value.slice (some ⟨g, 0, none⟩) n c).ownBlock ∧ ((((wr.setCell ⟨g, j * 3, none⟩ (.int .i64 ((k + j * 3 : Nat) : Int))).setCell ⟨g, j * 3 + 1, none⟩ (.int .i64 (((k + j * 3 : Nat) : Int) + 1))).setCell ⟨g, j * 3 + 2, none⟩ (.int .i64 (((k + j * 3 : Nat) : Int) + 1 + 1)))).heap.size = w.heap.size) :=
        ⟨⟨hgr.os.trans hg.out.1.os, hgr.tape.trans hg.out.1.tape, hgr.output.trans hg.out.1.output, Nat.le_trans hg.out.1.size hgr.size, fun i hi hne => (hgr.block i (Nat.lt_of_lt_of_le hi hg.out.1.size) hne).trans (hg.out.1.block i hi hne)⟩, by simpa [World.setCell] using hg.out.2⟩
      have eS : (((k + j * 3 : Nat) : Int) + 1 + 1 + 1) = ((k + (j + 1) * 3 : Nat) : Int) := by omega
      have HS := Lib.hid eS
      clear hr hg h eS hgr e1 e2
      generalize hkj : ((k + j * 3 : Nat) : Int) = kj at *
      have hb : 0 ≤ kj ∧ kj ≤ 1077936128 := by omega
      obtain ⟨hb1, hb2⟩ := hb
      have HK := Lib.hid hkj
      clear hkj
      go_wp2_with fail
      go_roundw
      case rel => exact ⟨j + 1, by omega, by go_num, by rw [HS.out], hr', hg'⟩
      case measure => simp [intOf]; omega
    · obtain rfl : j = n := by omega
      clear hr
      go_wp2_with fail
      go_ret
      exact ⟨rfl, hg.out.1, hg.out.2⟩

theorem OIn.alloc {w : World} {B : Nat} {A : Option Addr} {n : Nat} {os : List Opv} (h : OIn w B A n os) (hB : B ≤ w.heap.size) (o : Obj) : OIn (w.alloc o) B A n os := h.below ((Below.refl _ _).alloc hB _)
theorem OIn.drew {w : World} {B : Nat} {A : Option Addr} {n : Nat} {os : List Opv} (h : OIn w B A n os) : OIn w.drew B A n os := h
theorem OIn.up {w : World} {B B' : Nat} {A : Option Addr} {n : Nat} {os : List Opv} (h : OIn w B A n os) (hB : B ≤ B') : OIn w B' A n os := by
  refine ⟨h.1, ?_⟩
  rcases h.2 with h | ⟨b, off, e, hlt, hc⟩
  · exact .inl h
  · exact .inr ⟨b, off, e, by omega, hc⟩
/-- The argument: a slice of operations. -/
def OsIn (w : World) (v : Value) (os : List Opv) : Prop := ∃ A c, v = .slice A os.length c ∧ OIn w w.heap.size A os.length os ∧ os.length ≤ 9223372036854775807
theorem ORow.keptC {w w' : World} {lo : Nat} {v u : Value} {os : List Opv} (hv : ORow w lo v os) (fr : ∀ b, b < w.heap.size → NotC u b → w'.heap[b]? = w.heap[b]?) (hn : ∀ b, v.ownBlock = some b → NotC u b) : ORow w' lo v os := by
  refine ⟨hv.1, ?_⟩
  rcases hv.2 with h2 | ⟨g, cap, cur, rfl, hg, hh, r⟩
  · exact .inl h2
  · exact .inr ⟨g, cap, cur, rfl, hg, by rw [fr g (hv.lt g rfl).2 (hn g rfl)]; exact hh, r⟩
theorem Cv.keptO {w w' W : World} {lo lo2 : Nat} {v u : Value} {C : Cp} {os : List Opv} (hv : Cv w lo v C) (hg : w.grownBy w' u.ownBlock) (hU : ORow W lo2 u os) (hs : W.heap.size ≤ lo) : Cv w' lo v C :=
  Cv.keptC (u := .agg #[u, u, u, u]) hv (fun b hb hn => hg.block b hb (hn u u u u rfl).1) (fun b h1 _ v0 v1 v2 v3 e => by
    cases e
    have : some b ≠ u.ownBlock := fun e => by have := (hU.lt b e.symm).2; omega
    exact ⟨this, this, this, this⟩)
theorem belowRowP {w w' : World} {lo : Nat} {row : Option Nat} (hg : w.grownBy w' row) (hl : lo ≤ w.heap.size) (h : ∀ k, row = some k → lo ≤ k) : Below lo w w' :=
  ⟨hg.os, hg.tape, hg.output, hg.size, fun k hk => hg.block k (by omega) (fun e => by have := h k e.symm; omega)⟩
theorem eqOpS_same (w : World) (lo lo' : Nat) (A A' : Option Addr) (c c' : Nat) (os : List Opv) (hm : os.length ≤ 9223372036854775807) (h : ORow w lo (.slice A os.length c) os) (h' : ORow w lo' (.slice A' os.length c') os) :
    Calls Tryz.prog 62 #[.slice A os.length c, .slice A' os.length c'] w (RetB w true) := by
  have E := eqOpS_any w lo lo' A A' _ c _ c' os os h rfl hm h' rfl hm
  rwa [decide_eq_true rfl] at E
theorem markOC (C : Cp) (os : List Opv) (b0 : C.h.l.length ≤ 1048576) (b1 : C.h.r.length ≤ 1048576) (b2 : C.h.t.length ≤ 1048576) (b3 : C.c.length ≤ 1048576) (b4 : os.length ≤ 1048576) :
    ∃ N M : Int, ¬ (M < 0) ∧
      (∀ (w : World) (lo : Nat) (v : Value), Cv w lo v C → lo ≤ w.heap.size → Calls Tryz.prog 63 #[v, .int .i64 1] w (MarkedC w lo 1 N v C)) ∧
      (∀ (w : World) (lo : Nat) (A : Option Addr) (c : Nat), ORow w lo (.slice A os.length c) os → Calls Tryz.prog 65 #[.slice A os.length c, .int .i64 N] w fun e w' => e = .returned (.int .i64 M) ∧ w.grownBy w' (Value.slice A os.length c).ownBlock ∧ w'.heap.size = w.heap.size) :=
  ⟨((1 + sizeC C : Nat) : Int), ((1 + sizeC C + os.length * 3 : Nat) : Int), by omega, fun w lo v hv hlo => markColored_any w lo v C hv hlo b0 b1 b2 b3, fun w lo A c h => markOpS_any w lo A _ c os h rfl b4 _ (by unfold sizeC sizeH; omega)⟩
theorem op_rootsP {C : Cp} {o : Opv} (h : runB C o = true) : (runC C o).h.t.length = C.h.t.length := by
  unfold runC
  rw [if_pos h]
  split
  · split
    · rename_i ha
      unfold allocC
      rw [if_pos ha]
      simp
    · rfl
  · unfold doC
    repeat' split
    all_goals simp
theorem runs_validP : ∀ (os : List Opv) (C : Cp), stoB C = true → opsB C.h.t.length os = true → stoB (runsC C os).1 = true
  | [], _, h, _ => h
  | o :: os, C, h, ho => by
    have h0 : opB o C.h.t.length = true := opsB_iff.1 ho o (by simp)
    have hrb : runB C o = true := runB_iff.2 ⟨h, h0⟩
    simp only [runsC]
    split
    · exact runs_validP os _ (run_valid hrb) (by rw [op_rootsP hrb]; exact opsB_iff.2 fun p hp => opsB_iff.1 ho p (by simp [hp]))
    · exact h
theorem prog_short (C : Cp) (os : List Opv) : ShortC (progC C os) := by
  unfold progC
  split
  · rename_i h
    obtain ⟨h1, _, h3⟩ := progB_iff.1 h
    exact stoB_short (runs_validP os C h1 h3)
  · exact zeroC_short
end Go.Proofs.YtfoimicbmkiigaaGreat

