import Derived.Test.YtgooohapdjgmpaaHpB
import Derived.Test.YtgooohapdjgmpaaHpA
/- impl.CountPointers. -/
namespace Go.Proofs.Ytgooohapdjgmpaa
open Go.RowKit

theorem quiet_left {P : Program} {f : FuncId} {args : Array Value} {w : World} {n : Nat} {v : Value}
    (h : Calls P f args (w.drewN n) fun e w' => e = .returned v ∧ w.drewN n = w') : Calls P f args (w.drewN n) fun e w'' => e = .returned v ∧ ∃ m, w'' = w.drewN m :=
  h.mono fun _ _ ⟨he, hm⟩ => ⟨he, n, hm.symm⟩

def cntH (h : Hp) : Int := if hvB h = true then cntN h.l + cntN h.r + cntN h.t else 0
/-- A number comes back, and nothing that was there has turned. -/
def RetI (w : World) (x : Int) (e : Ending) (w' : World) : Prop := e = .returned (.int .i64 x) ∧ Below w.heap.size w w'

set_option maxHeartbeats 1000000 in
theorem implCount_any (w : World) (lo : Nat) (v : Value) (h : Hp) (hv : Hv w lo v h) :
    Calls Try.prog 24 #[v] w (RetI w (cntH h)) := by
  obtain ⟨A0, n0, c0, A1, n1, c1, A2, n2, c2, rfl, ⟨h0, h1, h2⟩, ⟨l0, l1, l2⟩, ⟨m0, m1, m2⟩, _⟩ := hv.open_
  have X0 := Blk3.new w (.slice A0 n0 c0) (.slice A1 n1 c1) (.slice A2 n2 c2) 25
  have V := implHeapValid_any _ _ _ _ (hv.alloc (.cells #[.slice A0 n0 c0, .slice A1 n1 c1, .slice A2 n2 c2] 25))
  have fin : Below w.heap.size w (w.alloc (.cells #[.slice A0 n0 c0, .slice A1 n1 c1, .slice A2 n2 c2] 25)) := (Below.refl _ _).alloc (Nat.le_refl _) _
  have k0 := h0.alloc (.cells #[.slice A0 n0 c0, .slice A1 n1 c1, .slice A2 n2 c2] 25)
  have k1 := h1.alloc (.cells #[.slice A0 n0 c0, .slice A1 n1 c1, .slice A2 n2 c2] 25)
  have k2 := h2.alloc (.cells #[.slice A0 n0 c0, .slice A1 n1 c1, .slice A2 n2 c2] 25)
  rcases ev : hvB h
  · rw [ev] at V
    have hf : Hid (cntH h = 0) := by unfold Hid cntH; rw [ev]; simp
    clear ev
    go_enter Try.func24, Try.ntmps24
    go_wp2_with fail
    refine V.mono ?_; rintro e w1 ⟨rfl, hb1⟩
    go_wp2_with fail
    go_ret
    exact ⟨ret_int hf.out.symm, fin.trans (hb1.mono (by simp))⟩
  · rw [ev] at V
    have hl := hvB_len ev
    have u0 : n0 ≤ 8 := by have := l0.out; omega
    have u1 : n1 ≤ 8 := by have := l1.out; omega
    have u2 : n2 ≤ 3 := by have := l2.out; omega
    have d0 := cntN_bd h.l
    have d1 := cntN_bd h.r
    have d2 := cntN_bd h.t
    have hf : Hid (cntH h = cntN h.l + cntN h.r + cntN h.t) := by unfold Hid cntH; rw [ev]; simp
    have e0 : 0 ≤ cntN h.l ∧ cntN h.l ≤ 8 := by omega
    have e1 : 0 ≤ cntN h.r ∧ cntN h.r ≤ 8 := by omega
    have e2 : 0 ≤ cntN h.t ∧ cntN h.t ≤ 8 := by omega
    generalize ha : cntN h.l = a at *
    generalize hb : cntN h.r = b at *
    generalize hc : cntN h.t = c at *
    have w1_ : IntKind.i64.wrap (a + b) = a + b := IntWalk.i64_in _ (by omega)
    have w2_ : IntKind.i64.wrap (a + b + c) = a + b + c := IntWalk.i64_in _ (by omega)
    clear ev hl d0 d1 d2
    go_enter Try.func24, Try.ntmps24
    go_wp2_with fail
    refine V.mono ?_; rintro e w1 ⟨rfl, hb1⟩
    obtain ⟨p0, p1, p2, _⟩ := (Blk3.below (by exact X0) hb1).cells
    have C0 := fun k => countNotNone_any (w1.drewN k) _ _ _ _ _ ((k0.below hb1).drewN k) l0.out (by omega)
    have C1 := fun k => countNotNone_any (w1.drewN k) _ _ _ _ _ ((k1.below hb1).drewN k) l1.out (by omega)
    have C2 := fun k => countNotNone_any (w1.drewN k) _ _ _ _ _ ((k2.below hb1).drewN k) l2.out (by omega)
    rw [ha] at C0
    rw [hb] at C1
    rw [hc] at C2
    have D0 := Lib.hid C0
    have D1 := Lib.hid C1
    have D2 := Lib.hid C2
    clear C0 C1 C2 ha hb hc
    go_wp2_with fail
    go_quiet ((first | (go_at_call_of 52 (Value.slice A0 n0 c0); exact quiet_left (D0.out _)) | (go_at_call_of 52 (Value.slice A1 n1 c1); exact quiet_left (D1.out _)) | (go_at_call_of 52 (Value.slice A2 n2 c2); exact quiet_left (D2.out _))))
    go_wp2_with fail
    go_ret
    exact ⟨ret_int hf.out.symm, below_drewN (fin.trans (hb1.mono (by simp))) _⟩
end Go.Proofs.Ytgooohapdjgmpaa

/- The helpers of the exact laws over rows: eqIntS, markIntS, heldIntS. -/
namespace Go.Proofs.Ytgooohapdjgmpaa
open Go.RowKit

/-- k, k+1, .. : n numbers. -/
def seqI (k n : Nat) : List Int := (List.range n).map fun i => ((k + i : Nat) : Int)
theorem seqI_len (k n : Nat) : (seqI k n).length = n := by simp [seqI]
theorem seqI_succ (k n : Nat) : seqI k (n + 1) = seqI k n ++ [((k + n : Nat) : Int)] := by simp [seqI, List.range_succ]
theorem seqI_set {xs : List Int} {k j : Nat} (h : j < xs.length) : (seqI k j ++ xs.drop j).set j ((k + j : Nat) : Int) = seqI k (j + 1) ++ xs.drop (j + 1) := by
  rw [List.set_append, if_neg (by rw [seqI_len]; omega), seqI_len, Nat.sub_self, List.drop_eq_getElem_cons h, List.set_cons_zero, seqI_succ]
  simp

/-- The row holds k, k+1, ..; its own block alone has turned. -/
def Marked (w : World) (lo k n : Nat) (v : Value) (e : Ending) (w' : World) : Prop :=
  e = .returned (.int .i64 ((k + n : Nat) : Int)) ∧ Row w' lo v (seqI k n) ∧ w.grownBy w' v.ownBlock ∧ w'.heap.size = w.heap.size

def heldR (k : Nat) (xs : List Int) : Int := if xs = seqI k xs.length then ((k + xs.length : Nat) : Int) else -1

end Go.Proofs.Ytgooohapdjgmpaa

/- The helpers of the exact laws over heaps: eqHeap, markHeap, heldHeap. -/
namespace Go.Proofs.Ytgooohapdjgmpaa
open Go.RowKit

theorem apart_row {u v : Value} (h : Apart u v) : v.ownBlock = none ∨ v.ownBlock ≠ u.ownBlock := by
  cases hv : v.ownBlock with
  | none => exact .inl rfl
  | some b => exact .inr fun e => h b e.symm hv
theorem Blk3.keptR {w w' : World} {row : Option Nat} {b : Nat} {x y z : Value} {t : TypeId} (h : Blk3 w b x y z t) (hg : w.grownBy w' row) (hb : some b ≠ row) : Blk3 w' b x y z t := (hg.block b h.lt hb).trans h
theorem Row.notown {w : World} {lo b : Nat} {v : Value} {xs : List Int} (h : Row w lo v xs) (hb : w.heap.size ≤ b) : some b ≠ v.ownBlock := fun e => by have := (h.lt b e.symm).2; omega
theorem Row.belowLo {w w' : World} {lo : Nat} {v : Value} {xs : List Int} (h : Row w lo v xs) (hl : lo ≤ w.heap.size) (hg : w.grownBy w' v.ownBlock) : Below lo w w' :=
  ⟨hg.os, hg.tape, hg.output, hg.size, fun k hk => hg.block k (by omega) (fun e => by have := (h.lt k e.symm).1; omega)⟩

def markH (k : Nat) (h : Hp) : Hp := ⟨seqI k h.l.length, seqI (k + h.l.length) h.r.length, seqI (k + h.l.length + h.r.length) h.t.length⟩
def sizeH (h : Hp) : Nat := h.l.length + h.r.length + h.t.length
/-- Block b is none of the heap's own. -/
def NotIn (v : Value) (b : Nat) : Prop := ∀ v0 v1 v2, v = .agg #[v0, v1, v2] → some b ≠ v0.ownBlock ∧ some b ≠ v1.ownBlock ∧ some b ≠ v2.ownBlock
/-- The heap holds k, k+1, ..; below lo nothing has turned. -/
def MarkedH (w : World) (lo k : Nat) (v : Value) (h : Hp) (e : Ending) (w' : World) : Prop :=
  e = .returned (.int .i64 ((k + sizeH h : Nat) : Int)) ∧ Hv w' lo v (markH k h) ∧ Below lo w w' ∧ ∀ b, b < w.heap.size → NotIn v b → w'.heap[b]? = w.heap[b]?

end Go.Proofs.Ytgooohapdjgmpaa

