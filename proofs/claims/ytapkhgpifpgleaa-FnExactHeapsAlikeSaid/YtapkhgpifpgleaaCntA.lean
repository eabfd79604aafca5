import Derived.Test.YtapkhgpifpgleaaHpB
import Derived.Test.YtapkhgpifpgleaaHpA
/- impl.CountPointers. -/
namespace Go.Proofs.Ytapkhgpifpgleaa
open Go.RowKit

theorem quiet_left {P : Program} {f : FuncId} {args : Array Value} {w : World} {n : Nat} {v : Value}
    (h : Calls P f args (w.drewN n) fun e w' => e = .returned v ∧ w.drewN n = w') : Calls P f args (w.drewN n) fun e w'' => e = .returned v ∧ ∃ m, w'' = w.drewN m :=
  h.mono fun _ _ ⟨he, hm⟩ => ⟨he, n, hm.symm⟩

def cntH (h : Hp) : Int := if hvB h = true then cntN h.l + cntN h.r + cntN h.t else 0
/-- A number comes back, and nothing that was there has turned. -/
def RetI (w : World) (x : Int) (e : Ending) (w' : World) : Prop := e = .returned (.int .i64 x) ∧ Below w.heap.size w w'

end Go.Proofs.Ytapkhgpifpgleaa

/- The helpers of the exact laws over rows: eqIntS, markIntS, heldIntS. -/
namespace Go.Proofs.Ytapkhgpifpgleaa
open Go.RowKit

set_option maxHeartbeats 400000 in
theorem eqIntS_any (w : World) (lo lo' : Nat) (A A' : Option Addr) (n c n' c' : Nat) (xs ys : List Int) (h : Row w lo (.slice A n c) xs) (hn : xs.length = n) (hm : n ≤ 9223372036854775807)
    (h' : Row w lo' (.slice A' n' c') ys) (hn' : ys.length = n') (hm' : n' ≤ 9223372036854775807) :
    Calls Try.prog 16 #[.slice A n c, .slice A' n' c'] w fun e w' => e = .returned (.bool (decide (xs = ys))) ∧ ∃ nq, w' = w.drewN nq := by
  by_cases hne : n = n'
  · subst hne
    go_enter Try.func16, Try.ntmps16
    go_wp2
    go_loopw [5] (fun i wr => (∃ k : Nat, k ≤ n ∧ i = .int .i64 k ∧ Hid (xs.take k = ys.take k)) ∧ ∃ nq, wr = w.drewN nq) (fun i _ => n - (intOf i).toNat)
    case atStart => exact ⟨⟨0, Nat.zero_le _, rfl, rfl⟩, 0, rfl⟩
    case round =>
      obtain ⟨⟨k, hk, rfl, ht⟩, nq, rfl⟩ := hrel
      by_cases hlt : k < n
      · obtain ⟨g, x, rfl, _, _, hx, hcell, _⟩ := h.get (k := k) (by omega)
        obtain ⟨g', y, rfl, _, _, hy, hcell', _⟩ := h'.get (k := k) (by omega)
        have hb1 : (k : Int) < (n : Int) := by omega
        by_cases hxy : x = y
        · subst hxy
          have Ht : Hid (xs.take (k + 1) = ys.take (k + 1)) := eq_take hx.out hy.out ht.out
          clear ht hx hy
          go_wp2
          go_quiet (fail)
          go_wp2
          go_roundw
          case rel => exact ⟨⟨k + 1, by omega, by go_num, Ht⟩, _, by first | rfl | (rw [World.drewN_drewN])⟩
          case measure => simp [intOf]; omega
        · have hxy2 : (x != y) = true := by simpa using hxy
          have Hf : Hid (decide (xs = ys) = false) := by
            unfold Hid; simp only [decide_eq_false_iff_not]; rintro rfl
            have e := hx.out.symm.trans hy.out
            exact hxy (by simpa using e)
          clear ht hx hy
          go_wp2
          go_quiet (fail)
          go_wp2
          go_ret
          exact ⟨ret_bool Hf.out.symm, _, by first | rfl | (rw [World.drewN_drewN])⟩
      · obtain rfl : k = n := by omega
        have Hf : Hid (decide (xs = ys) = true) := by
          have := ht.out; rw [List.take_of_length_le (by omega), List.take_of_length_le (by omega)] at this; unfold Hid; simpa using this
        go_wp2
        go_ret
        exact ⟨ret_bool Hf.out.symm, _, rfl⟩
  · have hne2 : ((n : Int) != (n' : Int)) = true := by simp; omega
    have Hf : Hid (decide (xs = ys) = false) := by
      unfold Hid; simp only [decide_eq_false_iff_not]; rintro rfl; omega
    go_enter Try.func16, Try.ntmps16
    go_wp2
    go_ret
    exact ⟨ret_bool Hf.out.symm, 0, rfl⟩

/-- k, k+1, .. : n numbers. -/
def seqI (k n : Nat) : List Int := (List.range n).map fun i => ((k + i : Nat) : Int)
theorem seqI_len (k n : Nat) : (seqI k n).length = n := by simp [seqI]
theorem seqI_succ (k n : Nat) : seqI k (n + 1) = seqI k n ++ [((k + n : Nat) : Int)] := by simp [seqI, List.range_succ]
theorem seqI_set {xs : List Int} {k j : Nat} (h : j < xs.length) : (seqI k j ++ xs.drop j).set j ((k + j : Nat) : Int) = seqI k (j + 1) ++ xs.drop (j + 1) := by
  rw [List.set_append, if_neg (by rw [seqI_len]; omega), seqI_len, Nat.sub_self, List.drop_eq_getElem_cons h, List.set_cons_zero, seqI_succ]
  simp

/-- The row holds k, k+1, ..; its own block alone has turned. -/
def Marked (w : World) (lo k n : Nat) (v : Value) (e : Ending) (w' : World) : Prop :=
  e = .returned (.int .i64 ((k + n : Nat) : Int)) ∧ Row w' lo v (seqI k n) ∧ w.grownBy w' v.ownBlock ∧ w'.heap.size = w.heap.size

set_option maxHeartbeats 400000 in
theorem markIntS_any (w : World) (lo : Nat) (A : Option Addr) (n c : Nat) (xs : List Int) (h : Row w lo (.slice A n c) xs) (hn : xs.length = n) (hm : n ≤ 1048576) (k : Nat) (hk : k ≤ 1073741824) :
    Calls Try.prog 19 #[.slice A n c, .int .i64 k] w (Marked w lo k n (.slice A n c)) := by
  go_enter Try.func19, Try.ntmps19
  go_wp2_with fail
  go_loopw [1, 5] (fun q i wr => ∃ j : Nat, j ≤ n ∧ i = .int .i64 j ∧ q = .int .i64 ((k + j : Nat) : Int) ∧ Row wr lo (.slice A n c) (seqI k j ++ xs.drop j) ∧ Hid (w.grownBy wr (Value.slice A n c).ownBlock ∧ wr.heap.size = w.heap.size)) (fun _ i _ => n - (intOf i).toNat)
  case atStart => exact ⟨0, Nat.zero_le _, rfl, rfl, h, World.grownBy.refl _ _, rfl⟩
  case round =>
    obtain ⟨j, hj, rfl, rfl, hr, hg⟩ := hrel
    by_cases hlt : j < n
    · obtain ⟨g, x, rfl, _, _, _, hcell, hfr⟩ := hr.get (k := j) (by simp [seqI_len]; omega)
      have hr' := hr.set_ j ((k + j : Nat) : Int)
      rw [seqI_set (by omega)] at hr'
      have hg' : Hid (w.grownBy (wr.setCell ⟨g, j, none⟩ (.int .i64 ((k + j : Nat) : Int))) (Value.slice (some ⟨g, 0, none⟩) n c).ownBlock ∧ (wr.setCell ⟨g, j, none⟩ (.int .i64 ((k + j : Nat) : Int))).heap.size = w.heap.size) :=
        ⟨⟨hg.out.1.os, hg.out.1.tape, hg.out.1.output, by simpa [World.setCell] using hg.out.1.size, fun i hi hne => (Below.heap_setCell _ _ _ _ (fun e => hne (by rw [e]; rfl))).trans (hg.out.1.block i hi hne)⟩, by simpa [World.setCell] using hg.out.2⟩
      have eS : (((k + j : Nat) : Int) + 1) = ((k + (j + 1) : Nat) : Int) := by omega
      have HS := Lib.hid eS
      clear hr hg h eS
      generalize hkj : ((k + j : Nat) : Int) = kj at *
      have hb : 0 ≤ kj ∧ kj ≤ 1074790400 := by omega
      obtain ⟨hb1, hb2⟩ := hb
      have HK := Lib.hid hkj
      clear hkj
      go_wp2_with fail
      go_roundw
      case rel => exact ⟨j + 1, by omega, by go_num, by rw [HS.out], hr', hg'⟩
      case measure => simp [intOf]; omega
    · obtain rfl : j = n := by omega
      have hr' : Row wr lo (.slice A j c) (seqI k j) := by
        have := hr; rw [List.drop_of_length_le (by omega), List.append_nil] at this; exact this
      clear hr
      go_wp2_with fail
      go_ret
      exact ⟨rfl, hr', hg.out.1, hg.out.2⟩

def heldR (k : Nat) (xs : List Int) : Int := if xs = seqI k xs.length then ((k + xs.length : Nat) : Int) else -1

set_option maxHeartbeats 400000 in
theorem heldIntS_any (w : World) (lo : Nat) (A : Option Addr) (n c : Nat) (xs : List Int) (h : Row w lo (.slice A n c) xs) (hn : xs.length = n) (hm : n ≤ 1048576) (k : Nat) (hk : k ≤ 1073741824) :
    Calls Try.prog 20 #[.slice A n c, .int .i64 k] w fun e w' => e = .returned (.int .i64 (heldR k xs)) ∧ w = w' := by
  go_enter Try.func20, Try.ntmps20
  go_wp2_with fail
  go_loop [1, 5] (fun q i => ∃ j : Nat, j ≤ n ∧ i = .int .i64 j ∧ q = .int .i64 ((k + j : Nat) : Int) ∧ Hid (xs.take j = seqI k j)) (fun _ i => n - (intOf i).toNat)
  case atStart => exact ⟨0, Nat.zero_le _, rfl, rfl, rfl⟩
  case round =>
    obtain ⟨j, hj, rfl, rfl, ht⟩ := hrel
    by_cases hlt : j < n
    · obtain ⟨g, x, rfl, _, _, hx, hcell, _⟩ := h.get (k := j) (by omega)
      have eS : (((k + j : Nat) : Int) + 1) = ((k + (j + 1) : Nat) : Int) := by omega
      have HS := Lib.hid eS
      clear eS
      by_cases hxy : x = ((k + j : Nat) : Int)
      · have ht' : Hid (xs.take (j + 1) = seqI k (j + 1)) := by
          unfold Hid; rw [take_snoc hx.out, seqI_succ, ht.out, hxy]
        clear ht hx
        subst hxy
        generalize hkj : ((k + j : Nat) : Int) = kj at *
        have hb1 : 0 ≤ kj := by omega
        have hb2 : kj ≤ 1074790400 := by omega
        have HK := Lib.hid hkj
        clear hkj
        go_wp2_with fail
        go_round
        case rel => exact ⟨j + 1, by omega, by go_num, by rw [HS.out], ht'⟩
        case measure => simp [intOf]; omega
      · have hf : Hid (heldR k xs = -1) := by
          unfold Hid heldR; rw [if_neg]
          intro e
          have h1 := hx.out
          rw [e, hn] at h1
          simp [seqI, List.getElem?_range hlt] at h1
          exact hxy (by omega)
        have hne : (x != ((k + j : Nat) : Int)) = true := by simpa using hxy
        clear ht hx
        generalize ((k + j : Nat) : Int) = kj at *
        go_wp2_with fail
        go_ret
        exact ⟨ret_int hf.out.symm, rfl⟩
    · obtain rfl : j = n := by omega
      have hf : Hid (heldR k xs = ((k + j : Nat) : Int)) := by
        have := ht.out; rw [List.take_of_length_le (by omega)] at this
        unfold Hid heldR; rw [hn, if_pos this]
      go_wp2_with fail
      go_ret
      exact ⟨ret_int hf.out.symm, rfl⟩
end Go.Proofs.Ytapkhgpifpgleaa

/- The helpers of the exact laws over heaps: eqHeap, markHeap, heldHeap. -/
namespace Go.Proofs.Ytapkhgpifpgleaa
open Go.RowKit

set_option maxHeartbeats 1000000 in
theorem eqHeap_any (w : World) (lo lo' : Nat) (v v' : Value) (a b : Hp) (hv : Hv w lo v a) (hv' : Hv w lo' v' b) : Calls Try.prog 17 #[v, v'] w (RetB w (sameB a b)) := by
  obtain ⟨A0, n0, c0, A1, n1, c1, A2, n2, c2, rfl, ⟨h0, h1, h2⟩, ⟨l0, l1, l2⟩, ⟨m0, m1, m2⟩, _⟩ := hv.open_
  obtain ⟨A0', n0', c0', A1', n1', c1', A2', n2', c2', rfl, ⟨h0', h1', h2'⟩, ⟨l0', l1', l2'⟩, ⟨m0', m1', m2'⟩, _⟩ := hv'.open_
  obtain ⟨o, ho⟩ : ∃ o : Obj, Hid (o = .cells #[.slice A0 n0 c0, .slice A1 n1 c1, .slice A2 n2 c2] 27) := ⟨_, rfl⟩
  obtain ⟨o', ho'⟩ : ∃ o : Obj, Hid (o = .cells #[.slice A0' n0' c0', .slice A1' n1' c1', .slice A2' n2' c2'] 27) := ⟨_, rfl⟩
  have k0 := (h0.alloc o).alloc o'
  have k1 := (h1.alloc o).alloc o'
  have k2 := (h2.alloc o).alloc o'
  have k0' := (h0'.alloc o).alloc o'
  have k1' := (h1'.alloc o).alloc o'
  have k2' := (h2'.alloc o).alloc o'
  have fin : Below w.heap.size w ((w.alloc o).alloc o') := ((Below.refl _ _).alloc (Nat.le_refl _) _).alloc (by simp) _
  rw [ho.out, ho'.out] at k0 k1 k2 k0' k1' k2' fin
  clear h0 h1 h2 h0' h1' h2' ho ho'
  have E0 := fun W p q => eqIntS_any W lo lo' A0 A0' n0 c0 n0' c0' a.l b.l p l0.out m0 q l0'.out m0'
  have E1 := fun W p q => eqIntS_any W lo lo' A1 A1' n1 c1 n1' c1' a.r b.r p l1.out m1 q l1'.out m1'
  have E2 := fun W p q => eqIntS_any W lo lo' A2 A2' n2 c2 n2' c2' a.t b.t p l2.out m2 q l2'.out m2'
  by_cases e0 : a.l = b.l
  · rw [decide_eq_true e0] at E0
    by_cases e1 : a.r = b.r
    · rw [decide_eq_true e1] at E1
      have hf : Hid (sameB a b = decide (a.t = b.t)) := by unfold Hid sameB; simp [e0, e1]
      rcases ed : decide (a.t = b.t)
      all_goals
        rw [ed] at E2 hf
        clear ed
        clear e0 e1
        go_enter Try.func17, Try.ntmps17
        go_wp2_with fail
        refine (E0 _ (by exact k0) (by exact k0')).mono ?_; rintro e w' ⟨rfl, q0, rfl⟩
        go_wp2_with fail
        refine (E1 _ (by exact k1.drewN _) (by exact k1'.drewN _)).mono ?_; rintro e w' ⟨rfl, q1, rfl⟩
        go_wp2_with fail
        refine (E2 _ (by exact k2.drewN _) (by exact k2'.drewN _)).mono ?_; rintro e w' ⟨rfl, q2, rfl⟩
        go_wp2_with fail
        go_ret
        exact ⟨ret_bool hf.out.symm, by repeat (first | exact fin | refine below_drewN ?_ _)⟩
    · rw [decide_eq_false e1] at E1
      have hf : Hid (sameB a b = false) := by unfold Hid sameB; simp [e1]
      clear e0 e1
      go_enter Try.func17, Try.ntmps17
      go_wp2_with fail
      refine (E0 _ (by exact k0) (by exact k0')).mono ?_; rintro e w' ⟨rfl, q0, rfl⟩
      go_wp2_with fail
      refine (E1 _ (by exact k1.drewN _) (by exact k1'.drewN _)).mono ?_; rintro e w' ⟨rfl, q1, rfl⟩
      go_wp2_with fail
      go_ret
      exact ⟨ret_bool hf.out.symm, by repeat (first | exact fin | refine below_drewN ?_ _)⟩
  · rw [decide_eq_false e0] at E0
    have hf : Hid (sameB a b = false) := by unfold Hid sameB; simp [e0]
    clear e0
    go_enter Try.func17, Try.ntmps17
    go_wp2_with fail
    refine (E0 _ (by exact k0) (by exact k0')).mono ?_; rintro e w' ⟨rfl, q0, rfl⟩
    go_wp2_with fail
    go_ret
    exact ⟨ret_bool hf.out.symm, by repeat (first | exact fin | refine below_drewN ?_ _)⟩

theorem apart_row {u v : Value} (h : Apart u v) : v.ownBlock = none ∨ v.ownBlock ≠ u.ownBlock := by
  cases hv : v.ownBlock with
  | none => exact .inl rfl
  | some b => exact .inr fun e => h b e.symm hv
theorem Blk3.keptR {w w' : World} {row : Option Nat} {b : Nat} {x y z : Value} {t : TypeId} (h : Blk3 w b x y z t) (hg : w.grownBy w' row) (hb : some b ≠ row) : Blk3 w' b x y z t := (hg.block b h.lt hb).trans h
theorem Row.notown {w : World} {lo b : Nat} {v : Value} {xs : List Int} (h : Row w lo v xs) (hb : w.heap.size ≤ b) : some b ≠ v.ownBlock := fun e => by have := (h.lt b e.symm).2; omega
theorem Row.belowLo {w w' : World} {lo : Nat} {v : Value} {xs : List Int} (h : Row w lo v xs) (hl : lo ≤ w.heap.size) (hg : w.grownBy w' v.ownBlock) : Below lo w w' :=
  ⟨hg.os, hg.tape, hg.output, hg.size, fun k hk => hg.block k (by omega) (fun e => by have := (h.lt k e.symm).1; omega)⟩

def markH (k : Nat) (h : Hp) : Hp := ⟨seqI k h.l.length, seqI (k + h.l.length) h.r.length, seqI (k + h.l.length + h.r.length) h.t.length⟩
def sizeH (h : Hp) : Nat := h.l.length + h.r.length + h.t.length
/-- Block b is none of the heap's own. -/
def NotIn (v : Value) (b : Nat) : Prop := ∀ v0 v1 v2, v = .agg #[v0, v1, v2] → some b ≠ v0.ownBlock ∧ some b ≠ v1.ownBlock ∧ some b ≠ v2.ownBlock
/-- The heap holds k, k+1, ..; below lo nothing has turned. -/
def MarkedH (w : World) (lo k : Nat) (v : Value) (h : Hp) (e : Ending) (w' : World) : Prop :=
  e = .returned (.int .i64 ((k + sizeH h : Nat) : Int)) ∧ Hv w' lo v (markH k h) ∧ Below lo w w' ∧ ∀ b, b < w.heap.size → NotIn v b → w'.heap[b]? = w.heap[b]?

set_option maxHeartbeats 1000000 in
theorem markHeap_any (w : World) (lo : Nat) (v : Value) (h : Hp) (hv : Hv w lo v h) (hlo : lo ≤ w.heap.size) (b0 : h.l.length ≤ 1048576) (b1 : h.r.length ≤ 1048576) (b2 : h.t.length ≤ 1048576) (k : Nat) (hk : k ≤ 1048576) :
    Calls Try.prog 18 #[v, .int .i64 k] w (MarkedH w lo k v h) := by
  obtain ⟨A0, n0, c0, A1, n1, c1, A2, n2, c2, rfl, ⟨r0, r1, r2⟩, ⟨l0, l1, l2⟩, _, _, a01, a02, a12⟩ := hv.open_
  have u0 : n0 ≤ 1048576 := by have := l0.out; omega
  have u1 : n1 ≤ 1048576 := by have := l1.out; omega
  have u2 : n2 ≤ 1048576 := by have := l2.out; omega
  have X0 := Blk3.new w (.slice A0 n0 c0) (.slice A1 n1 c1) (.slice A2 n2 c2) 27
  have o0 := r0.alloc (.cells #[.slice A0 n0 c0, .slice A1 n1 c1, .slice A2 n2 c2] 27)
  have o1 := r1.alloc (.cells #[.slice A0 n0 c0, .slice A1 n1 c1, .slice A2 n2 c2] 27)
  have o2 := r2.alloc (.cells #[.slice A0 n0 c0, .slice A1 n1 c1, .slice A2 n2 c2] 27)
  have M0 := markIntS_any _ _ _ _ _ _ o0 l0.out u0 k (by omega)
  go_enter Try.func18, Try.ntmps18
  go_wp2_with fail
  refine M0.mono ?_; rintro e w1 ⟨rfl, q0, g0, z0⟩
  have X1 := X0.keptR g0 (r0.notown (Nat.le_refl _))
  have p1 := o1.kept g0 (apart_row a01)
  have p2 := o2.kept g0 (apart_row a02)
  have L1 := o0.belowLo (by simp; omega) g0
  have M1 := markIntS_any _ _ _ _ _ _ p1 l1.out u1 (k + n0) (by omega)
  obtain ⟨x10, x11, x12, _⟩ := X1.cells
  go_wp2_with fail
  refine M1.mono ?_; rintro e w2 ⟨rfl, q1, g1, z1⟩
  have X2 := X1.keptR g1 (r1.notown (Nat.le_refl _))
  have q0' := q0.kept g1 (apart_row a01.symm)
  have p2' := p2.kept g1 (apart_row a12)
  have L2 := p1.belowLo (by simp at z0; omega) g1
  have M2 := markIntS_any _ _ _ _ _ _ p2' l2.out u2 (k + n0 + n1) (by omega)
  obtain ⟨x20, x21, x22, _⟩ := X2.cells
  go_wp2_with fail
  refine M2.mono ?_; rintro e w3 ⟨rfl, q2, g2, z2⟩
  have q0'' := q0'.kept g2 (apart_row a02.symm)
  have q1' := q1.kept g2 (apart_row a12.symm)
  have L3 := p2'.belowLo (by simp at z0; omega) g2
  go_wp2_with fail
  go_ret
  refine ⟨ret_int (by unfold sizeH; rw [l0.out, l1.out, l2.out]; omega), ⟨_, _, _, rfl, ?_, ?_, ?_, a01, a02, a12⟩, (((Below.refl _ _).alloc hlo _).trans L1).trans (L2.trans L3), fun b hb hn => ?_⟩
  · unfold markH; rw [l0.out]; exact q0''
  · unfold markH; rw [l0.out, l1.out]; exact q1'
  · unfold markH; rw [l0.out, l1.out, l2.out]; exact q2
  · obtain ⟨nb0, nb1, nb2⟩ := hn _ _ _ rfl
    rw [g2.block b (by simp at z0; omega) nb2, g1.block b (by simp at z0; omega) nb1, g0.block b (by simp; omega) nb0]
    exact Below.heap_alloc w _ b hb

set_option maxHeartbeats 1000000 in
theorem heldHeap_any (w : World) (lo : Nat) (v : Value) (h : Hp) (k : Nat) (hv : Hv w lo v (markH k h)) (b0 : h.l.length ≤ 1048576) (b1 : h.r.length ≤ 1048576) (b2 : h.t.length ≤ 1048576) (hk : k ≤ 1048576) :
    Calls Try.prog 23 #[v, .int .i64 k] w (RetI w ((k + sizeH h : Nat) : Int)) := by
  obtain ⟨A0, n0, c0, A1, n1, c1, A2, n2, c2, rfl, ⟨r0, r1, r2⟩, ⟨l0, l1, l2⟩, _⟩ := hv.open_
  have e0 : h.l.length = n0 := by have := l0.out; unfold markH at this; simpa [seqI_len] using this
  have e1 : h.r.length = n1 := by have := l1.out; unfold markH at this; simpa [seqI_len] using this
  have e2 : h.t.length = n2 := by have := l2.out; unfold markH at this; simpa [seqI_len] using this
  have o0 := r0.alloc (.cells #[.slice A0 n0 c0, .slice A1 n1 c1, .slice A2 n2 c2] 27)
  have o1 := r1.alloc (.cells #[.slice A0 n0 c0, .slice A1 n1 c1, .slice A2 n2 c2] 27)
  have o2 := r2.alloc (.cells #[.slice A0 n0 c0, .slice A1 n1 c1, .slice A2 n2 c2] 27)
  have H0 := heldIntS_any _ _ _ _ _ _ o0 l0.out (by omega) k (by omega)
  have H1 := heldIntS_any _ _ _ _ _ _ o1 l1.out (by omega) (k + n0) (by omega)
  have H2 := heldIntS_any _ _ _ _ _ _ o2 l2.out (by omega) (k + n0 + n1) (by omega)
  have f0 : heldR k (markH k h).l = ((k + n0 : Nat) : Int) := by unfold heldR markH; simp [seqI_len, e0]
  have f1 : heldR (k + n0) (markH k h).r = ((k + n0 + n1 : Nat) : Int) := by unfold heldR markH; simp [seqI_len, e0, e1]
  have f2 : heldR (k + n0 + n1) (markH k h).t = ((k + n0 + n1 + n2 : Nat) : Int) := by unfold heldR markH; simp [seqI_len, e0, e1, e2]
  rw [f0] at H0
  rw [f1] at H1
  rw [f2] at H2
  have HS : Hid (((k + sizeH h : Nat) : Int) = ((k + n0 + n1 + n2 : Nat) : Int)) := by unfold Hid sizeH; omega
  clear f0 f1 f2 e0 e1 e2 r0 r1 r2 o0 o1 o2 hv
  go_enter Try.func23, Try.ntmps23
  go_wp2_with fail
  refine H0.mono ?_; rintro e w' ⟨rfl, rfl⟩
  go_wp2_with fail
  refine H1.mono ?_; rintro e w' ⟨rfl, rfl⟩
  go_wp2_with fail
  refine H2.mono ?_; rintro e w' ⟨rfl, rfl⟩
  go_wp2_with fail
  go_ret
  exact ⟨ret_int (by rw [HS.out]; first | rfl | (simp) | omega), (Below.refl _ _).alloc (Nat.le_refl _) _⟩
end Go.Proofs.Ytapkhgpifpgleaa

