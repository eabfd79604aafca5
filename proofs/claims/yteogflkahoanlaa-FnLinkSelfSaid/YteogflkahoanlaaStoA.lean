/- AllocCell of spec. -/
import Derived.Test.YteogflkahoanlaaStos
import Derived.Test.YteogflkahoanlaaShades
import Derived.ArgAppend
import Derived.WalkSpells
namespace Go.Proofs.Yteogflkahoanlaa
open Go.RowKit

def OptCI (w : World) (C : Cp) (x : Int) (b : Bool) (e : Ending) (w' : World) : Prop := ∃ v, e = .returned (.tuple #[v, .int .i64 x, .bool b]) ∧ Cv w' w.heap.size v C ∧ Below w.heap.size w w'
def allocB (C : Cp) (k : Int) : Bool := stoB C && plB k C.h.t.length && decide (C.c ≠ [])
def allocX (C : Cp) (k : Int) : Int := if allocB C k = true then C.c.getD 0 0 else 0
def allocC (C : Cp) (k : Int) : Cp := if allocB C k = true then ⟨⟨C.h.l, C.h.r, C.h.t.set k.toNat (C.c.getD 0 0)⟩, C.c.tail⟩ else Cp.zero
theorem allocC_not {C : Cp} {k : Int} (h : allocB C k = false) : allocC C k = Cp.zero := by unfold allocC; rw [h]; simp
theorem allocX_not {C : Cp} {k : Int} (h : allocB C k = false) : allocX C k = 0 := by unfold allocX; rw [h]; simp
theorem allocB_iff {C : Cp} {k : Int} : allocB C k = true ↔ stoB C = true ∧ (0 ≤ k ∧ k < C.h.t.length) ∧ C.c ≠ [] := by
  simp only [allocB, plB, Bool.and_eq_true, decide_eq_true_eq, and_assoc]
theorem allocB_not {C : Cp} {k : Int} (h : ¬ (stoB C = true ∧ (0 ≤ k ∧ k < C.h.t.length) ∧ C.c ≠ [])) : allocB C k = false := by
  rw [Bool.eq_false_iff]; intro h9; exact h (allocB_iff.1 h9)

/-- append of nothing, at the list of a plain region's operations. -/
theorem wpList_append_zero {P : Program} {ops : Array Oper} {rest : List Oper} {o : Oper} {a : Act} {w : World} {Q : Exit → Act → World → Prop}
    (hg : o.guard = none) (s x : Operand) (t : TypeId) (hop : o.op = Op.call { callee := Callee.builtin Builtin.append, args := #[s, x], argTypes := #[t, t] })
    (e : TypeId) (i : TypeInfo) (h1 : P.underlying t = some (.slice e)) (h2 : P.info? e = some i)
    (base : Option Addr) (n cap : Nat) (hs : a.eval s = .slice base n cap) (hle : n ≤ cap) (ax : Option Addr) (m cx : Nat) (hm : m = 0) (hx : a.eval x = .slice ax m cx)
    (hK : ∀ w', Hid (w' = w) → wpList P ops Q rest (a.put o.dst (.slice base n cap)) w') : wpList P ops Q (o :: rest) a w := by
  subst hm
  refine wpList_plain hg fun K hK' => ?_
  have h9 := hK' _ _ (hK w rfl)
  have hrun : (Builtin.append_ #[t, t] o.type #[.slice base n cap, .slice ax 0 cx]).run P w = .ok (.slice base n cap) w := by
    refine run_append_nothing w t t o.type e i h1 h2 base n cap hle _ ?_
    cases ax with
    | none => exact Src.ofNil w h1 cx
    | some ad => exact Src.ofSlice w h1 ad 0 cx [] (by simp) (fun j u hj => by simp at hj) (fun u hu => by simp at hu)
  unfold Oper.wp
  simp [execOp, hop, resolve, invoke, builtin, hs, hx, hrun, Result.andThen]
  exact h9
theorem Row.cellsTail4 {w : World} {lo g n c : Nat} {xs : List Int} (h : Row w lo (.slice (some ⟨g, 0, none⟩) n c) xs) : ∀ (j : Nat) (u : Value), (xs.tail.map iv)[j]? = some u → w.cell? ((⟨g, 1, none⟩ : Addr).add j) = some u := by
  intro j u hj
  have hh := h.cellsV (j + 1) u (by rw [← hj]; cases xs <;> simp)
  have hadd : ∀ o i, (⟨g, o, none⟩ : Addr).add i = ⟨g, o + i, none⟩ := fun o i => by unfold Addr.add; split <;> simp_all
  rw [hadd] at hh ⊢
  rw [show 1 + j = 0 + (j + 1) by omega]
  exact hh

set_option maxRecDepth 100000 in
set_option maxHeartbeats 4000000 in
theorem specAllocCell_any (w : World) (lo : Nat) (v : Value) (C : Cp) (hv : Cv w lo v C) (k : Int) :
    Calls Try.prog 99 #[v, .int .i64 k] w (OptCI w (allocC C k) (allocX C k) (allocB C k)) := by
  have hvo := hv
  obtain ⟨A0, n0, c0, A1, n1, c1, A2, n2, c2, A3, n3, c3, rfl, hh, ⟨r0, r1, r2, r3⟩, ⟨l0, l1, l2, l3⟩, ⟨b0, b1, b2, b3⟩, _⟩ := hvo.open_
  have P := Blk4.new w (.slice A0 n0 c0) (.slice A1 n1 c1) (.slice A2 n2 c2) (.slice A3 n3 c3) 27
  have X := P.alloc (.cells #[.slice none 0 0, .slice none 0 0, .slice none 0 0, .slice none 0 0] 27)
  have Y := Blk4.new_at (w := w.alloc (.cells #[.slice A0 n0 c0, .slice A1 n1 c1, .slice A2 n2 c2, .slice A3 n3 c3] 27)) (b := w.heap.size + 1) (by simp) (.slice none 0 0) (.slice none 0 0) (.slice none 0 0) (.slice none 0 0) 27
  have VV := (hv.alloc (.cells #[.slice A0 n0 c0, .slice A1 n1 c1, .slice A2 n2 c2, .slice A3 n3 c3] 27)).alloc (.cells #[.slice none 0 0, .slice none 0 0, .slice none 0 0, .slice none 0 0] 27)
  have R3 := (r3.alloc (.cells #[.slice A0 n0 c0, .slice A1 n1 c1, .slice A2 n2 c2, .slice A3 n3 c3] 27)).alloc (.cells #[.slice none 0 0, .slice none 0 0, .slice none 0 0, .slice none 0 0] 27)
  have BB : Below w.heap.size w ((w.alloc (.cells #[.slice A0 n0 c0, .slice A1 n1 c1, .slice A2 n2 c2, .slice A3 n3 c3] 27)).alloc (.cells #[.slice none 0 0, .slice none 0 0, .slice none 0 0, .slice none 0 0] 27)) := ((Below.refl _ _).alloc (Nat.le_refl _) _).alloc (by simp) _
  have sz : ((w.alloc (.cells #[.slice A0 n0 c0, .slice A1 n1 c1, .slice A2 n2 c2, .slice A3 n3 c3] 27)).alloc (.cells #[.slice none 0 0, .slice none 0 0, .slice none 0 0, .slice none 0 0] 27)).heap.size = w.heap.size + 2 := by simp
  have V := specStoreValid_any _ _ _ _ VV
  clear hh r0 r1 r2 P hv
  rcases ev : stoB C
  · have hf : Hid (allocB C k = false) := allocB_not (fun h => by rw [ev] at h; cases h.1)
    have hc := Lib.hid (allocC_not hf.out)
    have hx := Lib.hid (allocX_not hf.out)
    rw [ev] at V
    clear ev
    go_enter Try.func99, Try.ntmps99
    go_wp2_with fail
    refine V.mono ?_; rintro e w1 ⟨rfl, hb1⟩
    obtain ⟨x0, x1, x2, x3, _⟩ := (Blk4.below (by exact X) hb1).cells
    obtain ⟨y0, y1, y2, y3, f0, f1, f2, f3⟩ := (Blk4.below (by exact Y) hb1).cells
    obtain ⟨hZ, hB⟩ := zero_done (w := w) (b := w.heap.size + 1) (by omega) (BB.trans (hb1.mono (by rw [sz]; omega)))
    go_wp2_with fail
    rw [hf.out, hc.out, hx.out]
    refine bodyPost_ret (v := .tuple #[.agg #[.slice none 0 0, .slice none 0 0, .slice none 0 0, .slice none 0 0], .int .i64 0, .bool false]) ?_ rfl ⟨_, rfl, hZ, hB⟩
    simp [results, Try.results99, go_sem, y0, y1, y2, y3]
  · by_cases hk0 : k < 0
    · have hf : Hid (allocB C k = false) := allocB_not (fun h => by omega)
      have hc := Lib.hid (allocC_not hf.out)
      have hx := Lib.hid (allocX_not hf.out)
      rw [ev] at V
      clear ev
      go_enter Try.func99, Try.ntmps99
      go_wp2_with fail
      refine V.mono ?_; rintro e w1 ⟨rfl, hb1⟩
      obtain ⟨x0, x1, x2, x3, _⟩ := (Blk4.below (by exact X) hb1).cells
      obtain ⟨y0, y1, y2, y3, f0, f1, f2, f3⟩ := (Blk4.below (by exact Y) hb1).cells
      obtain ⟨hZ, hB⟩ := zero_done (w := w) (b := w.heap.size + 1) (by omega) (BB.trans (hb1.mono (by rw [sz]; omega)))
      go_wp2_with fail
      rw [hf.out, hc.out, hx.out]
      refine bodyPost_ret (v := .tuple #[.agg #[.slice none 0 0, .slice none 0 0, .slice none 0 0, .slice none 0 0], .int .i64 0, .bool false]) ?_ rfl ⟨_, rfl, hZ, hB⟩
      simp [results, Try.results99, go_sem, y0, y1, y2, y3]
    · obtain ⟨j, rfl⟩ := Int.eq_ofNat_of_zero_le (by omega : 0 ≤ k)
      by_cases hj : n2 ≤ j
      · have hjj : (n2 : Int) ≤ (j : Int) := by omega
        have hf : Hid (allocB C (j : Int) = false) := allocB_not (fun h => by have := l2.out; omega)
        have hc := Lib.hid (allocC_not hf.out)
        have hx := Lib.hid (allocX_not hf.out)
        rw [ev] at V
        clear ev
        go_enter Try.func99, Try.ntmps99
        go_wp2_with fail
        refine V.mono ?_; rintro e w1 ⟨rfl, hb1⟩
        obtain ⟨x0, x1, x2, x3, _⟩ := (Blk4.below (by exact X) hb1).cells
        obtain ⟨y0, y1, y2, y3, f0, f1, f2, f3⟩ := (Blk4.below (by exact Y) hb1).cells
        obtain ⟨hZ, hB⟩ := zero_done (w := w) (b := w.heap.size + 1) (by omega) (BB.trans (hb1.mono (by rw [sz]; omega)))
        go_wp2_with fail
        rw [hf.out, hc.out, hx.out]
        refine bodyPost_ret (v := .tuple #[.agg #[.slice none 0 0, .slice none 0 0, .slice none 0 0, .slice none 0 0], .int .i64 0, .bool false]) ?_ rfl ⟨_, rfl, hZ, hB⟩
        simp [results, Try.results99, go_sem, y0, y1, y2, y3]
      · by_cases hz : n3 = 0
        · have hjj : (j : Int) < (n2 : Int) := by omega
          have hf : Hid (allocB C (j : Int) = false) := allocB_not (fun h => h.2.2 (List.eq_nil_of_length_eq_zero (l3.out.trans hz)))
          have hc := Lib.hid (allocC_not hf.out)
          have hx := Lib.hid (allocX_not hf.out)
          rw [ev] at V
          subst hz; clear ev
          go_enter Try.func99, Try.ntmps99
          go_wp2_with fail
          refine V.mono ?_; rintro e w1 ⟨rfl, hb1⟩
          obtain ⟨x0, x1, x2, x3, _⟩ := (Blk4.below (by exact X) hb1).cells
          obtain ⟨y0, y1, y2, y3, f0, f1, f2, f3⟩ := (Blk4.below (by exact Y) hb1).cells
          obtain ⟨hZ, hB⟩ := zero_done (w := w) (b := w.heap.size + 1) (by omega) (BB.trans (hb1.mono (by rw [sz]; omega)))
          go_wp2_with fail
          rw [hf.out, hc.out, hx.out]
          refine bodyPost_ret (v := .tuple #[.agg #[.slice none 0 0, .slice none 0 0, .slice none 0 0, .slice none 0 0], .int .i64 0, .bool false]) ?_ rfl ⟨_, rfl, hZ, hB⟩
          simp [results, Try.results99, go_sem, y0, y1, y2, y3]
        · have ht := l2.out
          have hk : allocB C (j : Int) = true := allocB_iff.2 ⟨ev, ⟨by omega, by omega⟩, fun e => hz (by rw [← l3.out, e]; rfl)⟩
          have hf := Lib.hid hk
          obtain ⟨hvh, hle, _, _⟩ := stoB_parts ev
          have h8 := hvB_len hvh
          have e0 := l0.out
          have e3 := l3.out
          obtain ⟨gf, x, rfl, _, _, hx0, _, _⟩ := r3.get (k := 0) (by rw [l3.out]; omega)
          have hgx : C.c.getD 0 0 = x := by simp [List.getD, hx0.out]
          have hX : Hid (allocX C (j : Int) = x) := by unfold Hid allocX; rw [if_pos hk, hgx]
          have hC : Hid (allocC C (j : Int) = ⟨⟨C.h.l, C.h.r, C.h.t.set j x⟩, C.c.tail⟩) := by unfold Hid allocC; rw [if_pos hk, hgx]; simp
          have hcap := r3.cap
          have cp1 : (n3 : Int) ≤ (c3 : Int) := by omega
          have cp2 : (1 : Int) ≤ (n3 : Int) := by omega
          have hjj : (j : Int) < (n2 : Int) := by omega
          have hjn : decide ((j : Int) < 0) = false := by simp
          have hzn : ((n3 : Int) == 0) = false := by simp; omega
          have evs := ev
          rw [ev] at V
          obtain ⟨i0, hi, hz0, hz1, hz2⟩ := info_parts Try.infoInt
          have hxx : Hid (C.c[0]? = some x) := hx0
          clear hk hvh hgx ev hx0
          go_enter Try.func99, Try.ntmps99
          go_wp2_with fail
          refine V.mono ?_; rintro e w2 ⟨rfl, hb2⟩
          have X2 := Blk4.below (by exact X) hb2
          have Y2 := Blk4.below (by exact Y) hb2
          have B2 := BB.trans (hb2.mono (by rw [sz]; omega))
          have z2 : w.heap.size + 2 ≤ w2.heap.size := by have := hb2.size; rw [sz] at this; omega
          have Cc := l4Copy_any w2 _ _ _ (VV.below hb2) evs
          have F2 := R3.below hb2
          obtain ⟨q0, q1, q2, q3, _⟩ := X2.cells
          clear V VV hb2 X Y R3
          go_wp2_with fail
          refine Cc.mono ?_; rintro e w3 ⟨vv, rfl, hD, hb3⟩
          obtain ⟨D0, m0, d0, D1, m1, d1, D2, m2, d2, D3, m3, d3, rfl, dh, ⟨s0, s1, s2, s3⟩, ⟨t0, t1, t2, t3⟩, _, ⟨a01, a02, a12⟩, ⟨a03, a13, a23⟩⟩ := hD.open_
          obtain ⟨gr, rfl, hlg, hg⟩ := s2.at_ (k := j) (by rw [l2.out]; omega)
          have t2' := t2.out
          obtain rfl : m2 = n2 := by omega
          have z3 := hb3.size
          have B3 := B2.trans (hb3.mono (by omega))
          have X3 := X2.below hb3
          have Y3 := Y2.below hb3
          have F3 := F2.below hb3
          obtain ⟨p0, p1, p2, p3, _⟩ := X3.cells
          obtain ⟨_, x', ef, _, _, hx1, hcf, _⟩ := F3.get (k := 0) (by rw [l3.out]; omega)
          cases ef
          obtain rfl : x = x' := by
            have h9 := hx1.out
            have h8 := hxx.out
            rw [h8] at h9; cases h9; rfl
          have B4 := B3.alloc (Nat.le_trans B2.size z3) (.cells #[.slice D0 m0 d0, .slice D1 m1 d1, .slice (some ⟨gr, 0, none⟩) m2 d2, .slice D3 m3 d3] 27)
          have X4 := X3.alloc (.cells #[.slice D0 m0 d0, .slice D1 m1 d1, .slice (some ⟨gr, 0, none⟩) m2 d2, .slice D3 m3 d3] 27)
          have Y4 := Y3.alloc (.cells #[.slice D0 m0 d0, .slice D1 m1 d1, .slice (some ⟨gr, 0, none⟩) m2 d2, .slice D3 m3 d3] 27)
          have Z4 := Blk4.new_at (w := w3) (b := w3.heap.size) rfl (.slice D0 m0 d0) (.slice D1 m1 d1) (.slice (some ⟨gr, 0, none⟩) m2 d2) (.slice D3 m3 d3) 27
          have F4 := F3.alloc (.cells #[.slice D0 m0 d0, .slice D1 m1 d1, .slice (some ⟨gr, 0, none⟩) m2 d2, .slice D3 m3 d3] 27)
          have S0 := s0.alloc (.cells #[.slice D0 m0 d0, .slice D1 m1 d1, .slice (some ⟨gr, 0, none⟩) m2 d2, .slice D3 m3 d3] 27)
          have S1 := s1.alloc (.cells #[.slice D0 m0 d0, .slice D1 m1 d1, .slice (some ⟨gr, 0, none⟩) m2 d2, .slice D3 m3 d3] 27)
          have S2 := s2.alloc (.cells #[.slice D0 m0 d0, .slice D1 m1 d1, .slice (some ⟨gr, 0, none⟩) m2 d2, .slice D3 m3 d3] 27)
          have own0 : (Value.slice D0 m0 d0).ownBlock ≠ some gr := fun e => a02 gr e rfl
          have own1 : (Value.slice D1 m1 d1).ownBlock ≠ some gr := fun e => a12 gr e rfl
          have n0' := s0.nown (b := w3.heap.size) (by omega)
          have n1' := s1.nown (b := w3.heap.size) (by omega)
          have n2' := s2.nown (b := w3.heap.size) (by omega)
          have nBB : w3.heap.size ≠ gr := by omega
          have nb : w.heap.size ≠ gr := by omega
          have nb1 : w.heap.size + 1 ≠ gr := by omega
          have sB : (w3.alloc (.cells #[.slice D0 m0 d0, .slice D1 m1 d1, .slice (some ⟨gr, 0, none⟩) m2 d2, .slice D3 m3 d3] 27)).heap.size = w3.heap.size + 1 := by simp
          have hcf4 := cellA hcf (.cells #[.slice D0 m0 d0, .slice D1 m1 d1, .slice (some ⟨gr, 0, none⟩) m2 d2, .slice D3 m3 d3] 27)
          obtain ⟨x40, x41, x42, x43, _⟩ := X4.cells
          have lX3 := X3.lt
          have x53 := cellA x43 (.cells #[] 3)
          by_cases h1' : n3 = 1
          · have h1 := Lib.hid h1'
            have ht0 : C.c.tail = [] := List.eq_nil_of_length_eq_zero (by rw [List.length_tail]; omega)
            clear h1'
            by_cases hc1 : c3 = 1
            · subst hc1
              go_wp2_with (at_builtin; first | (refine wpList_append_zero rfl _ _ 23 rfl 3 i0 Try.underlying23 hi _ 0 0 rfl (Nat.le_refl _) _ 0 _ rfl rfl ?_) | (refine wpList_append_zero rfl _ _ 23 rfl 3 i0 Try.underlying23 hi _ 0 0 rfl (Nat.le_refl _) _ (n3 - 1) _ (by have := h1.out; omega) rfl ?_))
              rintro w5 hw5
              have hw5' : w5 = (w3.alloc (.cells #[.slice D0 m0 d0, .slice D1 m1 d1, .slice (some ⟨gr, 0, none⟩) m2 d2, .slice D3 m3 d3] 27)).alloc (.cells #[] 3) := hw5.out
              have T5 : Row w5 (w3.heap.size + 1) (.slice (some ⟨w3.heap.size + 1, 0, none⟩) 0 0) C.c.tail := by
                rw [hw5', ht0]
                have h9 := Row.empty (w3.alloc (.cells #[.slice D0 m0 d0, .slice D1 m1 d1, .slice (some ⟨gr, 0, none⟩) m2 d2, .slice D3 m3 d3] 27)) (w3.heap.size + 1) (by omega)
                rw [sB] at h9; exact h9
              have B45 : Below (w3.alloc (.cells #[.slice D0 m0 d0, .slice D1 m1 d1, .slice (some ⟨gr, 0, none⟩) m2 d2, .slice D3 m3 d3] 27)).heap.size (w3.alloc (.cells #[.slice D0 m0 d0, .slice D1 m1 d1, .slice (some ⟨gr, 0, none⟩) m2 d2, .slice D3 m3 d3] 27)) w5 := by
                rw [hw5']; exact (Below.refl _ _).alloc (Nat.le_refl _) _
              clear hw5 hw5'
              have Y5 := Y4.below B45
              have Z5 := Z4.below B45
              obtain ⟨y0, y1, y2, y3, f0, f1, f2, f3⟩ := Y5.cells
              obtain ⟨u0, u1, u2, u3, h0, h1, h2, h3⟩ := Z5.cells
              have S0' := S0.below B45
              have S1' := S1.below B45
              have S2' := S2.below B45
              obtain ⟨_, u, eu, _, _, _, hcj, hfj⟩ := S2'.get (k := j) (by rw [l2.out]; omega)
              cases eu
              have B5 := B4.trans (B45.mono B4.size)
              have ownT : (Value.slice (some ⟨w3.heap.size + 1, 0, none⟩) 0 0).ownBlock ≠ some gr := fun e => by have := (T5.lt gr e).1; omega
              have ownB : (Value.slice (some ⟨w3.heap.size + 1, 0, none⟩) 0 0).ownBlock ≠ some w3.heap.size := fun e => by have := (T5.lt w3.heap.size e).1; omega
              have lb : w.heap.size + 1 < w2.heap.size := by omega
              have ap : ∀ (v : Value) (xs : List Int), Row w3 w2.heap.size v xs → Apart v (Value.slice (some ⟨w3.heap.size + 1, 0, none⟩) 0 0) := fun v xs r b e e' => by
                have h1 := (r.lt b e).2
                have h2 := (T5.lt b e').1
                omega
              have R0 := (S0'.other (a := ⟨w3.heap.size, 3, none⟩) n0' (Value.slice (some ⟨w3.heap.size + 1, 0, none⟩) 0 0)).other (a := ⟨gr, j, none⟩) own0 (.int .i64 x)
              have R1 := (S1'.other (a := ⟨w3.heap.size, 3, none⟩) n1' (Value.slice (some ⟨w3.heap.size + 1, 0, none⟩) 0 0)).other (a := ⟨gr, j, none⟩) own1 (.int .i64 x)
              have R2 := (S2'.other (a := ⟨w3.heap.size, 3, none⟩) n2' (Value.slice (some ⟨w3.heap.size + 1, 0, none⟩) 0 0)).set_ j x
              have R3 := ((T5.other (a := ⟨w3.heap.size, 3, none⟩) ownB (Value.slice (some ⟨w3.heap.size + 1, 0, none⟩) 0 0)).other (a := ⟨gr, j, none⟩) ownT (.int .i64 x)).mono (lo' := w2.heap.size) (by omega)
              have BR := (B5.setCell (p := ⟨w3.heap.size, 3, none⟩) (by simp; omega) (Value.slice (some ⟨w3.heap.size + 1, 0, none⟩) 0 0)).setCell (p := ⟨gr, j, none⟩) (by simp; omega) (.int .i64 x)
              have CC : Cv ((w5.setCell ⟨w3.heap.size, 3, none⟩ (Value.slice (some ⟨w3.heap.size + 1, 0, none⟩) 0 0)).setCell ⟨gr, j, none⟩ (.int .i64 x)) w2.heap.size (.agg #[.slice D0 m0 d0, .slice D1 m1 d1, .slice (some ⟨gr, 0, none⟩) m2 d2, Value.slice (some ⟨w3.heap.size + 1, 0, none⟩) 0 0]) ⟨⟨C.h.l, C.h.r, C.h.t.set j x⟩, C.c.tail⟩ := ⟨_, _, _, _, rfl, ⟨_, _, _, rfl, R0, R1, R2, a01, a02, a12⟩, R3, ap _ _ s0, ap _ _ s1, ap _ _ s2⟩
              have CF := ((((CC.set_low (p := ⟨w.heap.size + 1, 0, none⟩) lb (.slice D0 m0 d0)).set_low (p := ⟨w.heap.size + 1, 1, none⟩) lb (.slice D1 m1 d1)).set_low (p := ⟨w.heap.size + 1, 2, none⟩) lb (.slice (some ⟨gr, 0, none⟩) m2 d2)).set_low (p := ⟨w.heap.size + 1, 3, none⟩) lb (Value.slice (some ⟨w3.heap.size + 1, 0, none⟩) 0 0)).mono (lo' := w.heap.size) (by omega)
              have BF := (((BR.setCell (p := ⟨w.heap.size + 1, 0, none⟩) (by simp) (.slice D0 m0 d0)).setCell (p := ⟨w.heap.size + 1, 1, none⟩) (by simp) (.slice D1 m1 d1)).setCell (p := ⟨w.heap.size + 1, 2, none⟩) (by simp) (.slice (some ⟨gr, 0, none⟩) m2 d2)).setCell (p := ⟨w.heap.size + 1, 3, none⟩) (by simp) (Value.slice (some ⟨w3.heap.size + 1, 0, none⟩) 0 0)
              clear S0 S1 S2 S0' S1' S2' Y5 Z5 X4 Y4 Z4 T5 CC R0 R1 R2 R3 BR B5 B4 B45 s0 s1 s2 s3
              go_wp2_with fail
              rw [hf.out, hX.out, hC.out]
              refine bodyPost_ret (v := .tuple #[.agg #[.slice D0 m0 d0, .slice D1 m1 d1, .slice (some ⟨gr, 0, none⟩) m2 d2, Value.slice (some ⟨w3.heap.size + 1, 0, none⟩) 0 0], .int .i64 x, .bool true]) ?_ rfl ⟨_, rfl, CF, BF⟩
              simp [results, Try.results99, go_sem, y0, y1, y2, y3]
            · have hc2 : (1 : Int) < (c3 : Int) := by omega
              have hc3 : ((c3 : Int) - 1 == 0) = false := by simp; omega
              have hc4 : c3 - 1 ≠ 0 := by omega
              go_wp2_with (at_builtin; first | (refine wpList_append_zero rfl _ _ 23 rfl 3 i0 Try.underlying23 hi _ 0 0 rfl (Nat.le_refl _) _ 0 _ rfl rfl ?_) | (refine wpList_append_zero rfl _ _ 23 rfl 3 i0 Try.underlying23 hi _ 0 0 rfl (Nat.le_refl _) _ (n3 - 1) _ (by have := h1.out; omega) rfl ?_))
              rintro w5 hw5
              have hw5' : w5 = (w3.alloc (.cells #[.slice D0 m0 d0, .slice D1 m1 d1, .slice (some ⟨gr, 0, none⟩) m2 d2, .slice D3 m3 d3] 27)).alloc (.cells #[] 3) := hw5.out
              have T5 : Row w5 (w3.heap.size + 1) (.slice (some ⟨w3.heap.size + 1, 0, none⟩) 0 0) C.c.tail := by
                rw [hw5', ht0]
                have h9 := Row.empty (w3.alloc (.cells #[.slice D0 m0 d0, .slice D1 m1 d1, .slice (some ⟨gr, 0, none⟩) m2 d2, .slice D3 m3 d3] 27)) (w3.heap.size + 1) (by omega)
                rw [sB] at h9; exact h9
              have B45 : Below (w3.alloc (.cells #[.slice D0 m0 d0, .slice D1 m1 d1, .slice (some ⟨gr, 0, none⟩) m2 d2, .slice D3 m3 d3] 27)).heap.size (w3.alloc (.cells #[.slice D0 m0 d0, .slice D1 m1 d1, .slice (some ⟨gr, 0, none⟩) m2 d2, .slice D3 m3 d3] 27)) w5 := by
                rw [hw5']; exact (Below.refl _ _).alloc (Nat.le_refl _) _
              clear hw5 hw5'
              have Y5 := Y4.below B45
              have Z5 := Z4.below B45
              obtain ⟨y0, y1, y2, y3, f0, f1, f2, f3⟩ := Y5.cells
              obtain ⟨u0, u1, u2, u3, h0, h1, h2, h3⟩ := Z5.cells
              have S0' := S0.below B45
              have S1' := S1.below B45
              have S2' := S2.below B45
              obtain ⟨_, u, eu, _, _, _, hcj, hfj⟩ := S2'.get (k := j) (by rw [l2.out]; omega)
              cases eu
              have B5 := B4.trans (B45.mono B4.size)
              have ownT : (Value.slice (some ⟨w3.heap.size + 1, 0, none⟩) 0 0).ownBlock ≠ some gr := fun e => by have := (T5.lt gr e).1; omega
              have ownB : (Value.slice (some ⟨w3.heap.size + 1, 0, none⟩) 0 0).ownBlock ≠ some w3.heap.size := fun e => by have := (T5.lt w3.heap.size e).1; omega
              have lb : w.heap.size + 1 < w2.heap.size := by omega
              have ap : ∀ (v : Value) (xs : List Int), Row w3 w2.heap.size v xs → Apart v (Value.slice (some ⟨w3.heap.size + 1, 0, none⟩) 0 0) := fun v xs r b e e' => by
                have h1 := (r.lt b e).2
                have h2 := (T5.lt b e').1
                omega
              have R0 := (S0'.other (a := ⟨w3.heap.size, 3, none⟩) n0' (Value.slice (some ⟨w3.heap.size + 1, 0, none⟩) 0 0)).other (a := ⟨gr, j, none⟩) own0 (.int .i64 x)
              have R1 := (S1'.other (a := ⟨w3.heap.size, 3, none⟩) n1' (Value.slice (some ⟨w3.heap.size + 1, 0, none⟩) 0 0)).other (a := ⟨gr, j, none⟩) own1 (.int .i64 x)
              have R2 := (S2'.other (a := ⟨w3.heap.size, 3, none⟩) n2' (Value.slice (some ⟨w3.heap.size + 1, 0, none⟩) 0 0)).set_ j x
              have R3 := ((T5.other (a := ⟨w3.heap.size, 3, none⟩) ownB (Value.slice (some ⟨w3.heap.size + 1, 0, none⟩) 0 0)).other (a := ⟨gr, j, none⟩) ownT (.int .i64 x)).mono (lo' := w2.heap.size) (by omega)
              have BR := (B5.setCell (p := ⟨w3.heap.size, 3, none⟩) (by simp; omega) (Value.slice (some ⟨w3.heap.size + 1, 0, none⟩) 0 0)).setCell (p := ⟨gr, j, none⟩) (by simp; omega) (.int .i64 x)
              have CC : Cv ((w5.setCell ⟨w3.heap.size, 3, none⟩ (Value.slice (some ⟨w3.heap.size + 1, 0, none⟩) 0 0)).setCell ⟨gr, j, none⟩ (.int .i64 x)) w2.heap.size (.agg #[.slice D0 m0 d0, .slice D1 m1 d1, .slice (some ⟨gr, 0, none⟩) m2 d2, Value.slice (some ⟨w3.heap.size + 1, 0, none⟩) 0 0]) ⟨⟨C.h.l, C.h.r, C.h.t.set j x⟩, C.c.tail⟩ := ⟨_, _, _, _, rfl, ⟨_, _, _, rfl, R0, R1, R2, a01, a02, a12⟩, R3, ap _ _ s0, ap _ _ s1, ap _ _ s2⟩
              have CF := ((((CC.set_low (p := ⟨w.heap.size + 1, 0, none⟩) lb (.slice D0 m0 d0)).set_low (p := ⟨w.heap.size + 1, 1, none⟩) lb (.slice D1 m1 d1)).set_low (p := ⟨w.heap.size + 1, 2, none⟩) lb (.slice (some ⟨gr, 0, none⟩) m2 d2)).set_low (p := ⟨w.heap.size + 1, 3, none⟩) lb (Value.slice (some ⟨w3.heap.size + 1, 0, none⟩) 0 0)).mono (lo' := w.heap.size) (by omega)
              have BF := (((BR.setCell (p := ⟨w.heap.size + 1, 0, none⟩) (by simp) (.slice D0 m0 d0)).setCell (p := ⟨w.heap.size + 1, 1, none⟩) (by simp) (.slice D1 m1 d1)).setCell (p := ⟨w.heap.size + 1, 2, none⟩) (by simp) (.slice (some ⟨gr, 0, none⟩) m2 d2)).setCell (p := ⟨w.heap.size + 1, 3, none⟩) (by simp) (Value.slice (some ⟨w3.heap.size + 1, 0, none⟩) 0 0)
              clear S0 S1 S2 S0' S1' S2' Y5 Z5 X4 Y4 Z4 T5 CC R0 R1 R2 R3 BR B5 B4 B45 s0 s1 s2 s3
              go_wp2_with fail
              rw [hf.out, hX.out, hC.out]
              refine bodyPost_ret (v := .tuple #[.agg #[.slice D0 m0 d0, .slice D1 m1 d1, .slice (some ⟨gr, 0, none⟩) m2 d2, Value.slice (some ⟨w3.heap.size + 1, 0, none⟩) 0 0], .int .i64 x, .bool true]) ?_ rfl ⟨_, rfl, CF, BF⟩
              simp [results, Try.results99, go_sem, y0, y1, y2, y3]
          · have E5 : (C.c.tail.map iv).length = (n3 - 1) * 1 := by simp; omega
            have L5 : Hid (0 + (n3 - 1) = C.c.tail.length) := by unfold Hid; rw [List.length_tail]; omega
            have M5 : 0 + (n3 - 1) ≤ maxLen := by unfold maxLen; omega
            have F5 := F4.alloc (.cells #[] 3)
            go_wp2_with (at_builtin; refine wpList_append_grows _ rfl _ _ 23 rfl 3 i0 (.int .i64 0) 1 8 Try.underlying23 hi hz0 hz1 hz2 rfl (by decide) _ 0 0 [] rfl (fun _ => ⟨rfl, rfl⟩) rfl (fun _ _ j u hj => nil_get hj) ⟨gf, 1, none⟩ (n3 - 1) _ (C.c.tail.map iv) rfl E5 (Row.cellsTail4 (lo := lo) (n := n3) (c := c3) (xs := C.c) F5) (ints_oneCell _ _) (by omega) M5 (by omega) ?_)
            intro v5 w5 hown hgr
            have hown' : w5.ownsRow ((w3.alloc (.cells #[.slice D0 m0 d0, .slice D1 m1 d1, .slice (some ⟨gr, 0, none⟩) m2 d2, .slice D3 m3 d3] 27)).alloc (.cells #[] 3)).heap.size 3 1 v5 (0 + (n3 - 1)) ([] ++ C.c.tail.map iv) := by simpa using hown
            obtain ⟨q5, hq5⟩ : ∃ q, C.c.tail.length = q := ⟨_, rfl⟩
            have h9 := after_append (W := (w3.alloc (.cells #[.slice D0 m0 d0, .slice D1 m1 d1, .slice (some ⟨gr, 0, none⟩) m2 d2, .slice D3 m3 d3] 27)).alloc (.cells #[] 3)) (xs := C.c.tail) hown' hgr L5.out
            rw [hq5] at h9
            obtain ⟨E5, c5, rfl, T, hb5⟩ := h9
            clear hq5
            have T5 := T.mono (lo' := w3.heap.size + 1) (by simp)
            have B45 : Below (w3.alloc (.cells #[.slice D0 m0 d0, .slice D1 m1 d1, .slice (some ⟨gr, 0, none⟩) m2 d2, .slice D3 m3 d3] 27)).heap.size (w3.alloc (.cells #[.slice D0 m0 d0, .slice D1 m1 d1, .slice (some ⟨gr, 0, none⟩) m2 d2, .slice D3 m3 d3] 27)) w5 := ((Below.refl _ _).alloc (Nat.le_refl _) (.cells #[] 3)).trans (hb5.mono (by simp))
            clear T hown hown' hgr hb5
            have Y5 := Y4.below B45
            have Z5 := Z4.below B45
            obtain ⟨y0, y1, y2, y3, f0, f1, f2, f3⟩ := Y5.cells
            obtain ⟨u0, u1, u2, u3, h0, h1, h2, h3⟩ := Z5.cells
            have S0' := S0.below B45
            have S1' := S1.below B45
            have S2' := S2.below B45
            obtain ⟨_, u, eu, _, _, _, hcj, hfj⟩ := S2'.get (k := j) (by rw [l2.out]; omega)
            cases eu
            have B5 := B4.trans (B45.mono B4.size)
            have ownT : (Value.slice E5 q5 c5).ownBlock ≠ some gr := fun e => by have := (T5.lt gr e).1; omega
            have ownB : (Value.slice E5 q5 c5).ownBlock ≠ some w3.heap.size := fun e => by have := (T5.lt w3.heap.size e).1; omega
            have lb : w.heap.size + 1 < w2.heap.size := by omega
            have ap : ∀ (v : Value) (xs : List Int), Row w3 w2.heap.size v xs → Apart v (Value.slice E5 q5 c5) := fun v xs r b e e' => by
              have h1 := (r.lt b e).2
              have h2 := (T5.lt b e').1
              omega
            have R0 := (S0'.other (a := ⟨w3.heap.size, 3, none⟩) n0' (Value.slice E5 q5 c5)).other (a := ⟨gr, j, none⟩) own0 (.int .i64 x)
            have R1 := (S1'.other (a := ⟨w3.heap.size, 3, none⟩) n1' (Value.slice E5 q5 c5)).other (a := ⟨gr, j, none⟩) own1 (.int .i64 x)
            have R2 := (S2'.other (a := ⟨w3.heap.size, 3, none⟩) n2' (Value.slice E5 q5 c5)).set_ j x
            have R3 := ((T5.other (a := ⟨w3.heap.size, 3, none⟩) ownB (Value.slice E5 q5 c5)).other (a := ⟨gr, j, none⟩) ownT (.int .i64 x)).mono (lo' := w2.heap.size) (by omega)
            have BR := (B5.setCell (p := ⟨w3.heap.size, 3, none⟩) (by simp; omega) (Value.slice E5 q5 c5)).setCell (p := ⟨gr, j, none⟩) (by simp; omega) (.int .i64 x)
            have CC : Cv ((w5.setCell ⟨w3.heap.size, 3, none⟩ (Value.slice E5 q5 c5)).setCell ⟨gr, j, none⟩ (.int .i64 x)) w2.heap.size (.agg #[.slice D0 m0 d0, .slice D1 m1 d1, .slice (some ⟨gr, 0, none⟩) m2 d2, Value.slice E5 q5 c5]) ⟨⟨C.h.l, C.h.r, C.h.t.set j x⟩, C.c.tail⟩ := ⟨_, _, _, _, rfl, ⟨_, _, _, rfl, R0, R1, R2, a01, a02, a12⟩, R3, ap _ _ s0, ap _ _ s1, ap _ _ s2⟩
            have CF := ((((CC.set_low (p := ⟨w.heap.size + 1, 0, none⟩) lb (.slice D0 m0 d0)).set_low (p := ⟨w.heap.size + 1, 1, none⟩) lb (.slice D1 m1 d1)).set_low (p := ⟨w.heap.size + 1, 2, none⟩) lb (.slice (some ⟨gr, 0, none⟩) m2 d2)).set_low (p := ⟨w.heap.size + 1, 3, none⟩) lb (Value.slice E5 q5 c5)).mono (lo' := w.heap.size) (by omega)
            have BF := (((BR.setCell (p := ⟨w.heap.size + 1, 0, none⟩) (by simp) (.slice D0 m0 d0)).setCell (p := ⟨w.heap.size + 1, 1, none⟩) (by simp) (.slice D1 m1 d1)).setCell (p := ⟨w.heap.size + 1, 2, none⟩) (by simp) (.slice (some ⟨gr, 0, none⟩) m2 d2)).setCell (p := ⟨w.heap.size + 1, 3, none⟩) (by simp) (Value.slice E5 q5 c5)
            clear S0 S1 S2 S0' S1' S2' Y5 Z5 X4 Y4 Z4 T5 CC R0 R1 R2 R3 BR B5 B4 B45 s0 s1 s2 s3
            go_wp2_with fail
            rw [hf.out, hX.out, hC.out]
            refine bodyPost_ret (v := .tuple #[.agg #[.slice D0 m0 d0, .slice D1 m1 d1, .slice (some ⟨gr, 0, none⟩) m2 d2, Value.slice E5 q5 c5], .int .i64 x, .bool true]) ?_ rfl ⟨_, rfl, CF, BF⟩
            simp [results, Try.results99, go_sem, y0, y1, y2, y3]
end Go.Proofs.Yteogflkahoanlaa
