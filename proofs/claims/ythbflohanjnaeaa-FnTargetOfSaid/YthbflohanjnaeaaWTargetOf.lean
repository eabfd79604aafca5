/- The law FnTargetOf, walked. -/
import Derived.Test.YthbflohanjnaeaaDRuns
import Derived.Test.YthbflohanjnaeaaIRunA
import Derived.Test.YthbflohanjnaeaaSRunA
import Derived.Test.YthbflohanjnaeaaIStos
import Derived.Test.YthbflohanjnaeaaWLaw
import Derived.Test.YthbflohanjnaeaaLawT
import Derived.Test.YthbflohanjnaeaaRuns56
import Derived.Test.YthbflohanjnaeaaDTgt
import Derived.Test.YthbflohanjnaeaaTgt
import Derived.Test.YthbflohanjnaeaaPureKS
import Derived.Test.YthbflohanjnaeaaLives
namespace Go.Proofs.Ythbflohanjnaeaa
open Go.RowKit

/-- What a target is. -/
theorem tgt_facts {C : Cp} {k a q : Int} (h : tgtX C ⟨k, a, q⟩ ≠ -1) : runB C ⟨k, a, q⟩ = true ∧ (k = 5 ∨ k = 6) ∧ runE C ⟨k, a, q⟩ = 0 ∧ ∃ kk kc : Nat, rootA C a = (kk : Int) ∧ tgtX C ⟨k, a, q⟩ = (kc : Int) ∧ kk < C.h.l.length ∧ kc < C.h.l.length ∧ (liveL C.h)[kc]? = some true ∧
    (runC C ⟨k, a, q⟩).h.l.length = C.h.l.length ∧ (runC C ⟨k, a, q⟩).h.r.length = C.h.l.length ∧ (k = 5 → (runC C ⟨k, a, q⟩).h.l[kk]? = some (kc : Int)) ∧ (k = 6 → (runC C ⟨k, a, q⟩).h.r[kk]? = some (kc : Int)) := by
  have hx : tgtX C ⟨k, a, q⟩ = rootA C q := by
    unfold tgtX at h ⊢
    split at h
    · rename_i h9; rw [if_pos h9]
    · exact absurd rfl h
  have hc : runB C ⟨k, a, q⟩ = true ∧ (k = 5 ∨ k = 6) ∧ rootA C a ≠ -1 := by
    unfold tgtX at h
    split at h
    · rename_i h9; exact h9
    · exact absurd rfl h
  obtain ⟨ho, hk, hne⟩ := hc
  obtain ⟨hC, hop⟩ := runB_iff.1 ho
  have hv := (stoB_parts hC).1
  obtain ⟨⟨hrl, _⟩, _⟩ := hvB_parts hv
  obtain ⟨_, ⟨a0, a1, _⟩, ⟨b0, _⟩, _, hbn⟩ := opB_iff.1 hop
  simp only at a0 a1 b0 hbn
  have hbt := hbn (by omega)
  obtain ⟨kk, ek, hkk⟩ := (rootA_range hv a0 a1).resolve_left hne
  obtain ⟨kc, ec, hkc⟩ := (rootA_range hv b0 hbt).resolve_left (by rw [← hx]; exact h)
  have hn1 : ¬ ((kk : Int) = -1) := by omega
  have hlv := live_root hv (k := kc) (by rw [← ec]; exact rootA_mem b0 hbt)
  have hkr : kk < C.h.r.length := by omega
  rcases hk with rfl | rfl
  · have e : runC C ⟨5, a, q⟩ = ⟨⟨C.h.l.set kk (kc : Int), C.h.r, C.h.t⟩, C.c⟩ := by unfold runC doC; rw [if_pos ho]; simp [ek, ec, hn1]
    refine ⟨ho, .inl rfl, by unfold runE doE; rw [if_pos ho]; simp [ek, hn1], kk, kc, ek, hx.trans ec, hkk, hkc, hlv, ?_, ?_, ?_, ?_⟩
    all_goals rw [e]
    · simp
    · exact hrl
    · intro _; simp [hkk]
    · intro h9; omega
  · have e : runC C ⟨6, a, q⟩ = ⟨⟨C.h.l, C.h.r.set kk (kc : Int), C.h.t⟩, C.c⟩ := by unfold runC doC; rw [if_pos ho]; simp [ek, ec, hn1]
    refine ⟨ho, .inr rfl, by unfold runE doE; rw [if_pos ho]; simp [ek, hn1], kk, kc, ek, hx.trans ec, hkk, hkc, hlv, ?_, ?_, ?_, ?_⟩
    all_goals rw [e]
    · simpa using hrl
    · intro h9; omega
    · intro _; simp [hkr]

set_option maxRecDepth 100000 in
set_option maxHeartbeats 4000000 in
theorem lawTargetOf_walk (w : World) (A : Option Addr) (n c : Nat) (h : Inp w A n c) :
    Calls Try.prog 5 #[.slice A n c] w (LawTrue w) := by
  by_cases hbig : 1048576 < n
  · go_enter Try.func5, Try.ntmps5
    go_wp2_with fail
    go_ret
    exact ⟨rfl, Below.refl _ _⟩
  go_enter Try.func5, Try.ntmps5
  go_wp2_with fail
  refine (drawTargetOf_any _ _ _ _ h).mono ?_; rintro e w1 ⟨v, C, ⟨k, a, q⟩, rfl, HA, hb1⟩
  have BW1 : Below w.heap.size w w1 := (Below.refl w.heap.size w).trans (hb1.mono (Below.refl w.heap.size w).size)
  have zz1 : w.heap.size ≤ w1.heap.size := hb1.size
  have HAo := HA
  obtain ⟨A0, n0, c0, A1, n1, c1, A2, n2, c2, A3, n3, c3, rfl, hh, ⟨r0, r1, r2, r3⟩, ⟨l0, l1, l2, l3⟩, ⟨mm0, mm1, mm2, mm3⟩, _⟩ := HAo.open_
  have I := fun W lo v hW => implRunOp_any W lo v C hW ⟨k, a, q⟩
  have S := fun W lo v hW => specRunOp_any W lo v C hW ⟨k, a, q⟩
  clear S
  have TI := fun W lo v hW => implTargetOf_any W lo v C hW ⟨k, a, q⟩
  have TS := fun W lo v hW => specTargetOf_any W lo v C hW ⟨k, a, q⟩
  by_cases ht : tgtX C ⟨k, a, q⟩ = -1
  · rw [ht] at TI TS
    clear ht I
    go_wp2_with fail
    refine (TI _ _ _ ((HA.alloc (.cells #[.slice A0 n0 c0, .slice A1 n1 c1, .slice A2 n2 c2, .slice A3 n3 c3] 27)).alloc (.cells #[.int .i64 k, .int .i64 a, .int .i64 q] 29))).mono ?_; rintro e w2 ⟨rfl, hb2⟩
    have BW2 : Below w.heap.size w w2 := ((BW1.alloc BW1.size (.cells #[.slice A0 n0 c0, .slice A1 n1 c1, .slice A2 n2 c2, .slice A3 n3 c3] 27)).alloc (BW1.alloc BW1.size (.cells #[.slice A0 n0 c0, .slice A1 n1 c1, .slice A2 n2 c2, .slice A3 n3 c3] 27)).size (.cells #[.int .i64 k, .int .i64 a, .int .i64 q] 29)).trans (hb2.mono ((BW1.alloc BW1.size (.cells #[.slice A0 n0 c0, .slice A1 n1 c1, .slice A2 n2 c2, .slice A3 n3 c3] 27)).alloc (BW1.alloc BW1.size (.cells #[.slice A0 n0 c0, .slice A1 n1 c1, .slice A2 n2 c2, .slice A3 n3 c3] 27)).size (.cells #[.int .i64 k, .int .i64 a, .int .i64 q] 29)).size)
    have zz2 : w1.heap.size + 2 ≤ w2.heap.size := by have := hb2.size; simp at this; omega
    have HA_2 := Cv.below (by exact ((HA.alloc (.cells #[.slice A0 n0 c0, .slice A1 n1 c1, .slice A2 n2 c2, .slice A3 n3 c3] 27)).alloc (.cells #[.int .i64 k, .int .i64 a, .int .i64 q] 29))) hb2
    have X_2 := Blk4.below (by exact ((Blk4.new w1 (.slice A0 n0 c0) (.slice A1 n1 c1) (.slice A2 n2 c2) (.slice A3 n3 c3) 27).alloc (.cells #[.int .i64 k, .int .i64 a, .int .i64 q] 29))) hb2
    obtain ⟨cX_2_0, cX_2_1, cX_2_2, cX_2_3, _⟩ := X_2.cells
    have lX_2 := X_2.lt
    have Y_2 := Blk3.below (by exact (Blk3.new_at (w := w1.alloc (.cells #[.slice A0 n0 c0, .slice A1 n1 c1, .slice A2 n2 c2, .slice A3 n3 c3] 27)) (b := w1.heap.size + 1) (by simp) (.int .i64 k) (.int .i64 a) (.int .i64 q) 29)) hb2
    obtain ⟨cY_2_0, cY_2_1, cY_2_2, _⟩ := Y_2.cells
    have lY_2 := Y_2.lt
    go_wp2_with fail
    refine (TS _ _ _ HA_2).mono ?_; rintro e w3 ⟨rfl, hb3⟩
    have BW3 : Below w.heap.size w w3 := BW2.trans (hb3.mono BW2.size)
    have zz3 : w2.heap.size ≤ w3.heap.size := hb3.size
    have HA_3 := Cv.below (by exact HA_2) hb3
    have X_3 := Blk4.below (by exact X_2) hb3
    obtain ⟨cX_3_0, cX_3_1, cX_3_2, cX_3_3, _⟩ := X_3.cells
    have lX_3 := X_3.lt
    have Y_3 := Blk3.below (by exact Y_2) hb3
    obtain ⟨cY_3_0, cY_3_1, cY_3_2, _⟩ := Y_3.cells
    have lY_3 := Y_3.lt
    go_wp2_with fail
    refine (TS _ _ _ HA_3).mono ?_; rintro e w4 ⟨rfl, hb4⟩
    have BW4 : Below w.heap.size w w4 := BW3.trans (hb4.mono BW3.size)
    have zz4 : w3.heap.size ≤ w4.heap.size := hb4.size
    have HA_4 := Cv.below (by exact HA_3) hb4
    have X_4 := Blk4.below (by exact X_3) hb4
    obtain ⟨cX_4_0, cX_4_1, cX_4_2, cX_4_3, _⟩ := X_4.cells
    have lX_4 := X_4.lt
    have Y_4 := Blk3.below (by exact Y_3) hb4
    obtain ⟨cY_4_0, cY_4_1, cY_4_2, _⟩ := Y_4.cells
    have lY_4 := Y_4.lt
    go_wp2_with fail
    go_ret
    exact ⟨by simp, BW4⟩
  · obtain ⟨ho, hk, he, kk, kc, hka, htx, hkl, hcl, hlv, hl1, hl2, h5, h6⟩ := tgt_facts ht
    obtain ⟨ja, jq, rfl, rfl, hja, _⟩ := op_idx ho
    have hat := rootA_at (C := C) (a := (ja : Int)) (by omega) (by omega)
    rw [hka] at hat
    simp only [Int.toNat_natCast] at hat
    have hv := (stoB_parts (runB_iff.1 ho).1).1
    rw [htx] at TI TS
    rw [he, ho] at I
    have RR := fun W lo v hW => implReach_any W lo v C.h hW
    have hyl : (liveL C.h).length = n0 := by rw [liveL_len hv]; exact l0.out
    have e0 := l0.out
    generalize liveL C.h = ys at RR hyl hlv
    have HYL := Lib.hid hyl
    have HLV := Lib.hid hlv
    have HAT := Lib.hid hat
    have hne : ((kc : Int) != (kc : Int)) = false := by simp
    have hcb : ((kc : Int) == -1) = false := by rw [beq_eq_false_iff_ne]; omega
    have hkn : kk < n0 := by omega
    have hcn : kc < n0 := by omega
    have hci : (kc : Int) < (n0 : Int) := by omega
    have hzz : ((kc : Int) == (kc : Int)) = true := by simp
    generalize runC C ⟨k, (ja : Int), (jq : Int)⟩ = D at I hl1 hl2 h5 h6
    clear ht hlv hyl hat htx ho he hv hka
    rcases hk with rfl | rfl
    · have hcell := Lib.hid (h5 rfl)
      clear h5 h6
      go_wp2_with fail
      refine (TI _ _ _ ((HA.alloc (.cells #[.slice A0 n0 c0, .slice A1 n1 c1, .slice A2 n2 c2, .slice A3 n3 c3] 27)).alloc (.cells #[.int .i64 5, .int .i64 (ja : Int), .int .i64 (jq : Int)] 29))).mono ?_; rintro e w2 ⟨rfl, hb2⟩
      have BW2 : Below w.heap.size w w2 := ((BW1.alloc BW1.size (.cells #[.slice A0 n0 c0, .slice A1 n1 c1, .slice A2 n2 c2, .slice A3 n3 c3] 27)).alloc (BW1.alloc BW1.size (.cells #[.slice A0 n0 c0, .slice A1 n1 c1, .slice A2 n2 c2, .slice A3 n3 c3] 27)).size (.cells #[.int .i64 5, .int .i64 (ja : Int), .int .i64 (jq : Int)] 29)).trans (hb2.mono ((BW1.alloc BW1.size (.cells #[.slice A0 n0 c0, .slice A1 n1 c1, .slice A2 n2 c2, .slice A3 n3 c3] 27)).alloc (BW1.alloc BW1.size (.cells #[.slice A0 n0 c0, .slice A1 n1 c1, .slice A2 n2 c2, .slice A3 n3 c3] 27)).size (.cells #[.int .i64 5, .int .i64 (ja : Int), .int .i64 (jq : Int)] 29)).size)
      have zz2 : w1.heap.size + 2 ≤ w2.heap.size := by have := hb2.size; simp at this; omega
      have HA_2 := Cv.below (by exact ((HA.alloc (.cells #[.slice A0 n0 c0, .slice A1 n1 c1, .slice A2 n2 c2, .slice A3 n3 c3] 27)).alloc (.cells #[.int .i64 5, .int .i64 (ja : Int), .int .i64 (jq : Int)] 29))) hb2
      have X_2 := Blk4.below (by exact ((Blk4.new w1 (.slice A0 n0 c0) (.slice A1 n1 c1) (.slice A2 n2 c2) (.slice A3 n3 c3) 27).alloc (.cells #[.int .i64 5, .int .i64 (ja : Int), .int .i64 (jq : Int)] 29))) hb2
      obtain ⟨cX_2_0, cX_2_1, cX_2_2, cX_2_3, _⟩ := X_2.cells
      have lX_2 := X_2.lt
      have Y_2 := Blk3.below (by exact (Blk3.new_at (w := w1.alloc (.cells #[.slice A0 n0 c0, .slice A1 n1 c1, .slice A2 n2 c2, .slice A3 n3 c3] 27)) (b := w1.heap.size + 1) (by simp) (.int .i64 5) (.int .i64 (ja : Int)) (.int .i64 (jq : Int)) 29)) hb2
      obtain ⟨cY_2_0, cY_2_1, cY_2_2, _⟩ := Y_2.cells
      have lY_2 := Y_2.lt
      go_wp2_with fail
      refine (TS _ _ _ HA_2).mono ?_; rintro e w3 ⟨rfl, hb3⟩
      have BW3 : Below w.heap.size w w3 := BW2.trans (hb3.mono BW2.size)
      have zz3 : w2.heap.size ≤ w3.heap.size := hb3.size
      have HA_3 := Cv.below (by exact HA_2) hb3
      have X_3 := Blk4.below (by exact X_2) hb3
      obtain ⟨cX_3_0, cX_3_1, cX_3_2, cX_3_3, _⟩ := X_3.cells
      have lX_3 := X_3.lt
      have Y_3 := Blk3.below (by exact Y_2) hb3
      obtain ⟨cY_3_0, cY_3_1, cY_3_2, _⟩ := Y_3.cells
      have lY_3 := Y_3.lt
      go_wp2_with fail
      refine (I _ _ _ HA_3).mono ?_; rintro e w4 ⟨v, rfl, HB, hb4⟩
      have HBb := HB
      obtain ⟨U0, s0, f0, U1, s1, f1, U2, s2, f2, U3, s3, f3, rfl, _⟩ := HBb.open_
      have BW4 : Below w.heap.size w w4 := BW3.trans (hb4.mono BW3.size)
      have zz4 : w3.heap.size ≤ w4.heap.size := hb4.size
      have HA_4 := Cv.below (by exact HA_3) hb4
      have X_4 := Blk4.below (by exact X_3) hb4
      obtain ⟨cX_4_0, cX_4_1, cX_4_2, cX_4_3, _⟩ := X_4.cells
      have lX_4 := X_4.lt
      have Y_4 := Blk3.below (by exact Y_3) hb4
      obtain ⟨cY_4_0, cY_4_1, cY_4_2, _⟩ := Y_4.cells
      have lY_4 := Y_4.lt
      go_wp2_with fail
      refine (RR _ _ _ (Cv.hv5 (HA_4.alloc (.cells #[.slice U0 s0 f0, .slice U1 s1 f1, .slice U2 s2 f2, .slice U3 s3 f3] 27)))).mono ?_; rintro e w5 ⟨A5, k5, rfl, R5, hb5⟩
      have BW5 : Below w.heap.size w w5 := (BW4.alloc BW4.size (.cells #[.slice U0 s0 f0, .slice U1 s1 f1, .slice U2 s2 f2, .slice U3 s3 f3] 27)).trans (hb5.mono (BW4.alloc BW4.size (.cells #[.slice U0 s0 f0, .slice U1 s1 f1, .slice U2 s2 f2, .slice U3 s3 f3] 27)).size)
      have zz5 : w4.heap.size + 1 ≤ w5.heap.size := by have := hb5.size; simp at this; omega
      have HA_5 := Cv.below (by exact (HA_4.alloc (.cells #[.slice U0 s0 f0, .slice U1 s1 f1, .slice U2 s2 f2, .slice U3 s3 f3] 27))) hb5
      have X_5 := Blk4.below (by exact (X_4.alloc (.cells #[.slice U0 s0 f0, .slice U1 s1 f1, .slice U2 s2 f2, .slice U3 s3 f3] 27))) hb5
      obtain ⟨cX_5_0, cX_5_1, cX_5_2, cX_5_3, _⟩ := X_5.cells
      have lX_5 := X_5.lt
      have Y_5 := Blk3.below (by exact (Y_4.alloc (.cells #[.slice U0 s0 f0, .slice U1 s1 f1, .slice U2 s2 f2, .slice U3 s3 f3] 27))) hb5
      obtain ⟨cY_5_0, cY_5_1, cY_5_2, _⟩ := Y_5.cells
      have lY_5 := Y_5.lt
      have HB_5 := Cv.below (by exact (HB.alloc (.cells #[.slice U0 s0 f0, .slice U1 s1 f1, .slice U2 s2 f2, .slice U3 s3 f3] 27))) hb5
      have P_5 := Blk4.below (by exact (Blk4.new w4 (.slice U0 s0 f0) (.slice U1 s1 f1) (.slice U2 s2 f2) (.slice U3 s3 f3) 27)) hb5
      obtain ⟨cP_5_0, cP_5_1, cP_5_2, cP_5_3, _⟩ := P_5.cells
      have lP_5 := P_5.lt
      rw [HYL.out] at R5 ⊢
      obtain ⟨gr, b, er, _, _, hb, hcb5, _⟩ := R5.get (k := kc) (by have := HYL.out; omega)
      cases er
      obtain rfl : b = true := by have h9 := hb.out; rw [HLV.out] at h9; simpa using h9.symm
      have qa := (HA_5).rowsS.2.2.1
      obtain ⟨ga, za, ea, _, hga, haz, ca, _⟩ := qa.get (k := ja) (by first | omega | (have := lenS qa; omega))
      subst ea
      obtain rfl : za = (kk : Int) := by have h9 := haz.out; rw [HAT.out] at h9; simpa using h9.symm
      have la := lenS qa
      have ql := (HB_5).rowsS.1
      obtain ⟨gl, zl, el, _, hgl, hlz, cl, _⟩ := ql.get (k := kk) (by first | omega | (have := lenS ql; omega))
      subst el
      have ll := lenS ql
      have hji : (ja : Int) < (n2 : Int) := by omega
      have hki : (kk : Int) < (s0 : Int) := by omega
      obtain rfl : zl = (kc : Int) := by have h9 := hlz.out; rw [hcell.out] at h9; simpa using h9.symm
      clear hb haz hlz qa ql hcell
      go_wp2_with fail
      go_ret
      exact ⟨by simp, BW5⟩
    · have hcell := Lib.hid (h6 rfl)
      clear h5 h6
      go_wp2_with fail
      refine (TI _ _ _ ((HA.alloc (.cells #[.slice A0 n0 c0, .slice A1 n1 c1, .slice A2 n2 c2, .slice A3 n3 c3] 27)).alloc (.cells #[.int .i64 6, .int .i64 (ja : Int), .int .i64 (jq : Int)] 29))).mono ?_; rintro e w2 ⟨rfl, hb2⟩
      have BW2 : Below w.heap.size w w2 := ((BW1.alloc BW1.size (.cells #[.slice A0 n0 c0, .slice A1 n1 c1, .slice A2 n2 c2, .slice A3 n3 c3] 27)).alloc (BW1.alloc BW1.size (.cells #[.slice A0 n0 c0, .slice A1 n1 c1, .slice A2 n2 c2, .slice A3 n3 c3] 27)).size (.cells #[.int .i64 6, .int .i64 (ja : Int), .int .i64 (jq : Int)] 29)).trans (hb2.mono ((BW1.alloc BW1.size (.cells #[.slice A0 n0 c0, .slice A1 n1 c1, .slice A2 n2 c2, .slice A3 n3 c3] 27)).alloc (BW1.alloc BW1.size (.cells #[.slice A0 n0 c0, .slice A1 n1 c1, .slice A2 n2 c2, .slice A3 n3 c3] 27)).size (.cells #[.int .i64 6, .int .i64 (ja : Int), .int .i64 (jq : Int)] 29)).size)
      have zz2 : w1.heap.size + 2 ≤ w2.heap.size := by have := hb2.size; simp at this; omega
      have HA_2 := Cv.below (by exact ((HA.alloc (.cells #[.slice A0 n0 c0, .slice A1 n1 c1, .slice A2 n2 c2, .slice A3 n3 c3] 27)).alloc (.cells #[.int .i64 6, .int .i64 (ja : Int), .int .i64 (jq : Int)] 29))) hb2
      have X_2 := Blk4.below (by exact ((Blk4.new w1 (.slice A0 n0 c0) (.slice A1 n1 c1) (.slice A2 n2 c2) (.slice A3 n3 c3) 27).alloc (.cells #[.int .i64 6, .int .i64 (ja : Int), .int .i64 (jq : Int)] 29))) hb2
      obtain ⟨cX_2_0, cX_2_1, cX_2_2, cX_2_3, _⟩ := X_2.cells
      have lX_2 := X_2.lt
      have Y_2 := Blk3.below (by exact (Blk3.new_at (w := w1.alloc (.cells #[.slice A0 n0 c0, .slice A1 n1 c1, .slice A2 n2 c2, .slice A3 n3 c3] 27)) (b := w1.heap.size + 1) (by simp) (.int .i64 6) (.int .i64 (ja : Int)) (.int .i64 (jq : Int)) 29)) hb2
      obtain ⟨cY_2_0, cY_2_1, cY_2_2, _⟩ := Y_2.cells
      have lY_2 := Y_2.lt
      go_wp2_with fail
      refine (TS _ _ _ HA_2).mono ?_; rintro e w3 ⟨rfl, hb3⟩
      have BW3 : Below w.heap.size w w3 := BW2.trans (hb3.mono BW2.size)
      have zz3 : w2.heap.size ≤ w3.heap.size := hb3.size
      have HA_3 := Cv.below (by exact HA_2) hb3
      have X_3 := Blk4.below (by exact X_2) hb3
      obtain ⟨cX_3_0, cX_3_1, cX_3_2, cX_3_3, _⟩ := X_3.cells
      have lX_3 := X_3.lt
      have Y_3 := Blk3.below (by exact Y_2) hb3
      obtain ⟨cY_3_0, cY_3_1, cY_3_2, _⟩ := Y_3.cells
      have lY_3 := Y_3.lt
      go_wp2_with fail
      refine (I _ _ _ HA_3).mono ?_; rintro e w4 ⟨v, rfl, HB, hb4⟩
      have HBb := HB
      obtain ⟨U0, s0, f0, U1, s1, f1, U2, s2, f2, U3, s3, f3, rfl, _⟩ := HBb.open_
      have BW4 : Below w.heap.size w w4 := BW3.trans (hb4.mono BW3.size)
      have zz4 : w3.heap.size ≤ w4.heap.size := hb4.size
      have HA_4 := Cv.below (by exact HA_3) hb4
      have X_4 := Blk4.below (by exact X_3) hb4
      obtain ⟨cX_4_0, cX_4_1, cX_4_2, cX_4_3, _⟩ := X_4.cells
      have lX_4 := X_4.lt
      have Y_4 := Blk3.below (by exact Y_3) hb4
      obtain ⟨cY_4_0, cY_4_1, cY_4_2, _⟩ := Y_4.cells
      have lY_4 := Y_4.lt
      go_wp2_with fail
      refine (RR _ _ _ (Cv.hv5 (HA_4.alloc (.cells #[.slice U0 s0 f0, .slice U1 s1 f1, .slice U2 s2 f2, .slice U3 s3 f3] 27)))).mono ?_; rintro e w5 ⟨A5, k5, rfl, R5, hb5⟩
      have BW5 : Below w.heap.size w w5 := (BW4.alloc BW4.size (.cells #[.slice U0 s0 f0, .slice U1 s1 f1, .slice U2 s2 f2, .slice U3 s3 f3] 27)).trans (hb5.mono (BW4.alloc BW4.size (.cells #[.slice U0 s0 f0, .slice U1 s1 f1, .slice U2 s2 f2, .slice U3 s3 f3] 27)).size)
      have zz5 : w4.heap.size + 1 ≤ w5.heap.size := by have := hb5.size; simp at this; omega
      have HA_5 := Cv.below (by exact (HA_4.alloc (.cells #[.slice U0 s0 f0, .slice U1 s1 f1, .slice U2 s2 f2, .slice U3 s3 f3] 27))) hb5
      have X_5 := Blk4.below (by exact (X_4.alloc (.cells #[.slice U0 s0 f0, .slice U1 s1 f1, .slice U2 s2 f2, .slice U3 s3 f3] 27))) hb5
      obtain ⟨cX_5_0, cX_5_1, cX_5_2, cX_5_3, _⟩ := X_5.cells
      have lX_5 := X_5.lt
      have Y_5 := Blk3.below (by exact (Y_4.alloc (.cells #[.slice U0 s0 f0, .slice U1 s1 f1, .slice U2 s2 f2, .slice U3 s3 f3] 27))) hb5
      obtain ⟨cY_5_0, cY_5_1, cY_5_2, _⟩ := Y_5.cells
      have lY_5 := Y_5.lt
      have HB_5 := Cv.below (by exact (HB.alloc (.cells #[.slice U0 s0 f0, .slice U1 s1 f1, .slice U2 s2 f2, .slice U3 s3 f3] 27))) hb5
      have P_5 := Blk4.below (by exact (Blk4.new w4 (.slice U0 s0 f0) (.slice U1 s1 f1) (.slice U2 s2 f2) (.slice U3 s3 f3) 27)) hb5
      obtain ⟨cP_5_0, cP_5_1, cP_5_2, cP_5_3, _⟩ := P_5.cells
      have lP_5 := P_5.lt
      rw [HYL.out] at R5 ⊢
      obtain ⟨gr, b, er, _, _, hb, hcb5, _⟩ := R5.get (k := kc) (by have := HYL.out; omega)
      cases er
      obtain rfl : b = true := by have h9 := hb.out; rw [HLV.out] at h9; simpa using h9.symm
      have qa := (HA_5).rowsS.2.2.1
      obtain ⟨ga, za, ea, _, hga, haz, ca, _⟩ := qa.get (k := ja) (by first | omega | (have := lenS qa; omega))
      subst ea
      obtain rfl : za = (kk : Int) := by have h9 := haz.out; rw [HAT.out] at h9; simpa using h9.symm
      have la := lenS qa
      have ql := (HB_5).rowsS.1
      obtain ⟨gl, zl, el, _, hgl, hlz, cl, _⟩ := ql.get (k := kk) (by first | omega | (have := lenS ql; omega))
      subst el
      have ll := lenS ql
      have hji : (ja : Int) < (n2 : Int) := by omega
      have hki : (kk : Int) < (s0 : Int) := by omega
      have qr := (HB_5).rowsS.2.1
      obtain ⟨gR, zr, er, _, hgR, hrz, cr, _⟩ := qr.get (k := kk) (by first | omega | (have := lenS qr; omega))
      subst er
      have lr := lenS qr
      have hkr : (kk : Int) < (s1 : Int) := by omega
      obtain rfl : zr = (kc : Int) := by have h9 := hrz.out; rw [hcell.out] at h9; simpa using h9.symm
      clear hb haz hlz hrz qa ql qr hcell
      rcases hzl : (zl == (kc : Int))
      · go_wp2_with fail
        go_ret
        exact ⟨by simp, BW5⟩
      · go_wp2_with fail
        go_ret
        exact ⟨by simp, BW5⟩
end Go.Proofs.Ythbflohanjnaeaa
