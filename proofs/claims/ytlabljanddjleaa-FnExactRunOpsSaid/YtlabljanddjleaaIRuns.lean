/- RunOps of impl. -/
import Derived.Test.YtlabljanddjleaaIRun
import Derived.Test.YtlabljanddjleaaOps
namespace Go.Proofs.Ytlabljanddjleaa
open Go.RowKit

theorem run_roots {C : Cp} {o : Opv} (h : runB C o = true) : (runC C o).h.t.length = C.h.t.length := by
  unfold runC
  rw [if_pos h]
  split
  · split
    · rename_i ha
      unfold allocC
      rw [if_pos ha]
      simp
    · rfl
  · unfold doC
    repeat' split
    all_goals simp

set_option maxRecDepth 100000 in
set_option maxHeartbeats 4000000 in
theorem opsValid_any (w : World) (lo : Nat) (A : Option Addr) (n c : Nat) (os : List Opv) (hu : ORow w lo (.slice A n c) os) (hn : Hid (os.length = n)) (hn63 : n ≤ 9223372036854775807) (r : Int) :
    Calls Try.prog 49 #[.slice A n c, .int .i64 r] w (RetB w (decide (n ≤ 12) && opsB r os)) := by
  by_cases h12 : 12 < n
  · have hf : Hid ((decide (n ≤ 12) && opsB r os) = false) := by unfold Hid; rw [decide_eq_false (by omega)]; rfl
    have hb12 : (12 : Int) < (n : Int) := by omega
    go_enter Try.func49, Try.ntmps49
    go_wp2_with fail
    go_ret
    exact ⟨ret_bool hf.out.symm, Below.refl _ _⟩
  · have hf0 : Hid ((decide (n ≤ 12) && opsB r os) = opsB r os) := by unfold Hid; rw [decide_eq_true (by omega)]; rfl
    have hb12 : ¬ ((12 : Int) < (n : Int)) := by omega
    have OV := fun W o => implOpValid_any W o r
    go_enter Try.func49, Try.ntmps49
    go_wp2_with fail
    go_loopw [12] (fun i wr => ∃ k : Nat, k ≤ n ∧ i = .int .i64 (k : Int) ∧ Hid (∀ (j : Nat) (o : Opv), j < k → os[j]? = some o → opB o r = true) ∧ ORow wr lo (.slice A n c) os ∧ Below w.heap.size w wr) (fun i _ => n - (intOf i).toNat)
    case atStart => exact ⟨0, Nat.zero_le _, rfl, fun j o hj => absurd hj (Nat.not_lt_zero _), hu, Below.refl _ _⟩
    case round =>
      obtain ⟨k, hk, rfl, hpre, U3, B3⟩ := hrel
      clear hu
      by_cases hkn : k < n
      · obtain ⟨g, ⟨ok, oa, oq⟩, rfl, _, hg, ho, o0, o1, o2⟩ := U3.get (k := k) (by rw [hn.out]; exact hkn)
        simp only at o0 o1 o2
        have hkni : (k : Int) < (n : Int) := by omega
        have OO := fun W => OV W ⟨ok, oa, oq⟩
        have B4 : Below w.heap.size w (wr.alloc (.cells #[.int .i64 ok, .int .i64 oa, .int .i64 oq] 25)) := B3.alloc B3.size _
        have U4 := U3.alloc (.cells #[.int .i64 ok, .int .i64 oa, .int .i64 oq] 25)
        rcases eo : opB ⟨ok, oa, oq⟩ r
        · have hf : Hid ((decide (n ≤ 12) && opsB r os) = false) := by unfold Hid; rw [hf0.out]; exact opsB_not ho.out eo
          rw [eo] at OO
          clear eo hpre OV hf0
          go_wp2_with fail
          refine (OO _).mono ?_; rintro e w4 ⟨rfl, hb4⟩
          have B5 := B4.trans (hb4.mono B4.size)
          go_wp2_with fail
          go_ret
          exact ⟨ret_bool hf.out.symm, B5⟩
        · have hnx : Hid (∀ (j : Nat) (o : Opv), j < k + 1 → os[j]? = some o → opB o r = true) := fun j o hj h => by
            by_cases e : j = k
            · subst e; have h9 := ho.out; rw [h] at h9; cases h9; exact eo
            · exact hpre.out j o (by omega) h
          rw [eo] at OO
          clear eo hpre OV
          go_wp2_with fail
          refine (OO _).mono ?_; rintro e w4 ⟨rfl, hb4⟩
          have B5 := B4.trans (hb4.mono B4.size)
          have U5 := U4.below hb4
          go_wp2_with fail
          go_roundw
          case rel => exact ⟨k + 1, by omega, by go_num, hnx, U5, B5⟩
          case measure => simp [intOf]; omega
      · obtain rfl : n = k := by omega
        have hall : opsB r os = true := opsB_all fun j o hj => hpre.out j o (by have := (List.getElem?_eq_some_iff.1 hj).1; have := hn.out; omega) hj
        have hf : Hid ((decide (n ≤ 12) && opsB r os) = true) := by unfold Hid; rw [hf0.out]; exact hall
        clear hall hpre hf0
        go_wp2_with fail
        go_ret
        exact ⟨ret_bool hf.out.symm, B3⟩

set_option maxRecDepth 100000 in
set_option maxHeartbeats 8000000 in
theorem implRunOps_any (w : World) (lo lo2 : Nat) (v u : Value) (C : Cp) (os : List Opv) (hv : Cv w lo v C) (hu : ORow w lo2 u os) :
    Calls Try.prog 21 #[v, u] w (OptCI w (progC C os) (progN C os) (progB C os)) := by
  obtain ⟨A, c, rfl, hnc, hcm⟩ := hu.form
  obtain ⟨n, hn⟩ : ∃ n, Hid (os.length = n) := ⟨_, rfl⟩
  rw [hn.out] at hu hnc ⊢
  have hvo := hv
  obtain ⟨A0, n0, c0, A1, n1, c1, A2, n2, c2, A3, n3, c3, rfl, _, _, ⟨l0, l1, l2, l3⟩, ⟨b0, b1, b2, b3⟩, _⟩ := hvo.open_
  have hn63 : n ≤ 9223372036854775807 := by unfold maxLen at hcm; omega
  have X := (Blk4.new w (.slice A0 n0 c0) (.slice A1 n1 c1) (.slice A2 n2 c2) (.slice A3 n3 c3) 36).alloc (.cells #[.slice none 0 0, .slice none 0 0, .slice none 0 0, .slice none 0 0] 36)
  have Q := Blk4.new_at (w := w.alloc (.cells #[.slice A0 n0 c0, .slice A1 n1 c1, .slice A2 n2 c2, .slice A3 n3 c3] 36)) (b := w.heap.size + 1) (by simp) (.slice none 0 0) (.slice none 0 0) (.slice none 0 0) (.slice none 0 0) 36
  have VV := (hv.alloc (.cells #[.slice A0 n0 c0, .slice A1 n1 c1, .slice A2 n2 c2, .slice A3 n3 c3] 36)).alloc (.cells #[.slice none 0 0, .slice none 0 0, .slice none 0 0, .slice none 0 0] 36)
  have UU := (hu.alloc (.cells #[.slice A0 n0 c0, .slice A1 n1 c1, .slice A2 n2 c2, .slice A3 n3 c3] 36)).alloc (.cells #[.slice none 0 0, .slice none 0 0, .slice none 0 0, .slice none 0 0] 36)
  have BB : Below w.heap.size w ((w.alloc (.cells #[.slice A0 n0 c0, .slice A1 n1 c1, .slice A2 n2 c2, .slice A3 n3 c3] 36)).alloc (.cells #[.slice none 0 0, .slice none 0 0, .slice none 0 0, .slice none 0 0] 36)) := ((Below.refl _ w).alloc (Nat.le_refl _) _).alloc (by simp) _
  have sz : ((w.alloc (.cells #[.slice A0 n0 c0, .slice A1 n1 c1, .slice A2 n2 c2, .slice A3 n3 c3] 36)).alloc (.cells #[.slice none 0 0, .slice none 0 0, .slice none 0 0, .slice none 0 0] 36)).heap.size = w.heap.size + 2 := by simp
  have V := implStoreValid_any _ _ _ _ VV
  have e2 := l2.out
  have hgw : Hid (∀ b, (Value.slice A n c).ownBlock = some b → b < w.heap.size) := fun b hb => (hu.lt b hb).2
  have OVV := fun W hW => opsValid_any W lo2 A n c os hW hn hn63 (n2 : Int)
  have hB : Hid (progB C os = (stoB C && (decide (n ≤ 12) && opsB (n2 : Int) os))) := by unfold Hid progB; rw [hn.out, e2, Bool.and_assoc]
  clear hv hu hvo hnc hcm
  have bad : ∀ {P : Prop}, (progB C os = false → P) → progB C os = false → P := fun h => h
  rcases ev : stoB C
  · have hf : Hid (progB C os = false) := by unfold Hid; rw [hB.out, ev]; rfl
    have hc : Hid (progC C os = Cp.zero) := by unfold Hid progC; rw [hf.out]; simp
    have hx : Hid (progN C os = 0) := by unfold Hid progN; rw [hf.out]; simp
    rw [ev] at V
    clear ev hB bad
    go_enter Try.func21, Try.ntmps21
    go_wp2_with fail
    generalize ((w.alloc (.cells #[.slice A0 n0 c0, .slice A1 n1 c1, .slice A2 n2 c2, .slice A3 n3 c3] 36)).alloc (.cells #[.slice none 0 0, .slice none 0 0, .slice none 0 0, .slice none 0 0] 36)) = W at X Q VV UU BB sz V ⊢
    obtain ⟨x0, x1, x2, x3, _⟩ := X.cells
    go_wp2_with fail
    refine V.mono ?_; rintro e w1 ⟨rfl, hb1⟩
    have Q1 := Q.below hb1
    have B1 := BB.trans (hb1.mono BB.size)
    clear X Q VV UU BB sz V hb1 x0 x1 x2 x3
    obtain ⟨q0, q1, q2, q3, f0, f1, f2, f3⟩ := Q1.cells
    obtain ⟨hZ, hB⟩ := zero_done (w := w) (b := w.heap.size + 1) (by omega) B1
    go_wp2_with fail
    rw [hf.out, hc.out, hx.out]
    refine bodyPost_ret (v := .tuple #[.agg #[.slice none 0 0, .slice none 0 0, .slice none 0 0, .slice none 0 0], .int .i64 0, .bool false]) ?_ rfl ⟨_, rfl, hZ, hB⟩
    simp [results, Try.results21, go_sem, q0, q1, q2, q3]
  · have hC := ev
    rw [ev] at V
    rcases eo : (decide (n ≤ 12) && opsB (n2 : Int) os)
    · have hf : Hid (progB C os = false) := by unfold Hid; rw [hB.out, ev, eo]; rfl
      have hc : Hid (progC C os = Cp.zero) := by unfold Hid progC; rw [hf.out]; simp
      have hx : Hid (progN C os = 0) := by unfold Hid progN; rw [hf.out]; simp
      rw [eo] at OVV
      clear ev eo hB bad hC
      go_enter Try.func21, Try.ntmps21
      go_wp2_with fail
      generalize ((w.alloc (.cells #[.slice A0 n0 c0, .slice A1 n1 c1, .slice A2 n2 c2, .slice A3 n3 c3] 36)).alloc (.cells #[.slice none 0 0, .slice none 0 0, .slice none 0 0, .slice none 0 0] 36)) = W at X Q VV UU BB sz V ⊢
      obtain ⟨x0, x1, x2, x3, _⟩ := X.cells
      go_wp2_with fail
      refine V.mono ?_; rintro e w1 ⟨rfl, hb1⟩
      have X1 := X.below hb1
      have Q1 := Q.below hb1
      have U1 := UU.below hb1
      have B1 := BB.trans (hb1.mono BB.size)
      clear X Q VV UU BB sz V hb1 x0 x1 x2 x3
      obtain ⟨x0, x1, x2, x3, _⟩ := X1.cells
      go_wp2_with fail
      refine (OVV _ U1).mono ?_; rintro e w2 ⟨rfl, hb2⟩
      have Q2 := Q1.below hb2
      have B2 := B1.trans (hb2.mono B1.size)
      clear X1 Q1 U1 B1 hb2 x0 x1 x2 x3
      obtain ⟨q0, q1, q2, q3, f0, f1, f2, f3⟩ := Q2.cells
      obtain ⟨hZ, hB⟩ := zero_done (w := w) (b := w.heap.size + 1) (by omega) B2
      go_wp2_with fail
      rw [hf.out, hc.out, hx.out]
      refine bodyPost_ret (v := .tuple #[.agg #[.slice none 0 0, .slice none 0 0, .slice none 0 0, .slice none 0 0], .int .i64 0, .bool false]) ?_ rfl ⟨_, rfl, hZ, hB⟩
      simp [results, Try.results21, go_sem, q0, q1, q2, q3]
    · have hf : Hid (progB C os = true) := by unfold Hid; rw [hB.out, ev, eo]; rfl
      have hc : Hid (progC C os = (runsC C os).1) := by unfold Hid progC; rw [hf.out]; simp
      have hx : Hid (progN C os = ((runsC C os).2 : Int)) := by unfold Hid progN; rw [hf.out]; simp
      rw [eo] at OVV
      rw [Bool.and_eq_true] at eo
      have hval := Lib.hid (opsB_iff.1 eo.2)
      have CS := fun W (hW : Cv W lo (.agg #[.slice A0 n0 c0, .slice A1 n1 c1, .slice A2 n2 c2, .slice A3 n3 c3]) C) => copyS_valid W lo _ C hW hC
      have SO := fun W o => stepOf_any W o
      have hC9 := Lib.hid hC
      clear ev eo hB bad hC
      go_enter Try.func21, Try.ntmps21
      go_wp2_with fail
      generalize ((w.alloc (.cells #[.slice A0 n0 c0, .slice A1 n1 c1, .slice A2 n2 c2, .slice A3 n3 c3] 36)).alloc (.cells #[.slice none 0 0, .slice none 0 0, .slice none 0 0, .slice none 0 0] 36)) = W at X Q VV UU BB sz V ⊢
      obtain ⟨x0, x1, x2, x3, _⟩ := X.cells
      go_wp2_with fail
      refine V.mono ?_; rintro e w1 ⟨rfl, hb1⟩
      have X1 := X.below hb1
      have Q1 := Q.below hb1
      have U1 := UU.below hb1
      have V1 := VV.below hb1
      have B1 := BB.trans (hb1.mono BB.size)
      have z1 := hb1.size
      rw [sz] at z1
      clear X Q VV UU BB sz V hb1 x0 x1 x2 x3
      obtain ⟨x0, x1, x2, x3, _⟩ := X1.cells
      go_wp2_with fail
      refine (OVV _ U1).mono ?_; rintro e w2 ⟨rfl, hb2⟩
      have X2 := X1.below hb2
      have Q2 := Q1.below hb2
      have U2 := U1.below hb2
      have V2 := V1.below hb2
      have B2 := B1.trans (hb2.mono B1.size)
      have z2 := hb2.size
      clear X1 Q1 U1 V1 B1 hb2 x0 x1 x2 x3 OVV
      obtain ⟨x0, x1, x2, x3, _⟩ := X2.cells
      go_wp2_with fail
      refine (CS _ V2).mono ?_; rintro e w3 ⟨vv, rfl, HN, hb3⟩
      have HNo := HN
      obtain ⟨D0, m0, d0, D1, m1, d1, D2, m2, d2, D3, m3, d3, rfl, _⟩ := HNo.open_
      have s3 := hb3.size
      have ow := HN.ownLt w3.heap.size (.inr (Nat.le_refl _))
      have Q3 := (Q2.below hb3).alloc (.cells #[.slice D0 m0 d0, .slice D1 m1 d1, .slice D2 m2 d2, .slice D3 m3 d3] 36)
      have U3 := (U2.below hb3).alloc (.cells #[.slice D0 m0 d0, .slice D1 m1 d1, .slice D2 m2 d2, .slice D3 m3 d3] 36)
      have B3 : Below w.heap.size w (w3.alloc (.cells #[.slice D0 m0 d0, .slice D1 m1 d1, .slice D2 m2 d2, .slice D3 m3 d3] 36)) := (B2.trans (hb3.mono (by omega))).alloc (by omega) _
      have S3 : StoAt (w3.alloc (.cells #[.slice D0 m0 d0, .slice D1 m1 d1, .slice D2 m2 d2, .slice D3 m3 d3] 36)) (w.heap.size + 2) w3.heap.size C := ⟨_, _, _, _, Blk4.new w3 _ _ _ _ _, (HN.alloc _).mono (by omega), ow⟩
      have z3 : w3.heap.size + 1 ≤ (w3.alloc (.cells #[.slice D0 m0 d0, .slice D1 m1 d1, .slice D2 m2 d2, .slice D3 m3 d3] 36)).heap.size := by simp
      have hb7 : w.heap.size + 2 ≤ w3.heap.size := by omega
      clear x0 x1 x2 x3 X2 Q2 U2 V2 B2 HN hb3 z1 z2 s3 CS
      go_wp2_with fail
      generalize w3.alloc (.cells #[.slice D0 m0 d0, .slice D1 m1 d1, .slice D2 m2 d2, .slice D3 m3 d3] 36) = W3 at Q3 U3 B3 S3 z3 ⊢
      generalize w3.heap.size = b7 at S3 z3 hb7 ⊢
      go_loopw [27] (fun i wr => ∃ (k : Nat) (D : Cp), k ≤ n ∧ i = .int .i64 (k : Int) ∧ Hid (AtK C os k D) ∧ Hid (stoB D = true ∧ D.h.t.length = n2) ∧ Blk4 wr (w.heap.size + 1) (.slice none 0 0) (.slice none 0 0) (.slice none 0 0) (.slice none 0 0) 36 ∧ ORow wr lo2 (.slice A n c) os ∧ StoAt wr (w.heap.size + 2) b7 D ∧ Below w.heap.size w wr ∧ b7 + 1 ≤ wr.heap.size) (fun i _ => n - (intOf i).toNat)
      case atStart => exact ⟨0, C, Nat.zero_le _, rfl, atK_start C os, ⟨hC9.out, e2⟩, Q3, U3, S3, B3, z3⟩
      case round =>
        obtain ⟨k, D, hk, rfl, hat, hD, Q4, U4, S4, B4, z4⟩ := hrel
        clear Q3 U3 S3 B3 z3
        by_cases hkn : k < n
        · obtain ⟨g, ⟨ok, oa, oq⟩, rfl, _, hg, ho, o0, o1, o2⟩ := U4.get (k := k) (by rw [hn.out]; exact hkn)
          simp only at o0 o1 o2
          have hkni : (k : Int) < (n : Int) := by omega
          have hgw9 := hgw.out g rfl
          have hov : opB ⟨ok, oa, oq⟩ (n2 : Int) = true := hval.out _ (List.mem_of_getElem? ho.out)
          have hrb : runB D ⟨ok, oa, oq⟩ = true := runB_iff.2 ⟨hD.out.1, by rw [hD.out.2]; exact hov⟩
          obtain ⟨hk17, _⟩ := opB_iff.1 hov
          obtain ⟨T, v0, f, hsv, hni, hm, hcf, hs⟩ := step_any (o := ⟨ok, oa, oq⟩) hk17
          have HS := fun w lo b hw hl => hs w lo b D hw hl hrb
          have SS := fun W => SO W ⟨ok, oa, oq⟩
          rw [hsv] at SS
          have hD2 : Hid (stoB (runC D ⟨ok, oa, oq⟩) = true ∧ (runC D ⟨ok, oa, oq⟩).h.t.length = n2) := ⟨run_valid hrb, by rw [run_roots hrb]; exact hD.out.2⟩
          have hsame := Lib.hid (fun he => run_same hrb he)
          have Q5 := Q4.alloc (.cells #[.int .i64 ok, .int .i64 oa, .int .i64 oq] 25)
          have U5 := U4.alloc (.cells #[.int .i64 ok, .int .i64 oa, .int .i64 oq] 25)
          have S5 := S4.below ((Below.refl wr.heap.size wr).alloc (Nat.le_refl _) (.cells #[.int .i64 ok, .int .i64 oa, .int .i64 oq] 25))
          have B5 : Below w.heap.size w (wr.alloc (.cells #[.int .i64 ok, .int .i64 oa, .int .i64 oq] 25)) := B4.alloc B4.size _
          have Y5 := Blk3.new wr (.int .i64 ok) (.int .i64 oa) (.int .i64 oq) 25
          have z5 : b7 + 1 ≤ (wr.alloc (.cells #[.int .i64 ok, .int .i64 oa, .int .i64 oq] 25)).heap.size := by simp; omega
          clear hk17 hov hrb hs hsv hD
          by_cases he : runE D ⟨ok, oa, oq⟩ = 0
          · rw [he] at hsame
            have hnx := Lib.hid (atK_next hat.out ho.out he)
            have he9 := Lib.hid he
            clear he hsame hat
            obtain ⟨y0, y1, y2, _⟩ := Y5.cells
            go_wp2_with fail
            generalize wr.alloc (.cells #[.int .i64 ok, .int .i64 oa, .int .i64 oq] 25) = W5 at Q5 U5 S5 B5 Y5 z5 y0 y1 y2 ⊢
            refine (SS _).mono ?_; rintro e w6 ⟨rfl, hb6⟩
            have Q6 := Q5.below hb6
            have U6 := U5.below hb6
            have S6 := S5.below hb6
            have B6 := B5.trans (hb6.mono B5.size)
            have z6 := hb6.size
            clear Q5 U5 S5 B5 Y5 hb6 y0 y1 y2 SS
            go_wp2_with fail
            refine (HS _ _ _ S6 hb7).mono ?_; rintro e w7 ⟨rfl, S7, hb7'⟩
            have Q7 := Q6.belowAt hb7' (by omega)
            have U7 : ORow w7 lo2 _ os := U6.farO hb7' (fun b hb => by have := hgw.out b hb; omega)
            have B7 := B6.trans (hb7'.mono (by omega))
            have z7 := hb7'.size
            rw [he9.out]
            go_wp2_with fail
            go_roundw
            case rel => exact ⟨k + 1, _, by omega, by go_num, hnx, hD2, Q7, U7, S7, B7, by omega⟩
            case measure => simp [intOf]; omega
          · have hst := Lib.hid (atK_stop hat.out ho.out he)
            have hsm := hsame.out he
            have hne : (runE D ⟨ok, oa, oq⟩ != 0) = true := by simpa using he
            clear he hat hsame
            obtain ⟨y0, y1, y2, _⟩ := Y5.cells
            go_wp2_with fail
            generalize wr.alloc (.cells #[.int .i64 ok, .int .i64 oa, .int .i64 oq] 25) = W5 at Q5 U5 S5 B5 Y5 z5 y0 y1 y2 ⊢
            refine (SS _).mono ?_; rintro e w6 ⟨rfl, hb6⟩
            have Q6 := Q5.below hb6
            have S6 := S5.below hb6
            have B6 := B5.trans (hb6.mono B5.size)
            have z6 := hb6.size
            clear Q5 U5 S5 B5 Y5 hb6 y0 y1 y2 SS
            go_wp2_with fail
            refine (HS _ _ _ S6 hb7).mono ?_; rintro e w7 ⟨rfl, S7, hb7'⟩
            have Q7 := Q6.belowAt hb7' (by omega)
            have B7 := B6.trans (hb7'.mono (by omega))
            rw [hsm] at S7
            have hst9 := hst
            clear hsm hst
            obtain ⟨v0', v1', v2', v3', T7, N7, _⟩ := S7
            have HNo := N7
            obtain ⟨E0, i0, h0, E1, i1, h1, E2, i2, h2, E3, i3, h3, ev, _⟩ := HNo.open_
            cases ev
            obtain ⟨t0, t1, t2, t3, _⟩ := T7.cells
            obtain ⟨q0, q1, q2, q3, f0, f1, f2, f3⟩ := Q7.cells
            obtain ⟨hF, hFB⟩ := fin_run (b := w.heap.size + 1) (by omega) N7 B7
            obtain ⟨e0, e1, e2', e3⟩ := cells4 (.slice E0 i0 h0) (.slice E1 i1 h1) (.slice E2 i2 h2) (.slice E3 i3 h3) q0 q1 q2 q3
            go_wp2_with fail
            rw [hf.out, hc.out, hx.out, hst9.out]
            refine bodyPost_ret (v := .tuple #[.agg #[.slice E0 i0 h0, .slice E1 i1 h1, .slice E2 i2 h2, .slice E3 i3 h3], .int .i64 (k : Int), .bool true]) ?_ rfl ⟨_, rfl, hF, hFB⟩
            simp [results, Try.results21, go_sem, e0, e1, e2', e3]
        · obtain rfl : k = n := by omega
          have he2 := Lib.hid (atK_end (by rw [hn.out]; exact hat.out : AtK C os os.length D))
          obtain ⟨v0', v1', v2', v3', T7, N7, _⟩ := S4
          have HNo := N7
          obtain ⟨E0, i0, h0, E1, i1, h1, E2, i2, h2, E3, i3, h3, ev, _⟩ := HNo.open_
          cases ev
          obtain ⟨t0, t1, t2, t3, _⟩ := T7.cells
          obtain ⟨q0, q1, q2, q3, f0, f1, f2, f3⟩ := Q4.cells
          obtain ⟨hF, hFB⟩ := fin_run (b := w.heap.size + 1) (by omega) N7 B4
          obtain ⟨e0, e1, e2', e3⟩ := cells4 (.slice E0 i0 h0) (.slice E1 i1 h1) (.slice E2 i2 h2) (.slice E3 i3 h3) q0 q1 q2 q3
          clear hat hval hD SO
          go_wp2_with fail
          rw [hf.out, hc.out, hx.out, he2.out, hn.out]
          refine bodyPost_ret (v := .tuple #[.agg #[.slice E0 i0 h0, .slice E1 i1 h1, .slice E2 i2 h2, .slice E3 i3 h3], .int .i64 (k : Int), .bool true]) ?_ rfl ⟨_, rfl, hF, hFB⟩
          simp [results, Try.results21, go_sem, e0, e1, e2', e3]
end Go.Proofs.Ytlabljanddjleaa
