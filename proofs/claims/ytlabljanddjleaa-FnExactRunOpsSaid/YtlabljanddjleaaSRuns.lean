/- RunOps of spec. -/
import Derived.Test.YtlabljanddjleaaSRun
import Derived.Test.YtlabljanddjleaaOps
namespace Go.Proofs.Ytlabljanddjleaa
open Go.RowKit

theorem orow_set4 {w : World} {lo b n c g : Nat} {os : List Opv} (h : ORow w lo (.slice (some ⟨g, 0, none⟩) n c) os) (hne : g ≠ b) (u0 u1 u2 u3 : Value) : ORow ((((w.setCell ⟨b, 0, none⟩ u0).setCell ⟨b, 1, none⟩ u1).setCell ⟨b, 2, none⟩ u2).setCell ⟨b, 3, none⟩ u3) lo (.slice (some ⟨g, 0, none⟩) n c) os := by
  unfold ORow at *
  have f : ∀ i : Nat, (Value.slice (some ⟨g, 0, none⟩) n c).ownBlock ≠ some (⟨b, i, none⟩ : Addr).block := fun i e => hne (by simpa [Value.ownBlock] using e)
  exact ownsRow_setCell_other (ownsRow_setCell_other (ownsRow_setCell_other (ownsRow_setCell_other h (f 0) u0) (f 1) u1) (f 2) u2) (f 3) u3

set_option maxRecDepth 100000 in
set_option maxHeartbeats 4000000 in
theorem specRunOps_any (w : World) (lo lo2 : Nat) (v u : Value) (C : Cp) (os : List Opv) (hv : Cv w lo v C) (hu : ORow w lo2 u os) :
    Calls Try.prog 19 #[v, u] w (OptCI w (progC C os) (progN C os) (progB C os)) := by
  obtain ⟨A, c, rfl, hnc, hcm⟩ := hu.form
  obtain ⟨n, hn⟩ : ∃ n, Hid (os.length = n) := ⟨_, rfl⟩
  rw [hn.out] at hu hnc ⊢
  have hvo := hv
  obtain ⟨A0, n0, c0, A1, n1, c1, A2, n2, c2, A3, n3, c3, rfl, _, _, ⟨l0, l1, l2, l3⟩, ⟨b0, b1, b2, b3⟩, _⟩ := hvo.open_
  have hn63 : n ≤ 9223372036854775807 := by unfold maxLen at hcm; omega
  have X := (Blk4.new w (.slice A0 n0 c0) (.slice A1 n1 c1) (.slice A2 n2 c2) (.slice A3 n3 c3) 36).alloc (.cells #[.slice none 0 0, .slice none 0 0, .slice none 0 0, .slice none 0 0] 36)
  have Q := Blk4.new_at (w := w.alloc (.cells #[.slice A0 n0 c0, .slice A1 n1 c1, .slice A2 n2 c2, .slice A3 n3 c3] 36)) (b := w.heap.size + 1) (by simp) (.slice none 0 0) (.slice none 0 0) (.slice none 0 0) (.slice none 0 0) 36
  have VV := (hv.alloc (.cells #[.slice A0 n0 c0, .slice A1 n1 c1, .slice A2 n2 c2, .slice A3 n3 c3] 36)).alloc (.cells #[.slice none 0 0, .slice none 0 0, .slice none 0 0, .slice none 0 0] 36)
  have UU := (hu.alloc (.cells #[.slice A0 n0 c0, .slice A1 n1 c1, .slice A2 n2 c2, .slice A3 n3 c3] 36)).alloc (.cells #[.slice none 0 0, .slice none 0 0, .slice none 0 0, .slice none 0 0] 36)
  have BB : Below w.heap.size w ((w.alloc (.cells #[.slice A0 n0 c0, .slice A1 n1 c1, .slice A2 n2 c2, .slice A3 n3 c3] 36)).alloc (.cells #[.slice none 0 0, .slice none 0 0, .slice none 0 0, .slice none 0 0] 36)) := ((Below.refl _ w).alloc (Nat.le_refl _) _).alloc (by simp) _
  have sz : ((w.alloc (.cells #[.slice A0 n0 c0, .slice A1 n1 c1, .slice A2 n2 c2, .slice A3 n3 c3] 36)).alloc (.cells #[.slice none 0 0, .slice none 0 0, .slice none 0 0, .slice none 0 0] 36)).heap.size = w.heap.size + 2 := by simp
  have V := specStoreValid_any _ _ _ _ VV
  have e2 := l2.out
  have hgw : Hid (∀ b, (Value.slice A n c).ownBlock = some b → b < w.heap.size) := fun b hb => (hu.lt b hb).2
  clear hv hu hvo hnc hcm
  rcases ev : stoB C
  · have hf : Hid (progB C os = false) := by unfold Hid progB; rw [ev]; rfl
    have hc : Hid (progC C os = Cp.zero) := by unfold Hid progC; rw [hf.out]; simp
    have hx : Hid (progN C os = 0) := by unfold Hid progN; rw [hf.out]; simp
    rw [ev] at V
    clear ev
    go_enter Try.func19, Try.ntmps19
    go_wp2_with fail
    generalize ((w.alloc (.cells #[.slice A0 n0 c0, .slice A1 n1 c1, .slice A2 n2 c2, .slice A3 n3 c3] 36)).alloc (.cells #[.slice none 0 0, .slice none 0 0, .slice none 0 0, .slice none 0 0] 36)) = W at X Q VV UU BB sz V ⊢
    refine V.mono ?_; rintro e w1 ⟨rfl, hb1⟩
    have X1 := X.below hb1
    have Q1 := Q.below hb1
    have V1 := VV.below hb1
    have U1 := UU.below hb1
    have B1 := BB.trans (hb1.mono BB.size)
    have z1 : w.heap.size + 2 ≤ w1.heap.size := by have := hb1.size; omega
    clear X Q VV UU BB sz V hb1
    obtain ⟨x0, x1, x2, x3, _⟩ := X1.cells
    obtain ⟨q0, q1, q2, q3, f0, f1, f2, f3⟩ := Q1.cells
    obtain ⟨hZ, hB⟩ := zero_done (w := w) (b := w.heap.size + 1) (by omega) B1
    go_wp2_with fail
    rw [hf.out, hc.out, hx.out]
    refine bodyPost_ret (v := .tuple #[.agg #[.slice none 0 0, .slice none 0 0, .slice none 0 0, .slice none 0 0], .int .i64 0, .bool false]) ?_ rfl ⟨_, rfl, hZ, hB⟩
    simp [results, Try.results19, go_sem, q0, q1, q2, q3]
  · by_cases h12 : 12 < n
    · have hf : Hid (progB C os = false) := by unfold Hid progB; rw [ev]; simp [show ¬ os.length ≤ 12 by have := hn.out; omega]
      have hc : Hid (progC C os = Cp.zero) := by unfold Hid progC; rw [hf.out]; simp
      have hx : Hid (progN C os = 0) := by unfold Hid progN; rw [hf.out]; simp
      rw [ev] at V
      clear ev
      have hb12 : (12 : Int) < (n : Int) := by omega
      go_enter Try.func19, Try.ntmps19
      go_wp2_with fail
      generalize ((w.alloc (.cells #[.slice A0 n0 c0, .slice A1 n1 c1, .slice A2 n2 c2, .slice A3 n3 c3] 36)).alloc (.cells #[.slice none 0 0, .slice none 0 0, .slice none 0 0, .slice none 0 0] 36)) = W at X Q VV UU BB sz V ⊢
      refine V.mono ?_; rintro e w1 ⟨rfl, hb1⟩
      have X1 := X.below hb1
      have Q1 := Q.below hb1
      have V1 := VV.below hb1
      have U1 := UU.below hb1
      have B1 := BB.trans (hb1.mono BB.size)
      have z1 : w.heap.size + 2 ≤ w1.heap.size := by have := hb1.size; omega
      clear X Q VV UU BB sz V hb1
      obtain ⟨x0, x1, x2, x3, _⟩ := X1.cells
      obtain ⟨q0, q1, q2, q3, f0, f1, f2, f3⟩ := Q1.cells
      obtain ⟨hZ, hB⟩ := zero_done (w := w) (b := w.heap.size + 1) (by omega) B1
      go_wp2_with fail
      rw [hf.out, hc.out, hx.out]
      refine bodyPost_ret (v := .tuple #[.agg #[.slice none 0 0, .slice none 0 0, .slice none 0 0, .slice none 0 0], .int .i64 0, .bool false]) ?_ rfl ⟨_, rfl, hZ, hB⟩
      simp [results, Try.results19, go_sem, q0, q1, q2, q3]
    · have hC := ev
      rw [ev] at V
      clear ev
      have hle : n ≤ 12 := by omega
      have hb12 : (n : Int) ≤ 12 := by omega
      have hb12' : ¬ (12 : Int) < (n : Int) := by omega
      go_enter Try.func19, Try.ntmps19
      go_wp2_with fail
      generalize ((w.alloc (.cells #[.slice A0 n0 c0, .slice A1 n1 c1, .slice A2 n2 c2, .slice A3 n3 c3] 36)).alloc (.cells #[.slice none 0 0, .slice none 0 0, .slice none 0 0, .slice none 0 0] 36)) = W at X Q VV UU BB sz V ⊢
      refine V.mono ?_; rintro e w1 ⟨rfl, hb1⟩
      have X1 := X.below hb1
      have Q1 := Q.below hb1
      have V1 := VV.below hb1
      have U1 := UU.below hb1
      have B1 := BB.trans (hb1.mono BB.size)
      have z1 : w.heap.size + 2 ≤ w1.heap.size := by have := hb1.size; omega
      clear X Q VV UU BB sz V hb1
      obtain ⟨x0, x1, x2, x3, _⟩ := X1.cells
      obtain ⟨q0, q1, q2, q3, f0, f1, f2, f3⟩ := Q1.cells
      go_wp2_with fail
      refine (l4Copy_any _ lo _ C V1 hC).mono ?_; rintro e w2 ⟨vv, rfl, HN, hb2⟩
      have HNo := HN
      obtain ⟨D0, m0, d0, D1, m1, d1, D2, m2, d2, D3, m3, d3, rfl, _⟩ := HNo.open_
      have s2 := hb2.size
      have ow := HN.ownLt w2.heap.size (.inr (Nat.le_refl _))
      have X2 := (X1.below hb2).alloc (.cells #[.slice D0 m0 d0, .slice D1 m1 d1, .slice D2 m2 d2, .slice D3 m3 d3] 36)
      have Q2 := (Q1.below hb2).alloc (.cells #[.slice D0 m0 d0, .slice D1 m1 d1, .slice D2 m2 d2, .slice D3 m3 d3] 36)
      have V2 := (V1.below hb2).alloc (.cells #[.slice D0 m0 d0, .slice D1 m1 d1, .slice D2 m2 d2, .slice D3 m3 d3] 36)
      have U2 := (U1.below hb2).alloc (.cells #[.slice D0 m0 d0, .slice D1 m1 d1, .slice D2 m2 d2, .slice D3 m3 d3] 36)
      have N2 : Cv (w2.alloc (.cells #[.slice D0 m0 d0, .slice D1 m1 d1, .slice D2 m2 d2, .slice D3 m3 d3] 36)) (w.heap.size + 2) (.agg #[.slice D0 m0 d0, .slice D1 m1 d1, .slice D2 m2 d2, .slice D3 m3 d3]) C := (HN.alloc (.cells #[.slice D0 m0 d0, .slice D1 m1 d1, .slice D2 m2 d2, .slice D3 m3 d3] 36)).mono (by omega)
      have T2 := Blk4.new w2 (.slice D0 m0 d0) (.slice D1 m1 d1) (.slice D2 m2 d2) (.slice D3 m3 d3) 36
      have B2 : Below w.heap.size w (w2.alloc (.cells #[.slice D0 m0 d0, .slice D1 m1 d1, .slice D2 m2 d2, .slice D3 m3 d3] 36)) := (B1.trans (hb2.mono (by omega))).alloc (by have := B1.size; omega) _
      have z2 : w2.heap.size + 1 ≤ (w2.alloc (.cells #[.slice D0 m0 d0, .slice D1 m1 d1, .slice D2 m2 d2, .slice D3 m3 d3] 36)).heap.size := by simp
      have hb7 : w.heap.size + 2 ≤ w2.heap.size := by omega
      clear x0 x1 x2 x3 q0 q1 q2 q3 f0 f1 f2 f3 X1 Q1 V1 U1 B1 HN hb2 z1 s2
      go_wp2_with fail
      generalize w2.alloc (.cells #[.slice D0 m0 d0, .slice D1 m1 d1, .slice D2 m2 d2, .slice D3 m3 d3] 36) = W2 at X2 Q2 V2 U2 N2 T2 B2 z2 ⊢
      generalize w2.heap.size = b7 at T2 z2 hb7 ow ⊢
      have OV := fun W o => specOpValid_any W o (n2 : Int)
      go_loopw [8] (fun i wr => ∃ k : Nat, k ≤ n ∧ i = .int .i64 (k : Int) ∧ Hid (∀ (j : Nat) (o : Opv), j < k → os[j]? = some o → opB o C.h.t.length = true) ∧ Blk4 wr w.heap.size (.slice A0 n0 c0) (.slice A1 n1 c1) (.slice A2 n2 c2) (.slice A3 n3 c3) 36 ∧ Blk4 wr (w.heap.size + 1) (.slice none 0 0) (.slice none 0 0) (.slice none 0 0) (.slice none 0 0) 36 ∧ Cv wr lo (.agg #[.slice A0 n0 c0, .slice A1 n1 c1, .slice A2 n2 c2, .slice A3 n3 c3]) C ∧ ORow wr lo2 (.slice A n c) os ∧ Cv wr (w.heap.size + 2) (.agg #[.slice D0 m0 d0, .slice D1 m1 d1, .slice D2 m2 d2, .slice D3 m3 d3]) C ∧ Blk4 wr b7 (.slice D0 m0 d0) (.slice D1 m1 d1) (.slice D2 m2 d2) (.slice D3 m3 d3) 36 ∧ Below w.heap.size w wr ∧ b7 + 1 ≤ wr.heap.size) (fun i _ => n - (intOf i).toNat)
      case atStart => exact ⟨0, Nat.zero_le _, rfl, fun j o hj => absurd hj (Nat.not_lt_zero _), X2, Q2, V2, U2, N2, T2, B2, z2⟩
      case round =>
        obtain ⟨k, hk, rfl, hpre, X3, Q3, V3, U3, N3, T3, B3, z3⟩ := hrel
        clear X2 Q2 V2 U2 N2 T2 B2 z2
        by_cases hkn : k < n
        · obtain ⟨g, ⟨ok, oa, ob⟩, rfl, _, hg, ho, o0, o1, o2⟩ := U3.get (k := k) (by rw [hn.out]; exact hkn)
          obtain ⟨x0, x1, x2, x3, _⟩ := X3.cells
          simp only at o0 o1 o2
          have hkni : (k : Int) < (n : Int) := by omega
          have OO := OV wr.drew ⟨ok, oa, ob⟩
          rcases eo : opB ⟨ok, oa, ob⟩ (n2 : Int)
          · have hf : Hid (progB C os = false) := by unfold Hid; rw [← Bool.not_eq_true, progB_iff]; intro h9; have h8 := opsB_not (n := (C.h.t.length : Int)) ho.out (by rw [e2]; exact eo); rw [h8] at h9; exact absurd h9.2.2 (by decide)
            have hc : Hid (progC C os = Cp.zero) := by unfold Hid progC; rw [hf.out]; simp
            have hx : Hid (progN C os = 0) := by unfold Hid progN; rw [hf.out]; simp
            rw [eo] at OO
            clear eo hpre
            go_wp2_with fail
            go_region_held3 (fun w' => w'.cell? ⟨w.heap.size, 2, none⟩ = some (.slice A2 n2 c2) ∧ w'.cell? ⟨g, k * 3, none⟩ = some (.int .i64 ok) ∧ w'.cell? ⟨g, k * 3 + 1, none⟩ = some (.int .i64 oa) ∧ w'.cell? ⟨g, k * 3 + 2, none⟩ = some (.int .i64 ob))
              (((try dsimp only); (repeat' apply And.intro) <;> (with_reducible (first | exact p2 | exact p4 | exact p5 | exact p6 | exact cellD x2 | exact cellD o0 | exact cellD o1 | exact cellD o2 | exact x2 | exact o0 | exact o1 | exact o2))))
              ((go_at_call 8; (with_reducible refine OO.mono ?_); rintro e w4 ⟨rfl, hb40⟩; (have hb4 : Below wr.heap.size wr w4 := (Below.refl wr.heap.size wr).drew.trans hb40); (have p2 := (hb4.cell (p := ⟨w.heap.size, 2, none⟩) X3.lt).trans x2); (have p4 := (hb4.cell (p := ⟨g, k * 3, none⟩) hg).trans o0); (have p5 := (hb4.cell (p := ⟨g, k * 3 + 1, none⟩) hg).trans o1); (have p6 := (hb4.cell (p := ⟨g, k * 3 + 2, none⟩) hg).trans o2)))
            rename_i hHeld
            clear hHeld
            obtain ⟨q0, q1, q2, q3, f0, f1, f2, f3⟩ := (Q3.below hb4).cells
            have BZ := B3.trans (hb4.mono B3.size)
            obtain ⟨hZ, hB⟩ := zero_done (w := w) (b := w.heap.size + 1) (by omega) BZ
            go_wp2_with fail
            rw [hf.out, hc.out, hx.out]
            refine bodyPost_ret (v := .tuple #[.agg #[.slice none 0 0, .slice none 0 0, .slice none 0 0, .slice none 0 0], .int .i64 0, .bool false]) ?_ rfl ⟨_, rfl, hZ, hB⟩
            simp [results, Try.results19, go_sem, q0, q1, q2, q3]
          · rw [eo] at OO
            have hnx : Hid (∀ (j : Nat) (o : Opv), j < k + 1 → os[j]? = some o → opB o C.h.t.length = true) := fun j o hj h => by
              by_cases e : j = k
              · subst e; have h9 := ho.out; rw [h] at h9; cases h9; rw [e2]; exact eo
              · exact hpre.out j o (by omega) h
            clear eo hpre
            go_wp2_with fail
            go_region_held3 (fun w' => w'.cell? ⟨w.heap.size, 2, none⟩ = some (.slice A2 n2 c2) ∧ w'.cell? ⟨g, k * 3, none⟩ = some (.int .i64 ok) ∧ w'.cell? ⟨g, k * 3 + 1, none⟩ = some (.int .i64 oa) ∧ w'.cell? ⟨g, k * 3 + 2, none⟩ = some (.int .i64 ob))
              (((try dsimp only); (repeat' apply And.intro) <;> (with_reducible (first | exact p2 | exact p4 | exact p5 | exact p6 | exact cellD x2 | exact cellD o0 | exact cellD o1 | exact cellD o2 | exact x2 | exact o0 | exact o1 | exact o2))))
              ((go_at_call 8; (with_reducible refine OO.mono ?_); rintro e w4 ⟨rfl, hb40⟩; (have hb4 : Below wr.heap.size wr w4 := (Below.refl wr.heap.size wr).drew.trans hb40); (have p2 := (hb4.cell (p := ⟨w.heap.size, 2, none⟩) X3.lt).trans x2); (have p4 := (hb4.cell (p := ⟨g, k * 3, none⟩) hg).trans o0); (have p5 := (hb4.cell (p := ⟨g, k * 3 + 1, none⟩) hg).trans o1); (have p6 := (hb4.cell (p := ⟨g, k * 3 + 2, none⟩) hg).trans o2)))
            rename_i hHeld
            clear hHeld
            go_wp2_with fail
            go_roundw
            case rel => exact ⟨k + 1, by omega, by go_num, hnx, X3.below hb4, Q3.below hb4, V3.below hb4, U3.below hb4, N3.below hb4, T3.below hb4, B3.trans (hb4.mono B3.size), by have := hb4.size; omega⟩
            case measure => simp [intOf]; omega
        · obtain rfl : n = k := by omega
          have hall : opsB C.h.t.length os = true := opsB_all fun j o hj => hpre.out j o (by have := (List.getElem?_eq_some_iff.1 hj).1; have := hn.out; omega) hj
          have hf : Hid (progB C os = true) := by unfold Hid; rw [progB_iff]; exact ⟨hC, by rw [hn.out]; exact hle, hall⟩
          have hc : Hid (progC C os = (runsC C os).1) := by unfold Hid progC; rw [hf.out]; simp
          have hx : Hid (progN C os = ((runsC C os).2 : Int)) := by unfold Hid progN; rw [hf.out]; simp
          clear hall hpre OV V3 X3
          go_wp2_with fail
          go_loopw [9] (fun i wr => ∃ (k : Nat) (D : Cp) (v0 v1 v2 v3 : Value), k ≤ n ∧ i = .int .i64 (k : Int) ∧ Hid (AtK C os k D) ∧ Blk4 wr (w.heap.size + 1) (.slice none 0 0) (.slice none 0 0) (.slice none 0 0) (.slice none 0 0) 36 ∧ ORow wr lo2 (.slice A n c) os ∧ Cv wr (w.heap.size + 2) (.agg #[v0, v1, v2, v3]) D ∧ Hid (v0.ownBlock ≠ some b7 ∧ v1.ownBlock ≠ some b7 ∧ v2.ownBlock ≠ some b7 ∧ v3.ownBlock ≠ some b7) ∧ Blk4 wr b7 v0 v1 v2 v3 36 ∧ Below w.heap.size w wr ∧ b7 + 1 ≤ wr.heap.size) (fun i _ => n - (intOf i).toNat)
          case atStart => exact ⟨0, C, _, _, _, _, Nat.zero_le _, rfl, atK_start C os, Q3, U3, N3, ow, T3, B3, z3⟩
          case round =>
            obtain ⟨k, D, v0, v1, v2, v3, hk, rfl, hat, Q4, U4, N4, ow4, T4', B4', z4⟩ := hrel
            clear Q3 U3 N3 T3 B3 z3
            have Q3 := Q4; have U3 := U4; have N3 := N4; have T3 := T4'; have B3 := B4'; have z3 := z4
            clear Q4 U4 N4 T4' B4' z4
            have HNp := N3
            obtain ⟨G0, ga0, gb0, G1, ga1, gb1, G2, ga2, gb2, G3, ga3, gb3, eG, _⟩ := HNp.open_
            cases eG
            by_cases hkn : k < n
            · obtain ⟨g, ⟨ok, oa, ob⟩, rfl, _, hg, ho, x4, x5, x6⟩ := U3.get (k := k) (by rw [hn.out]; exact hkn)
              obtain ⟨x0, x1, x2, x3, _⟩ := T3.cells
              simp only at x4 x5 x6
              have hkni : (k : Int) < (n : Int) := by omega
              have RU := specRunOp_any wr.drew (w.heap.size + 2) _ D N3.drew ⟨ok, oa, ob⟩
              have RA := specRunOp_any (wr.alloc (.cells #[.slice none 0 0, .slice none 0 0, .slice none 0 0, .slice none 0 0] 36)).drew (w.heap.size + 2) _ D (N3.alloc (.cells #[.slice none 0 0, .slice none 0 0, .slice none 0 0, .slice none 0 0] 36)).drew ⟨ok, oa, ob⟩
              have nb7 : wr.heap.size ≠ b7 := by omega
              have nbg : wr.heap.size ≠ g := by omega
              have hg0 := hgw.out g rfl
              by_cases he : runE D ⟨ok, oa, ob⟩ = 0
              · rw [he] at RU RA
                go_wp2_with fail
                go_region_held3 (fun w' => w'.cell? ⟨b7, 0, none⟩ = some (.slice G0 ga0 gb0) ∧ w'.cell? ⟨b7, 1, none⟩ = some (.slice G1 ga1 gb1) ∧ w'.cell? ⟨b7, 2, none⟩ = some (.slice G2 ga2 gb2) ∧ w'.cell? ⟨b7, 3, none⟩ = some (.slice G3 ga3 gb3) ∧ w'.cell? ⟨g, k * 3, none⟩ = some (.int .i64 ok) ∧ w'.cell? ⟨g, k * 3 + 1, none⟩ = some (.int .i64 oa) ∧ w'.cell? ⟨g, k * 3 + 2, none⟩ = some (.int .i64 ob))
                  (((try dsimp only); (repeat' apply And.intro) <;> (with_reducible (first | exact p0 | exact p1 | exact p2 | exact p3 | exact p4 | exact p5 | exact p6 | exact cellA p0 _ | exact cellA p1 _ | exact cellA p2 _ | exact cellA p3 _ | exact cellA p4 _ | exact cellA p5 _ | exact cellA p6 _ | exact cellF4 p0 nb7 _ _ _ _ | exact cellF4 p1 nb7 _ _ _ _ | exact cellF4 p2 nb7 _ _ _ _ | exact cellF4 p3 nb7 _ _ _ _ | exact cellF4 p4 nbg _ _ _ _ | exact cellF4 p5 nbg _ _ _ _ | exact cellF4 p6 nbg _ _ _ _ | exact cellD x0 | exact cellD x1 | exact cellD x2 | exact cellD x3 | exact cellD x4 | exact cellD x5 | exact cellD x6 | exact x0 | exact x1 | exact x2 | exact x3 | exact x4 | exact x5 | exact x6 | exact cellA x0 _ | exact cellA x1 _ | exact cellA x2 _ | exact cellA x3 _ | exact cellA x4 _ | exact cellA x5 _ | exact cellA x6 _ | exact cellD (cellA x0 _) | exact cellD (cellA x1 _) | exact cellD (cellA x2 _) | exact cellD (cellA x3 _) | exact cellD (cellA x4 _) | exact cellD (cellA x5 _) | exact cellD (cellA x6 _)))))
                  (first
                    | (go_at_call 12; (with_reducible refine (RU).mono ?_); rintro e w4 ⟨vv, rfl, HN0, hb40⟩; (have hb4 : Below wr.heap.size wr w4 := (Below.refl wr.heap.size wr).drew.trans hb40); (have HN : Cv w4 wr.heap.size vv (runC D ⟨ok, oa, ob⟩) := HN0); (have T4 := T3.below hb4); (obtain ⟨p0, p1, p2, p3, _⟩ := T4.cells); (have p4 := (hb4.cell (p := ⟨g, k * 3, none⟩) hg).trans x4); (have p5 := (hb4.cell (p := ⟨g, k * 3 + 1, none⟩) hg).trans x5); (have p6 := (hb4.cell (p := ⟨g, k * 3 + 2, none⟩) hg).trans x6); (have HNo := HN); (obtain ⟨E0, h0, i0, E1, h1, i1, E2, h2, i2, E3, h3, i3, rfl, _⟩ := HNo.open_))
                    | (go_at_call 12; (with_reducible refine (RA).mono ?_); rintro e w4 ⟨vv, rfl, HN0, hb40⟩; (have hb4 : Below wr.heap.size wr w4 := (((Below.refl wr.heap.size wr).alloc (Nat.le_refl _) (.cells #[.slice none 0 0, .slice none 0 0, .slice none 0 0, .slice none 0 0] 36)).drew).trans (hb40.mono (by show wr.heap.size ≤ (wr.alloc _).heap.size; simp))); (have HN : Cv w4 wr.heap.size vv (runC D ⟨ok, oa, ob⟩) := HN0.mono (by show wr.heap.size ≤ (wr.alloc _).heap.size; simp)); (have T4 := T3.below hb4); (obtain ⟨p0, p1, p2, p3, _⟩ := T4.cells); (have p4 := (hb4.cell (p := ⟨g, k * 3, none⟩) hg).trans x4); (have p5 := (hb4.cell (p := ⟨g, k * 3 + 1, none⟩) hg).trans x5); (have p6 := (hb4.cell (p := ⟨g, k * 3 + 2, none⟩) hg).trans x6); (have Z4 : Blk4 w4 wr.heap.size (.slice none 0 0) (.slice none 0 0) (.slice none 0 0) (.slice none 0 0) 36 := (Blk4.new wr (.slice none 0 0) (.slice none 0 0) (.slice none 0 0) (.slice none 0 0) 36).below (w := (wr.alloc (.cells #[.slice none 0 0, .slice none 0 0, .slice none 0 0, .slice none 0 0] 36)).drew) hb40); (obtain ⟨zz0, zz1, zz2, zz3, zf0, zf1, zf2, zf3⟩ := Z4.cells); (have own : ∀ b, b < wr.heap.size + 1 → True := fun _ _ => trivial); (have HX : Cv w4 (wr.heap.size + 1) vv (runC D ⟨ok, oa, ob⟩) := HN0.mono (by show wr.heap.size + 1 ≤ (wr.alloc _).heap.size; simp)); (have HNo := HN); (obtain ⟨E0, h0, i0, E1, h1, i1, E2, h2, i2, E3, h3, i3, rfl, _⟩ := HNo.open_)))
                · rename_i hHeld
                  clear hHeld
                  have s4 := hb4.size
                  have B4 : Below w.heap.size w w4 := B3.trans (hb4.mono (by omega))
                  have B5 : Below w.heap.size w (w4.alloc (.cells #[.slice E0 h0 i0, .slice E1 h1 i1, .slice E2 h2 i2, .slice E3 h3 i3] 36)) := B4.alloc (by have := B4.size; omega) _
                  have Q5 : Blk4 (w4.alloc (.cells #[.slice E0 h0 i0, .slice E1 h1 i1, .slice E2 h2 i2, .slice E3 h3 i3] 36)) (w.heap.size + 1) (.slice none 0 0) (.slice none 0 0) (.slice none 0 0) (.slice none 0 0) 36 := (Q3.below hb4).alloc _
                  have T5 : Blk4 (w4.alloc (.cells #[.slice E0 h0 i0, .slice E1 h1 i1, .slice E2 h2 i2, .slice E3 h3 i3] 36)) b7 (.slice G0 ga0 gb0) (.slice G1 ga1 gb1) (.slice G2 ga2 gb2) (.slice G3 ga3 gb3) 36 := T4.alloc _
                  have Y5 : Blk4 (w4.alloc (.cells #[.slice E0 h0 i0, .slice E1 h1 i1, .slice E2 h2 i2, .slice E3 h3 i3] 36)) w4.heap.size (.slice E0 h0 i0) (.slice E1 h1 i1) (.slice E2 h2 i2) (.slice E3 h3 i3) 36 := Blk4.new w4 (.slice E0 h0 i0) (.slice E1 h1 i1) (.slice E2 h2 i2) (.slice E3 h3 i3) 36
                  have N5 : Cv (w4.alloc (.cells #[.slice E0 h0 i0, .slice E1 h1 i1, .slice E2 h2 i2, .slice E3 h3 i3] 36)) (w.heap.size + 2) (.agg #[.slice G0 ga0 gb0, .slice G1 ga1 gb1, .slice G2 ga2 gb2, .slice G3 ga3 gb3]) D := (N3.below hb4).alloc _
                  have M5 : Cv (w4.alloc (.cells #[.slice E0 h0 i0, .slice E1 h1 i1, .slice E2 h2 i2, .slice E3 h3 i3] 36)) wr.heap.size (.agg #[.slice E0 h0 i0, .slice E1 h1 i1, .slice E2 h2 i2, .slice E3 h3 i3]) (runC D ⟨ok, oa, ob⟩) := HN.alloc _
                  have U5 : ORow (w4.alloc (.cells #[.slice E0 h0 i0, .slice E1 h1 i1, .slice E2 h2 i2, .slice E3 h3 i3] 36)) lo2 (.slice (some ⟨g, 0, none⟩) n c) os := (U3.below hb4).alloc _
                  have z5 : b7 + 1 ≤ (w4.alloc (.cells #[.slice E0 h0 i0, .slice E1 h1 i1, .slice E2 h2 i2, .slice E3 h3 i3] 36)).heap.size := by simp; omega
                  clear x0 x1 x2 x3 x4 x5 x6 p0 p1 p2 p3 p4 p5 p6
                  generalize (w4.alloc (.cells #[.slice E0 h0 i0, .slice E1 h1 i1, .slice E2 h2 i2, .slice E3 h3 i3] 36)) = W5 at B5 Q5 T5 Y5 N5 M5 U5 z5 ⊢
                  obtain ⟨t0, t1, t2, t3, f0, f1, f2, f3⟩ := T5.cells
                  obtain ⟨y0, y1, y2, y3, _⟩ := Y5.cells
                  obtain ⟨q0, q1, q2, q3, g0, g1, g2, g3⟩ := Q5.cells
                  have hat2 := Lib.hid (atK_next hat.out ho.out he)
                  go_wp2_with fail
                  go_roundw
                  case rel => exact ⟨k + 1, _, _, _, _, _, by omega, by go_num, hat2, Q5.far4 (by omega) _ _ _ _, orow_set4 U5 (by omega) _ _ _ _, (M5.set4O (M5.ownLt b7 (.inl (by omega))) _ _ _ _).mono (by omega), (M5.ownLt b7 (.inl (by omega))), T5.set4R _ _ _ _, below_set4 B5 (by omega) _ _ _ _, by simp; omega⟩
                  case measure => simp [intOf]; omega
                · rename_i hHeld
                  clear hHeld
                  have s4 := hb4.size
                  have B4 : Below w.heap.size w w4 := B3.trans (hb4.mono (by omega))
                  have B5 : Below w.heap.size w ((((w4.setCell ⟨wr.heap.size, 0, none⟩ (.slice E0 h0 i0)).setCell ⟨wr.heap.size, 1, none⟩ (.slice E1 h1 i1)).setCell ⟨wr.heap.size, 2, none⟩ (.slice E2 h2 i2)).setCell ⟨wr.heap.size, 3, none⟩ (.slice E3 h3 i3)) := below_set4 B4 (by omega) _ _ _ _
                  have Q5 : Blk4 ((((w4.setCell ⟨wr.heap.size, 0, none⟩ (.slice E0 h0 i0)).setCell ⟨wr.heap.size, 1, none⟩ (.slice E1 h1 i1)).setCell ⟨wr.heap.size, 2, none⟩ (.slice E2 h2 i2)).setCell ⟨wr.heap.size, 3, none⟩ (.slice E3 h3 i3)) (w.heap.size + 1) (.slice none 0 0) (.slice none 0 0) (.slice none 0 0) (.slice none 0 0) 36 := (Q3.below hb4).far4 (by omega) _ _ _ _
                  have T5 : Blk4 ((((w4.setCell ⟨wr.heap.size, 0, none⟩ (.slice E0 h0 i0)).setCell ⟨wr.heap.size, 1, none⟩ (.slice E1 h1 i1)).setCell ⟨wr.heap.size, 2, none⟩ (.slice E2 h2 i2)).setCell ⟨wr.heap.size, 3, none⟩ (.slice E3 h3 i3)) b7 (.slice G0 ga0 gb0) (.slice G1 ga1 gb1) (.slice G2 ga2 gb2) (.slice G3 ga3 gb3) 36 := T4.far4 (by omega) _ _ _ _
                  have Y5 : Blk4 ((((w4.setCell ⟨wr.heap.size, 0, none⟩ (.slice E0 h0 i0)).setCell ⟨wr.heap.size, 1, none⟩ (.slice E1 h1 i1)).setCell ⟨wr.heap.size, 2, none⟩ (.slice E2 h2 i2)).setCell ⟨wr.heap.size, 3, none⟩ (.slice E3 h3 i3)) wr.heap.size (.slice E0 h0 i0) (.slice E1 h1 i1) (.slice E2 h2 i2) (.slice E3 h3 i3) 36 := Z4.set4R _ _ _ _
                  have N5 : Cv ((((w4.setCell ⟨wr.heap.size, 0, none⟩ (.slice E0 h0 i0)).setCell ⟨wr.heap.size, 1, none⟩ (.slice E1 h1 i1)).setCell ⟨wr.heap.size, 2, none⟩ (.slice E2 h2 i2)).setCell ⟨wr.heap.size, 3, none⟩ (.slice E3 h3 i3)) (w.heap.size + 2) (.agg #[.slice G0 ga0 gb0, .slice G1 ga1 gb1, .slice G2 ga2 gb2, .slice G3 ga3 gb3]) D := (N3.below hb4).set4O (N3.ownLt wr.heap.size (.inr (Nat.le_refl _))) _ _ _ _
                  have M5 : Cv ((((w4.setCell ⟨wr.heap.size, 0, none⟩ (.slice E0 h0 i0)).setCell ⟨wr.heap.size, 1, none⟩ (.slice E1 h1 i1)).setCell ⟨wr.heap.size, 2, none⟩ (.slice E2 h2 i2)).setCell ⟨wr.heap.size, 3, none⟩ (.slice E3 h3 i3)) wr.heap.size (.agg #[.slice E0 h0 i0, .slice E1 h1 i1, .slice E2 h2 i2, .slice E3 h3 i3]) (runC D ⟨ok, oa, ob⟩) := HN.set4O (HX.ownLt wr.heap.size (.inl (by omega))) _ _ _ _
                  have U5 : ORow ((((w4.setCell ⟨wr.heap.size, 0, none⟩ (.slice E0 h0 i0)).setCell ⟨wr.heap.size, 1, none⟩ (.slice E1 h1 i1)).setCell ⟨wr.heap.size, 2, none⟩ (.slice E2 h2 i2)).setCell ⟨wr.heap.size, 3, none⟩ (.slice E3 h3 i3)) lo2 (.slice (some ⟨g, 0, none⟩) n c) os := orow_set4 (U3.below hb4) (by omega) _ _ _ _
                  have z5 : b7 + 1 ≤ ((((w4.setCell ⟨wr.heap.size, 0, none⟩ (.slice E0 h0 i0)).setCell ⟨wr.heap.size, 1, none⟩ (.slice E1 h1 i1)).setCell ⟨wr.heap.size, 2, none⟩ (.slice E2 h2 i2)).setCell ⟨wr.heap.size, 3, none⟩ (.slice E3 h3 i3)).heap.size := by simp; omega
                  clear x0 x1 x2 x3 x4 x5 x6 p0 p1 p2 p3 p4 p5 p6 zz0 zz1 zz2 zz3 zf0 zf1 zf2 zf3
                  generalize ((((w4.setCell ⟨wr.heap.size, 0, none⟩ (.slice E0 h0 i0)).setCell ⟨wr.heap.size, 1, none⟩ (.slice E1 h1 i1)).setCell ⟨wr.heap.size, 2, none⟩ (.slice E2 h2 i2)).setCell ⟨wr.heap.size, 3, none⟩ (.slice E3 h3 i3)) = W5 at B5 Q5 T5 Y5 N5 M5 U5 z5 ⊢
                  obtain ⟨t0, t1, t2, t3, f0, f1, f2, f3⟩ := T5.cells
                  obtain ⟨y0, y1, y2, y3, _⟩ := Y5.cells
                  obtain ⟨q0, q1, q2, q3, g0, g1, g2, g3⟩ := Q5.cells
                  have hat2 := Lib.hid (atK_next hat.out ho.out he)
                  go_wp2_with fail
                  go_roundw
                  case rel => exact ⟨k + 1, _, _, _, _, _, by omega, by go_num, hat2, Q5.far4 (by omega) _ _ _ _, orow_set4 U5 (by omega) _ _ _ _, (M5.set4O (M5.ownLt b7 (.inl (by omega))) _ _ _ _).mono (by omega), (M5.ownLt b7 (.inl (by omega))), T5.set4R _ _ _ _, below_set4 B5 (by omega) _ _ _ _, by simp; omega⟩
                  case measure => simp [intOf]; omega
              · go_wp2_with fail
                go_region_held3 (fun w' => w'.cell? ⟨b7, 0, none⟩ = some (.slice G0 ga0 gb0) ∧ w'.cell? ⟨b7, 1, none⟩ = some (.slice G1 ga1 gb1) ∧ w'.cell? ⟨b7, 2, none⟩ = some (.slice G2 ga2 gb2) ∧ w'.cell? ⟨b7, 3, none⟩ = some (.slice G3 ga3 gb3) ∧ w'.cell? ⟨g, k * 3, none⟩ = some (.int .i64 ok) ∧ w'.cell? ⟨g, k * 3 + 1, none⟩ = some (.int .i64 oa) ∧ w'.cell? ⟨g, k * 3 + 2, none⟩ = some (.int .i64 ob))
                  (((try dsimp only); (repeat' apply And.intro) <;> (with_reducible (first | exact p0 | exact p1 | exact p2 | exact p3 | exact p4 | exact p5 | exact p6 | exact cellA p0 _ | exact cellA p1 _ | exact cellA p2 _ | exact cellA p3 _ | exact cellA p4 _ | exact cellA p5 _ | exact cellA p6 _ | exact cellF4 p0 nb7 _ _ _ _ | exact cellF4 p1 nb7 _ _ _ _ | exact cellF4 p2 nb7 _ _ _ _ | exact cellF4 p3 nb7 _ _ _ _ | exact cellF4 p4 nbg _ _ _ _ | exact cellF4 p5 nbg _ _ _ _ | exact cellF4 p6 nbg _ _ _ _ | exact cellD x0 | exact cellD x1 | exact cellD x2 | exact cellD x3 | exact cellD x4 | exact cellD x5 | exact cellD x6 | exact x0 | exact x1 | exact x2 | exact x3 | exact x4 | exact x5 | exact x6 | exact cellA x0 _ | exact cellA x1 _ | exact cellA x2 _ | exact cellA x3 _ | exact cellA x4 _ | exact cellA x5 _ | exact cellA x6 _ | exact cellD (cellA x0 _) | exact cellD (cellA x1 _) | exact cellD (cellA x2 _) | exact cellD (cellA x3 _) | exact cellD (cellA x4 _) | exact cellD (cellA x5 _) | exact cellD (cellA x6 _)))))
                  (first
                    | (go_at_call 12; (with_reducible refine (RU).mono ?_); rintro e w4 ⟨vv, rfl, HN0, hb40⟩; (have hb4 : Below wr.heap.size wr w4 := (Below.refl wr.heap.size wr).drew.trans hb40); (have HN : Cv w4 wr.heap.size vv (runC D ⟨ok, oa, ob⟩) := HN0); (have T4 := T3.below hb4); (obtain ⟨p0, p1, p2, p3, _⟩ := T4.cells); (have p4 := (hb4.cell (p := ⟨g, k * 3, none⟩) hg).trans x4); (have p5 := (hb4.cell (p := ⟨g, k * 3 + 1, none⟩) hg).trans x5); (have p6 := (hb4.cell (p := ⟨g, k * 3 + 2, none⟩) hg).trans x6); (have HNo := HN); (obtain ⟨E0, h0, i0, E1, h1, i1, E2, h2, i2, E3, h3, i3, rfl, _⟩ := HNo.open_))
                    | (go_at_call 12; (with_reducible refine (RA).mono ?_); rintro e w4 ⟨vv, rfl, HN0, hb40⟩; (have hb4 : Below wr.heap.size wr w4 := (((Below.refl wr.heap.size wr).alloc (Nat.le_refl _) (.cells #[.slice none 0 0, .slice none 0 0, .slice none 0 0, .slice none 0 0] 36)).drew).trans (hb40.mono (by show wr.heap.size ≤ (wr.alloc _).heap.size; simp))); (have HN : Cv w4 wr.heap.size vv (runC D ⟨ok, oa, ob⟩) := HN0.mono (by show wr.heap.size ≤ (wr.alloc _).heap.size; simp)); (have T4 := T3.below hb4); (obtain ⟨p0, p1, p2, p3, _⟩ := T4.cells); (have p4 := (hb4.cell (p := ⟨g, k * 3, none⟩) hg).trans x4); (have p5 := (hb4.cell (p := ⟨g, k * 3 + 1, none⟩) hg).trans x5); (have p6 := (hb4.cell (p := ⟨g, k * 3 + 2, none⟩) hg).trans x6); (have Z4 : Blk4 w4 wr.heap.size (.slice none 0 0) (.slice none 0 0) (.slice none 0 0) (.slice none 0 0) 36 := (Blk4.new wr (.slice none 0 0) (.slice none 0 0) (.slice none 0 0) (.slice none 0 0) 36).below (w := (wr.alloc (.cells #[.slice none 0 0, .slice none 0 0, .slice none 0 0, .slice none 0 0] 36)).drew) hb40); (obtain ⟨zz0, zz1, zz2, zz3, zf0, zf1, zf2, zf3⟩ := Z4.cells); (have own : ∀ b, b < wr.heap.size + 1 → True := fun _ _ => trivial); (have HX : Cv w4 (wr.heap.size + 1) vv (runC D ⟨ok, oa, ob⟩) := HN0.mono (by show wr.heap.size + 1 ≤ (wr.alloc _).heap.size; simp)); (have HNo := HN); (obtain ⟨E0, h0, i0, E1, h1, i1, E2, h2, i2, E3, h3, i3, rfl, _⟩ := HNo.open_)))
                · rename_i hHeld
                  clear hHeld
                  have s4 := hb4.size
                  have B4 : Below w.heap.size w w4 := B3.trans (hb4.mono (by omega))
                  have B5 : Below w.heap.size w (w4.alloc (.cells #[.slice E0 h0 i0, .slice E1 h1 i1, .slice E2 h2 i2, .slice E3 h3 i3] 36)) := B4.alloc (by have := B4.size; omega) _
                  have Q5 : Blk4 (w4.alloc (.cells #[.slice E0 h0 i0, .slice E1 h1 i1, .slice E2 h2 i2, .slice E3 h3 i3] 36)) (w.heap.size + 1) (.slice none 0 0) (.slice none 0 0) (.slice none 0 0) (.slice none 0 0) 36 := (Q3.below hb4).alloc _
                  have T5 : Blk4 (w4.alloc (.cells #[.slice E0 h0 i0, .slice E1 h1 i1, .slice E2 h2 i2, .slice E3 h3 i3] 36)) b7 (.slice G0 ga0 gb0) (.slice G1 ga1 gb1) (.slice G2 ga2 gb2) (.slice G3 ga3 gb3) 36 := T4.alloc _
                  have Y5 : Blk4 (w4.alloc (.cells #[.slice E0 h0 i0, .slice E1 h1 i1, .slice E2 h2 i2, .slice E3 h3 i3] 36)) w4.heap.size (.slice E0 h0 i0) (.slice E1 h1 i1) (.slice E2 h2 i2) (.slice E3 h3 i3) 36 := Blk4.new w4 (.slice E0 h0 i0) (.slice E1 h1 i1) (.slice E2 h2 i2) (.slice E3 h3 i3) 36
                  have N5 : Cv (w4.alloc (.cells #[.slice E0 h0 i0, .slice E1 h1 i1, .slice E2 h2 i2, .slice E3 h3 i3] 36)) (w.heap.size + 2) (.agg #[.slice G0 ga0 gb0, .slice G1 ga1 gb1, .slice G2 ga2 gb2, .slice G3 ga3 gb3]) D := (N3.below hb4).alloc _
                  have M5 : Cv (w4.alloc (.cells #[.slice E0 h0 i0, .slice E1 h1 i1, .slice E2 h2 i2, .slice E3 h3 i3] 36)) wr.heap.size (.agg #[.slice E0 h0 i0, .slice E1 h1 i1, .slice E2 h2 i2, .slice E3 h3 i3]) (runC D ⟨ok, oa, ob⟩) := HN.alloc _
                  have U5 : ORow (w4.alloc (.cells #[.slice E0 h0 i0, .slice E1 h1 i1, .slice E2 h2 i2, .slice E3 h3 i3] 36)) lo2 (.slice (some ⟨g, 0, none⟩) n c) os := (U3.below hb4).alloc _
                  have z5 : b7 + 1 ≤ (w4.alloc (.cells #[.slice E0 h0 i0, .slice E1 h1 i1, .slice E2 h2 i2, .slice E3 h3 i3] 36)).heap.size := by simp; omega
                  clear x0 x1 x2 x3 x4 x5 x6 p0 p1 p2 p3 p4 p5 p6
                  generalize (w4.alloc (.cells #[.slice E0 h0 i0, .slice E1 h1 i1, .slice E2 h2 i2, .slice E3 h3 i3] 36)) = W5 at B5 Q5 T5 Y5 N5 M5 U5 z5 ⊢
                  obtain ⟨t0, t1, t2, t3, f0, f1, f2, f3⟩ := T5.cells
                  obtain ⟨y0, y1, y2, y3, _⟩ := Y5.cells
                  obtain ⟨q0, q1, q2, q3, g0, g1, g2, g3⟩ := Q5.cells
                  have hst := Lib.hid (atK_stop hat.out ho.out he)
                  obtain ⟨hF, hFB⟩ := fin_run (b := w.heap.size + 1) (by omega) N5 B5
                  obtain ⟨e0, e1, e2, e3⟩ := cells4 (.slice G0 ga0 gb0) (.slice G1 ga1 gb1) (.slice G2 ga2 gb2) (.slice G3 ga3 gb3) q0 q1 q2 q3
                  go_wp2_with fail
                  rw [hf.out, hc.out, hx.out, hst.out]
                  refine bodyPost_ret (v := .tuple #[.agg #[.slice G0 ga0 gb0, .slice G1 ga1 gb1, .slice G2 ga2 gb2, .slice G3 ga3 gb3], .int .i64 (k : Int), .bool true]) ?_ rfl ⟨_, rfl, hF, hFB⟩
                  simp [results, Try.results19, go_sem, e0, e1, e2, e3]
                · rename_i hHeld
                  clear hHeld
                  have s4 := hb4.size
                  have B4 : Below w.heap.size w w4 := B3.trans (hb4.mono (by omega))
                  have B5 : Below w.heap.size w ((((w4.setCell ⟨wr.heap.size, 0, none⟩ (.slice E0 h0 i0)).setCell ⟨wr.heap.size, 1, none⟩ (.slice E1 h1 i1)).setCell ⟨wr.heap.size, 2, none⟩ (.slice E2 h2 i2)).setCell ⟨wr.heap.size, 3, none⟩ (.slice E3 h3 i3)) := below_set4 B4 (by omega) _ _ _ _
                  have Q5 : Blk4 ((((w4.setCell ⟨wr.heap.size, 0, none⟩ (.slice E0 h0 i0)).setCell ⟨wr.heap.size, 1, none⟩ (.slice E1 h1 i1)).setCell ⟨wr.heap.size, 2, none⟩ (.slice E2 h2 i2)).setCell ⟨wr.heap.size, 3, none⟩ (.slice E3 h3 i3)) (w.heap.size + 1) (.slice none 0 0) (.slice none 0 0) (.slice none 0 0) (.slice none 0 0) 36 := (Q3.below hb4).far4 (by omega) _ _ _ _
                  have T5 : Blk4 ((((w4.setCell ⟨wr.heap.size, 0, none⟩ (.slice E0 h0 i0)).setCell ⟨wr.heap.size, 1, none⟩ (.slice E1 h1 i1)).setCell ⟨wr.heap.size, 2, none⟩ (.slice E2 h2 i2)).setCell ⟨wr.heap.size, 3, none⟩ (.slice E3 h3 i3)) b7 (.slice G0 ga0 gb0) (.slice G1 ga1 gb1) (.slice G2 ga2 gb2) (.slice G3 ga3 gb3) 36 := T4.far4 (by omega) _ _ _ _
                  have Y5 : Blk4 ((((w4.setCell ⟨wr.heap.size, 0, none⟩ (.slice E0 h0 i0)).setCell ⟨wr.heap.size, 1, none⟩ (.slice E1 h1 i1)).setCell ⟨wr.heap.size, 2, none⟩ (.slice E2 h2 i2)).setCell ⟨wr.heap.size, 3, none⟩ (.slice E3 h3 i3)) wr.heap.size (.slice E0 h0 i0) (.slice E1 h1 i1) (.slice E2 h2 i2) (.slice E3 h3 i3) 36 := Z4.set4R _ _ _ _
                  have N5 : Cv ((((w4.setCell ⟨wr.heap.size, 0, none⟩ (.slice E0 h0 i0)).setCell ⟨wr.heap.size, 1, none⟩ (.slice E1 h1 i1)).setCell ⟨wr.heap.size, 2, none⟩ (.slice E2 h2 i2)).setCell ⟨wr.heap.size, 3, none⟩ (.slice E3 h3 i3)) (w.heap.size + 2) (.agg #[.slice G0 ga0 gb0, .slice G1 ga1 gb1, .slice G2 ga2 gb2, .slice G3 ga3 gb3]) D := (N3.below hb4).set4O (N3.ownLt wr.heap.size (.inr (Nat.le_refl _))) _ _ _ _
                  have M5 : Cv ((((w4.setCell ⟨wr.heap.size, 0, none⟩ (.slice E0 h0 i0)).setCell ⟨wr.heap.size, 1, none⟩ (.slice E1 h1 i1)).setCell ⟨wr.heap.size, 2, none⟩ (.slice E2 h2 i2)).setCell ⟨wr.heap.size, 3, none⟩ (.slice E3 h3 i3)) wr.heap.size (.agg #[.slice E0 h0 i0, .slice E1 h1 i1, .slice E2 h2 i2, .slice E3 h3 i3]) (runC D ⟨ok, oa, ob⟩) := HN.set4O (HX.ownLt wr.heap.size (.inl (by omega))) _ _ _ _
                  have U5 : ORow ((((w4.setCell ⟨wr.heap.size, 0, none⟩ (.slice E0 h0 i0)).setCell ⟨wr.heap.size, 1, none⟩ (.slice E1 h1 i1)).setCell ⟨wr.heap.size, 2, none⟩ (.slice E2 h2 i2)).setCell ⟨wr.heap.size, 3, none⟩ (.slice E3 h3 i3)) lo2 (.slice (some ⟨g, 0, none⟩) n c) os := orow_set4 (U3.below hb4) (by omega) _ _ _ _
                  have z5 : b7 + 1 ≤ ((((w4.setCell ⟨wr.heap.size, 0, none⟩ (.slice E0 h0 i0)).setCell ⟨wr.heap.size, 1, none⟩ (.slice E1 h1 i1)).setCell ⟨wr.heap.size, 2, none⟩ (.slice E2 h2 i2)).setCell ⟨wr.heap.size, 3, none⟩ (.slice E3 h3 i3)).heap.size := by simp; omega
                  clear x0 x1 x2 x3 x4 x5 x6 p0 p1 p2 p3 p4 p5 p6 zz0 zz1 zz2 zz3 zf0 zf1 zf2 zf3
                  generalize ((((w4.setCell ⟨wr.heap.size, 0, none⟩ (.slice E0 h0 i0)).setCell ⟨wr.heap.size, 1, none⟩ (.slice E1 h1 i1)).setCell ⟨wr.heap.size, 2, none⟩ (.slice E2 h2 i2)).setCell ⟨wr.heap.size, 3, none⟩ (.slice E3 h3 i3)) = W5 at B5 Q5 T5 Y5 N5 M5 U5 z5 ⊢
                  obtain ⟨t0, t1, t2, t3, f0, f1, f2, f3⟩ := T5.cells
                  obtain ⟨y0, y1, y2, y3, _⟩ := Y5.cells
                  obtain ⟨q0, q1, q2, q3, g0, g1, g2, g3⟩ := Q5.cells
                  have hst := Lib.hid (atK_stop hat.out ho.out he)
                  obtain ⟨hF, hFB⟩ := fin_run (b := w.heap.size + 1) (by omega) N5 B5
                  obtain ⟨e0, e1, e2, e3⟩ := cells4 (.slice G0 ga0 gb0) (.slice G1 ga1 gb1) (.slice G2 ga2 gb2) (.slice G3 ga3 gb3) q0 q1 q2 q3
                  go_wp2_with fail
                  rw [hf.out, hc.out, hx.out, hst.out]
                  refine bodyPost_ret (v := .tuple #[.agg #[.slice G0 ga0 gb0, .slice G1 ga1 gb1, .slice G2 ga2 gb2, .slice G3 ga3 gb3], .int .i64 (k : Int), .bool true]) ?_ rfl ⟨_, rfl, hF, hFB⟩
                  simp [results, Try.results19, go_sem, e0, e1, e2, e3]
            · obtain rfl : k = n := by omega
              have he2 := Lib.hid (atK_end (by rw [hn.out]; exact hat.out : AtK C os os.length D))
              obtain ⟨t0, t1, t2, t3, f0, f1, f2, f3⟩ := T3.cells
              obtain ⟨q0, q1, q2, q3, g0, g1, g2, g3⟩ := Q3.cells
              obtain ⟨hF, hFB⟩ := fin_run (b := w.heap.size + 1) (by omega) N3 B3
              obtain ⟨e0, e1, e2, e3⟩ := cells4 (.slice G0 ga0 gb0) (.slice G1 ga1 gb1) (.slice G2 ga2 gb2) (.slice G3 ga3 gb3) q0 q1 q2 q3
              go_wp2_with fail
              rw [hf.out, hc.out, hx.out, he2.out, hn.out]
              refine bodyPost_ret (v := .tuple #[.agg #[.slice G0 ga0 gb0, .slice G1 ga1 gb1, .slice G2 ga2 gb2, .slice G3 ga3 gb3], .int .i64 (k : Int), .bool true]) ?_ rfl ⟨_, rfl, hF, hFB⟩
              simp [results, Try.results19, go_sem, e0, e1, e2, e3]
end Go.Proofs.Ytlabljanddjleaa
