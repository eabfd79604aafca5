/- BothValid of spec and of impl. -/
import Derived.Test.YtdifplakkepnkaaBth
import Derived.Test.YtdifplakkepnkaaGSms
import Derived.Test.YtdifplakkepnkaaSOp
import Derived.Test.YtdifplakkepnkaaIRuns
namespace Go.Proofs.Ytdifplakkepnkaa
open Go.RowKit

set_option maxRecDepth 100000 in
set_option maxHeartbeats 4000000 in
theorem l7Ops_any (w : World) (lo : Nat) (A : Option Addr) (n c : Nat) (os : List Opv) (hu : ORow w lo (.slice A n c) os) (hn : Hid (os.length = n)) (hn63 : n ≤ 9223372036854775807) (r : Int) :
    Calls Try.prog 36 #[.slice A n c, .int .i64 r] w (RetB w (decide (n ≤ 12) && opsB r os)) := by
  have OV := fun W o => specOpValid_any W o r
  go_enter Try.func36, Try.ntmps36
  go_wp2_with fail
  go_loopw [5] (fun i wr => ∃ k : Nat, k ≤ n ∧ k ≤ 13 ∧ i = .int .i64 (k : Int) ∧ Hid (∀ (j : Nat) (o : Opv), j < k → os[j]? = some o → opB o r = true) ∧ ORow wr lo (.slice A n c) os ∧ Below w.heap.size w wr) (fun i _ => n - (intOf i).toNat)
  case atStart => exact ⟨0, Nat.zero_le _, by omega, rfl, fun j o hj => absurd hj (Nat.not_lt_zero _), hu, Below.refl _ _⟩
  case round =>
    obtain ⟨k, hk, hk13, rfl, hpre, U3, B3⟩ := hrel
    clear hu
    by_cases hkn : k < n
    · have hkni : (k : Int) < (n : Int) := by omega
      by_cases hk12 : k ≤ 12
      · have hk12i : (k : Int) ≤ 12 := by omega
        obtain ⟨g, ⟨ok, oa, oq⟩, rfl, _, hg, ho, o0, o1, o2⟩ := U3.get (k := k) (by rw [hn.out]; exact hkn)
        simp only at o0 o1 o2
        have OO := fun W => OV W ⟨ok, oa, oq⟩
        rcases eo : opB ⟨ok, oa, oq⟩ r
        · have hf : Hid ((decide (n ≤ 12) && opsB r os) = false) := by unfold Hid; rw [opsB_not ho.out eo, Bool.and_false]
          simp only [eo] at OO
          clear eo hpre OV
          go_wp2_with fail
          refine (OO _).mono ?_; rintro e w4 ⟨rfl, hb4⟩
          have B5 := B3.trans (hb4.mono B3.size)
          go_wp2_with fail
          go_ret
          exact ⟨ret_bool hf.out.symm, B5⟩
        · have hnx : Hid (∀ (j : Nat) (o : Opv), j < k + 1 → os[j]? = some o → opB o r = true) := fun j o hj h => by
            by_cases e : j = k
            · subst e; rw [ho.out] at h; cases h; exact eo
            · exact hpre.out j o (by omega) h
          simp only [eo] at OO
          clear eo hpre OV
          go_wp2_with fail
          refine (OO _).mono ?_; rintro e w4 ⟨rfl, hb4⟩
          have B5 := B3.trans (hb4.mono B3.size)
          have U5 := U3.below hb4
          go_wp2_with fail
          go_roundw
          case rel => exact ⟨k + 1, by omega, by omega, by go_num, hnx, U5, B5⟩
          case measure => simp [intOf]; omega
      · have hk12i : ¬ ((k : Int) ≤ 12) := by omega
        have hf : Hid ((decide (n ≤ 12) && opsB r os) = false) := by unfold Hid; rw [decide_eq_false (by omega)]; rfl
        have hn12 : ¬ ((n : Int) ≤ 12) := by omega
        go_wp2_with fail
        go_ret
        exact ⟨ret_bool hf.out.symm, B3⟩
    · have hkni : ¬ ((k : Int) < (n : Int)) := by omega
      have hf : Hid ((decide (n ≤ 12) && opsB r os) = decide ((n : Int) ≤ 12)) := by
        unfold Hid
        rw [opsB_all (fun j o h => hpre.out j o (by have := (List.getElem?_eq_some_iff.1 h).1; have := hn.out; omega) h), Bool.and_true]
        rw [Bool.eq_iff_iff, decide_eq_true_iff, decide_eq_true_iff]; omega
      clear hpre
      go_wp2_with fail
      go_ret
      exact ⟨ret_bool hf.out.symm, B3⟩

set_option maxRecDepth 100000 in
set_option maxHeartbeats 4000000 in
theorem specBothValid_any (w : World) (lo : Nat) (v : Value) (B : Bp) (h : Bv w lo v B) : Calls Try.prog 27 #[v] w (RetB w (bothB B)) := by
  obtain ⟨A0, n0, c0, A1, n1, c1, A2, n2, c2, A3, n3, c3, A4, n4, c4, A5, n5, c5, C, p, cc, a, os, i, z, rfl, rfl, hc, ho, ⟨l0, l1, l2, l3, l4, l5⟩, ⟨m0, m1, m2, m3, m4, m5⟩⟩ := h.open_
  have X := Blk10.new w (.slice A0 n0 c0) (.slice A1 n1 c1) (.slice A2 n2 c2) (.slice A3 n3 c3) (.int .i64 p) (.slice A4 n4 c4) (.int .i64 a) (.slice A5 n5 c5) (.int .i64 i) (.bool z) 34
  have CC := hc.alloc (.cells #[.slice A0 n0 c0, .slice A1 n1 c1, .slice A2 n2 c2, .slice A3 n3 c3, .int .i64 p, .slice A4 n4 c4, .int .i64 a, .slice A5 n5 c5, .int .i64 i, .bool z] 34)
  have OO := ho.alloc (.cells #[.slice A0 n0 c0, .slice A1 n1 c1, .slice A2 n2 c2, .slice A3 n3 c3, .int .i64 p, .slice A4 n4 c4, .int .i64 a, .slice A5 n5 c5, .int .i64 i, .bool z] 34)
  have BB : Below w.heap.size w (w.alloc (.cells #[.slice A0 n0 c0, .slice A1 n1 c1, .slice A2 n2 c2, .slice A3 n3 c3, .int .i64 p, .slice A4 n4 c4, .int .i64 a, .slice A5 n5 c5, .int .i64 i, .bool z] 34)) := (Below.refl _ _).alloc (Nat.le_refl _) _
  have hN : Hid (bothB ⟨C, ⟨p, cc, a⟩, os, i, z⟩ = (gcB C ⟨p, cc, a⟩ && (decide (n5 ≤ 12) && opsB n2 os) && (decide (0 ≤ i) && decide (i ≤ n5)))) := by unfold Hid bothB opsV; simp only [l5.out, l2.out]
  clear hc ho h
  generalize hW : w.alloc (.cells #[.slice A0 n0 c0, .slice A1 n1 c1, .slice A2 n2 c2, .slice A3 n3 c3, .int .i64 p, .slice A4 n4 c4, .int .i64 a, .slice A5 n5 c5, .int .i64 i, .bool z] 34) = W at X CC OO BB
  obtain ⟨⟨x0, x1, x2, x3, x4, x5, x6, x7, x8, x9⟩, _⟩ := X.cells
  have V := specGcValid_any _ _ _ _ _ _ CC
  have V2 := fun w1 h9 => l7Ops_any w1 lo A5 n5 c5 os h9 l5 m5 (n2 : Int)
  clear CC
  rcases eg : gcB C ⟨p, cc, a⟩
  · rw [eg] at V
    have hf : Hid (bothB ⟨C, ⟨p, cc, a⟩, os, i, z⟩ = false) := by unfold Hid; rw [hN.out, eg]; rfl
    clear eg V2 OO
    go_enter Try.func27, Try.ntmps27
    go_wp2_with fail
    try rw [hW]
    refine V.mono ?_; rintro e w1 ⟨rfl, hb1⟩
    have B1 := BB.trans (hb1.mono BB.size)
    go_wp2_with fail
    go_ret
    exact ⟨ret_bool hf.out.symm, B1⟩
  rw [eg] at V
  rcases eo : (decide (n5 ≤ 12) && opsB n2 os)
  · simp only [eo] at V2
    have hf : Hid (bothB ⟨C, ⟨p, cc, a⟩, os, i, z⟩ = false) := by unfold Hid; rw [hN.out, eg, eo]; rfl
    clear eg eo
    go_enter Try.func27, Try.ntmps27
    go_wp2_with fail
    try rw [hW]
    refine V.mono ?_; rintro e w1 ⟨rfl, hb1⟩
    obtain ⟨⟨y0, y1, y2, y3, y4, y5, y6, y7, y8, y9⟩, _⟩ := (X.below hb1).cells
    have B1 := BB.trans (hb1.mono BB.size)
    go_wp2_with fail
    refine (V2 _ (OO.below hb1)).mono ?_; rintro e w2 ⟨rfl, hb2⟩
    obtain ⟨⟨z0, z1, z2, z3, z4, z5, z6, z7, z8, z9⟩, _⟩ := ((X.below hb1).below hb2).cells
    have B2 := B1.trans (hb2.mono B1.size)
    go_wp2_with fail
    go_ret
    exact ⟨ret_bool hf.out.symm, B2⟩
  simp only [eo] at V2
  by_cases hi : 0 ≤ i
  · have hf : Hid (bothB ⟨C, ⟨p, cc, a⟩, os, i, z⟩ = decide (i ≤ (n5 : Int))) := by unfold Hid; rw [hN.out, eg, eo, decide_eq_true hi]; rfl
    clear eg eo
    go_enter Try.func27, Try.ntmps27
    go_wp2_with fail
    try rw [hW]
    refine V.mono ?_; rintro e w1 ⟨rfl, hb1⟩
    obtain ⟨⟨y0, y1, y2, y3, y4, y5, y6, y7, y8, y9⟩, _⟩ := (X.below hb1).cells
    have B1 := BB.trans (hb1.mono BB.size)
    go_wp2_with fail
    refine (V2 _ (OO.below hb1)).mono ?_; rintro e w2 ⟨rfl, hb2⟩
    obtain ⟨⟨z0, z1, z2, z3, z4, z5, z6, z7, z8, z9⟩, _⟩ := ((X.below hb1).below hb2).cells
    have B2 := B1.trans (hb2.mono B1.size)
    go_wp2_with fail
    go_ret
    exact ⟨ret_bool hf.out.symm, B2⟩
  · have hf : Hid (bothB ⟨C, ⟨p, cc, a⟩, os, i, z⟩ = false) := by unfold Hid; rw [hN.out, eg, eo, decide_eq_false hi]; rfl
    clear eg eo
    go_enter Try.func27, Try.ntmps27
    go_wp2_with fail
    try rw [hW]
    refine V.mono ?_; rintro e w1 ⟨rfl, hb1⟩
    obtain ⟨⟨y0, y1, y2, y3, y4, y5, y6, y7, y8, y9⟩, _⟩ := (X.below hb1).cells
    have B1 := BB.trans (hb1.mono BB.size)
    go_wp2_with fail
    refine (V2 _ (OO.below hb1)).mono ?_; rintro e w2 ⟨rfl, hb2⟩
    obtain ⟨⟨z0, z1, z2, z3, z4, z5, z6, z7, z8, z9⟩, _⟩ := ((X.below hb1).below hb2).cells
    have B2 := B1.trans (hb2.mono B1.size)
    go_wp2_with fail
    go_ret
    exact ⟨ret_bool hf.out.symm, B2⟩

set_option maxRecDepth 100000 in
set_option maxHeartbeats 4000000 in
theorem implBothValid_any (w : World) (lo : Nat) (v : Value) (B : Bp) (h : Bv w lo v B) : Calls Try.prog 12 #[v] w (RetB w (bothB B)) := by
  obtain ⟨A0, n0, c0, A1, n1, c1, A2, n2, c2, A3, n3, c3, A4, n4, c4, A5, n5, c5, C, p, cc, a, os, i, z, rfl, rfl, hc, ho, ⟨l0, l1, l2, l3, l4, l5⟩, ⟨m0, m1, m2, m3, m4, m5⟩⟩ := h.open_
  have X := Blk10.new w (.slice A0 n0 c0) (.slice A1 n1 c1) (.slice A2 n2 c2) (.slice A3 n3 c3) (.int .i64 p) (.slice A4 n4 c4) (.int .i64 a) (.slice A5 n5 c5) (.int .i64 i) (.bool z) 34
  have CC := hc.alloc (.cells #[.slice A0 n0 c0, .slice A1 n1 c1, .slice A2 n2 c2, .slice A3 n3 c3, .int .i64 p, .slice A4 n4 c4, .int .i64 a, .slice A5 n5 c5, .int .i64 i, .bool z] 34)
  have OO := ho.alloc (.cells #[.slice A0 n0 c0, .slice A1 n1 c1, .slice A2 n2 c2, .slice A3 n3 c3, .int .i64 p, .slice A4 n4 c4, .int .i64 a, .slice A5 n5 c5, .int .i64 i, .bool z] 34)
  have BB : Below w.heap.size w (w.alloc (.cells #[.slice A0 n0 c0, .slice A1 n1 c1, .slice A2 n2 c2, .slice A3 n3 c3, .int .i64 p, .slice A4 n4 c4, .int .i64 a, .slice A5 n5 c5, .int .i64 i, .bool z] 34)) := (Below.refl _ _).alloc (Nat.le_refl _) _
  have hN : Hid (bothB ⟨C, ⟨p, cc, a⟩, os, i, z⟩ = (gcB C ⟨p, cc, a⟩ && (decide (n5 ≤ 12) && opsB n2 os) && (decide (0 ≤ i) && decide (i ≤ n5)))) := by unfold Hid bothB opsV; simp only [l5.out, l2.out]
  clear hc ho h
  generalize hW : w.alloc (.cells #[.slice A0 n0 c0, .slice A1 n1 c1, .slice A2 n2 c2, .slice A3 n3 c3, .int .i64 p, .slice A4 n4 c4, .int .i64 a, .slice A5 n5 c5, .int .i64 i, .bool z] 34) = W at X CC OO BB
  obtain ⟨⟨x0, x1, x2, x3, x4, x5, x6, x7, x8, x9⟩, _⟩ := X.cells
  have V := implGcValid_any _ _ _ _ _ _ CC
  have V2 := fun w1 h9 => opsValid_any w1 lo A5 n5 c5 os h9 l5 m5 (n2 : Int)
  clear CC
  rcases eg : gcB C ⟨p, cc, a⟩
  · rw [eg] at V
    have hf : Hid (bothB ⟨C, ⟨p, cc, a⟩, os, i, z⟩ = false) := by unfold Hid; rw [hN.out, eg]; rfl
    clear eg V2 OO
    go_enter Try.func12, Try.ntmps12
    go_wp2_with fail
    try rw [hW]
    refine V.mono ?_; rintro e w1 ⟨rfl, hb1⟩
    have B1 := BB.trans (hb1.mono BB.size)
    go_wp2_with fail
    go_ret
    exact ⟨ret_bool hf.out.symm, B1⟩
  rw [eg] at V
  rcases eo : (decide (n5 ≤ 12) && opsB n2 os)
  · simp only [eo] at V2
    have hf : Hid (bothB ⟨C, ⟨p, cc, a⟩, os, i, z⟩ = false) := by unfold Hid; rw [hN.out, eg, eo]; rfl
    clear eg eo
    go_enter Try.func12, Try.ntmps12
    go_wp2_with fail
    try rw [hW]
    refine V.mono ?_; rintro e w1 ⟨rfl, hb1⟩
    obtain ⟨⟨y0, y1, y2, y3, y4, y5, y6, y7, y8, y9⟩, _⟩ := (X.below hb1).cells
    have B1 := BB.trans (hb1.mono BB.size)
    go_wp2_with fail
    refine (V2 _ (OO.below hb1)).mono ?_; rintro e w2 ⟨rfl, hb2⟩
    obtain ⟨⟨z0, z1, z2, z3, z4, z5, z6, z7, z8, z9⟩, _⟩ := ((X.below hb1).below hb2).cells
    have B2 := B1.trans (hb2.mono B1.size)
    go_wp2_with fail
    go_ret
    exact ⟨ret_bool hf.out.symm, B2⟩
  simp only [eo] at V2
  by_cases hi : 0 ≤ i
  · have hf : Hid (bothB ⟨C, ⟨p, cc, a⟩, os, i, z⟩ = decide (i ≤ (n5 : Int))) := by unfold Hid; rw [hN.out, eg, eo, decide_eq_true hi]; rfl
    clear eg eo
    go_enter Try.func12, Try.ntmps12
    go_wp2_with fail
    try rw [hW]
    refine V.mono ?_; rintro e w1 ⟨rfl, hb1⟩
    obtain ⟨⟨y0, y1, y2, y3, y4, y5, y6, y7, y8, y9⟩, _⟩ := (X.below hb1).cells
    have B1 := BB.trans (hb1.mono BB.size)
    go_wp2_with fail
    refine (V2 _ (OO.below hb1)).mono ?_; rintro e w2 ⟨rfl, hb2⟩
    obtain ⟨⟨z0, z1, z2, z3, z4, z5, z6, z7, z8, z9⟩, _⟩ := ((X.below hb1).below hb2).cells
    have B2 := B1.trans (hb2.mono B1.size)
    go_wp2_with fail
    go_ret
    exact ⟨ret_bool hf.out.symm, B2⟩
  · have hf : Hid (bothB ⟨C, ⟨p, cc, a⟩, os, i, z⟩ = false) := by unfold Hid; rw [hN.out, eg, eo, decide_eq_false hi]; rfl
    clear eg eo
    go_enter Try.func12, Try.ntmps12
    go_wp2_with fail
    try rw [hW]
    refine V.mono ?_; rintro e w1 ⟨rfl, hb1⟩
    obtain ⟨⟨y0, y1, y2, y3, y4, y5, y6, y7, y8, y9⟩, _⟩ := (X.below hb1).cells
    have B1 := BB.trans (hb1.mono BB.size)
    go_wp2_with fail
    refine (V2 _ (OO.below hb1)).mono ?_; rintro e w2 ⟨rfl, hb2⟩
    obtain ⟨⟨z0, z1, z2, z3, z4, z5, z6, z7, z8, z9⟩, _⟩ := ((X.below hb1).below hb2).cells
    have B2 := B1.trans (hb2.mono B1.size)
    go_wp2_with fail
    go_ret
    exact ⟨ret_bool hf.out.symm, B2⟩

end Go.Proofs.Ytdifplakkepnkaa
