/- TargetOf: the cell to which an operation makes a pointer point. -/
import Derived.Test.YtdifplakkepnkaaIRunA
import Derived.Test.YtdifplakkepnkaaSOp
namespace Go.Proofs.Ytdifplakkepnkaa
open Go.RowKit

def tgtX (C : Cp) (o : Opv) : Int := if runB C o = true ∧ (o.k = 5 ∨ o.k = 6) ∧ rootA C o.a ≠ -1 then rootA C o.b else -1
/-- The node of an operation, asked whether it puts a pointer. -/
theorem put_ask {o : Opv} (h : 1 ≤ o.k ∧ o.k ≤ 7) : ∃ (x y : Int) (r : Bool) (T : TypeId) (v0 : Value), stepV o = .iface T v0 ∧ (∀ w : World, (Instr.typeAssert (.iface T v0) 107 113 true).run Try.prog w = .ok (.tuple #[.agg #[.int .i64 x, .int .i64 y, .bool r], .bool (decide (o.k = 5 ∨ o.k = 6))]) w) ∧ ((o.k = 5 ∨ o.k = 6) → x = o.a ∧ y = o.b) := by
  obtain ⟨k, a, q⟩ := o
  have hk : k = 1 ∨ k = 2 ∨ k = 3 ∨ k = 4 ∨ k = 5 ∨ k = 6 ∨ k = 7 := by simp only at h; omega
  rcases hk with rfl | rfl | rfl | rfl | rfl | rfl | rfl
  · exact ⟨0, 0, false, _, _, rfl, fun w => ta_newStep_putStep _ w, fun h => by simp only at h; omega⟩
  · exact ⟨0, 0, false, _, _, rfl, fun w => ta_copyStep_putStep _ w, fun h => by simp only at h; omega⟩
  · exact ⟨0, 0, false, _, _, rfl, fun w => ta_readStep_putStep _ w, fun h => by simp only at h; omega⟩
  · exact ⟨0, 0, false, _, _, rfl, fun w => ta_readStep_putStep _ w, fun h => by simp only at h; omega⟩
  · exact ⟨a, q, false, _, _, rfl, fun w => ta_putStep_putStep _ w, fun _ => ⟨rfl, rfl⟩⟩
  · exact ⟨a, q, true, _, _, rfl, fun w => ta_putStep_putStep _ w, fun _ => ⟨rfl, rfl⟩⟩
  · exact ⟨0, 0, false, _, _, rfl, fun w => ta_clearStep_putStep _ w, fun h => by simp only at h; omega⟩

set_option maxRecDepth 100000 in
set_option maxHeartbeats 4000000 in
theorem implTargetOf_any (w : World) (lo : Nat) (v : Value) (C : Cp) (hv : Cv w lo v C) (o : Opv) : Calls Try.prog 68 #[v, opV o] w (RetI w (tgtX C o)) := by
  have hvo := hv
  obtain ⟨A0, n0, c0, A1, n1, c1, A2, n2, c2, A3, n3, c3, rfl, _, _, ⟨_, _, l2, _⟩, ⟨_, _, b2, _⟩, _⟩ := hvo.open_
  obtain ⟨k, a, q⟩ := o
  show Calls Try.prog 68 #[.agg #[.slice A0 n0 c0, .slice A1 n1 c1, .slice A2 n2 c2, .slice A3 n3 c3], .agg #[.int .i64 k, .int .i64 a, .int .i64 q]] w _
  have X := (Blk4.new w (.slice A0 n0 c0) (.slice A1 n1 c1) (.slice A2 n2 c2) (.slice A3 n3 c3) 27).alloc (.cells #[.int .i64 k, .int .i64 a, .int .i64 q] 70)
  have Y := Blk3.new_at (w := w.alloc (.cells #[.slice A0 n0 c0, .slice A1 n1 c1, .slice A2 n2 c2, .slice A3 n3 c3] 27)) (b := w.heap.size + 1) (by simp) (.int .i64 k) (.int .i64 a) (.int .i64 q) 70
  have VV := (hv.alloc (.cells #[.slice A0 n0 c0, .slice A1 n1 c1, .slice A2 n2 c2, .slice A3 n3 c3] 27)).alloc (.cells #[.int .i64 k, .int .i64 a, .int .i64 q] 70)
  have BB : Below w.heap.size w ((w.alloc (.cells #[.slice A0 n0 c0, .slice A1 n1 c1, .slice A2 n2 c2, .slice A3 n3 c3] 27)).alloc (.cells #[.int .i64 k, .int .i64 a, .int .i64 q] 70)) := ((Below.refl _ w).alloc (Nat.le_refl _) _).alloc (by simp) _
  have CR := canRun_any _ _ _ C VV ⟨k, a, q⟩
  rcases er : runB C ⟨k, a, q⟩
  · rw [er] at CR
    have hf : Hid (tgtX C ⟨k, a, q⟩ = -1) := by unfold Hid tgtX; rw [er, if_neg (by simp)]
    clear er
    go_enter Try.func68, Try.ntmps68
    go_wp2_with fail
    generalize ((w.alloc (.cells #[.slice A0 n0 c0, .slice A1 n1 c1, .slice A2 n2 c2, .slice A3 n3 c3] 27)).alloc (.cells #[.int .i64 k, .int .i64 a, .int .i64 q] 70)) = W at X Y VV BB CR ⊢
    obtain ⟨x0, x1, x2, x3, _⟩ := X.cells
    obtain ⟨y0, y1, y2, _⟩ := Y.cells
    go_wp2_with fail
    refine CR.mono ?_; rintro e w1 ⟨rfl, hb1⟩
    have B1 := BB.trans (hb1.mono BB.size)
    go_wp2_with fail
    go_ret
    exact ⟨ret_int hf.out.symm, B1⟩
  · rw [er] at CR
    obtain ⟨hC, ho⟩ := runB_iff.1 er
    obtain ⟨hk17, ⟨a0, a1, _⟩, ⟨b0, _⟩, hb7, hbn⟩ := opB_iff.1 ho
    obtain ⟨px, py, pr, T, v0, hsv, hask, hput⟩ := put_ask (o := ⟨k, a, q⟩) hk17
    have SO := fun W => stepOf_any W ⟨k, a, q⟩
    rw [hsv] at SO
    simp only at hput hask a0 a1 b0 hb7 hbn
    clear hC ho hsv
    by_cases hk : k = 5 ∨ k = 6
    · rw [decide_eq_true hk] at hask
      obtain ⟨e1, e2⟩ := hput hk
      have hq : q < C.h.t.length := hbn (by omega)
      obtain ⟨ja, rfl⟩ := Int.eq_ofNat_of_zero_le a0
      obtain ⟨jb, rfl⟩ := Int.eq_ofNat_of_zero_le b0
      rw [e1, e2] at hask
      have TA := rootA_at a0 a1
      have TB := rootA_at b0 hq
      simp only [Int.toNat_natCast] at TA TB
      have el := l2.out
      have na : (ja : Int) < (n2 : Int) := by omega
      have nb : (jb : Int) < (n2 : Int) := by omega
      have nja : ja < n2 := by omega
      have njb : jb < n2 := by omega
      obtain ⟨g2, _, e9, _⟩ := hv.rowsO.2.2.get (k := ja) (by omega)
      cases e9
      have hT : Hid (tgtX C ⟨k, (ja : Int), (jb : Int)⟩ = if rootA C (ja : Int) ≠ -1 then rootA C (jb : Int) else -1) := by
        unfold Hid tgtX
        by_cases h9 : rootA C (ja : Int) ≠ -1
        · rw [if_pos h9, if_pos ⟨er, hk, h9⟩]
        · rw [if_neg h9, if_neg (fun h => h9 h.2.2)]
      clear e1 e2 hput hk hk17 hb7 hbn er
      go_enter Try.func68, Try.ntmps68
      go_wp2_with fail
      generalize ((w.alloc (.cells #[.slice A0 n0 c0, .slice A1 n1 c1, .slice (some ⟨g2, 0, none⟩) n2 c2, .slice A3 n3 c3] 27)).alloc (.cells #[.int .i64 k, .int .i64 (ja : Int), .int .i64 (jb : Int)] 70)) = W at X Y VV BB CR ⊢
      obtain ⟨x0, x1, x2, x3, _⟩ := X.cells
      obtain ⟨y0, y1, y2, _⟩ := Y.cells
      go_wp2_with fail
      refine CR.mono ?_; rintro e w1 ⟨rfl, hb1⟩
      have X1 := X.below hb1
      have Y1 := Y.below hb1
      have V1 := VV.below hb1
      have B1 := BB.trans (hb1.mono BB.size)
      clear X Y VV BB x0 x1 x2 x3 y0 y1 y2 hb1
      obtain ⟨y0, y1, y2, _⟩ := Y1.cells
      go_wp2_with fail
      refine (SO _).mono ?_; rintro e w2 ⟨rfl, hb2⟩
      have X2 := X1.below hb2
      have V2 := V1.below hb2
      have B2 := B1.trans (hb2.mono B1.size)
      clear X1 Y1 V1 B1 y0 y1 y2 hb2
      obtain ⟨_, xa, e9, _, _, hxa, ca, _⟩ := (V2.alloc (.cells #[.int .i64 (ja : Int), .int .i64 (jb : Int), .bool pr] 113)).rowsO.2.2.get (k := ja) (by omega)
      cases e9
      obtain ⟨_, xb, e9, _, _, hxb, cb, _⟩ := (V2.alloc (.cells #[.int .i64 (ja : Int), .int .i64 (jb : Int), .bool pr] 113)).rowsO.2.2.get (k := jb) (by omega)
      cases e9
      have hxa9 := hxa.out
      rw [TA, Option.some.injEq] at hxa9
      have hxb9 := hxb.out
      rw [TB, Option.some.injEq] at hxb9
      have X3 := X2.alloc (.cells #[.int .i64 (ja : Int), .int .i64 (jb : Int), .bool pr] 113)
      have Y3 := Blk3.new w2 (.int .i64 (ja : Int)) (.int .i64 (jb : Int)) (.bool pr) 113
      have B3 := B2.alloc B2.size (.cells #[.int .i64 (ja : Int), .int .i64 (jb : Int), .bool pr] 113)
      rw [hxa9, hxb9] at hT
      clear hxa9 hxb9 hxa hxb TA TB X2 V2 B2
      by_cases hne : xa = -1
      · subst hne
        have hf : Hid (tgtX C ⟨k, (ja : Int), (jb : Int)⟩ = -1) := by unfold Hid; rw [hT.out, if_neg (by simp)]
        clear hT
        obtain ⟨x0, x1, x2, x3, _⟩ := X3.cells
        obtain ⟨y0, y1, y2, _⟩ := Y3.cells
        go_wp2_with fail
        go_ret
        exact ⟨ret_int hf.out.symm, B3⟩
      · have hb : (xa == -1) = false := by simpa using hne
        have hf : Hid (tgtX C ⟨k, (ja : Int), (jb : Int)⟩ = xb) := by unfold Hid; rw [hT.out, if_pos hne]
        clear hT hne
        obtain ⟨x0, x1, x2, x3, _⟩ := X3.cells
        obtain ⟨y0, y1, y2, _⟩ := Y3.cells
        go_wp2_with fail
        go_ret
        exact ⟨ret_int hf.out.symm, B3⟩
    · rw [decide_eq_false hk] at hask
      have hf : Hid (tgtX C ⟨k, a, q⟩ = -1) := by unfold Hid tgtX; rw [if_neg (fun h => hk h.2.1)]
      clear hput hk hk17 hb7 hbn er a0 a1 b0
      go_enter Try.func68, Try.ntmps68
      go_wp2_with fail
      generalize ((w.alloc (.cells #[.slice A0 n0 c0, .slice A1 n1 c1, .slice A2 n2 c2, .slice A3 n3 c3] 27)).alloc (.cells #[.int .i64 k, .int .i64 a, .int .i64 q] 70)) = W at X Y VV BB CR ⊢
      obtain ⟨x0, x1, x2, x3, _⟩ := X.cells
      obtain ⟨y0, y1, y2, _⟩ := Y.cells
      go_wp2_with fail
      refine CR.mono ?_; rintro e w1 ⟨rfl, hb1⟩
      have X1 := X.below hb1
      have Y1 := Y.below hb1
      have V1 := VV.below hb1
      have B1 := BB.trans (hb1.mono BB.size)
      clear X Y VV BB x0 x1 x2 x3 y0 y1 y2 hb1
      obtain ⟨y0, y1, y2, _⟩ := Y1.cells
      go_wp2_with fail
      refine (SO _).mono ?_; rintro e w2 ⟨rfl, hb2⟩
      have X2 := X1.below hb2
      have V2 := V1.below hb2
      have B2 := B1.trans (hb2.mono B1.size)
      clear X1 Y1 V1 B1 y0 y1 y2 hb2
      have B3 := B2.alloc B2.size (.cells #[.int .i64 px, .int .i64 py, .bool pr] 113)
      go_wp2_with fail
      go_ret
      exact ⟨ret_int hf.out.symm, B3⟩

set_option maxRecDepth 100000 in
set_option maxHeartbeats 4000000 in
theorem specTargetOf_any (w : World) (lo : Nat) (v : Value) (C : Cp) (hv : Cv w lo v C) (o : Opv) : Calls Try.prog 91 #[v, opV o] w (RetI w (tgtX C o)) := by
  have hvo := hv
  obtain ⟨A0, n0, c0, A1, n1, c1, A2, n2, c2, A3, n3, c3, rfl, _, _, ⟨_, _, l2, _⟩, ⟨_, _, b2, _⟩, _⟩ := hvo.open_
  obtain ⟨k, a, q⟩ := o
  show Calls Try.prog 91 #[.agg #[.slice A0 n0 c0, .slice A1 n1 c1, .slice A2 n2 c2, .slice A3 n3 c3], .agg #[.int .i64 k, .int .i64 a, .int .i64 q]] w _
  have X := (Blk4.new w (.slice A0 n0 c0) (.slice A1 n1 c1) (.slice A2 n2 c2) (.slice A3 n3 c3) 27).alloc (.cells #[.int .i64 k, .int .i64 a, .int .i64 q] 70)
  have Y := Blk3.new_at (w := w.alloc (.cells #[.slice A0 n0 c0, .slice A1 n1 c1, .slice A2 n2 c2, .slice A3 n3 c3] 27)) (b := w.heap.size + 1) (by simp) (.int .i64 k) (.int .i64 a) (.int .i64 q) 70
  have VV := (hv.alloc (.cells #[.slice A0 n0 c0, .slice A1 n1 c1, .slice A2 n2 c2, .slice A3 n3 c3] 27)).alloc (.cells #[.int .i64 k, .int .i64 a, .int .i64 q] 70)
  have BB : Below w.heap.size w ((w.alloc (.cells #[.slice A0 n0 c0, .slice A1 n1 c1, .slice A2 n2 c2, .slice A3 n3 c3] 27)).alloc (.cells #[.int .i64 k, .int .i64 a, .int .i64 q] 70)) := ((Below.refl _ w).alloc (Nat.le_refl _) _).alloc (by simp) _
  have V := specStoreValid_any _ _ _ _ VV
  have OV := fun W => specOpValid_any W ⟨k, a, q⟩ (n2 : Int)
  have el := l2.out
  rcases ev : stoB C
  · rw [ev] at V
    have hf : Hid (tgtX C ⟨k, a, q⟩ = -1) := by unfold Hid tgtX runB; rw [ev, if_neg (by simp)]
    clear ev
    go_enter Try.func91, Try.ntmps91
    go_wp2_with fail
    generalize ((w.alloc (.cells #[.slice A0 n0 c0, .slice A1 n1 c1, .slice A2 n2 c2, .slice A3 n3 c3] 27)).alloc (.cells #[.int .i64 k, .int .i64 a, .int .i64 q] 70)) = W at X Y VV BB V ⊢
    obtain ⟨x0, x1, x2, x3, _⟩ := X.cells
    obtain ⟨y0, y1, y2, _⟩ := Y.cells
    go_wp2_with fail
    refine V.mono ?_; rintro e w1 ⟨rfl, hb1⟩
    have X1 := X.below hb1
    have Y1 := Y.below hb1
    have V1 := VV.below hb1
    have B1 := BB.trans (hb1.mono BB.size)
    clear X Y VV BB x0 x1 x2 x3 y0 y1 y2 hb1
    obtain ⟨x0, x1, x2, x3, _⟩ := X1.cells
    obtain ⟨y0, y1, y2, _⟩ := Y1.cells
    go_wp2_with fail
    go_ret
    exact ⟨ret_int hf.out.symm, B1⟩
  · rw [ev] at V
    rcases eo : opB ⟨k, a, q⟩ (n2 : Int)
    · rw [eo] at OV
      have hf : Hid (tgtX C ⟨k, a, q⟩ = -1) := by unfold Hid tgtX runB; rw [el, eo, if_neg (by simp)]
      clear ev eo
      go_enter Try.func91, Try.ntmps91
      go_wp2_with fail
      generalize ((w.alloc (.cells #[.slice A0 n0 c0, .slice A1 n1 c1, .slice A2 n2 c2, .slice A3 n3 c3] 27)).alloc (.cells #[.int .i64 k, .int .i64 a, .int .i64 q] 70)) = W at X Y VV BB V ⊢
      obtain ⟨x0, x1, x2, x3, _⟩ := X.cells
      obtain ⟨y0, y1, y2, _⟩ := Y.cells
      go_wp2_with fail
      refine V.mono ?_; rintro e w1 ⟨rfl, hb1⟩
      have X1 := X.below hb1
      have Y1 := Y.below hb1
      have V1 := VV.below hb1
      have B1 := BB.trans (hb1.mono BB.size)
      clear X Y VV BB x0 x1 x2 x3 y0 y1 y2 hb1
      obtain ⟨x0, x1, x2, x3, _⟩ := X1.cells
      obtain ⟨y0, y1, y2, _⟩ := Y1.cells
      go_wp2_with fail
      refine (OV _).mono ?_; rintro e w2 ⟨rfl, hb2⟩
      have X2 := X1.below hb2
      have Y2 := Y1.below hb2
      have V2 := V1.below hb2
      have B2 := B1.trans (hb2.mono B1.size)
      clear X1 Y1 V1 B1 x0 x1 x2 x3 y0 y1 y2 hb2
      obtain ⟨x0, x1, x2, x3, _⟩ := X2.cells
      obtain ⟨y0, y1, y2, _⟩ := Y2.cells
      go_wp2_with fail
      go_ret
      exact ⟨ret_int hf.out.symm, B2⟩
    · rw [eo] at OV
      have er : runB C ⟨k, a, q⟩ = true := by unfold runB; rw [el, ev, eo]; rfl
      obtain ⟨hk17, ⟨a0, a1, _⟩, ⟨b0, _⟩, hb7, hbn⟩ := opB_iff.1 eo
      simp only at a0 a1 b0 hb7 hbn
      clear ev eo
      by_cases hk : k = 5 ∨ k = 6
      · have hq : q < (n2 : Int) := hbn (by omega)
        obtain ⟨ja, rfl⟩ := Int.eq_ofNat_of_zero_le a0
        obtain ⟨jb, rfl⟩ := Int.eq_ofNat_of_zero_le b0
        have TA := rootA_at a0 (by rw [el]; exact a1)
        have TB := rootA_at b0 (by rw [el]; exact hq)
        simp only [Int.toNat_natCast] at TA TB
        have nja : ja < n2 := by omega
        have njb : jb < n2 := by omega
        obtain ⟨g2, _, e9, _⟩ := hv.rowsO.2.2.get (k := ja) (by omega)
        cases e9
        have hT : Hid (tgtX C ⟨k, (ja : Int), (jb : Int)⟩ = if rootA C (ja : Int) ≠ -1 then rootA C (jb : Int) else -1) := by
          unfold Hid tgtX
          by_cases h9 : rootA C (ja : Int) ≠ -1
          · rw [if_pos h9, if_pos ⟨er, hk, h9⟩]
          · rw [if_neg h9, if_neg (fun h => h9 h.2.2)]
        clear hb7 hbn er hk17
        rcases hk with rfl | rfl
        · go_enter Try.func91, Try.ntmps91
          go_wp2_with fail
          generalize ((w.alloc (.cells #[.slice A0 n0 c0, .slice A1 n1 c1, .slice (some ⟨g2, 0, none⟩) n2 c2, .slice A3 n3 c3] 27)).alloc (.cells #[.int .i64 5, .int .i64 (ja : Int), .int .i64 (jb : Int)] 70)) = W at X Y VV BB V ⊢
          obtain ⟨x0, x1, x2, x3, _⟩ := X.cells
          obtain ⟨y0, y1, y2, _⟩ := Y.cells
          go_wp2_with fail
          refine V.mono ?_; rintro e w1 ⟨rfl, hb1⟩
          have X1 := X.below hb1
          have Y1 := Y.below hb1
          have V1 := VV.below hb1
          have B1 := BB.trans (hb1.mono BB.size)
          clear X Y VV BB x0 x1 x2 x3 y0 y1 y2 hb1
          obtain ⟨x0, x1, x2, x3, _⟩ := X1.cells
          obtain ⟨y0, y1, y2, _⟩ := Y1.cells
          go_wp2_with fail
          refine (OV _).mono ?_; rintro e w2 ⟨rfl, hb2⟩
          have X2 := X1.below hb2
          have Y2 := Y1.below hb2
          have V2 := V1.below hb2
          have B2 := B1.trans (hb2.mono B1.size)
          clear X1 Y1 V1 B1 x0 x1 x2 x3 y0 y1 y2 hb2
          obtain ⟨x0, x1, x2, x3, _⟩ := X2.cells
          obtain ⟨y0, y1, y2, _⟩ := Y2.cells
          obtain ⟨_, xa, e9, _, _, hxa, ca, _⟩ := V2.rowsO.2.2.get (k := ja) (by omega)
          cases e9
          obtain ⟨_, xb, e9, _, _, hxb, cb, _⟩ := V2.rowsO.2.2.get (k := jb) (by omega)
          cases e9
          have hxa9 := hxa.out
          rw [TA, Option.some.injEq] at hxa9
          have hxb9 := hxb.out
          rw [TB, Option.some.injEq] at hxb9
          rw [hxa9, hxb9] at hT
          clear hxa9 hxb9 hxa hxb TA TB
          by_cases hne : xa = -1
          · subst hne
            have hf : Hid (tgtX C ⟨5, (ja : Int), (jb : Int)⟩ = -1) := by unfold Hid; rw [hT.out, if_neg (by simp)]
            clear hT
            go_wp2_with fail
            go_ret
            exact ⟨ret_int hf.out.symm, B2⟩
          · have hb : (xa == -1) = false := by simpa using hne
            have hf : Hid (tgtX C ⟨5, (ja : Int), (jb : Int)⟩ = xb) := by unfold Hid; rw [hT.out, if_pos hne]
            clear hT hne
            go_wp2_with fail
            go_ret
            exact ⟨ret_int hf.out.symm, B2⟩
        · go_enter Try.func91, Try.ntmps91
          go_wp2_with fail
          generalize ((w.alloc (.cells #[.slice A0 n0 c0, .slice A1 n1 c1, .slice (some ⟨g2, 0, none⟩) n2 c2, .slice A3 n3 c3] 27)).alloc (.cells #[.int .i64 6, .int .i64 (ja : Int), .int .i64 (jb : Int)] 70)) = W at X Y VV BB V ⊢
          obtain ⟨x0, x1, x2, x3, _⟩ := X.cells
          obtain ⟨y0, y1, y2, _⟩ := Y.cells
          go_wp2_with fail
          refine V.mono ?_; rintro e w1 ⟨rfl, hb1⟩
          have X1 := X.below hb1
          have Y1 := Y.below hb1
          have V1 := VV.below hb1
          have B1 := BB.trans (hb1.mono BB.size)
          clear X Y VV BB x0 x1 x2 x3 y0 y1 y2 hb1
          obtain ⟨x0, x1, x2, x3, _⟩ := X1.cells
          obtain ⟨y0, y1, y2, _⟩ := Y1.cells
          go_wp2_with fail
          refine (OV _).mono ?_; rintro e w2 ⟨rfl, hb2⟩
          have X2 := X1.below hb2
          have Y2 := Y1.below hb2
          have V2 := V1.below hb2
          have B2 := B1.trans (hb2.mono B1.size)
          clear X1 Y1 V1 B1 x0 x1 x2 x3 y0 y1 y2 hb2
          obtain ⟨x0, x1, x2, x3, _⟩ := X2.cells
          obtain ⟨y0, y1, y2, _⟩ := Y2.cells
          obtain ⟨_, xa, e9, _, _, hxa, ca, _⟩ := V2.rowsO.2.2.get (k := ja) (by omega)
          cases e9
          obtain ⟨_, xb, e9, _, _, hxb, cb, _⟩ := V2.rowsO.2.2.get (k := jb) (by omega)
          cases e9
          have hxa9 := hxa.out
          rw [TA, Option.some.injEq] at hxa9
          have hxb9 := hxb.out
          rw [TB, Option.some.injEq] at hxb9
          rw [hxa9, hxb9] at hT
          clear hxa9 hxb9 hxa hxb TA TB
          by_cases hne : xa = -1
          · subst hne
            have hf : Hid (tgtX C ⟨6, (ja : Int), (jb : Int)⟩ = -1) := by unfold Hid; rw [hT.out, if_neg (by simp)]
            clear hT
            go_wp2_with fail
            go_ret
            exact ⟨ret_int hf.out.symm, B2⟩
          · have hb : (xa == -1) = false := by simpa using hne
            have hf : Hid (tgtX C ⟨6, (ja : Int), (jb : Int)⟩ = xb) := by unfold Hid; rw [hT.out, if_pos hne]
            clear hT hne
            go_wp2_with fail
            go_ret
            exact ⟨ret_int hf.out.symm, B2⟩
      · have hf : Hid (tgtX C ⟨k, a, q⟩ = -1) := by unfold Hid tgtX; rw [if_neg (fun h => hk h.2.1)]
        have k5 : (k != 5) = true := by simp; omega
        have k6 : (k != 6) = true := by simp; omega
        clear hk hk17 hb7 hbn er a0 a1 b0
        go_enter Try.func91, Try.ntmps91
        go_wp2_with fail
        generalize ((w.alloc (.cells #[.slice A0 n0 c0, .slice A1 n1 c1, .slice A2 n2 c2, .slice A3 n3 c3] 27)).alloc (.cells #[.int .i64 k, .int .i64 a, .int .i64 q] 70)) = W at X Y VV BB V ⊢
        obtain ⟨x0, x1, x2, x3, _⟩ := X.cells
        obtain ⟨y0, y1, y2, _⟩ := Y.cells
        go_wp2_with fail
        refine V.mono ?_; rintro e w1 ⟨rfl, hb1⟩
        have X1 := X.below hb1
        have Y1 := Y.below hb1
        have V1 := VV.below hb1
        have B1 := BB.trans (hb1.mono BB.size)
        clear X Y VV BB x0 x1 x2 x3 y0 y1 y2 hb1
        obtain ⟨x0, x1, x2, x3, _⟩ := X1.cells
        obtain ⟨y0, y1, y2, _⟩ := Y1.cells
        go_wp2_with fail
        refine (OV _).mono ?_; rintro e w2 ⟨rfl, hb2⟩
        have X2 := X1.below hb2
        have Y2 := Y1.below hb2
        have V2 := V1.below hb2
        have B2 := B1.trans (hb2.mono B1.size)
        clear X1 Y1 V1 B1 x0 x1 x2 x3 y0 y1 y2 hb2
        obtain ⟨x0, x1, x2, x3, _⟩ := X2.cells
        obtain ⟨y0, y1, y2, _⟩ := Y2.cells
        go_wp2_with fail
        go_ret
        exact ⟨ret_int hf.out.symm, B2⟩
end Go.Proofs.Ytdifplakkepnkaa
