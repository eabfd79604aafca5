/- The law FnColorNew, walked. -/
import Derived.Test.YtdedffdmppckiaaGSps
import Derived.Test.YtdedffdmppckiaaCsG
import Derived.Test.YtdedffdmppckiaaLwG
import Derived.Test.YtdedffdmppckiaaGMets
import Derived.Test.YtdedffdmppckiaaGSms
import Derived.Test.YtdedffdmppckiaaLaws0
import Derived.Test.YtdedffdmppckiaaIStos
import Derived.Test.YtdedffdmppckiaaGColS
import Derived.Test.YtdedffdmppckiaaGColI
import Derived.Test.YtdedffdmppckiaaLawH
namespace Go.Proofs.Ytdedffdmppckiaa
open Go.RowKit

set_option maxRecDepth 100000 in
set_option maxHeartbeats 6000000 in
theorem lawColorNew_walk (w : World) (A : Option Addr) (n c : Nat) (h : Inp w A n c) :
    Calls Try.prog 6 #[.slice A n c] w (LawTrue w) := by
  by_cases hbig : 1048576 < n
  · go_enter Try.func6, Try.ntmps6
    go_wp2_with fail
    go_ret
    exact ⟨rfl, Below.refl _ _⟩
  go_enter Try.func6, Try.ntmps6
  go_wp2_with fail
  refine (drawColorNew_any _ _ _ _ h).mono ?_; rintro e w1 ⟨vs, vg, C, G, x, rfl, HA, hC, hn, hb1⟩
  obtain ⟨A0, n0, c0, A1, n1, c1, A2, n2, c2, A3, n3, c3, A4, n4, c4, p, cc, a, rfl, rfl, rfl, _, _, ⟨Ar0, Ar1, Ar2, Ar3, Ar4⟩, ⟨Al0, Al1, Al2, Al3, Al4⟩, ⟨Am0, Am1, Am2, Am3, Am4⟩⟩ := CGv.open_ HA
  clear Ar0 Ar1 Ar2 Ar3 Ar4
  dsimp only at hn HA
  have BW1 : Below w.heap.size w w1 := BL_th (Below.refl w.heap.size w) hb1
  have zz1 : w.heap.size ≤ w1.heap.size := hb1.size
  have I := fun W lo vs vg hW => implColorNew_any W lo vs vg C ⟨p, cc, a⟩ hW x
  have S := fun W lo vs vg hW => specColorNew_any W lo vs vg C ⟨p, cc, a⟩ hW x
  have HA0 := ((HA.alloc (.cells #[.slice A0 n0 c0, .slice A1 n1 c1, .slice A2 n2 c2, .slice A3 n3 c3] 27)).alloc (.cells #[.int .i64 p, .slice A4 n4 c4, .int .i64 a] 29)).mono (Nat.zero_le _)
  rcases hb : (gcB C ⟨p, cc, a⟩ && cellB C x)
  · have e1 : colorO C ⟨p, cc, a⟩ x = none := by unfold colorO; rw [hb]; rfl
    rw [e1] at I S
    clear e1 hb
    obtain ⟨p2, k9, a2, hz⟩ : ∃ q r s, Gp.zero = ⟨q, r, s⟩ := ⟨_, _, _, rfl⟩
    go_wp2_with fail
    refine (I _ _ _ _ HA0).mono ?_; rintro e w2 ⟨v2, rfl, HB, hb2⟩
    simp only [Option.isSome_none, Option.getD_none] at HB ⊢
    rw [hz] at HB
    have CB := CGv.mk (CGv.cv HA0) HB (Nat.zero_le _) hb2
    obtain ⟨B4, k4, d4, rfl, _, Bl4, Bm4, _⟩ := HB.open_
    clear HB
    dsimp only at CB Bl4 ⊢
    have BW2 : Below w.heap.size w w2 := BL_th (BL_al (BL_al BW1 (.cells #[.slice A0 n0 c0, .slice A1 n1 c1, .slice A2 n2 c2, .slice A3 n3 c3] 27)) (.cells #[.int .i64 p, .slice A4 n4 c4, .int .i64 a] 29)) hb2
    have zz2 : w1.heap.size + 2 ≤ w2.heap.size := by have := hb2.size; simp at this; omega
    have HA_2 := CGv.below (by exact HA0) hb2
    have X_2 := Blk4.below (by exact ((Blk4.new w1 (.slice A0 n0 c0) (.slice A1 n1 c1) (.slice A2 n2 c2) (.slice A3 n3 c3) 27).alloc (.cells #[.int .i64 p, .slice A4 n4 c4, .int .i64 a] 29))) hb2
    obtain ⟨cX_2_0, cX_2_1, cX_2_2, cX_2_3, _⟩ := X_2.cells
    have lX_2 := X_2.lt
    have Y_2 := Blk3.below (by exact (Blk3.new_at (w := (w1.alloc (.cells #[.slice A0 n0 c0, .slice A1 n1 c1, .slice A2 n2 c2, .slice A3 n3 c3] 27))) (b := (w1.heap.size + 1)) (by simp) (.int .i64 p) (.slice A4 n4 c4) (.int .i64 a) 29)) hb2
    obtain ⟨cY_2_0, cY_2_1, cY_2_2, _⟩ := Y_2.cells
    have lY_2 := Y_2.lt
    go_wp2_with fail
    refine (S _ _ _ _ (HA_2.alloc (.cells #[.int .i64 p2, .slice B4 k4 d4, .int .i64 a2] 29))).mono ?_; rintro e w3 ⟨v3, rfl, HD, hb3⟩
    simp only [Option.isSome_none, Option.getD_none] at HD ⊢
    rw [hz] at HD
    have CD := CGv.mk (CGv.cv (HA_2.alloc (.cells #[.int .i64 p2, .slice B4 k4 d4, .int .i64 a2] 29))) HD (Nat.zero_le _) hb3
    obtain ⟨D4, m4, f4, rfl, _, Dl4, Dm4, _⟩ := HD.open_
    clear HD
    dsimp only at CD Dl4 ⊢
    have BW3 : Below w.heap.size w w3 := BL_th (BL_al BW2 (.cells #[.int .i64 p2, .slice B4 k4 d4, .int .i64 a2] 29)) hb3
    have zz3 : w2.heap.size + 1 ≤ w3.heap.size := by have := hb3.size; simp at this; omega
    have HA_3 := CGv.below (by exact (HA_2.alloc (.cells #[.int .i64 p2, .slice B4 k4 d4, .int .i64 a2] 29))) hb3
    have X_3 := Blk4.below (by exact (X_2.alloc (.cells #[.int .i64 p2, .slice B4 k4 d4, .int .i64 a2] 29))) hb3
    obtain ⟨cX_3_0, cX_3_1, cX_3_2, cX_3_3, _⟩ := X_3.cells
    have lX_3 := X_3.lt
    have Y_3 := Blk3.below (by exact (Y_2.alloc (.cells #[.int .i64 p2, .slice B4 k4 d4, .int .i64 a2] 29))) hb3
    obtain ⟨cY_3_0, cY_3_1, cY_3_2, _⟩ := Y_3.cells
    have lY_3 := Y_3.lt
    have CB_3 := CGv.below (by exact (CB.alloc (.cells #[.int .i64 p2, .slice B4 k4 d4, .int .i64 a2] 29))) hb3
    have Q_3 := Blk3.below (by exact (Blk3.new w2 (.int .i64 p2) (.slice B4 k4 d4) (.int .i64 a2) 29)) hb3
    obtain ⟨cQ_3_0, cQ_3_1, cQ_3_2, _⟩ := Q_3.cells
    have lQ_3 := Q_3.lt
    go_wp2_with fail
    refine (gc_sameG (CGv.gv (CB_3.alloc (.cells #[.int .i64 p2, .slice D4 m4 f4, .int .i64 a2] 29))) (CGv.gv (CD.alloc (.cells #[.int .i64 p2, .slice D4 m4 f4, .int .i64 a2] 29)))).mono ?_; rintro e w4 ⟨rfl, hb4⟩
    have BW4 : Below w.heap.size w w4 := BL_th (BL_al BW3 (.cells #[.int .i64 p2, .slice D4 m4 f4, .int .i64 a2] 29)) hb4
    have zz4 : w3.heap.size + 1 ≤ w4.heap.size := by have := hb4.size; simp at this; omega
    have HA_4 := CGv.below (by exact (HA_3.alloc (.cells #[.int .i64 p2, .slice D4 m4 f4, .int .i64 a2] 29))) hb4
    have X_4 := Blk4.below (by exact (X_3.alloc (.cells #[.int .i64 p2, .slice D4 m4 f4, .int .i64 a2] 29))) hb4
    obtain ⟨cX_4_0, cX_4_1, cX_4_2, cX_4_3, _⟩ := X_4.cells
    have lX_4 := X_4.lt
    have Y_4 := Blk3.below (by exact (Y_3.alloc (.cells #[.int .i64 p2, .slice D4 m4 f4, .int .i64 a2] 29))) hb4
    obtain ⟨cY_4_0, cY_4_1, cY_4_2, _⟩ := Y_4.cells
    have lY_4 := Y_4.lt
    have CB_4 := CGv.below (by exact (CB_3.alloc (.cells #[.int .i64 p2, .slice D4 m4 f4, .int .i64 a2] 29))) hb4
    have Q_4 := Blk3.below (by exact (Q_3.alloc (.cells #[.int .i64 p2, .slice D4 m4 f4, .int .i64 a2] 29))) hb4
    obtain ⟨cQ_4_0, cQ_4_1, cQ_4_2, _⟩ := Q_4.cells
    have lQ_4 := Q_4.lt
    have CD_4 := CGv.below (by exact (CD.alloc (.cells #[.int .i64 p2, .slice D4 m4 f4, .int .i64 a2] 29))) hb4
    have T_4 := Blk3.below (by exact (Blk3.new w3 (.int .i64 p2) (.slice D4 m4 f4) (.int .i64 a2) 29)) hb4
    obtain ⟨cT_4_0, cT_4_1, cT_4_2, _⟩ := T_4.cells
    have lT_4 := T_4.lt
    go_wp2_with fail
    refine (gc_sameG (CGv.gv CB_4) (CGv.gv CD_4)).mono ?_; rintro e w5 ⟨rfl, hb5⟩
    have BW5 : Below w.heap.size w w5 := BL_th BW4 hb5
    have zz5 : w4.heap.size ≤ w5.heap.size := hb5.size
    have HA_5 := CGv.below (by exact HA_4) hb5
    have X_5 := Blk4.below (by exact X_4) hb5
    obtain ⟨cX_5_0, cX_5_1, cX_5_2, cX_5_3, _⟩ := X_5.cells
    have lX_5 := X_5.lt
    have Y_5 := Blk3.below (by exact Y_4) hb5
    obtain ⟨cY_5_0, cY_5_1, cY_5_2, _⟩ := Y_5.cells
    have lY_5 := Y_5.lt
    have CB_5 := CGv.below (by exact CB_4) hb5
    have Q_5 := Blk3.below (by exact Q_4) hb5
    obtain ⟨cQ_5_0, cQ_5_1, cQ_5_2, _⟩ := Q_5.cells
    have lQ_5 := Q_5.lt
    have CD_5 := CGv.below (by exact CD_4) hb5
    have T_5 := Blk3.below (by exact T_4) hb5
    obtain ⟨cT_5_0, cT_5_1, cT_5_2, _⟩ := T_5.cells
    have lT_5 := T_5.lt
    clear HA_4 X_4 cX_4_0 cX_4_1 cX_4_2 cX_4_3 lX_4 Y_4 cY_4_0 cY_4_1 cY_4_2 lY_4 CB_4 Q_4 cQ_4_0 cQ_4_1 cQ_4_2 lQ_4 CD_4 T_4 cT_4_0 cT_4_1 cT_4_2 lT_4
    go_wp2_with fail
    go_ret
    exact ⟨by simp, BW5⟩
  · obtain ⟨hg, hx⟩ := Bool.and_eq_true_iff.1 hb
    unfold cellB plB at hx
    simp only [decide_eq_true_eq] at hx
    obtain ⟨k, rfl⟩ := Int.eq_ofNat_of_zero_le hx.1
    have hkl : k < C.h.l.length := by omega
    have e1 : colorO C ⟨p, cc, a⟩ (k : Int) = some (colorG ⟨p, cc, a⟩ (k : Int)) := by unfold colorO; rw [hb]; rfl
    rw [e1] at I S
    have V := fun W lo vs vg hW => implGcValid_any W lo vs vg C (colorG ⟨p, cc, a⟩ (k : Int)) hW
    rw [colorG_valid hg] at V
    obtain ⟨zz1, _⟩ := gcB_sizes hg
    dsimp only at zz1
    obtain ⟨v, hv, hv0, eS⟩ : ∃ v : Int, (v = 0 ∨ v = 2) ∧ (p = 0 → v = 0) ∧ colorG ⟨p, cc, a⟩ (k : Int) = ⟨p, cc.set k v, a⟩ := ⟨if p = 1 ∨ p = 2 ∨ (p = 3 ∧ a ≤ k) then 2 else 0, by split <;> simp, fun h => by rw [if_neg (by omega)], by unfold colorG; simp only [Int.toNat_natCast]⟩
    rw [eS] at I S V
    have hlen : (cc.set k v).length = cc.length := List.length_set
    have hoth : ∀ j : Nat, j ≠ k → (cc.set k v)[j]? = cc[j]? := fun j h => List.getElem?_set_ne (Ne.symm h)
    have hat : (cc.set k v)[k]? = some v := by rw [List.getElem?_set, if_pos rfl, if_pos (by omega)]
    generalize cc.set k v = cS at I S V hlen hoth hat
    have HLN := Lib.hid hlen
    have HOT := Lib.hid hoth
    have HAT := Lib.hid hat
    have hkc : k < cc.length := by omega
    have hv1 : (v != 1) = true := by rcases hv with rfl | rfl <;> rfl
    have HPV := Lib.hid (show (p != 0) = true ∨ ((p != 0) = false ∧ (v == 0) = true) by
      by_cases h0 : p = 0
      · exact .inr ⟨by rw [h0]; rfl, by rw [hv0 h0]; rfl⟩
      · exact .inl (by simpa [bne] using h0))
    clear eS hlen hoth hat hv hv0 e1 hb hx zz1 hg hkl
    go_wp2_with fail
    refine (I _ _ _ _ HA0).mono ?_; rintro e w2 ⟨v2, rfl, HB, hb2⟩
    simp only [Option.isSome_some, Option.getD_some] at HB ⊢
    have CB := CGv.mk (CGv.cv HA0) HB (Nat.zero_le _) hb2
    obtain ⟨B4, k4, d4, rfl, _, Bl4, Bm4, _⟩ := HB.open_
    clear HB
    dsimp only at CB Bl4 ⊢
    have BW2 : Below w.heap.size w w2 := BL_th (BL_al (BL_al BW1 (.cells #[.slice A0 n0 c0, .slice A1 n1 c1, .slice A2 n2 c2, .slice A3 n3 c3] 27)) (.cells #[.int .i64 p, .slice A4 n4 c4, .int .i64 a] 29)) hb2
    have zz2 : w1.heap.size + 2 ≤ w2.heap.size := by have := hb2.size; simp at this; omega
    have HA_2 := CGv.below (by exact HA0) hb2
    have X_2 := Blk4.below (by exact ((Blk4.new w1 (.slice A0 n0 c0) (.slice A1 n1 c1) (.slice A2 n2 c2) (.slice A3 n3 c3) 27).alloc (.cells #[.int .i64 p, .slice A4 n4 c4, .int .i64 a] 29))) hb2
    obtain ⟨cX_2_0, cX_2_1, cX_2_2, cX_2_3, _⟩ := X_2.cells
    have lX_2 := X_2.lt
    have Y_2 := Blk3.below (by exact (Blk3.new_at (w := (w1.alloc (.cells #[.slice A0 n0 c0, .slice A1 n1 c1, .slice A2 n2 c2, .slice A3 n3 c3] 27))) (b := (w1.heap.size + 1)) (by simp) (.int .i64 p) (.slice A4 n4 c4) (.int .i64 a) 29)) hb2
    obtain ⟨cY_2_0, cY_2_1, cY_2_2, _⟩ := Y_2.cells
    have lY_2 := Y_2.lt
    go_wp2_with fail
    refine (S _ _ _ _ (HA_2.alloc (.cells #[.int .i64 p, .slice B4 k4 d4, .int .i64 a] 29))).mono ?_; rintro e w3 ⟨v3, rfl, HD, hb3⟩
    simp only [Option.isSome_some, Option.getD_some] at HD ⊢
    have CD := CGv.mk (CGv.cv (HA_2.alloc (.cells #[.int .i64 p, .slice B4 k4 d4, .int .i64 a] 29))) HD (Nat.zero_le _) hb3
    obtain ⟨D4, m4, f4, rfl, _, Dl4, Dm4, _⟩ := HD.open_
    clear HD
    dsimp only at CD Dl4 ⊢
    have BW3 : Below w.heap.size w w3 := BL_th (BL_al BW2 (.cells #[.int .i64 p, .slice B4 k4 d4, .int .i64 a] 29)) hb3
    have zz3 : w2.heap.size + 1 ≤ w3.heap.size := by have := hb3.size; simp at this; omega
    have HA_3 := CGv.below (by exact (HA_2.alloc (.cells #[.int .i64 p, .slice B4 k4 d4, .int .i64 a] 29))) hb3
    have X_3 := Blk4.below (by exact (X_2.alloc (.cells #[.int .i64 p, .slice B4 k4 d4, .int .i64 a] 29))) hb3
    obtain ⟨cX_3_0, cX_3_1, cX_3_2, cX_3_3, _⟩ := X_3.cells
    have lX_3 := X_3.lt
    have Y_3 := Blk3.below (by exact (Y_2.alloc (.cells #[.int .i64 p, .slice B4 k4 d4, .int .i64 a] 29))) hb3
    obtain ⟨cY_3_0, cY_3_1, cY_3_2, _⟩ := Y_3.cells
    have lY_3 := Y_3.lt
    have CB_3 := CGv.below (by exact (CB.alloc (.cells #[.int .i64 p, .slice B4 k4 d4, .int .i64 a] 29))) hb3
    have Q_3 := Blk3.below (by exact (Blk3.new w2 (.int .i64 p) (.slice B4 k4 d4) (.int .i64 a) 29)) hb3
    obtain ⟨cQ_3_0, cQ_3_1, cQ_3_2, _⟩ := Q_3.cells
    have lQ_3 := Q_3.lt
    go_wp2_with fail
    refine (gc_sameG (CGv.gv (CB_3.alloc (.cells #[.int .i64 p, .slice D4 m4 f4, .int .i64 a] 29))) (CGv.gv (CD.alloc (.cells #[.int .i64 p, .slice D4 m4 f4, .int .i64 a] 29)))).mono ?_; rintro e w4 ⟨rfl, hb4⟩
    have BW4 : Below w.heap.size w w4 := BL_th (BL_al BW3 (.cells #[.int .i64 p, .slice D4 m4 f4, .int .i64 a] 29)) hb4
    have zz4 : w3.heap.size + 1 ≤ w4.heap.size := by have := hb4.size; simp at this; omega
    have HA_4 := CGv.below (by exact (HA_3.alloc (.cells #[.int .i64 p, .slice D4 m4 f4, .int .i64 a] 29))) hb4
    have X_4 := Blk4.below (by exact (X_3.alloc (.cells #[.int .i64 p, .slice D4 m4 f4, .int .i64 a] 29))) hb4
    obtain ⟨cX_4_0, cX_4_1, cX_4_2, cX_4_3, _⟩ := X_4.cells
    have lX_4 := X_4.lt
    have Y_4 := Blk3.below (by exact (Y_3.alloc (.cells #[.int .i64 p, .slice D4 m4 f4, .int .i64 a] 29))) hb4
    obtain ⟨cY_4_0, cY_4_1, cY_4_2, _⟩ := Y_4.cells
    have lY_4 := Y_4.lt
    have CB_4 := CGv.below (by exact (CB_3.alloc (.cells #[.int .i64 p, .slice D4 m4 f4, .int .i64 a] 29))) hb4
    have Q_4 := Blk3.below (by exact (Q_3.alloc (.cells #[.int .i64 p, .slice D4 m4 f4, .int .i64 a] 29))) hb4
    obtain ⟨cQ_4_0, cQ_4_1, cQ_4_2, _⟩ := Q_4.cells
    have lQ_4 := Q_4.lt
    have CD_4 := CGv.below (by exact (CD.alloc (.cells #[.int .i64 p, .slice D4 m4 f4, .int .i64 a] 29))) hb4
    have T_4 := Blk3.below (by exact (Blk3.new w3 (.int .i64 p) (.slice D4 m4 f4) (.int .i64 a) 29)) hb4
    obtain ⟨cT_4_0, cT_4_1, cT_4_2, _⟩ := T_4.cells
    have lT_4 := T_4.lt
    have hn4 := Al4.out
    have hk4 := Bl4.out
    have hln := HLN.out
    obtain ⟨rb, erb, hrb⟩ := CGv.gv CB_4
    simp only [Value.agg.injEq, Array.mk.injEq, List.cons.injEq, and_true, true_and] at erb
    subst erb
    obtain ⟨gb, v9, eb, _, hgb, hxb, hcb, _⟩ := hrb.get (k := k) (by show k < cS.length; omega)
    cases eb
    obtain rfl : v9 = v := by have h9 := hxb.out; dsimp only at h9; rw [HAT.out] at h9; simpa using h9.symm
    obtain ⟨rd, erd, hrd⟩ := CGv.gv HA_4
    simp only [Value.agg.injEq, Array.mk.injEq, List.cons.injEq, and_true, true_and] at erd
    subst erd
    obtain ⟨gd, u9, ed, _, hgd, hxd, hcd, _⟩ := hrd.get (k := k) (by show k < cc.length; omega)
    cases ed
    clear hxd hxb hcd hcb
    dsimp only at hrb hrd
    go_wp2_with fail
    go_loopw [10] (fun i wr => (∃ j : Nat, j ≤ n4 ∧ i = .int .i64 j) ∧ ∃ nq, wr = w4.drewN nq) (fun i _ => n4 - (intOf i).toNat)
    case atStart => exact ⟨⟨0, Nat.zero_le _, rfl⟩, 0, rfl⟩
    case round =>
      obtain ⟨⟨j, hj, rfl⟩, nq, rfl⟩ := hrel
      by_cases hlt : j < n4
      · obtain ⟨_, y, q1, _, _, hy, hcA, _⟩ := hrd.get (k := j) (by omega)
        cases q1
        obtain ⟨_, z, q2, _, _, hz, hcB, _⟩ := hrb.get (k := j) (by omega)
        cases q2
        have hji : (j : Int) < (n4 : Int) := by omega
        have hjk : (j : Int) < (k4 : Int) := by omega
        clear hn4 hk4 hln
        by_cases hkj : j = k
        · subst hkj
          have hne : ((j : Int) != (j : Int)) = false := by simp
          clear hy hz
          go_wp2_with fail
          go_quiet (fail)
          go_wp2_with fail
          go_roundw
          case rel => exact ⟨⟨j + 1, by omega, by go_num⟩, _, by first | rfl | (rw [World.drewN_drewN])⟩
          case measure => simp [intOf]; omega
        · have hne : ((j : Int) != (k : Int)) = true := by simp; omega
          obtain rfl : z = y := by
            have := HOT.out j hkj; rw [hy.out, hz.out] at this; simpa using this
          have hzz : (z != z) = false := by simp
          clear hy hz
          go_wp2_with fail
          go_quiet (fail)
          go_wp2_with fail
          go_roundw
          case rel => exact ⟨⟨j + 1, by omega, by go_num⟩, _, by first | rfl | (rw [World.drewN_drewN])⟩
          case measure => simp [intOf]; omega
      · obtain rfl : n4 = j := by omega
        have hk44 : (k : Int) < (k4 : Int) := by omega
        clear hn4 hk4 hln
        go_wp2_with fail
        refine (V _ _ _ _ (CB_4.dnL nq)).mono ?_; rintro e w5 ⟨rfl, hb5⟩
        have BW5 : Below w.heap.size w w5 := BL_th (BL_dn BW4 nq) hb5
        have zz5 : w4.heap.size ≤ w5.heap.size := hb5.size
        have HA_5 := CGv.below (by exact (HA_4.dnL nq)) hb5
        have X_5 := Blk4.below (by exact (X_4.dnL nq)) hb5
        obtain ⟨cX_5_0, cX_5_1, cX_5_2, cX_5_3, _⟩ := X_5.cells
        have lX_5 := X_5.lt
        have Y_5 := Blk3.below (by exact (Y_4.dnL nq)) hb5
        obtain ⟨cY_5_0, cY_5_1, cY_5_2, _⟩ := Y_5.cells
        have lY_5 := Y_5.lt
        have CB_5 := CGv.below (by exact (CB_4.dnL nq)) hb5
        have Q_5 := Blk3.below (by exact (Q_4.dnL nq)) hb5
        obtain ⟨cQ_5_0, cQ_5_1, cQ_5_2, _⟩ := Q_5.cells
        have lQ_5 := Q_5.lt
        obtain ⟨_, v8, q9, _, _, hx8, hc8, _⟩ := (hrb.drewN nq |>.below hb5).get (k := k) (by have := HLN.out; omega)
        cases q9
        obtain rfl : v9 = v8 := by have h9 := hx8.out; rw [HAT.out] at h9; simpa using h9
        clear hx8
        rcases HPV.out with hq | ⟨hq, hq2⟩
        · go_wp2_with fail
          go_ret
          exact ⟨by simp, BW5⟩
        · go_wp2_with fail
          go_ret
          exact ⟨by simp, BW5⟩
end Go.Proofs.Ytdedffdmppckiaa
