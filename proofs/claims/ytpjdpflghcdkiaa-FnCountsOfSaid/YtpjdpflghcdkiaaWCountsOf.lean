/- The law FnCountsOf, walked. -/
import Derived.Test.YtpjdpflghcdkiaaLaws0
import Derived.Test.YtpjdpflghcdkiaaDCnts
import Derived.Test.YtpjdpflghcdkiaaCntI
import Derived.Test.YtpjdpflghcdkiaaSCnt
import Derived.Test.YtpjdpflghcdkiaaCntSum
import Derived.Test.YtpjdpflghcdkiaaCntA
import Derived.Test.YtpjdpflghcdkiaaHpA
import Derived.Test.YtpjdpflghcdkiaaCcs
namespace Go.Proofs.Ytpjdpflghcdkiaa
open Go.RowKit

theorem nr_len {w : World} {xs : List Int} {n : Nat} (hn : xs.length = n) {e : Ending} {w' : World} (h : NewRow w xs e w') : ∃ A c, e = .returned (.slice A n c) ∧ Row w' w.heap.size (.slice A n c) xs ∧ Below w.heap.size w w' := by
  obtain ⟨A, c, h1, h2, h3⟩ := h
  subst hn
  exact ⟨A, c, h1, h2, h3⟩
theorem row_maxN {w : World} {lo n c : Nat} {A : Option Addr} {xs : List Int} (h : Row w lo (.slice A n c) xs) : xs.length = n ∧ n ≤ 9223372036854775807 := by
  obtain ⟨A', c', e, h1, h2⟩ := h.form
  cases e
  unfold maxLen at h2
  exact ⟨rfl, by omega⟩
theorem ccInts_eqN (w : World) (lo lo' : Nat) (A A' : Option Addr) (n c n' c' : Nat) (xs : List Int) (h : Row w lo (.slice A n c) xs) (h' : Row w lo' (.slice A' n' c') xs) :
    Calls Try.prog 46 #[.slice A n c, .slice A' n' c'] w (RetB w true) :=
  (ccInts_any w lo lo' A A' n c n' c' xs xs h (row_maxN h).1 ((row_maxN h).1 ▸ (row_maxN h).2) h' (row_maxN h').1 ((row_maxN h').1 ▸ (row_maxN h').2)).mono fun _ _ ⟨he, nq, hw⟩ => ⟨by rw [he]; simp, by rw [hw]; exact below_drewN (Below.refl _ _) _⟩

set_option maxRecDepth 100000 in
set_option maxHeartbeats 4000000 in
theorem lawCountsOf_walk (w : World) (A : Option Addr) (n c : Nat) (h : Inp w A n c) :
    Calls Try.prog 11 #[.slice A n c] w (LawTrue w) := by
  by_cases hbig : 1048576 < n
  · go_enter Try.func11, Try.ntmps11
    go_wp2_with fail
    go_ret
    exact ⟨rfl, Below.refl _ _⟩
  go_enter Try.func11, Try.ntmps11
  go_wp2_with fail
  refine (drawCountsOf_any _ _ _ _ h).mono ?_; rintro e w1 ⟨v, hp, rfl, HA, hb1⟩
  have BW1 : Below w.heap.size w w1 := (Below.refl w.heap.size w).trans (hb1.mono (Below.refl w.heap.size w).size)
  have zz1 : w.heap.size ≤ w1.heap.size := hb1.size
  have HAo := HA
  obtain ⟨A0, n0, c0, A1, n1, c1, A2, n2, c2, rfl, -, ⟨l0, l1, l2⟩, -⟩ := HAo.open_
  clear HAo
  have V := fun W lo v hW => implHeapValid_any W lo v hp hW
  rcases ev : hvB hp
  · have hx : cntO hp = [] := by unfold cntO; rw [ev]; rfl
    rw [ev] at V
    have I := fun W lo v hW => (implCountsOf_any W lo v hp hW).mono fun _ _ H => nr_len (n := 0) (by rw [hx]; rfl) H
    have S := fun W lo v hW => (specCountsOf_any W lo v hp hW).mono fun _ _ H => nr_len (n := 0) (by rw [hx]; rfl) H
    rw [hx] at I S
    clear ev hx
    go_wp2_with fail
    refine (I _ _ _ (HA.alloc (.cells #[.slice A0 n0 c0, .slice A1 n1 c1, .slice A2 n2 c2] 27))).mono ?_; rintro e w2 ⟨R, k, rfl, HR, hb2⟩
    have BW2 : Below w.heap.size w w2 := (BW1.alloc BW1.size (.cells #[.slice A0 n0 c0, .slice A1 n1 c1, .slice A2 n2 c2] 27)).trans (hb2.mono (BW1.alloc BW1.size (.cells #[.slice A0 n0 c0, .slice A1 n1 c1, .slice A2 n2 c2] 27)).size)
    have zz2 : w1.heap.size + 1 ≤ w2.heap.size := by have := hb2.size; simp at this; omega
    have HA_2 := Hv.below (by exact (HA.alloc (.cells #[.slice A0 n0 c0, .slice A1 n1 c1, .slice A2 n2 c2] 27))) hb2
    have X_2 := Blk3.below (by exact (Blk3.new w1 (.slice A0 n0 c0) (.slice A1 n1 c1) (.slice A2 n2 c2) 27)) hb2
    obtain ⟨cX_2_0, cX_2_1, cX_2_2, -⟩ := X_2.cells
    have lX_2 := X_2.lt
    go_wp2_with fail
    refine (S _ _ _ HA_2).mono ?_; rintro e w3 ⟨K, m, rfl, HK, hb3⟩
    have BW3 : Below w.heap.size w w3 := BW2.trans (hb3.mono BW2.size)
    have zz3 : w2.heap.size ≤ w3.heap.size := hb3.size
    have HA_3 := Hv.below (by exact HA_2) hb3
    have X_3 := Blk3.below (by exact X_2) hb3
    obtain ⟨cX_3_0, cX_3_1, cX_3_2, -⟩ := X_3.cells
    have lX_3 := X_3.lt
    have HR_3 := Row.below (by exact HR) hb3
    go_wp2_with fail
    refine (ccInts_eqN _ _ _ _ _ _ _ _ _ _ HR_3 HK).mono ?_; rintro e w4 ⟨rfl, hb4⟩
    have BW4 : Below w.heap.size w w4 := BW3.trans (hb4.mono BW3.size)
    have zz4 : w3.heap.size ≤ w4.heap.size := hb4.size
    have HA_4 := Hv.below (by exact HA_3) hb4
    have X_4 := Blk3.below (by exact X_3) hb4
    obtain ⟨cX_4_0, cX_4_1, cX_4_2, -⟩ := X_4.cells
    have lX_4 := X_4.lt
    have HR_4 := Row.below (by exact HR_3) hb4
    have HK_4 := Row.below (by exact HK) hb4
    go_wp2_with fail
    refine (V _ _ _ HA_4).mono ?_; rintro e w5 ⟨rfl, hb5⟩
    have BW5 : Below w.heap.size w w5 := BW4.trans (hb5.mono BW4.size)
    have zz5 : w4.heap.size ≤ w5.heap.size := hb5.size
    have HA_5 := Hv.below (by exact HA_4) hb5
    have X_5 := Blk3.below (by exact X_4) hb5
    obtain ⟨cX_5_0, cX_5_1, cX_5_2, -⟩ := X_5.cells
    have lX_5 := X_5.lt
    have HR_5 := Row.below (by exact HR_4) hb5
    have HK_5 := Row.below (by exact HK_4) hb5
    go_wp2_with fail
    refine (S _ _ _ HA_5).mono ?_; rintro e w6 ⟨L, j, rfl, HL, hb6⟩
    have BW6 : Below w.heap.size w w6 := BW5.trans (hb6.mono BW5.size)
    have zz6 : w5.heap.size ≤ w6.heap.size := hb6.size
    have HA_6 := Hv.below (by exact HA_5) hb6
    have X_6 := Blk3.below (by exact X_5) hb6
    obtain ⟨cX_6_0, cX_6_1, cX_6_2, -⟩ := X_6.cells
    have lX_6 := X_6.lt
    have HR_6 := Row.below (by exact HR_5) hb6
    have HK_6 := Row.below (by exact HK_5) hb6
    go_wp2_with fail
    refine (ccInts_eqN _ _ _ _ _ _ _ _ _ _ HR_6 HL).mono ?_; rintro e w7 ⟨rfl, hb7⟩
    have BW7 : Below w.heap.size w w7 := BW6.trans (hb7.mono BW6.size)
    have zz7 : w6.heap.size ≤ w7.heap.size := hb7.size
    have HA_7 := Hv.below (by exact HA_6) hb7
    have X_7 := Blk3.below (by exact X_6) hb7
    obtain ⟨cX_7_0, cX_7_1, cX_7_2, -⟩ := X_7.cells
    have lX_7 := X_7.lt
    have HR_7 := Row.below (by exact HR_6) hb7
    have HK_7 := Row.below (by exact HK_6) hb7
    have HL_7 := Row.below (by exact HL) hb7
    go_wp2_with fail
    go_ret
    exact ⟨rfl, BW7⟩
  · have hx : cntO hp = cnts hp := by unfold cntO; rw [if_pos ev]
    have hln : (cnts hp).length = n0 := (cnts_len hp).trans l0.out
    have n8 := (hvB_len ev).2.2.1
    rw [l0.out] at n8
    have hsum := cnts_sum ev
    have hcp : cntH hp = cntN hp.l + cntN hp.r + cntN hp.t := by unfold cntH; rw [if_pos ev]
    rw [← hcp] at hsum
    have hbd := fun (y : Int) (hy : y ∈ cnts hp) => cnts_bd ev hy
    have hps := psum_bd hbd
    have hsr := fun (i : Nat) (y : Int) (hy : (cnts hp)[i]? = some y) => srcs_cnt ev hy
    rw [ev] at V
    have I := fun W lo v hW => (implCountsOf_any W lo v hp hW).mono fun _ _ H => nr_len (n := n0) (by rw [hx]; exact hln) H
    have S := fun W lo v hW => (specCountsOf_any W lo v hp hW).mono fun _ _ H => nr_len (n := n0) (by rw [hx]; exact hln) H
    have CP := fun W lo v hW => implCount_any W lo v hp hW
    have SR := fun W lo v hW c => implSources_any W lo v hp hW c
    rw [hx] at I S
    generalize cntH hp = N at hsum CP
    generalize cnts hp = xs at I S hln hsum hbd hps hsr
    have hln' := Lib.hid hln
    have hNN : (N == N) = true := by simp
    have hn0 : ((n0 : Int) == (n0 : Int)) = true := by simp
    clear ev hx hcp hln
    go_wp2_with fail
    refine (I _ _ _ (HA.alloc (.cells #[.slice A0 n0 c0, .slice A1 n1 c1, .slice A2 n2 c2] 27))).mono ?_; rintro e w2 ⟨R, k, rfl, HR, hb2⟩
    have BW2 : Below w.heap.size w w2 := (BW1.alloc BW1.size (.cells #[.slice A0 n0 c0, .slice A1 n1 c1, .slice A2 n2 c2] 27)).trans (hb2.mono (BW1.alloc BW1.size (.cells #[.slice A0 n0 c0, .slice A1 n1 c1, .slice A2 n2 c2] 27)).size)
    have zz2 : w1.heap.size + 1 ≤ w2.heap.size := by have := hb2.size; simp at this; omega
    have HA_2 := Hv.below (by exact (HA.alloc (.cells #[.slice A0 n0 c0, .slice A1 n1 c1, .slice A2 n2 c2] 27))) hb2
    have X_2 := Blk3.below (by exact (Blk3.new w1 (.slice A0 n0 c0) (.slice A1 n1 c1) (.slice A2 n2 c2) 27)) hb2
    obtain ⟨cX_2_0, cX_2_1, cX_2_2, -⟩ := X_2.cells
    have lX_2 := X_2.lt
    go_wp2_with fail
    refine (S _ _ _ HA_2).mono ?_; rintro e w3 ⟨K, m, rfl, HK, hb3⟩
    have BW3 : Below w.heap.size w w3 := BW2.trans (hb3.mono BW2.size)
    have zz3 : w2.heap.size ≤ w3.heap.size := hb3.size
    have HA_3 := Hv.below (by exact HA_2) hb3
    have X_3 := Blk3.below (by exact X_2) hb3
    obtain ⟨cX_3_0, cX_3_1, cX_3_2, -⟩ := X_3.cells
    have lX_3 := X_3.lt
    have HR_3 := Row.below (by exact HR) hb3
    go_wp2_with fail
    refine (ccInts_eqN _ _ _ _ _ _ _ _ _ _ HR_3 HK).mono ?_; rintro e w4 ⟨rfl, hb4⟩
    have BW4 : Below w.heap.size w w4 := BW3.trans (hb4.mono BW3.size)
    have zz4 : w3.heap.size ≤ w4.heap.size := hb4.size
    have HA_4 := Hv.below (by exact HA_3) hb4
    have X_4 := Blk3.below (by exact X_3) hb4
    obtain ⟨cX_4_0, cX_4_1, cX_4_2, -⟩ := X_4.cells
    have lX_4 := X_4.lt
    have HR_4 := Row.below (by exact HR_3) hb4
    have HK_4 := Row.below (by exact HK) hb4
    go_wp2_with fail
    refine (V _ _ _ HA_4).mono ?_; rintro e w5 ⟨rfl, hb5⟩
    have BW5 : Below w.heap.size w w5 := BW4.trans (hb5.mono BW4.size)
    have zz5 : w4.heap.size ≤ w5.heap.size := hb5.size
    have HA_5 := Hv.below (by exact HA_4) hb5
    have X_5 := Blk3.below (by exact X_4) hb5
    obtain ⟨cX_5_0, cX_5_1, cX_5_2, -⟩ := X_5.cells
    have lX_5 := X_5.lt
    have HR_5 := Row.below (by exact HR_4) hb5
    have HK_5 := Row.below (by exact HK_4) hb5
    have S0 := (⟨X_5, HA_5.mono (Nat.zero_le _), HR_5.mono (Nat.zero_le _), BW5⟩ : Blk3 w5 w1.heap.size (.slice A0 n0 c0) (.slice A1 n1 c1) (.slice A2 n2 c2) 27 ∧ Hv w5 0 (.agg #[.slice A0 n0 c0, .slice A1 n1 c1, .slice A2 n2 c2]) hp ∧ Row w5 0 (.slice R n0 k) xs ∧ Below w.heap.size w w5)
    go_wp2_with fail
    go_loopg [5, 6, 7] n0 (fun gk sv iv_ _ wr => ∃ i : Nat, iv_ = .int .i64 (i : Int) ∧ sv = .int .i64 (xs.take i).sum ∧ i ≤ n0 ∧ gk = n0 - i ∧ Blk3 wr w1.heap.size (.slice A0 n0 c0) (.slice A1 n1 c1) (.slice A2 n2 c2) 27 ∧ Hv wr 0 (.agg #[.slice A0 n0 c0, .slice A1 n1 c1, .slice A2 n2 c2]) hp ∧ Row wr 0 (.slice R n0 k) xs ∧ Below w.heap.size w wr)
    case atStart => exact ⟨0, rfl, rfl, Nat.zero_le _, rfl, S0⟩
    case round =>
      obtain ⟨i, rfl, rfl, hi, rfl, X, HA', HR', B'⟩ := hrel
      obtain ⟨x0, x1, x2, -⟩ := X.cells
      have lX := X.lt
      have hp1 := hps i
      by_cases hlt : i < n0
      · have q1 : (i : Int) < (n0 : Int) := by omega
        obtain ⟨g, y, rfl, _, hgl, hy, hcy, -⟩ := HR'.get (k := i) (by have := hln'.out; omega)
        have hm := hsr i y hy.out
        have hyb := hbd y (List.mem_of_getElem? hy.out)
        have htk := Lib.hid (take_sum hy.out)
        generalize (xs.take i).sum = Sm at hp1 htk ⊢
        have hw : IntKind.i64.wrap (Sm + y) = Sm + y := IntWalk.i64_in _ (by omega)
        have SR1 := (SR wr _ _ HA' (i : Int)).mono fun _ _ H => nr_len rfl H
        generalize (srcs hp (i : Int)).length = m9 at hm SR1
        have hnl : ¬ (y < (m9 : Int)) := by omega
        go_wp2_with fail
        refine SR1.mono ?_; rintro e w6 ⟨R9, k9, rfl, HR9, hb6⟩
        have X6 := X.below hb6
        have A6 := HA'.below hb6
        have R6 := HR'.below hb6
        have B6 := B'.trans (hb6.mono B'.size)
        have hcy6 := (World.cell?_of_block (w := wr) (a := ⟨g, i, none⟩) (hb6.block g hgl)).trans hcy
        clear X HA' HR' x0 x1 x2 HR9
        go_wp2_with fail
        go_roundg (n0 - (i + 1))
        case measure => omega
        case rel => exact ⟨i + 1, by go_num, by rw [htk.out], by omega, rfl, X6, A6, R6, B6⟩
      · have q1 : ¬ ((i : Int) < (n0 : Int)) := by omega
        have hS : (xs.take i).sum = N := by rw [List.take_of_length_le (by have := hln'.out; omega)]; exact hsum
        rw [hS]
        go_wp2_with fail
        refine (CP _ _ _ HA').mono ?_; rintro e w6 ⟨rfl, hb6⟩
        obtain ⟨p0, p1, p2, -⟩ := (X.below hb6).cells
        go_wp2_with fail
        go_ret
        exact ⟨rfl, B'.trans (hb6.mono B'.size)⟩
end Go.Proofs.Ytpjdpflghcdkiaa
