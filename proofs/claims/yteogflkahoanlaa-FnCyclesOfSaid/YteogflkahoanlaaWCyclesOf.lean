/- The law FnCyclesOf, walked. -/
import Derived.Test.YteogflkahoanlaaLaws0
import Derived.Test.YteogflkahoanlaaWrgDs
import Derived.Test.YteogflkahoanlaaCVal
import Derived.Test.YteogflkahoanlaaIStos
import Derived.Test.YteogflkahoanlaaLives
import Derived.Test.YteogflkahoanlaaCcs
import Derived.Test.YteogflkahoanlaaPureKS
import Derived.Test.YteogflkahoanlaaLawSs
namespace Go.Proofs.Yteogflkahoanlaa
open Go.RowKit

theorem nr_len9 {w : World} {xs : List Int} {n : Nat} (hn : xs.length = n) {e : Ending} {w' : World} (h : NewRow w xs e w') : ∃ A c, e = .returned (.slice A n c) ∧ Row w' w.heap.size (.slice A n c) xs ∧ Below w.heap.size w w' := by
  obtain ⟨A, c, h1, h2, h3⟩ := h
  subst hn
  exact ⟨A, c, h1, h2, h3⟩
theorem nrb_len9 {w : World} {xs : List Bool} {n : Nat} (hn : xs.length = n) {e : Ending} {w' : World} (h : NewRowB w xs e w') : ∃ A c, e = .returned (.slice A n c) ∧ RowB w' w.heap.size (.slice A n c) xs ∧ Below w.heap.size w w' := by
  obtain ⟨A, c, h1, h2, h3⟩ := h
  subst hn
  exact ⟨A, c, h1, h2, h3⟩
theorem row_max8 {w : World} {lo n c : Nat} {A : Option Addr} {xs : List Int} (h : Row w lo (.slice A n c) xs) : xs.length = n ∧ n ≤ 9223372036854775807 := by
  obtain ⟨A', c', e, h1, h2⟩ := h.form
  cases e
  unfold maxLen at h2
  exact ⟨rfl, by omega⟩
theorem ccInts_eq8 (w : World) (lo lo' : Nat) (A A' : Option Addr) (n c n' c' : Nat) (xs : List Int) (h : Row w lo (.slice A n c) xs) (h' : Row w lo' (.slice A' n' c') xs) :
    Calls Try.prog 30 #[.slice A n c, .slice A' n' c'] w (RetB w true) :=
  (ccInts_any w lo lo' A A' n c n' c' xs xs h (row_max8 h).1 ((row_max8 h).1 ▸ (row_max8 h).2) h' (row_max8 h').1 ((row_max8 h').1 ▸ (row_max8 h').2)).mono fun _ _ ⟨he, nq, hw⟩ => ⟨by rw [he]; simp, by rw [hw]; exact below_drewN (Below.refl _ _) _⟩
theorem cyc_facts {D : Dp} {y : Int} (h : y ∈ cycL D) : ∃ k : Nat, y = k ∧ (liveL D.C.h)[k]? = some false ∧ isFreeB D.C y = false := by
  unfold cycL at h
  split at h
  · obtain ⟨_, h1, h2⟩ := mem_leak h
    have h3 := isFree_out h2
    unfold garb garbN at h1
    rw [List.mem_map] at h1
    obtain ⟨k, hk, rfl⟩ := h1
    rw [List.mem_filter] at hk
    have hkl : k < (liveL D.C.h).length := List.mem_range.1 hk.1
    have e : (liveL D.C.h).getD k true = (liveL D.C.h)[k] := by simp [List.getD, List.getElem?_eq_getElem hkl]
    refine ⟨k, rfl, ?_, h3⟩
    rw [List.getElem?_eq_getElem hkl, ← e]
    have := hk.2
    simp only [beq_iff_eq] at this
    rw [this]
  · cases h
theorem cv_of8 {w : World} {lo : Nat} {a b c d e : Value} {D : Dp} (h : Dv w lo (.agg #[a, b, c, d, e]) D) : Cv w lo (.agg #[a, b, c, d]) D.C := h.cvn.1

set_option maxRecDepth 100000 in
set_option maxHeartbeats 4000000 in
theorem lawCyclesOf_walk (w : World) (A : Option Addr) (n c : Nat) (h : Inp w A n c) :
    Calls Try.prog 6 #[.slice A n c] w (LawTrue w) := by
  by_cases hbig : 1048576 < n
  · go_enter Try.func6, Try.ntmps6
    go_wp2_with fail
    go_ret
    exact ⟨rfl, Below.refl _ _⟩
  go_enter Try.func6, Try.ntmps6
  go_wp2_with fail
  refine (drawCyclesOf_any _ _ _ _ h).mono ?_; rintro e w1 ⟨v, D, rfl, HA, hb1⟩
  have BW1 : Below w.heap.size w w1 := (Below.refl w.heap.size w).trans (hb1.mono (Below.refl w.heap.size w).size)
  have zz1 : w.heap.size ≤ w1.heap.size := hb1.size
  have HAo := HA
  obtain ⟨A0, n0, c0, A1, n1, c1, A2, n2, c2, A3, n3, c3, A4, n4, c4, rfl, -⟩ := HAo.open_
  clear HAo
  have IF := fun W lo v hW y => implIsFree_any W lo v D.C hW y
  have hcf := fun (y : Int) (hy : y ∈ cycL D) => cyc_facts hy
  obtain ⟨N, hN⟩ : ∃ N, (cycL D).length = N := ⟨_, rfl⟩
  obtain ⟨M, hM⟩ : ∃ M, (liveL D.C.h).length = M := ⟨_, rfl⟩
  have I := fun W lo v hW => (implCyclesOf_any W lo v D hW).mono fun _ _ H => nr_len9 hN H
  have S := fun W lo v hW => (specCyclesOf_any W lo v D hW).mono fun _ _ H => nr_len9 hN H
  have RC := fun W lo v hW => (implReach_any W lo v D.C.h hW).mono fun _ _ H => nrb_len9 hM H
  generalize cycL D = xs at I S hcf hN
  have hMl := Lib.hid hM
  have hcf' := hcf
  generalize liveL D.C.h = bs at RC hcf' hM
  clear hcf
  have hN' := Lib.hid hN
  have hM' := Lib.hid hM
  clear hN hM hMl
  go_wp2_with fail
  refine (I _ _ _ (HA.alloc (.cells #[.slice A0 n0 c0, .slice A1 n1 c1, .slice A2 n2 c2, .slice A3 n3 c3, .slice A4 n4 c4] 29))).mono ?_; rintro e w2 ⟨R, k, rfl, HR, hb2⟩
  have BW2 : Below w.heap.size w w2 := (BW1.alloc BW1.size (.cells #[.slice A0 n0 c0, .slice A1 n1 c1, .slice A2 n2 c2, .slice A3 n3 c3, .slice A4 n4 c4] 29)).trans (hb2.mono (BW1.alloc BW1.size (.cells #[.slice A0 n0 c0, .slice A1 n1 c1, .slice A2 n2 c2, .slice A3 n3 c3, .slice A4 n4 c4] 29)).size)
  have zz2 : w1.heap.size + 1 ≤ w2.heap.size := by have := hb2.size; simp at this; omega
  have HA_2 := Dv.below (by exact (HA.alloc (.cells #[.slice A0 n0 c0, .slice A1 n1 c1, .slice A2 n2 c2, .slice A3 n3 c3, .slice A4 n4 c4] 29))) hb2
  have X_2 := Blk5.below (by exact (Blk5.new w1 (.slice A0 n0 c0) (.slice A1 n1 c1) (.slice A2 n2 c2) (.slice A3 n3 c3) (.slice A4 n4 c4) 29)) hb2
  obtain ⟨cX_2_0, cX_2_1, cX_2_2, cX_2_3, cX_2_4, -⟩ := X_2.cells
  have lX_2 := X_2.lt
  go_wp2_with fail
  refine (S _ _ _ HA_2).mono ?_; rintro e w3 ⟨K, m, rfl, HK, hb3⟩
  have BW3 : Below w.heap.size w w3 := BW2.trans (hb3.mono BW2.size)
  have zz3 : w2.heap.size ≤ w3.heap.size := hb3.size
  have HA_3 := Dv.below (by exact HA_2) hb3
  have X_3 := Blk5.below (by exact X_2) hb3
  obtain ⟨cX_3_0, cX_3_1, cX_3_2, cX_3_3, cX_3_4, -⟩ := X_3.cells
  have lX_3 := X_3.lt
  have HR_3 := Row.below (by exact HR) hb3
  go_wp2_with fail
  refine (ccInts_eq8 _ _ _ _ _ _ _ _ _ _ HR_3 HK).mono ?_; rintro e w4 ⟨rfl, hb4⟩
  have BW4 : Below w.heap.size w w4 := BW3.trans (hb4.mono BW3.size)
  have zz4 : w3.heap.size ≤ w4.heap.size := hb4.size
  have HA_4 := Dv.below (by exact HA_3) hb4
  have X_4 := Blk5.below (by exact X_3) hb4
  obtain ⟨cX_4_0, cX_4_1, cX_4_2, cX_4_3, cX_4_4, -⟩ := X_4.cells
  have lX_4 := X_4.lt
  have HR_4 := Row.below (by exact HR_3) hb4
  have HK_4 := Row.below (by exact HK) hb4
  go_wp2_with fail
  refine (RC _ _ _ (cv_of8 HA_4).hvS).mono ?_; rintro e w5 ⟨L, l, rfl, HL, hb5⟩
  have BW5 : Below w.heap.size w w5 := BW4.trans (hb5.mono BW4.size)
  have zz5 : w4.heap.size ≤ w5.heap.size := hb5.size
  have HA_5 := Dv.below (by exact HA_4) hb5
  have X_5 := Blk5.below (by exact X_4) hb5
  obtain ⟨cX_5_0, cX_5_1, cX_5_2, cX_5_3, cX_5_4, -⟩ := X_5.cells
  have lX_5 := X_5.lt
  have HR_5 := Row.below (by exact HR_4) hb5
  have HK_5 := Row.below (by exact HK_4) hb5
  have hNm := (row_max8 HR_5).2
  have S0 := (⟨X_5, HA_5.mono (Nat.zero_le _), HR_5.mono (Nat.zero_le _), HL.mono (Nat.zero_le _), BW5⟩ : Blk5 w5 w1.heap.size (.slice A0 n0 c0) (.slice A1 n1 c1) (.slice A2 n2 c2) (.slice A3 n3 c3) (.slice A4 n4 c4) 29 ∧ Dv w5 0 (.agg #[.slice A0 n0 c0, .slice A1 n1 c1, .slice A2 n2 c2, .slice A3 n3 c3, .slice A4 n4 c4]) D ∧ Row w5 0 (.slice R N k) xs ∧ RowB w5 0 (.slice L M l) bs ∧ Below w.heap.size w w5)
  go_wp2_with fail
  go_loopg [6] N (fun gk iv_ wr => ∃ i : Nat, iv_ = .int .i64 (i : Int) ∧ i ≤ N ∧ gk = N - i ∧ Blk5 wr w1.heap.size (.slice A0 n0 c0) (.slice A1 n1 c1) (.slice A2 n2 c2) (.slice A3 n3 c3) (.slice A4 n4 c4) 29 ∧ Dv wr 0 (.agg #[.slice A0 n0 c0, .slice A1 n1 c1, .slice A2 n2 c2, .slice A3 n3 c3, .slice A4 n4 c4]) D ∧ Row wr 0 (.slice R N k) xs ∧ RowB wr 0 (.slice L M l) bs ∧ Below w.heap.size w wr)
  case atStart => exact ⟨0, rfl, Nat.zero_le _, rfl, S0⟩
  case round =>
    obtain ⟨i, rfl, hi, rfl, X, HA', HR', HL', B'⟩ := hrel
    by_cases hlt : i < N
    · have q1 : (i : Int) < (N : Int) := by omega
      obtain ⟨g, y, rfl, _, hgl, hy, hcy, -⟩ := HR'.get (k := i) (by have := hN'.out; omega)
      obtain ⟨y, rfl, hby, hfy⟩ := hcf' y (List.mem_of_getElem? hy.out)
      obtain ⟨gr, bq, rfl, _, hgrl, hbq, hcb, -⟩ := HL'.get (k := y) (List.getElem?_eq_some_iff.1 hby).1
      obtain rfl : bq = false := by have h9 := hbq.out; rw [hby] at h9; cases h9; rfl
      have q2 : (y : Int) < (M : Int) := by have := (List.getElem?_eq_some_iff.1 hby).1; have := hM'.out; omega
      have IF1 := IF wr.drew _ _ (cv_of8 HA'.drew) (y : Int)
      rw [hfy] at IF1
      have SO : ∀ w' : World, Below wr.heap.size wr w' → w'.cell? ⟨w1.heap.size, 0, none⟩ = some (.slice A0 n0 c0) ∧ w'.cell? ⟨w1.heap.size, 1, none⟩ = some (.slice A1 n1 c1) ∧ w'.cell? ⟨w1.heap.size, 2, none⟩ = some (.slice A2 n2 c2) ∧ w'.cell? ⟨w1.heap.size, 3, none⟩ = some (.slice A3 n3 c3) ∧ w'.cell? ⟨w1.heap.size, 4, none⟩ = some (.slice A4 n4 c4) ∧ w'.cell? ⟨g, i, none⟩ = some (.int .i64 (y : Int)) ∧ w'.cell? ⟨gr, y, none⟩ = some (.bool false) := fun w' hb => ⟨(X.below hb).cells.1, (X.below hb).cells.2.1, (X.below hb).cells.2.2.1, (X.below hb).cells.2.2.2.1, (X.below hb).cells.2.2.2.2.1, (World.cell?_of_block (w := wr) (a := ⟨g, i, none⟩) (hb.block g hgl)).trans hcy, (World.cell?_of_block (w := wr) (a := ⟨gr, y, none⟩) (hb.block gr hgrl)).trans hcb⟩
      clear hy hby hbq hfy
      go_wp2_with fail
      go_region_held3 (fun w' => w'.cell? ⟨w1.heap.size, 0, none⟩ = some (.slice A0 n0 c0) ∧ w'.cell? ⟨w1.heap.size, 1, none⟩ = some (.slice A1 n1 c1) ∧ w'.cell? ⟨w1.heap.size, 2, none⟩ = some (.slice A2 n2 c2) ∧ w'.cell? ⟨w1.heap.size, 3, none⟩ = some (.slice A3 n3 c3) ∧ w'.cell? ⟨w1.heap.size, 4, none⟩ = some (.slice A4 n4 c4) ∧ w'.cell? ⟨g, i, none⟩ = some (.int .i64 (y : Int)) ∧ w'.cell? ⟨gr, y, none⟩ = some (.bool false))
        (((try dsimp only); (refine SO _ ?_); (repeat (with_reducible (first | exact Below.refl _ _ | exact hR1 | refine B5_dr ?_ | refine B5_al ?_ _)))))
        (first
          | (go_at_call 19; (with_reducible refine IF1.mono ?_); rintro e w6 ⟨rfl, hb6⟩; (have hR1 : Below wr.heap.size wr w6 := B5_th (B5_dr (Below.refl _ _)) hb6)))
      all_goals
        rename_i hHeld
        clear hHeld
        have X6 := X.below hR1
        have A6 := HA'.below hR1
        have R6 := HR'.below hR1
        have L6 := HL'.below hR1
        have B6 := B'.trans (hR1.mono B'.size)
        clear X HA' HR' HL' SO
        go_wp2_with fail
        go_roundg (N - (i + 1))
        case measure => omega
        case rel => exact ⟨i + 1, by go_num, by omega, rfl, X6, A6, R6, L6, B6⟩
    · have q1 : ¬ ((i : Int) < (N : Int)) := by omega
      go_wp2_with fail
      go_ret
      exact ⟨rfl, B'⟩
end Go.Proofs.Yteogflkahoanlaa
