/- The law FnGarbageOf, walked. -/
import Derived.Test.YtlkkngkocnkicaaDGarbageOf
import Derived.Test.YtlkkngkocnkicaaGarb
import Derived.Test.YtlkkngkocnkicaaClos
import Derived.Test.YtlkkngkocnkicaaCc
import Derived.Test.YtlkkngkocnkicaaWLaw
namespace Go.Proofs.Ytlkkngkocnkicaa
open Go.RowKit

theorem row_maxG {w : World} {lo n c : Nat} {A : Option Addr} {xs : List Int} (h : Row w lo (.slice A n c) xs) : xs.length ≤ 9223372036854775807 := by
  obtain ⟨A', c', _, h1, h2⟩ := h.form
  unfold maxLen at h2; omega
theorem ccInts_sameG (w : World) (lo lo' : Nat) (A A' : Option Addr) (c c' : Nat) (xs : List Int) (h : Row w lo (.slice A xs.length c) xs) (h' : Row w lo' (.slice A' xs.length c') xs) :
    Calls Try.prog 15 #[.slice A xs.length c, .slice A' xs.length c'] w (RetB w true) :=
  (ccInts_any w lo lo' A A' xs.length c xs.length c' xs xs h rfl (row_maxG h) h' rfl (row_maxG h')).mono fun _ _ ⟨he, nq, hw⟩ => ⟨by rw [he]; simp, by rw [hw]; exact below_drewN (Below.refl _ _) _⟩
theorem garbN_mem {xs : List Bool} {n : Nat} {y : Int} (hn : n ≤ xs.length) (hy : y ∈ garbN xs n) : ∃ k : Nat, y = k ∧ k < n ∧ xs[k]? = some false := by
  unfold garbN at hy
  rw [List.mem_map] at hy
  obtain ⟨k, hk, rfl⟩ := hy
  rw [List.mem_filter, List.mem_range] at hk
  have hkl : k < xs.length := by omega
  refine ⟨k, rfl, hk.1, ?_⟩
  have h9 := hk.2
  rw [List.getElem?_eq_getElem hkl]
  simp [List.getD, List.getElem?_eq_getElem hkl] at h9
  rw [h9]
theorem garbN_up (xs : List Bool) (n : Nat) : (garbN xs n).Pairwise (· < ·) := by
  unfold garbN
  rw [List.pairwise_map]
  exact (List.Pairwise.filter _ List.pairwise_lt_range).imp (fun h => by omega)
theorem up_next {xs : List Int} (h : xs.Pairwise (· < ·)) {k : Nat} {x y : Int} (hx : xs[k]? = some x) (hy : xs[k + 1]? = some y) : x < y := by
  obtain ⟨h1, rfl⟩ := List.getElem?_eq_some_iff.1 hx
  obtain ⟨h2, rfl⟩ := List.getElem?_eq_some_iff.1 hy
  exact (List.pairwise_iff_getElem.1 h) k (k + 1) h1 h2 (by omega)
theorem garbN_count (xs : List Bool) : ∀ k : Nat, k ≤ xs.length → ((garbN xs k).length : Int) + cntB (xs.take k) = k := by
  intro k
  induction k with
  | zero => intro _; simp [garbN, cntB]
  | succ k ih =>
    intro hk
    have hkl : k < xs.length := by omega
    have ih' := ih (by omega)
    have e : xs.getD k true = xs[k] := by simp [List.getD, List.getElem?_eq_getElem hkl]
    rw [garbN_succ, e, List.take_add_one, List.getElem?_eq_getElem hkl, cntB_snoc]
    cases hx : xs[k]
    · simp; omega
    · simp; omega
theorem garb_facts {h : Hp} (hv : hvB h = true) : (∀ y ∈ garb h, ∃ k : Nat, y = k ∧ k < h.l.length ∧ (liveL h)[k]? = some false) ∧ (garb h).Pairwise (· < ·) ∧ ((garb h).length : Int) + cntB (liveL h) = h.l.length := by
  have hl := liveL_len hv
  refine ⟨fun y hy => ?_, garbN_up _ _, ?_⟩
  · obtain ⟨k, e, hk, hx⟩ := garbN_mem (Nat.le_refl _) hy
    exact ⟨k, e, by rw [← hl]; exact hk, hx⟩
  · have h9 := garbN_count (liveL h) (liveL h).length (Nat.le_refl _)
    rw [List.take_of_length_le (Nat.le_refl _)] at h9
    rw [← hl]; exact h9

set_option maxRecDepth 100000 in
set_option maxHeartbeats 3000000 in
theorem lawGarbageOf_walk (w : World) (A : Option Addr) (n c : Nat) (h : Inp w A n c) :
    Calls Try.prog 3 #[.slice A n c] w (LawTrue w) := by
  by_cases hbig : 1048576 < n
  · go_enter Try.func3, Try.ntmps3
    go_wp2_with fail
    go_ret
    exact ⟨rfl, Below.refl _ _⟩
  go_enter Try.func3, Try.ntmps3
  go_wp2_with fail
  refine (drawGarbageOf_any _ _ _ _ h).mono ?_; rintro e w1 ⟨v, hp, rfl, HA, hb1⟩
  have BW1 : Below w.heap.size w w1 := (Below.refl w.heap.size w).trans (hb1.mono (Below.refl w.heap.size w).size)
  have zz1 := hb1.size
  have I := fun W v hW => implGarb_any W w.heap.size v hp hW
  have S := fun W v hW => specGarb_any W w.heap.size v hp hW
  have V := fun W v hW => implHeapValid_any W w.heap.size v hp hW
  have RR := fun W v hW => implReach_any W w.heap.size v hp hW
  have LC := fun W v hW => implLive_any W w.heap.size v hp hW
  have fb := garb_len hp
  have HAo := HA
  obtain ⟨A0, n0, c0, A1, n1, c1, A2, n2, c2, rfl, ⟨r0, r1, r2⟩, ⟨l0, l1, l2⟩, _⟩ := HAo.open_
  rcases ev : hvB hp
  · rw [ev] at V
    have hxs : garb hp = [] := by unfold garb liveL; rw [ev]; simp [garbN]
    rw [hxs] at I S
    clear ev hxs RR LC fb
    go_wp2_with fail
    refine (I _ _ (HA.alloc (.cells #[.slice A0 n0 c0, .slice A1 n1 c1, .slice A2 n2 c2] 25))).mono ?_; rintro e w2 ⟨AR2, kR2, rfl, R2, hb2⟩
    have BW2 : Below w.heap.size w w2 := (BW1.alloc BW1.size (.cells #[.slice A0 n0 c0, .slice A1 n1 c1, .slice A2 n2 c2] 25)).trans (hb2.mono (BW1.alloc BW1.size (.cells #[.slice A0 n0 c0, .slice A1 n1 c1, .slice A2 n2 c2] 25)).size)
    have zz2 := hb2.size
    have HA_2 := Hv.below (by exact (HA.alloc (.cells #[.slice A0 n0 c0, .slice A1 n1 c1, .slice A2 n2 c2] 25))) hb2
    have X_2 := Blk3.below (by exact (Blk3.new w1 (.slice A0 n0 c0) (.slice A1 n1 c1) (.slice A2 n2 c2) 25)) hb2
    obtain ⟨cX_2_0, cX_2_1, cX_2_2, _⟩ := X_2.cells
    have lX_2 := X_2.lt
    go_wp2_with fail
    refine (S _ _ HA_2).mono ?_; rintro e w3 ⟨AR3, kR3, rfl, R3, hb3⟩
    have BW3 : Below w.heap.size w w3 := BW2.trans (hb3.mono BW2.size)
    have zz3 := hb3.size
    have HA_3 := Hv.below (by exact HA_2) hb3
    have X_3 := Blk3.below (by exact X_2) hb3
    obtain ⟨cX_3_0, cX_3_1, cX_3_2, _⟩ := X_3.cells
    have lX_3 := X_3.lt
    have R2_3 := Row.below (by exact R2) hb3
    go_wp2_with fail
    refine (ccInts_sameG _ _ _ _ _ _ _ [] R2_3 R3).mono ?_; rintro e w4 ⟨rfl, hb4⟩
    have BW4 : Below w.heap.size w w4 := BW3.trans (hb4.mono BW3.size)
    have zz4 := hb4.size
    have HA_4 := Hv.below (by exact HA_3) hb4
    have X_4 := Blk3.below (by exact X_3) hb4
    obtain ⟨cX_4_0, cX_4_1, cX_4_2, _⟩ := X_4.cells
    have lX_4 := X_4.lt
    have R2_4 := Row.below (by exact R2_3) hb4
    have R3_4 := Row.below (by exact R3) hb4
    go_wp2_with fail
    refine (V _ _ HA_4).mono ?_; rintro e w5 ⟨rfl, hb5⟩
    have BW5 : Below w.heap.size w w5 := BW4.trans (hb5.mono BW4.size)
    have zz5 := hb5.size
    have HA_5 := Hv.below (by exact HA_4) hb5
    have X_5 := Blk3.below (by exact X_4) hb5
    obtain ⟨cX_5_0, cX_5_1, cX_5_2, _⟩ := X_5.cells
    have lX_5 := X_5.lt
    have R2_5 := Row.below (by exact R2_4) hb5
    go_wp2_with fail
    refine (S _ _ HA_5).mono ?_; rintro e w6 ⟨AR6, kR6, rfl, R6, hb6⟩
    have BW6 : Below w.heap.size w w6 := BW5.trans (hb6.mono BW5.size)
    have zz6 := hb6.size
    have HA_6 := Hv.below (by exact HA_5) hb6
    have X_6 := Blk3.below (by exact X_5) hb6
    obtain ⟨cX_6_0, cX_6_1, cX_6_2, _⟩ := X_6.cells
    have lX_6 := X_6.lt
    have R2_6 := Row.below (by exact R2_5) hb6
    go_wp2_with fail
    refine (ccInts_sameG _ _ _ _ _ _ _ [] R2_6 R6).mono ?_; rintro e w7 ⟨rfl, hb7⟩
    have BW7 : Below w.heap.size w w7 := BW6.trans (hb7.mono BW6.size)
    have zz7 := hb7.size
    have HA_7 := Hv.below (by exact HA_6) hb7
    have X_7 := Blk3.below (by exact X_6) hb7
    obtain ⟨cX_7_0, cX_7_1, cX_7_2, _⟩ := X_7.cells
    have lX_7 := X_7.lt
    have R2_7 := Row.below (by exact R2_6) hb7
    have R6_7 := Row.below (by exact R6) hb7
    go_wp2_with fail
    go_ret
    exact ⟨rfl, BW7⟩
  · rw [ev] at V
    obtain ⟨g1, g2, g3⟩ := garb_facts ev
    have hyl : (liveL hp).length = n0 := by rw [liveL_len ev]; exact l0.out
    have hl0 := l0.out
    rw [hl0] at g1 g3
    have n0b : n0 ≤ 8 := by have := liveL_bd hp; omega
    have cb := cntB_bd (liveL hp)
    generalize garb hp = gs at I S g1 g2 g3 fb
    generalize liveL hp = ys at RR LC g1 g3 hyl cb
    rw [hyl] at cb
    have G1 := Lib.hid g1
    have G2 := Lib.hid g2
    have HYL := Lib.hid hyl
    generalize cntB ys = N at LC g3 cb
    clear ev g1 g2 hyl hl0 r0 r1 r2
    go_wp2_with fail
    refine (I _ _ (HA.alloc (.cells #[.slice A0 n0 c0, .slice A1 n1 c1, .slice A2 n2 c2] 25))).mono ?_; rintro e w2 ⟨AR2, kR2, rfl, R2, hb2⟩
    have BW2 : Below w.heap.size w w2 := (BW1.alloc BW1.size (.cells #[.slice A0 n0 c0, .slice A1 n1 c1, .slice A2 n2 c2] 25)).trans (hb2.mono (BW1.alloc BW1.size (.cells #[.slice A0 n0 c0, .slice A1 n1 c1, .slice A2 n2 c2] 25)).size)
    have zz2 := hb2.size
    have HA_2 := Hv.below (by exact (HA.alloc (.cells #[.slice A0 n0 c0, .slice A1 n1 c1, .slice A2 n2 c2] 25))) hb2
    have X_2 := Blk3.below (by exact (Blk3.new w1 (.slice A0 n0 c0) (.slice A1 n1 c1) (.slice A2 n2 c2) 25)) hb2
    obtain ⟨cX_2_0, cX_2_1, cX_2_2, _⟩ := X_2.cells
    have lX_2 := X_2.lt
    go_wp2_with fail
    refine (S _ _ HA_2).mono ?_; rintro e w3 ⟨AR3, kR3, rfl, R3, hb3⟩
    have BW3 : Below w.heap.size w w3 := BW2.trans (hb3.mono BW2.size)
    have zz3 := hb3.size
    have HA_3 := Hv.below (by exact HA_2) hb3
    have X_3 := Blk3.below (by exact X_2) hb3
    obtain ⟨cX_3_0, cX_3_1, cX_3_2, _⟩ := X_3.cells
    have lX_3 := X_3.lt
    have R2_3 := Row.below (by exact R2) hb3
    go_wp2_with fail
    refine (ccInts_sameG _ _ _ _ _ _ _ _ R2_3 R3).mono ?_; rintro e w4 ⟨rfl, hb4⟩
    have BW4 : Below w.heap.size w w4 := BW3.trans (hb4.mono BW3.size)
    have zz4 := hb4.size
    have HA_4 := Hv.below (by exact HA_3) hb4
    have X_4 := Blk3.below (by exact X_3) hb4
    obtain ⟨cX_4_0, cX_4_1, cX_4_2, _⟩ := X_4.cells
    have lX_4 := X_4.lt
    have R2_4 := Row.below (by exact R2_3) hb4
    have R3_4 := Row.below (by exact R3) hb4
    generalize hnx : gs.length = nx at *
    have HNX := Lib.hid hnx
    clear hnx
    go_wp2_with fail
    refine (V _ _ HA_4).mono ?_; rintro e w5 ⟨rfl, hb5⟩
    have BW5 : Below w.heap.size w w5 := BW4.trans (hb5.mono BW4.size)
    have zz5 := hb5.size
    have HA_5 := Hv.below (by exact HA_4) hb5
    have X_5 := Blk3.below (by exact X_4) hb5
    obtain ⟨cX_5_0, cX_5_1, cX_5_2, _⟩ := X_5.cells
    have lX_5 := X_5.lt
    have R2_5 := Row.below (by exact R2_4) hb5
    go_wp2_with fail
    refine (RR _ _ HA_5).mono ?_; rintro e w6 ⟨A6, k6, rfl, R6, hb6⟩
    have BW6 : Below w.heap.size w w6 := BW5.trans (hb6.mono BW5.size)
    have zz6 := hb6.size
    have HA_6 := Hv.below (by exact HA_5) hb6
    have X_6 := Blk3.below (by exact X_5) hb6
    obtain ⟨cX_6_0, cX_6_1, cX_6_2, _⟩ := X_6.cells
    have lX_6 := X_6.lt
    have R2_6 := Row.below (by exact R2_5) hb6
    rw [HYL.out] at R6 ⊢
    go_wp2_with fail
    go_loopw [6] (fun i wr => (∃ k : Nat, k ≤ nx ∧ i = .int .i64 k) ∧ ∃ nq, wr = w6.drewN nq) (fun i _ => nx - (intOf i).toNat)
    case atStart => exact ⟨⟨0, Nat.zero_le _, rfl⟩, 0, rfl⟩
    case round =>
      obtain ⟨⟨k, hk, rfl⟩, nq, rfl⟩ := hrel
      by_cases hlt : k < nx
      · obtain ⟨g, y, eg, _, _, hy, hcell, _⟩ := R2_6.get (k := k) (by have := HNX.out; omega)
        cases eg
        obtain ⟨ky, rfl, hky, hxf⟩ := G1.out y (List.mem_of_getElem? hy.out)
        obtain ⟨gr, b, er, _, _, hb, hcb, _⟩ := R6.get (k := ky) (by have := HYL.out; omega)
        cases er
        obtain rfl : b = false := by have h9 := hb.out; rw [hxf] at h9; simpa using h9.symm
        rcases k with _ | k
        · clear hy hb hxf
          have hk0 : ((0 : Nat) : Int) < (nx : Int) := by omega
          go_wp2_with fail
          go_quiet (fail)
          go_wp2_with fail
          go_roundw
          case rel => exact ⟨⟨1, by omega, by go_num⟩, _, by first | rfl | (rw [World.drewN_drewN])⟩
          case measure => simp [intOf]; omega
        · obtain ⟨g', y', eg', _, _, hy', hcell', _⟩ := R2_6.get (k := k) (by have := HNX.out; omega)
          cases eg'
          have hup := up_next G2.out hy'.out hy.out
          obtain ⟨ky', rfl, hky', _⟩ := G1.out y' (List.mem_of_getElem? hy'.out)
          clear hy hb hxf hy'
          have hk1 : (((k + 1 : Nat) : Int) - 1).toNat = k := by omega
          have hk2 : ¬ ((ky : Int) ≤ (ky' : Int)) := by omega
          go_wp2_with fail
          go_quiet (fail)
          go_wp2_with fail
          go_roundw
          case rel => exact ⟨⟨k + 1 + 1, by omega, by go_num⟩, _, by first | rfl | (rw [World.drewN_drewN])⟩
          case measure => simp [intOf]; omega
      · obtain rfl : k = nx := by omega
        have hbq : Below w6.heap.size w6 (w6.drewN nq) := below_drewN (Below.refl _ _) nq
        generalize w6.drewN nq = wq at hbq ⊢
        have BW7 : Below w.heap.size w wq := BW6.trans (hbq.mono BW6.size)
        have zz7 := hbq.size
        have HA_7 := Hv.below (by exact HA_6) hbq
        have X_7 := Blk3.below (by exact X_6) hbq
        obtain ⟨cX_7_0, cX_7_1, cX_7_2, _⟩ := X_7.cells
        have lX_7 := X_7.lt
        go_wp2_with fail
        go_region_held3 (fun w' => w'.cell? ⟨w1.heap.size, 0, none⟩ = some (.slice A0 n0 c0) ∧ w'.cell? ⟨w1.heap.size, 1, none⟩ = some (.slice A1 n1 c1) ∧ w'.cell? ⟨w1.heap.size, 2, none⟩ = some (.slice A2 n2 c2))
          (((try dsimp only); (repeat' apply And.intro) <;> (with_reducible (first | exact cX_8_2 | exact cX_8_1 | exact cX_8_0 | exact cellD cX_7_2 | exact cellD cX_7_1 | exact cellD cX_7_0 | exact cX_7_2 | exact cX_7_1 | exact cX_7_0))))
          (first
            | (go_at_call 19; (with_reducible refine (LC _ _ (HA_7.drew)).mono ?_); rintro e w7 ⟨rfl, hb7⟩; have BW8 : Below w.heap.size w w7 := (Below.drew BW7).trans (hb7.mono (Below.drew BW7).size); have zz8 := hb7.size; have HA_8 := Hv.below (by exact (HA_7.drew)) hb7; have X_8 := Blk3.below (by exact (X_7.drew)) hb7; obtain ⟨cX_8_0, cX_8_1, cX_8_2, _⟩ := X_8.cells; have lX_8 := X_8.lt))
        rename_i hHeld1
        clear hHeld1
        go_wp2_with fail
        go_ret
        have hw9 : IntKind.i64.wrap ((n0 : Nat) : Int) = (n0 : Int) := IntWalk.i64_in _ (by omega)
        exact ⟨by simp [hw9], BW8⟩
end Go.Proofs.Ytlkkngkocnkicaa
