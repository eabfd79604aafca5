/- The law FnParseValid, walked. -/
import Derived.Test.YtpimndfafibgeaaWLaw
import Derived.Test.YtpimndfafibgeaaPrO
import Derived.Test.YtpimndfafibgeaaDParseHeap
namespace Go.Proofs.Ytpimndfafibgeaa
open Go.RowKit

theorem sameB_self (a : Hp) : sameB a a = true := by simp [sameB]
set_option maxHeartbeats 2000000 in
theorem lawParseValid_walk (w : World) (A : Option Addr) (n c : Nat) (h : Inp w A n c) :
    Calls Try.prog 6 #[.slice A n c] w (LawTrue w) := by
  by_cases hbig : 1048576 < n
  · go_enter Try.func6, Try.ntmps6
    go_wp2_with fail
    go_ret
    exact ⟨rfl, Below.refl _ _⟩
  go_enter Try.func6, Try.ntmps6
  go_wp2_with fail
  refine (drawParseHeap_any _ _ _ _ h).mono ?_; rintro e w1 ⟨s, rfl, hs, hb1⟩
  have I := fun W => implParseO W s (by omega)
  have S := fun W => specParseO W s (by omega)
  rcases ho : prsO s with _ | hp
  · rw [ho] at I S
    clear ho
    go_wp2_with fail
    refine (I _).mono ?_; rintro e w2 ⟨v, rfl, HA, hb2⟩
    simp only [Option.isSome_none, Option.getD_none] at HA ⊢
    obtain ⟨A0, nA0, cA0, A1, nA1, cA1, A2, nA2, cA2, rfl, _⟩ := HA.open_
    have HA2 := HA.alloc (.cells #[.slice A0 nA0 cA0, .slice A1 nA1 cA1, .slice A2 nA2 cA2] 25)
    have XA2 := Blk3.new w2 (.slice A0 nA0 cA0) (.slice A1 nA1 cA1) (.slice A2 nA2 cA2) 25
    have B2 : Below w.heap.size w (w2.alloc (.cells #[.slice A0 nA0 cA0, .slice A1 nA1 cA1, .slice A2 nA2 cA2] 25)) := (hb1.trans (hb2.mono hb1.size)).alloc (Nat.le_trans hb1.size hb2.size) _
    go_wp2_with fail
    refine (S _).mono ?_; rintro e w3 ⟨v, rfl, HB, hb3⟩
    simp only [Option.isSome_none, Option.getD_none] at HB ⊢
    obtain ⟨B0, nB0, cB0, B1, nB1, cB1, B2_, nB2, cB2, rfl, _⟩ := HB.open_
    have z3 : w2.heap.size < w3.heap.size := by have := hb3.size; simp at this; omega
    have B3 := B2.trans (hb3.mono B2.size)
    have HA4 := (HA2.below hb3).alloc (.cells #[.slice B0 nB0 cB0, .slice B1 nB1 cB1, .slice B2_ nB2 cB2] 25)
    have XA4 := (XA2.below hb3).alloc (.cells #[.slice B0 nB0 cB0, .slice B1 nB1 cB1, .slice B2_ nB2 cB2] 25)
    have HB4 := HB.alloc (.cells #[.slice B0 nB0 cB0, .slice B1 nB1 cB1, .slice B2_ nB2 cB2] 25)
    have XB4 := Blk3.new w3 (.slice B0 nB0 cB0) (.slice B1 nB1 cB1) (.slice B2_ nB2 cB2) 25
    have B4 := B3.alloc B3.size (.cells #[.slice B0 nB0 cB0, .slice B1 nB1 cB1, .slice B2_ nB2 cB2] 25)
    obtain ⟨xa0, xa1, xa2, _⟩ := XA4.cells
    obtain ⟨xb0, xb1, xb2, _⟩ := XB4.cells
    have E1 := implHeapSame_any _ _ _ _ _ _ _ HA4 HB4
    rw [sameB_self] at E1
    clear HA HB HA2 XA2 hb3 B2 B3
    go_wp2_with fail
    refine E1.mono ?_; rintro e w5 ⟨rfl, hb5⟩
    have B5 := B4.trans (hb5.mono B4.size)
    have HA5 := HA4.below hb5
    have HB5 := HB4.below hb5
    have XA5 := XA4.below hb5
    have XB5 := XB4.below hb5
    clear E1 B4 XA4 XB4 HA4 HB4 xa0 xa1 xa2 xb0 xb1 xb2 hb5
    obtain ⟨xa0, xa1, xa2, _⟩ := XA5.cells
    obtain ⟨xb0, xb1, xb2, _⟩ := XB5.cells
    have E2 := implHeapSame_any _ _ _ _ _ _ _ HA5 HB5
    rw [sameB_self] at E2
    go_wp2_with fail
    refine E2.mono ?_; rintro e w6 ⟨rfl, hb6⟩
    go_wp2_with fail
    go_ret
    exact ⟨rfl, B5.trans (hb6.mono B5.size)⟩
  · rw [ho] at I S
    have hv := (prsO_some ho).1
    obtain ⟨_, bl, br, _⟩ := hv_bounds hv
    have bl' : Hid (∀ x ∈ hp.l, -1 ≤ x ∧ x < hp.l.length) := bl
    have br' : Hid (∀ x ∈ hp.r, -1 ≤ x ∧ x < hp.l.length) := br
    have hrl : hp.r.length = hp.l.length := (hv_bounds hv).1
    clear ho bl br
    go_wp2_with fail
    refine (I _).mono ?_; rintro e w2 ⟨v, rfl, HA, hb2⟩
    simp only [Option.isSome_some, Option.getD_some] at HA ⊢
    obtain ⟨A0, nA0, cA0, A1, nA1, cA1, A2, nA2, cA2, rfl, _⟩ := HA.open_
    have HA2 := HA.alloc (.cells #[.slice A0 nA0 cA0, .slice A1 nA1 cA1, .slice A2 nA2 cA2] 25)
    have XA2 := Blk3.new w2 (.slice A0 nA0 cA0) (.slice A1 nA1 cA1) (.slice A2 nA2 cA2) 25
    have B2 : Below w.heap.size w (w2.alloc (.cells #[.slice A0 nA0 cA0, .slice A1 nA1 cA1, .slice A2 nA2 cA2] 25)) := (hb1.trans (hb2.mono hb1.size)).alloc (Nat.le_trans hb1.size hb2.size) _
    go_wp2_with fail
    refine (S _).mono ?_; rintro e w3 ⟨v, rfl, HB, hb3⟩
    simp only [Option.isSome_some, Option.getD_some] at HB ⊢
    obtain ⟨B0, nB0, cB0, B1, nB1, cB1, B2_, nB2, cB2, rfl, _⟩ := HB.open_
    have z3 : w2.heap.size < w3.heap.size := by have := hb3.size; simp at this; omega
    have B3 := B2.trans (hb3.mono B2.size)
    have HA4 := (HA2.below hb3).alloc (.cells #[.slice B0 nB0 cB0, .slice B1 nB1 cB1, .slice B2_ nB2 cB2] 25)
    have XA4 := (XA2.below hb3).alloc (.cells #[.slice B0 nB0 cB0, .slice B1 nB1 cB1, .slice B2_ nB2 cB2] 25)
    have HB4 := HB.alloc (.cells #[.slice B0 nB0 cB0, .slice B1 nB1 cB1, .slice B2_ nB2 cB2] 25)
    have XB4 := Blk3.new w3 (.slice B0 nB0 cB0) (.slice B1 nB1 cB1) (.slice B2_ nB2 cB2) 25
    have B4 := B3.alloc B3.size (.cells #[.slice B0 nB0 cB0, .slice B1 nB1 cB1, .slice B2_ nB2 cB2] 25)
    obtain ⟨xa0, xa1, xa2, _⟩ := XA4.cells
    obtain ⟨xb0, xb1, xb2, _⟩ := XB4.cells
    have E1 := implHeapSame_any _ _ _ _ _ _ _ HA4 HB4
    rw [sameB_self] at E1
    clear HA HB HA2 XA2 hb3 B2 B3
    go_wp2_with fail
    refine E1.mono ?_; rintro e w5 ⟨rfl, hb5⟩
    have B5 := B4.trans (hb5.mono B4.size)
    have HA5 := HA4.below hb5
    have HB5 := HB4.below hb5
    have XA5 := XA4.below hb5
    have XB5 := XB4.below hb5
    clear E1 B4 XA4 XB4 HA4 HB4 xa0 xa1 xa2 xb0 xb1 xb2 hb5
    obtain ⟨xa0, xa1, xa2, _⟩ := XA5.cells
    obtain ⟨xb0, xb1, xb2, _⟩ := XB5.cells
    obtain ⟨_, _, _, _, _, _, _, _, _, ev, ⟨q0, q1, q2⟩, ⟨l0, l1, l2⟩, _⟩ := HA5.open_
    cases ev
    obtain rfl : nA0 = nA1 := by rw [← l0.out, ← l1.out]; exact hrl.symm
    have l0' : Hid (hp.l.length = nA0) := l0.out
    clear hrl HB5 XB5 xb0 xb1 xb2
    go_wp2_with fail
    go_loopw [8] (fun i wr => (∃ k : Nat, k ≤ nA0 ∧ i = .int .i64 k) ∧ ∃ nq, wr = w5.drewN nq) (fun i _ => nA0 - (intOf i).toNat)
    case atStart => exact ⟨⟨0, Nat.zero_le _, rfl⟩, 0, rfl⟩
    case round =>
      obtain ⟨⟨k, hk, rfl⟩, nq, rfl⟩ := hrel
      by_cases hlt : k < nA0
      · obtain ⟨g, x, rfl, _, _, hx, hcx, _⟩ := q0.get (k := k) (by rw [l0.out]; exact hlt)
        obtain ⟨g', y, rfl, _, _, hy, hcy, _⟩ := q1.get (k := k) (by rw [l1.out]; exact hlt)
        obtain ⟨x1, x2⟩ := bl'.out x (List.mem_of_getElem? hx.out)
        obtain ⟨y1, y2⟩ := br'.out y (List.mem_of_getElem? hy.out)
        rw [l0'.out] at x2 y2
        have hb1' : (k : Int) < (nA0 : Int) := by omega
        have x3 : ¬ (x < -1) := by omega
        have x4 : ¬ ((nA0 : Int) ≤ x) := by omega
        have y4 : ¬ ((nA0 : Int) ≤ y) := by omega
        clear hx hy
        go_wp2_with fail
        go_quiet (fail)
        go_wp2_with fail
        go_roundw
        case rel => exact ⟨⟨k + 1, by omega, by go_num⟩, _, by first | rfl | (rw [World.drewN_drewN])⟩
        case measure => simp [intOf]; omega
      · obtain rfl : k = nA0 := by omega
        have V' := fun j => implHeapValid_any _ _ _ _ (HA5.drewN j)
        rw [hv] at V'
        have B5' := fun j => below_drewN B5 j
        go_wp2_with fail
        refine (V' nq).mono ?_; rintro e w6 ⟨rfl, hb6⟩
        go_wp2_with fail
        go_ret
        exact ⟨rfl, (B5' nq).trans (hb6.mono (B5' nq).size)⟩
end Go.Proofs.Ytpimndfafibgeaa
