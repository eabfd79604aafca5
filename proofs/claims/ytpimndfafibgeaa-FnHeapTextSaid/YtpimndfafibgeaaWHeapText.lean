/- The law FnHeapText, walked. -/
import Derived.Test.YtpimndfafibgeaaWParseValid
namespace Go.Proofs.Ytpimndfafibgeaa
open Go.RowKit

theorem inp_below {w w' : World} {A : Option Addr} {n c : Nat} (h : Inp w A n c) (hb : Below w.heap.size w w') : Inp w' A n c := by
  obtain ⟨h0, h1, h2⟩ := h
  refine ⟨?_, h1, h2⟩
  have hs := hb.size
  rcases h0.below hb with h | ⟨b, off, e, hlt, hc⟩
  · exact .inl h
  · exact .inr ⟨b, off, e, by omega, hc⟩

set_option maxRecDepth 100000 in
set_option maxHeartbeats 2000000 in
theorem lawHeapText_walk (w : World) (A : Option Addr) (n c : Nat) (h : Inp w A n c) (A' : Option Addr) (n' c' : Nat) (h' : Inp w A' n' c') :
    Calls Try.prog 3 #[.slice A n c, .slice A' n' c'] w (LawTrue w) := by
  by_cases hbig : 1048576 < n
  · go_enter Try.func3, Try.ntmps3
    go_wp2_with fail
    go_ret
    exact ⟨rfl, Below.refl _ _⟩
  by_cases hbig2 : 1048576 < n'
  · go_enter Try.func3, Try.ntmps3
    go_wp2_with fail
    go_ret
    exact ⟨rfl, Below.refl _ _⟩
  go_enter Try.func3, Try.ntmps3
  go_wp2_with fail
  refine (drawFormatHeap_any _ _ _ _ h).mono ?_; rintro e w1 ⟨v, hh, rfl, HA, hb1⟩
  obtain ⟨A0, nA0, cA0, A1, nA1, cA1, A2, nA2, cA2, rfl, _⟩ := HA.open_
  have FI := fun W v (hW : Hv W w.heap.size v hh) => implFmt_any W w.heap.size v hh hW
  have FS := fun W v (hW : Hv W w.heap.size v hh) => specFmt_any W w.heap.size v hh hW
  have HA1 := HA.alloc (.cells #[.slice A0 nA0 cA0, .slice A1 nA1 cA1, .slice A2 nA2 cA2] 25)
  have XA1 := Blk3.new w1 (.slice A0 nA0 cA0) (.slice A1 nA1 cA1) (.slice A2 nA2 cA2) 25
  have J1 := inp_alloc (inp_below h' hb1) (.cells #[.slice A0 nA0 cA0, .slice A1 nA1 cA1, .slice A2 nA2 cA2] 25)
  have B1 : Below w.heap.size w (w1.alloc (.cells #[.slice A0 nA0 cA0, .slice A1 nA1 cA1, .slice A2 nA2 cA2] 25)) := hb1.alloc hb1.size _
  have hP : prsO ⟨(fmtL hh).toArray⟩ = if hvB hh = true then some hh else none := by
    rcases ev : hvB hh
    · have hf : fmtL hh = [] := by unfold fmtL; rw [ev]; simp
      rw [hf]
      simp only [Bool.false_eq_true, if_false]
      refine prsO_none fun g hg => ?_
      have h9 := congrArg ByteArray.size hg.2
      have hl := fmtV_len g
      have : (ByteArray.mk (fmtV g).toArray).size = (fmtV g).length := by show (fmtV g).toArray.size = _; simp
      have h0 : (ByteArray.mk ([] : List UInt8).toArray).size = 0 := rfl
      omega
    · simp only [if_true]
      refine prsO_of ⟨ev, ?_⟩
      unfold fmtL; rw [if_pos ev]
  have hS : (ByteArray.mk (fmtL hh).toArray).size ≤ 1000 := by
    rcases ev : hvB hh
    · have hf : fmtL hh = [] := by unfold fmtL; rw [ev]; simp
      rw [hf]; decide
    · have := fmtL_size ev; omega
  generalize ByteArray.mk (fmtL hh).toArray = S0 at FI FS hP hS
  clear h h' hb1 HA
  rcases ev : hvB hh
  · rw [ev] at hP
    have I0 := fun W => implParseO W S0 (by omega)
    simp only [Bool.false_eq_true, if_false] at hP
    rw [hP] at I0
    clear hP
    go_wp2_with fail
    refine (FI _ _ HA1).mono ?_; rintro e w2 ⟨rfl, hb2⟩
    have B2 := B1.trans (hb2.mono B1.size)
    have HA2 := HA1.below hb2
    have XA2 := XA1.below hb2
    have J2 := inp_below J1 hb2
    have lX := XA2.lt
    obtain ⟨xa0, xa1, xa2, _⟩ := XA2.cells
    clear XA1 HA1 J1 B1 hb2
    go_wp2_with fail
    refine (I0 _).mono ?_; rintro e w3 ⟨v, rfl, HB, hb3⟩
    simp only [Option.isSome_none, Option.getD_none] at HB ⊢
    obtain ⟨B0, nB0, cB0, B1, nB1, cB1, B2_, nB2, cB2, rfl, _⟩ := HB.open_
    have z3 : w1.heap.size < w3.heap.size := by have := hb3.size; omega
    have B3 : Below w.heap.size w (w3.alloc (.cells #[.slice B0 nB0 cB0, .slice B1 nB1 cB1, .slice B2_ nB2 cB2] 25)) := (B2.trans (hb3.mono B2.size)).alloc (Nat.le_trans B2.size hb3.size) _
    have HA3 := (HA2.below hb3).alloc (.cells #[.slice B0 nB0 cB0, .slice B1 nB1 cB1, .slice B2_ nB2 cB2] 25)
    have HB3 := HB.alloc (.cells #[.slice B0 nB0 cB0, .slice B1 nB1 cB1, .slice B2_ nB2 cB2] 25)
    have XA3 := (XA2.below hb3).alloc (.cells #[.slice B0 nB0 cB0, .slice B1 nB1 cB1, .slice B2_ nB2 cB2] 25)
    have XB3 := Blk3.new w3 (.slice B0 nB0 cB0) (.slice B1 nB1 cB1) (.slice B2_ nB2 cB2) 25
    have J3 := inp_alloc (inp_below J2 hb3) (.cells #[.slice B0 nB0 cB0, .slice B1 nB1 cB1, .slice B2_ nB2 cB2] 25)
    clear xa0 xa1 xa2 XA2 HA2 HB J2 B2 hb3 lX
    obtain ⟨xa0, xa1, xa2, _⟩ := XA3.cells
    have V := implHeapValid_any _ _ _ _ HA3
    rw [ev] at V
    go_wp2_with fail
    refine V.mono ?_; rintro e w4 ⟨rfl, hb4⟩
    have B4 := B3.trans (hb4.mono B3.size)
    have HA4 := HA3.below hb4
    have HB4 := HB3.below hb4
    have XA4 := XA3.below hb4
    have XB4 := XB3.below hb4
    have J4 := inp_below J3 hb4
    clear V xa0 xa1 xa2 XA3 XB3 HA3 HB3 J3 B3 hb4
    obtain ⟨xa0, xa1, xa2, _⟩ := XA4.cells
    go_wp2_with fail
    refine (FS _ _ HA4).mono ?_; rintro e w5 ⟨rfl, hb5⟩
    have B5 := B4.trans (hb5.mono B4.size)
    have HA5 := HA4.below hb5
    have HB5 := HB4.below hb5
    have XA5 := XA4.below hb5
    have XB5 := XB4.below hb5
    have J5 := inp_below J4 hb5
    clear xa0 xa1 xa2 XA4 XB4 HA4 HB4 J4 B4 hb5
    obtain ⟨xa0, xa1, xa2, _⟩ := XA5.cells
    have V := specHeapValid_any _ _ _ _ HA5
    rw [ev] at V
    go_wp2_with fail
    refine V.mono ?_; rintro e w6 ⟨rfl, hb6⟩
    have B6 := B5.trans (hb6.mono B5.size)
    have HA6 := HA5.below hb6
    have HB6 := HB5.below hb6
    have XA6 := XA5.below hb6
    have XB6 := XB5.below hb6
    have J6 := inp_below J5 hb6
    clear V xa0 xa1 xa2 XA5 XB5 HA5 HB5 J5 B5 hb6
    clear XA6 XB6 HA6 HB6 FI FS
    go_wp2_with fail
    refine (drawParseHeap_any _ _ _ _ J6).mono ?_; rintro e u1 ⟨s, rfl, hs, hu1⟩
    have D1 : Below w.heap.size w u1 := B6.trans (hu1.mono B6.size)
    have I := fun W => implParseO W s (by omega)
    have S := fun W => specParseO W s (by omega)
    clear I0 ev
    rcases ho : prsO s with _ | hp
    · rw [ho] at I S
      clear ho
      go_wp2_with fail
      refine (I _).mono ?_; rintro e u2 ⟨v, rfl, HA, hb2⟩
      simp only [Option.isSome_none, Option.getD_none] at HA ⊢
      obtain ⟨P0, nP0, cP0, P1, nP1, cP1, P2, nP2, cP2, rfl, _⟩ := HA.open_
      have HA2 := HA.alloc (.cells #[.slice P0 nP0 cP0, .slice P1 nP1 cP1, .slice P2 nP2 cP2] 25)
      have XA2 := Blk3.new u2 (.slice P0 nP0 cP0) (.slice P1 nP1 cP1) (.slice P2 nP2 cP2) 25
      have D2 : Below w.heap.size w (u2.alloc (.cells #[.slice P0 nP0 cP0, .slice P1 nP1 cP1, .slice P2 nP2 cP2] 25)) := (D1.trans (hb2.mono D1.size)).alloc (Nat.le_trans D1.size hb2.size) _
      go_wp2_with fail
      refine (S _).mono ?_; rintro e u3 ⟨v, rfl, HB, hb3⟩
      simp only [Option.isSome_none, Option.getD_none] at HB ⊢
      obtain ⟨Q0, nQ0, cQ0, Q1, nQ1, cQ1, Q2, nQ2, cQ2, rfl, _⟩ := HB.open_
      have z3 : u2.heap.size < u3.heap.size := by have := hb3.size; simp at this; omega
      have D3 := D2.trans (hb3.mono D2.size)
      have HA4 := (HA2.below hb3).alloc (.cells #[.slice Q0 nQ0 cQ0, .slice Q1 nQ1 cQ1, .slice Q2 nQ2 cQ2] 25)
      have XA4 := (XA2.below hb3).alloc (.cells #[.slice Q0 nQ0 cQ0, .slice Q1 nQ1 cQ1, .slice Q2 nQ2 cQ2] 25)
      have HB4 := HB.alloc (.cells #[.slice Q0 nQ0 cQ0, .slice Q1 nQ1 cQ1, .slice Q2 nQ2 cQ2] 25)
      have XB4 := Blk3.new u3 (.slice Q0 nQ0 cQ0) (.slice Q1 nQ1 cQ1) (.slice Q2 nQ2 cQ2) 25
      have D4 := D3.alloc D3.size (.cells #[.slice Q0 nQ0 cQ0, .slice Q1 nQ1 cQ1, .slice Q2 nQ2 cQ2] 25)
      obtain ⟨xa0, xa1, xa2, _⟩ := XA4.cells
      obtain ⟨xb0, xb1, xb2, _⟩ := XB4.cells
      have E1 := implHeapSame_any _ _ _ _ _ _ _ HA4 HB4
      rw [sameB_self] at E1
      clear HA HB HA2 XA2 hb3 D2 D3
      go_wp2_with fail
      refine E1.mono ?_; rintro e u5 ⟨rfl, hb5⟩
      have D5 := D4.trans (hb5.mono D4.size)
      have HA5 := HA4.below hb5
      have XA5 := XA4.below hb5
      clear E1 D4 XA4 XB4 HA4 HB4 xa0 xa1 xa2 xb0 xb1 xb2 hb5
      obtain ⟨xa0, xa1, xa2, _⟩ := XA5.cells
      go_wp2_with fail
      go_ret
      exact ⟨rfl, D5⟩
    · rw [ho] at I S
      have hi := prsO_some ho
      have hft : (⟨(fmtL hp).toArray⟩ : ByteArray) = s := by unfold fmtL; rw [if_pos hi.1]; exact hi.2.symm
      clear hi
      clear ho
      go_wp2_with fail
      refine (I _).mono ?_; rintro e u2 ⟨v, rfl, HA, hb2⟩
      simp only [Option.isSome_some, Option.getD_some] at HA ⊢
      obtain ⟨P0, nP0, cP0, P1, nP1, cP1, P2, nP2, cP2, rfl, _⟩ := HA.open_
      have HA2 := HA.alloc (.cells #[.slice P0 nP0 cP0, .slice P1 nP1 cP1, .slice P2 nP2 cP2] 25)
      have XA2 := Blk3.new u2 (.slice P0 nP0 cP0) (.slice P1 nP1 cP1) (.slice P2 nP2 cP2) 25
      have D2 : Below w.heap.size w (u2.alloc (.cells #[.slice P0 nP0 cP0, .slice P1 nP1 cP1, .slice P2 nP2 cP2] 25)) := (D1.trans (hb2.mono D1.size)).alloc (Nat.le_trans D1.size hb2.size) _
      go_wp2_with fail
      refine (S _).mono ?_; rintro e u3 ⟨v, rfl, HB, hb3⟩
      simp only [Option.isSome_some, Option.getD_some] at HB ⊢
      obtain ⟨Q0, nQ0, cQ0, Q1, nQ1, cQ1, Q2, nQ2, cQ2, rfl, _⟩ := HB.open_
      have z3 : u2.heap.size < u3.heap.size := by have := hb3.size; simp at this; omega
      have D3 := D2.trans (hb3.mono D2.size)
      have HA4 := (HA2.below hb3).alloc (.cells #[.slice Q0 nQ0 cQ0, .slice Q1 nQ1 cQ1, .slice Q2 nQ2 cQ2] 25)
      have XA4 := (XA2.below hb3).alloc (.cells #[.slice Q0 nQ0 cQ0, .slice Q1 nQ1 cQ1, .slice Q2 nQ2 cQ2] 25)
      have HB4 := HB.alloc (.cells #[.slice Q0 nQ0 cQ0, .slice Q1 nQ1 cQ1, .slice Q2 nQ2 cQ2] 25)
      have XB4 := Blk3.new u3 (.slice Q0 nQ0 cQ0) (.slice Q1 nQ1 cQ1) (.slice Q2 nQ2 cQ2) 25
      have D4 := D3.alloc D3.size (.cells #[.slice Q0 nQ0 cQ0, .slice Q1 nQ1 cQ1, .slice Q2 nQ2 cQ2] 25)
      obtain ⟨xa0, xa1, xa2, _⟩ := XA4.cells
      obtain ⟨xb0, xb1, xb2, _⟩ := XB4.cells
      have E1 := implHeapSame_any _ _ _ _ _ _ _ HA4 HB4
      rw [sameB_self] at E1
      clear HA HB HA2 XA2 hb3 D2 D3
      go_wp2_with fail
      refine E1.mono ?_; rintro e u5 ⟨rfl, hb5⟩
      have D5 := D4.trans (hb5.mono D4.size)
      have HA5 := HA4.below hb5
      have XA5 := XA4.below hb5
      clear E1 D4 XA4 XB4 HA4 HB4 xa0 xa1 xa2 xb0 xb1 xb2 hb5
      obtain ⟨xa0, xa1, xa2, _⟩ := XA5.cells
      have T := implFmt_any _ _ _ _ HA5
      rw [hft] at T
      clear hft
      go_wp2_with fail
      refine T.mono ?_; rintro e u6 ⟨rfl, hb6⟩
      go_wp2_with fail
      go_ret
      exact ⟨rfl, D5.trans (hb6.mono D5.size)⟩
  · rw [ev] at hP
    have I0 := fun W => implParseO W S0 (by omega)
    simp only [if_true] at hP
    rw [hP] at I0
    clear hP
    go_wp2_with fail
    refine (FI _ _ HA1).mono ?_; rintro e w2 ⟨rfl, hb2⟩
    have B2 := B1.trans (hb2.mono B1.size)
    have HA2 := HA1.below hb2
    have XA2 := XA1.below hb2
    have J2 := inp_below J1 hb2
    have lX := XA2.lt
    obtain ⟨xa0, xa1, xa2, _⟩ := XA2.cells
    clear XA1 HA1 J1 B1 hb2
    go_wp2_with fail
    refine (I0 _).mono ?_; rintro e w3 ⟨v, rfl, HB, hb3⟩
    simp only [Option.isSome_some, Option.getD_some] at HB ⊢
    obtain ⟨B0, nB0, cB0, B1, nB1, cB1, B2_, nB2, cB2, rfl, _⟩ := HB.open_
    have z3 : w1.heap.size < w3.heap.size := by have := hb3.size; omega
    have B3 : Below w.heap.size w (w3.alloc (.cells #[.slice B0 nB0 cB0, .slice B1 nB1 cB1, .slice B2_ nB2 cB2] 25)) := (B2.trans (hb3.mono B2.size)).alloc (Nat.le_trans B2.size hb3.size) _
    have HA3 := (HA2.below hb3).alloc (.cells #[.slice B0 nB0 cB0, .slice B1 nB1 cB1, .slice B2_ nB2 cB2] 25)
    have HB3 := HB.alloc (.cells #[.slice B0 nB0 cB0, .slice B1 nB1 cB1, .slice B2_ nB2 cB2] 25)
    have XA3 := (XA2.below hb3).alloc (.cells #[.slice B0 nB0 cB0, .slice B1 nB1 cB1, .slice B2_ nB2 cB2] 25)
    have XB3 := Blk3.new w3 (.slice B0 nB0 cB0) (.slice B1 nB1 cB1) (.slice B2_ nB2 cB2) 25
    have J3 := inp_alloc (inp_below J2 hb3) (.cells #[.slice B0 nB0 cB0, .slice B1 nB1 cB1, .slice B2_ nB2 cB2] 25)
    clear xa0 xa1 xa2 XA2 HA2 HB J2 B2 hb3 lX
    obtain ⟨xa0, xa1, xa2, _⟩ := XA3.cells
    have V := implHeapValid_any _ _ _ _ HA3
    rw [ev] at V
    go_wp2_with fail
    refine V.mono ?_; rintro e w4 ⟨rfl, hb4⟩
    have B4 := B3.trans (hb4.mono B3.size)
    have HA4 := HA3.below hb4
    have HB4 := HB3.below hb4
    have XA4 := XA3.below hb4
    have XB4 := XB3.below hb4
    have J4 := inp_below J3 hb4
    clear V xa0 xa1 xa2 XA3 XB3 HA3 HB3 J3 B3 hb4
    obtain ⟨xa0, xa1, xa2, _⟩ := XA4.cells
    go_wp2_with fail
    refine (FS _ _ HA4).mono ?_; rintro e w5 ⟨rfl, hb5⟩
    have B5 := B4.trans (hb5.mono B4.size)
    have HA5 := HA4.below hb5
    have HB5 := HB4.below hb5
    have XA5 := XA4.below hb5
    have XB5 := XB4.below hb5
    have J5 := inp_below J4 hb5
    clear xa0 xa1 xa2 XA4 XB4 HA4 HB4 J4 B4 hb5
    obtain ⟨xa0, xa1, xa2, _⟩ := XA5.cells
    have V := specHeapValid_any _ _ _ _ HA5
    rw [ev] at V
    go_wp2_with fail
    refine V.mono ?_; rintro e w6 ⟨rfl, hb6⟩
    have B6 := B5.trans (hb6.mono B5.size)
    have HA6 := HA5.below hb6
    have HB6 := HB5.below hb6
    have XA6 := XA5.below hb6
    have XB6 := XB5.below hb6
    have J6 := inp_below J5 hb6
    clear V xa0 xa1 xa2 XA5 XB5 HA5 HB5 J5 B5 hb6
    obtain ⟨xa0, xa1, xa2, _⟩ := XA6.cells
    obtain ⟨xb0, xb1, xb2, _⟩ := XB6.cells
    have E0 := implHeapSame_any _ _ _ _ _ _ _ HB6 HA6
    rw [sameB_self] at E0
    go_wp2_with fail
    refine E0.mono ?_; rintro e w7 ⟨rfl, hb7⟩
    have B7 := B6.trans (hb7.mono B6.size)
    have J7 := inp_below J6 hb7
    clear E0 xa0 xa1 xa2 xb0 xb1 xb2 XA6 XB6 HA6 HB6 J6 B6 hb7 FI FS
    go_wp2_with fail
    refine (drawParseHeap_any _ _ _ _ J7).mono ?_; rintro e u1 ⟨s, rfl, hs, hu1⟩
    have D1 : Below w.heap.size w u1 := B7.trans (hu1.mono B7.size)
    have I := fun W => implParseO W s (by omega)
    have S := fun W => specParseO W s (by omega)
    clear I0 ev
    rcases ho : prsO s with _ | hp
    · rw [ho] at I S
      clear ho
      go_wp2_with fail
      refine (I _).mono ?_; rintro e u2 ⟨v, rfl, HA, hb2⟩
      simp only [Option.isSome_none, Option.getD_none] at HA ⊢
      obtain ⟨P0, nP0, cP0, P1, nP1, cP1, P2, nP2, cP2, rfl, _⟩ := HA.open_
      have HA2 := HA.alloc (.cells #[.slice P0 nP0 cP0, .slice P1 nP1 cP1, .slice P2 nP2 cP2] 25)
      have XA2 := Blk3.new u2 (.slice P0 nP0 cP0) (.slice P1 nP1 cP1) (.slice P2 nP2 cP2) 25
      have D2 : Below w.heap.size w (u2.alloc (.cells #[.slice P0 nP0 cP0, .slice P1 nP1 cP1, .slice P2 nP2 cP2] 25)) := (D1.trans (hb2.mono D1.size)).alloc (Nat.le_trans D1.size hb2.size) _
      go_wp2_with fail
      refine (S _).mono ?_; rintro e u3 ⟨v, rfl, HB, hb3⟩
      simp only [Option.isSome_none, Option.getD_none] at HB ⊢
      obtain ⟨Q0, nQ0, cQ0, Q1, nQ1, cQ1, Q2, nQ2, cQ2, rfl, _⟩ := HB.open_
      have z3 : u2.heap.size < u3.heap.size := by have := hb3.size; simp at this; omega
      have D3 := D2.trans (hb3.mono D2.size)
      have HA4 := (HA2.below hb3).alloc (.cells #[.slice Q0 nQ0 cQ0, .slice Q1 nQ1 cQ1, .slice Q2 nQ2 cQ2] 25)
      have XA4 := (XA2.below hb3).alloc (.cells #[.slice Q0 nQ0 cQ0, .slice Q1 nQ1 cQ1, .slice Q2 nQ2 cQ2] 25)
      have HB4 := HB.alloc (.cells #[.slice Q0 nQ0 cQ0, .slice Q1 nQ1 cQ1, .slice Q2 nQ2 cQ2] 25)
      have XB4 := Blk3.new u3 (.slice Q0 nQ0 cQ0) (.slice Q1 nQ1 cQ1) (.slice Q2 nQ2 cQ2) 25
      have D4 := D3.alloc D3.size (.cells #[.slice Q0 nQ0 cQ0, .slice Q1 nQ1 cQ1, .slice Q2 nQ2 cQ2] 25)
      obtain ⟨xa0, xa1, xa2, _⟩ := XA4.cells
      obtain ⟨xb0, xb1, xb2, _⟩ := XB4.cells
      have E1 := implHeapSame_any _ _ _ _ _ _ _ HA4 HB4
      rw [sameB_self] at E1
      clear HA HB HA2 XA2 hb3 D2 D3
      go_wp2_with fail
      refine E1.mono ?_; rintro e u5 ⟨rfl, hb5⟩
      have D5 := D4.trans (hb5.mono D4.size)
      have HA5 := HA4.below hb5
      have XA5 := XA4.below hb5
      clear E1 D4 XA4 XB4 HA4 HB4 xa0 xa1 xa2 xb0 xb1 xb2 hb5
      obtain ⟨xa0, xa1, xa2, _⟩ := XA5.cells
      go_wp2_with fail
      go_ret
      exact ⟨rfl, D5⟩
    · rw [ho] at I S
      have hi := prsO_some ho
      have hft : (⟨(fmtL hp).toArray⟩ : ByteArray) = s := by unfold fmtL; rw [if_pos hi.1]; exact hi.2.symm
      clear hi
      clear ho
      go_wp2_with fail
      refine (I _).mono ?_; rintro e u2 ⟨v, rfl, HA, hb2⟩
      simp only [Option.isSome_some, Option.getD_some] at HA ⊢
      obtain ⟨P0, nP0, cP0, P1, nP1, cP1, P2, nP2, cP2, rfl, _⟩ := HA.open_
      have HA2 := HA.alloc (.cells #[.slice P0 nP0 cP0, .slice P1 nP1 cP1, .slice P2 nP2 cP2] 25)
      have XA2 := Blk3.new u2 (.slice P0 nP0 cP0) (.slice P1 nP1 cP1) (.slice P2 nP2 cP2) 25
      have D2 : Below w.heap.size w (u2.alloc (.cells #[.slice P0 nP0 cP0, .slice P1 nP1 cP1, .slice P2 nP2 cP2] 25)) := (D1.trans (hb2.mono D1.size)).alloc (Nat.le_trans D1.size hb2.size) _
      go_wp2_with fail
      refine (S _).mono ?_; rintro e u3 ⟨v, rfl, HB, hb3⟩
      simp only [Option.isSome_some, Option.getD_some] at HB ⊢
      obtain ⟨Q0, nQ0, cQ0, Q1, nQ1, cQ1, Q2, nQ2, cQ2, rfl, _⟩ := HB.open_
      have z3 : u2.heap.size < u3.heap.size := by have := hb3.size; simp at this; omega
      have D3 := D2.trans (hb3.mono D2.size)
      have HA4 := (HA2.below hb3).alloc (.cells #[.slice Q0 nQ0 cQ0, .slice Q1 nQ1 cQ1, .slice Q2 nQ2 cQ2] 25)
      have XA4 := (XA2.below hb3).alloc (.cells #[.slice Q0 nQ0 cQ0, .slice Q1 nQ1 cQ1, .slice Q2 nQ2 cQ2] 25)
      have HB4 := HB.alloc (.cells #[.slice Q0 nQ0 cQ0, .slice Q1 nQ1 cQ1, .slice Q2 nQ2 cQ2] 25)
      have XB4 := Blk3.new u3 (.slice Q0 nQ0 cQ0) (.slice Q1 nQ1 cQ1) (.slice Q2 nQ2 cQ2) 25
      have D4 := D3.alloc D3.size (.cells #[.slice Q0 nQ0 cQ0, .slice Q1 nQ1 cQ1, .slice Q2 nQ2 cQ2] 25)
      obtain ⟨xa0, xa1, xa2, _⟩ := XA4.cells
      obtain ⟨xb0, xb1, xb2, _⟩ := XB4.cells
      have E1 := implHeapSame_any _ _ _ _ _ _ _ HA4 HB4
      rw [sameB_self] at E1
      clear HA HB HA2 XA2 hb3 D2 D3
      go_wp2_with fail
      refine E1.mono ?_; rintro e u5 ⟨rfl, hb5⟩
      have D5 := D4.trans (hb5.mono D4.size)
      have HA5 := HA4.below hb5
      have XA5 := XA4.below hb5
      clear E1 D4 XA4 XB4 HA4 HB4 xa0 xa1 xa2 xb0 xb1 xb2 hb5
      obtain ⟨xa0, xa1, xa2, _⟩ := XA5.cells
      have T := implFmt_any _ _ _ _ HA5
      rw [hft] at T
      clear hft
      go_wp2_with fail
      refine T.mono ?_; rintro e u6 ⟨rfl, hb6⟩
      go_wp2_with fail
      go_ret
      exact ⟨rfl, D5.trans (hb6.mono D5.size)⟩
end Go.Proofs.Ytpimndfafibgeaa
