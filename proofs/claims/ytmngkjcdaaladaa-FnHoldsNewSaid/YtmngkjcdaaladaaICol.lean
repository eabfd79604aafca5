/- The small functions of colors, of impl: shaded, colorsValid, pointsToWhite; ColoredValid, ColoredSame. -/
import Derived.Test.YtmngkjcdaaladaaCol
import Derived.Test.YtmngkjcdaaladaaCount
namespace Go.Proofs.Ytmngkjcdaaladaa
open Go.RowKit

/-- What color a cell of this color has when it was shaded; zero if it is none. -/
def shV (x : Int) : Int := if x = 0 then 1 else if x = 1 ∨ x = 2 then x else 0

set_option maxHeartbeats 400000 in
theorem shaded_any (x : Int) (w : World) : Calls Try.prog 67 #[.int .i64 x] w fun e w' => e = .returned (.tuple #[.int .i64 (shV x), .bool (colB x)]) ∧ w = w' := by
  by_cases h0 : x = 0
  · subst h0
    go_enter Try.func67, Try.ntmps67
    go_wp2
    refine bodyPost_ret (v := .tuple #[.int .i64 1, .bool true]) ?_ rfl ⟨by simp [shV, colB], rfl⟩
    simp [results, Try.results67, go_sem]
  · have h0' : (x == 0) = false := by simpa using h0
    by_cases h1 : x = 1
    · subst h1
      go_enter Try.func67, Try.ntmps67
      go_wp2
      refine bodyPost_ret (v := .tuple #[.int .i64 1, .bool true]) ?_ rfl ⟨by simp [shV, colB], rfl⟩
      simp [results, Try.results67, go_sem]
    · have h1' : (x == 1) = false := by simpa using h1
      by_cases h2 : x = 2
      · subst h2
        go_enter Try.func67, Try.ntmps67
        go_wp2
        refine bodyPost_ret (v := .tuple #[.int .i64 2, .bool true]) ?_ rfl ⟨by simp [shV, colB], rfl⟩
        simp [results, Try.results67, go_sem]
      · have h2' : (x == 2) = false := by simpa using h2
        have hv : Hid (shV x = 0) := by unfold Hid shV; rw [if_neg h0, if_neg (by omega)]
        have hc : Hid (colB x = false) := by unfold Hid colB; simp; omega
        go_enter Try.func67, Try.ntmps67
        go_wp2
        refine bodyPost_ret (v := .tuple #[.int .i64 0, .bool false]) ?_ rfl ⟨by rw [hv.out, hc.out], rfl⟩
        simp [results, Try.results67, go_sem]

set_option maxHeartbeats 400000 in
theorem colorsValid_any (w : World) (lo : Nat) (A : Option Addr) (n c : Nat) (xs : List Int) (h : Row w lo (.slice A n c) xs) (hn : xs.length = n) (hm : n ≤ 9223372036854775807) (cells : Nat) :
    Calls Try.prog 47 #[.slice A n c, .int .i64 cells] w fun e w' => e = .returned (.bool (xs.all colB && decide (n = cells))) ∧ w = w' := by
  have hd : Hid (((n : Int) == (cells : Int)) = decide (n = cells)) := by
    unfold Hid; by_cases h9 : n = cells
    · subst h9; simp
    · have : ((n : Int) == (cells : Int)) = false := by simp; omega
      rw [this]; simp [h9]
  go_enter Try.func47, Try.ntmps47
  go_wp2
  go_loop [11] (fun i => ∃ k : Nat, k ≤ n ∧ i = .int .i64 k ∧ Hid ((xs.take k).all colB = true)) (fun i => n - (intOf i).toNat)
  case atStart => exact ⟨0, Nat.zero_le _, rfl, rfl⟩
  case round =>
    obtain ⟨k, hk, rfl, ht⟩ := hrel
    by_cases hlt : k < n
    · obtain ⟨g, x, rfl, _, _, hx, hcell, _⟩ := h.get (k := k) (by omega)
      have H := shaded_any x
      have Ht : Hid ((xs.take (k + 1)).all colB = colB x) := by
        unfold Hid; rw [take_snoc hx.out, List.all_append, ht.out]; simp
      generalize shV x = y at H
      rcases hb : colB x
      · rw [hb] at H
        have Hf : Hid (xs.all colB = false) := by
          unfold Hid; rw [List.all_eq_false]; exact ⟨x, List.mem_of_getElem? hx.out, by simp [hb]⟩
        clear ht Ht hb hx
        go_wp2_with (go_at_call 67; refine (H _).mono ?_; rintro e w' ⟨rfl, rfl⟩)
        go_ret
        exact ⟨ret_bool (by rw [Hf.out]; rfl), rfl⟩
      · rw [hb] at H
        have Ht' : Hid ((xs.take (k + 1)).all colB = true) := by unfold Hid; rw [Ht.out, hb]
        clear ht Ht hb hx
        go_wp2_with (go_at_call 67; refine (H _).mono ?_; rintro e w' ⟨rfl, rfl⟩)
        go_round
        case rel => exact ⟨k + 1, by omega, by go_num, Ht'⟩
        case measure => simp [intOf]; omega
    · obtain rfl : k = n := by omega
      have Hf : Hid (xs.all colB = true) := by
        have := ht.out; rw [List.take_of_length_le (by omega)] at this; exact this
      go_wp2
      go_ret
      exact ⟨ret_bool (by rw [Hf.out, Bool.true_and]; exact hd.out), rfl⟩

set_option maxHeartbeats 1000000 in
theorem implColoredValid_any (w : World) (lo : Nat) (v : Value) (C : Cp) (hv : Cv w lo v C) : Calls Try.prog 20 #[v] w (RetB w (cvB C)) := by
  obtain ⟨A0, n0, c0, A1, n1, c1, A2, n2, c2, A3, n3, c3, rfl, hh, ⟨r0, r1, r2, r3⟩, ⟨l0, l1, l2, l3⟩, ⟨m0, m1, m2, m3⟩, _⟩ := hv.open_
  have X0 := Blk4.new w (.slice A0 n0 c0) (.slice A1 n1 c1) (.slice A2 n2 c2) (.slice A3 n3 c3) 27
  have V := implHeapValid_any _ _ _ _ (hh.alloc (.cells #[.slice A0 n0 c0, .slice A1 n1 c1, .slice A2 n2 c2, .slice A3 n3 c3] 27))
  have fin : Below w.heap.size w (w.alloc (.cells #[.slice A0 n0 c0, .slice A1 n1 c1, .slice A2 n2 c2, .slice A3 n3 c3] 27)) := (Below.refl _ _).alloc (Nat.le_refl _) _
  have R3 := r3.alloc (.cells #[.slice A0 n0 c0, .slice A1 n1 c1, .slice A2 n2 c2, .slice A3 n3 c3] 27)
  have hC : Hid (cvB C = (hvB C.h && (C.c.all colB && decide (n3 = n0)))) := by unfold Hid cvB; rw [l0.out, l3.out, Bool.and_assoc, Bool.and_comm (decide (n3 = n0))]
  rcases ev : hvB C.h
  · have hf : Hid (cvB C = false) := by unfold Hid; rw [hC.out, ev]; rfl
    rw [ev] at V
    clear ev hC
    go_enter Try.func20, Try.ntmps20
    go_wp2_with fail
    refine V.mono ?_; rintro e w1 ⟨rfl, hb1⟩
    go_wp2_with fail
    go_ret
    exact ⟨ret_bool hf.out.symm, fin.trans (hb1.mono (by simp))⟩
  · rw [ev] at V
    have hf : Hid (cvB C = (C.c.all colB && decide (n3 = n0))) := by unfold Hid; rw [hC.out, ev]; rfl
    clear ev hC
    go_enter Try.func20, Try.ntmps20
    go_wp2_with fail
    refine V.mono ?_; rintro e w1 ⟨rfl, hb1⟩
    have X1 := Blk4.below (by exact X0) hb1
    have B1 : Below w.heap.size w w1 := fin.trans (hb1.mono (by simp))
    have K := colorsValid_any w1 _ _ _ _ _ (R3.below hb1) l3.out m3 n0
    generalize (C.c.all colB && decide (n3 = n0)) = b at K hf
    obtain ⟨x0, x1, x2, x3, _⟩ := X1.cells
    clear V X0 fin
    go_wp2_with fail
    refine K.mono ?_; rintro e w2 ⟨rfl, rfl⟩
    go_wp2_with fail
    go_ret
    exact ⟨ret_bool hf.out.symm, B1⟩

set_option maxHeartbeats 1000000 in
theorem implColoredSame_any (w : World) (lo lo' : Nat) (v v' : Value) (a b : Cp) (hv : Cv w lo v a) (hv' : Cv w lo' v' b) : Calls Try.prog 18 #[v, v'] w (RetB w (sameC a b)) := by
  obtain ⟨A0, n0, c0, A1, n1, c1, A2, n2, c2, A3, n3, c3, rfl, hh, ⟨r0, r1, r2, r3⟩, ⟨l0, l1, l2, l3⟩, ⟨m0, m1, m2, m3⟩, _⟩ := hv.open_
  obtain ⟨A0', n0', c0', A1', n1', c1', A2', n2', c2', A3', n3', c3', rfl, hh', ⟨r0', r1', r2', r3'⟩, ⟨l0', l1', l2', l3'⟩, ⟨m0', m1', m2', m3'⟩, _⟩ := hv'.open_
  have X0 := (Blk4.new w (.slice A0 n0 c0) (.slice A1 n1 c1) (.slice A2 n2 c2) (.slice A3 n3 c3) 27).alloc (.cells #[.slice A0' n0' c0', .slice A1' n1' c1', .slice A2' n2' c2', .slice A3' n3' c3'] 27)
  have Y0 := Blk4.new_at (w := w.alloc (.cells #[.slice A0 n0 c0, .slice A1 n1 c1, .slice A2 n2 c2, .slice A3 n3 c3] 27)) (b := w.heap.size + 1) (by simp) (.slice A0' n0' c0') (.slice A1' n1' c1') (.slice A2' n2' c2') (.slice A3' n3' c3') 27
  have H := (hh.alloc (.cells #[.slice A0 n0 c0, .slice A1 n1 c1, .slice A2 n2 c2, .slice A3 n3 c3] 27)).alloc (.cells #[.slice A0' n0' c0', .slice A1' n1' c1', .slice A2' n2' c2', .slice A3' n3' c3'] 27)
  have H' := (hh'.alloc (.cells #[.slice A0 n0 c0, .slice A1 n1 c1, .slice A2 n2 c2, .slice A3 n3 c3] 27)).alloc (.cells #[.slice A0' n0' c0', .slice A1' n1' c1', .slice A2' n2' c2', .slice A3' n3' c3'] 27)
  have R := (r3.alloc (.cells #[.slice A0 n0 c0, .slice A1 n1 c1, .slice A2 n2 c2, .slice A3 n3 c3] 27)).alloc (.cells #[.slice A0' n0' c0', .slice A1' n1' c1', .slice A2' n2' c2', .slice A3' n3' c3'] 27)
  have R' := (r3'.alloc (.cells #[.slice A0 n0 c0, .slice A1 n1 c1, .slice A2 n2 c2, .slice A3 n3 c3] 27)).alloc (.cells #[.slice A0' n0' c0', .slice A1' n1' c1', .slice A2' n2' c2', .slice A3' n3' c3'] 27)
  have fin : Below w.heap.size w ((w.alloc (.cells #[.slice A0 n0 c0, .slice A1 n1 c1, .slice A2 n2 c2, .slice A3 n3 c3] 27)).alloc (.cells #[.slice A0' n0' c0', .slice A1' n1' c1', .slice A2' n2' c2', .slice A3' n3' c3'] 27)) := ((Below.refl _ _).alloc (Nat.le_refl _) _).alloc (by simp) _
  have S := implHeapSame_any _ _ _ _ _ _ _ H H'
  go_enter Try.func18, Try.ntmps18
  go_wp2_with fail
  generalize (w.alloc (.cells #[.slice A0 n0 c0, .slice A1 n1 c1, .slice A2 n2 c2, .slice A3 n3 c3] 27)).alloc (.cells #[.slice A0' n0' c0', .slice A1' n1' c1', .slice A2' n2' c2', .slice A3' n3' c3'] 27) = W at X0 Y0 H H' R R' fin S ⊢
  rcases es : sameB a.h b.h
  · rw [es] at S
    have hf : Hid (sameC a b = false) := by unfold Hid sameC; rw [es]; rfl
    clear es
    refine S.mono ?_; rintro e w1 ⟨rfl, hb1⟩
    go_wp2_with fail
    go_ret
    exact ⟨ret_bool hf.out.symm, fin.trans (hb1.mono fin.size)⟩
  · rw [es] at S
    have hf : Hid (sameC a b = decide (a.c = b.c)) := by unfold Hid sameC; rw [es]; rfl
    clear es
    refine S.mono ?_; rintro e w1 ⟨rfl, hb1⟩
    obtain ⟨x0, x1, x2, x3, _⟩ := (X0.below hb1).cells
    obtain ⟨y0, y1, y2, y3, _⟩ := (Y0.below hb1).cells
    have E := slicesEqual_any w1 _ _ _ _ _ _ _ _ _ _ (R.below hb1) l3.out m3 (R'.below hb1) l3'.out m3'
    generalize decide (a.c = b.c) = q at E hf
    have B1 := fin.trans (hb1.mono fin.size)
    clear S H H' X0 Y0 R R'
    go_wp2_with fail
    refine E.mono ?_; rintro e w2 ⟨rfl, q0, rfl⟩
    go_wp2_with fail
    go_ret
    exact ⟨ret_bool hf.out.symm, below_drewN B1 _⟩
end Go.Proofs.Ytmngkjcdaaladaa
