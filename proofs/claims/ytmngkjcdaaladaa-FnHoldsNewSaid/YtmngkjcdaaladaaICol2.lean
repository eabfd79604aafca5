/- CountColor, pointsToWhite, ColorHolds of impl. -/
import Derived.Test.YtmngkjcdaaladaaICol
import Derived.Test.YtmngkjcdaaladaaSCountC
import Derived.Test.YtmngkjcdaaladaaSHolds
namespace Go.Proofs.Ytmngkjcdaaladaa
open Go.RowKit

set_option maxRecDepth 100000 in
set_option maxHeartbeats 2000000 in
theorem implCountColor_any (w : World) (lo : Nat) (v : Value) (C : Cp) (hv : Cv w lo v C) (x : Int) :
    Calls Try.prog 19 #[v, .int .i64 x] w fun e w' => e = .returned (.int .i64 (countO C x)) ∧ Below w.heap.size w w' := by
  have hvo := hv
  obtain ⟨A0, n0, c0, A1, n1, c1, A2, n2, c2, A3, n3, c3, rfl, hh, ⟨r0, r1, r2, r3⟩, ⟨l0, l1, l2, l3⟩, ⟨m0, m1, m2, m3⟩, _⟩ := hvo.open_
  have X0 := Blk4.new w (.slice A0 n0 c0) (.slice A1 n1 c1) (.slice A2 n2 c2) (.slice A3 n3 c3) 27
  have fin : Below w.heap.size w (w.alloc (.cells #[.slice A0 n0 c0, .slice A1 n1 c1, .slice A2 n2 c2, .slice A3 n3 c3] 27)) := (Below.refl _ _).alloc (Nat.le_refl _) _
  have R3 := r3.alloc (.cells #[.slice A0 n0 c0, .slice A1 n1 c1, .slice A2 n2 c2, .slice A3 n3 c3] 27)
  have VV := hv.alloc (.cells #[.slice A0 n0 c0, .slice A1 n1 c1, .slice A2 n2 c2, .slice A3 n3 c3] 27)
  clear r0 r1 r2 r3 hh hv
  go_enter Try.func19, Try.ntmps19
  go_wp2_with fail
  generalize w.alloc (.cells #[.slice A0 n0 c0, .slice A1 n1 c1, .slice A2 n2 c2, .slice A3 n3 c3] 27) = W at X0 fin R3 VV ⊢
  have V := implColoredValid_any _ _ _ _ VV
  rcases ev : cvB C
  · have hf : Hid (countO C x = 0) := by unfold Hid countO; rw [ev]; simp
    rw [ev] at V
    clear ev
    refine V.mono ?_; rintro e w1 ⟨rfl, hb1⟩
    go_wp2_with fail
    go_ret
    exact ⟨ret_int hf.out.symm, fin.trans (hb1.mono fin.size)⟩
  · have hf : Hid (countO C x = (C.c.count x : Int)) := by unfold Hid countO; rw [if_pos ev]
    have hl : n3 ≤ 8 := by
      obtain ⟨hvh, hlen, _⟩ := cvB_parts ev
      have := hvB_len hvh; have := l3.out; omega
    rw [ev] at V
    clear ev
    refine V.mono ?_; rintro e w1 ⟨rfl, hb1⟩
    have B1 := fin.trans (hb1.mono fin.size)
    have R1 := R3.below hb1
    obtain ⟨x0, x1, x2, x3, _⟩ := (X0.below hb1).cells
    clear X0 R3 VV V fin hb1
    go_wp2_with fail
    go_loopw [5, 14] (fun n i wr => (∃ k m : Nat, k ≤ n3 ∧ i = .int .i64 k ∧ n = .int .i64 m ∧ m ≤ k ∧ Hid (m = (C.c.take k).count x)) ∧ ∃ nq, wr = w1.drewN nq) (fun _ i _ => n3 - (intOf i).toNat)
    case atStart => exact ⟨⟨0, 0, Nat.zero_le _, rfl, rfl, Nat.le_refl _, rfl⟩, 0, rfl⟩
    case round =>
      obtain ⟨⟨k, m, hk, rfl, rfl, hmk, hm⟩, nq, rfl⟩ := hrel
      by_cases hlt : k < n3
      · have hb : (k : Int) < (n3 : Int) := by omega
        obtain ⟨g, y, rfl, _, _, hy, hcy, _⟩ := R1.get (k := k) (by rw [l3.out]; exact hlt)
        have hct := count_take x hy.out
        clear hy
        by_cases hxy : y = x
        · subst hxy
          have hm' : Hid (m + 1 = (C.c.take (k + 1)).count y) := by unfold Hid; rw [hct, if_pos rfl, hm.out]
          go_wp2_with fail
          go_roundw
          case rel => exact ⟨⟨k + 1, m + 1, by omega, by go_num, by go_num, by omega, hm'⟩, _, rfl⟩
          case measure => simp [intOf]; omega
        · have hxy1 : (y == x) = false := by simp [hxy]
          have hm' : Hid (m = (C.c.take (k + 1)).count x) := by unfold Hid; rw [hct, if_neg hxy, hm.out]; rfl
          go_wp2_with fail
          go_roundw
          case rel => exact ⟨⟨k + 1, m, by omega, by go_num, rfl, by omega, hm'⟩, _, rfl⟩
          case measure => simp [intOf]; omega
      · obtain rfl : k = n3 := by omega
        have hfin : Hid (countO C x = (m : Int)) := by unfold Hid; rw [hf.out, hm.out, List.take_of_length_le (by rw [l3.out]; exact Nat.le_refl _)]
        clear hm
        go_wp2_with fail
        go_ret
        exact ⟨ret_int hfin.out.symm, below_drewN B1 _⟩

/-- A pointer to a white cell. -/
def wtB (c : List Int) (p : Int) : Bool := decide (0 ≤ p ∧ c[p.toNat]? = some 0)
set_option maxHeartbeats 1000000 in
theorem pointsToWhite_any (w : World) (lo : Nat) (A : Option Addr) (n c : Nat) (xs : List Int) (h : Row w lo (.slice A n c) xs) (hn : xs.length = n) (k : Int) (h1 : -1 ≤ k) (h2 : k < n) :
    Calls Try.prog 48 #[.slice A n c, .int .i64 k] w fun e w' => e = .returned (.bool (wtB xs k)) ∧ w = w' := by
  by_cases hk : k = -1
  · subst hk
    go_enter Try.func48, Try.ntmps48
    go_wp2_with fail
    go_ret
    exact ⟨ret_bool (by simp [wtB]), rfl⟩
  · obtain ⟨j, rfl⟩ := Int.eq_ofNat_of_zero_le (by omega : 0 ≤ k)
    obtain ⟨g', x, rfl, _, _, hx, hc, hf⟩ := h.get (k := j) (by omega)
    have hk2 : ((j : Int) == -1) = false := by simp
    have hk3 : ((j : Int) != -1) = true := by simp
    have hq : Hid (wtB xs j = decide (x = 0)) := by unfold Hid wtB; simp [hx.out]
    clear hx
    by_cases hx0 : x = 0
    · subst hx0
      go_enter Try.func48, Try.ntmps48
      go_wp2_with fail
      go_ret
      exact ⟨ret_bool (by rw [hq.out]; simp), rfl⟩
    · have hx1 : (x == 0) = false := by simp [hx0]
      go_enter Try.func48, Try.ntmps48
      go_wp2_with fail
      go_ret
      exact ⟨ret_bool (by rw [hq.out]; simp [hx0]), rfl⟩
end Go.Proofs.Ytmngkjcdaaladaa
