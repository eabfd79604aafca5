/- CountColor of spec. -/
import Derived.Test.YtmngkjcdaaladaaSCol2
namespace Go.Proofs.Ytmngkjcdaaladaa
open Go.RowKit

/-- How many cells have a color. -/
def countO (C : Cp) (x : Int) : Int := if cvB C = true then (C.c.count x : Int) else 0
theorem count_take {c : List Int} {k : Nat} {y : Int} (x : Int) (h : c[k]? = some y) : (c.take (k + 1)).count x = (c.take k).count x + (if y = x then 1 else 0) := by
  rw [List.take_add_one, h, Option.toList_some, List.count_append, List.count_singleton]
  simp only [beq_iff_eq]

set_option maxRecDepth 100000 in
set_option maxHeartbeats 2000000 in
theorem specCountColor_any (w : World) (lo : Nat) (v : Value) (C : Cp) (hv : Cv w lo v C) (x : Int) :
    Calls Try.prog 34 #[v, .int .i64 x] w fun e w' => e = .returned (.int .i64 (countO C x)) ∧ Below w.heap.size w w' := by
  have hvo := hv
  obtain ⟨A0, n0, c0, A1, n1, c1, A2, n2, c2, A3, n3, c3, rfl, hh, ⟨r0, r1, r2, r3⟩, ⟨l0, l1, l2, l3⟩, ⟨m0, m1, m2, m3⟩, _⟩ := hvo.open_
  have X0 := Blk4.new w (.slice A0 n0 c0) (.slice A1 n1 c1) (.slice A2 n2 c2) (.slice A3 n3 c3) 27
  have fin : Below w.heap.size w (w.alloc (.cells #[.slice A0 n0 c0, .slice A1 n1 c1, .slice A2 n2 c2, .slice A3 n3 c3] 27)) := (Below.refl _ _).alloc (Nat.le_refl _) _
  have R3 := r3.alloc (.cells #[.slice A0 n0 c0, .slice A1 n1 c1, .slice A2 n2 c2, .slice A3 n3 c3] 27)
  have VV := hv.alloc (.cells #[.slice A0 n0 c0, .slice A1 n1 c1, .slice A2 n2 c2, .slice A3 n3 c3] 27)
  clear r0 r1 r2 r3 hh hv
  go_enter Try.func34, Try.ntmps34
  go_wp2_with fail
  generalize w.alloc (.cells #[.slice A0 n0 c0, .slice A1 n1 c1, .slice A2 n2 c2, .slice A3 n3 c3] 27) = W at X0 fin R3 VV ⊢
  rcases ev : cvB C
  · have hf : Hid (countO C x = 0) := by unfold Hid countO; rw [ev]; simp
    have V := specColoredValid_any _ _ _ _ VV
    rw [ev] at V
    obtain ⟨x0, x1, x2, x3, _⟩ := X0.cells
    clear ev
    go_loopw [5, 6] (fun n i wr => n = .int .i64 0 ∧ i = .int .i64 0 ∧ wr = W) (fun _ _ _ => 0)
    case atStart => exact ⟨rfl, rfl, rfl⟩
    case round =>
      obtain ⟨rfl, rfl, rfl⟩ := hrel
      by_cases hz : n3 = 0
      · subst hz
        go_wp2_with fail
        go_ret
        exact ⟨ret_int hf.out.symm, fin⟩
      · have hz1 : (0 : Int) < (n3 : Int) := by omega
        go_wp2_with fail
        refine V.mono ?_; rintro e w1 ⟨rfl, hb1⟩
        have B1 := fin.trans (hb1.mono fin.size)
        go_wp2_with fail
        go_ret
        exact ⟨ret_int hf.out.symm, B1⟩
  · have hf : Hid (countO C x = (C.c.count x : Int)) := by unfold Hid countO; rw [if_pos ev]
    have hl : n3 ≤ 8 := by
      obtain ⟨hvh, hlen, _⟩ := cvB_parts ev
      have := hvB_len hvh; have := l3.out; omega
    go_loopw [5, 6] (fun n i wr => ∃ k m : Nat, k ≤ n3 ∧ i = .int .i64 k ∧ n = .int .i64 m ∧ m ≤ k ∧ Hid (m = (C.c.take k).count x) ∧ Blk4 wr w.heap.size (.slice A0 n0 c0) (.slice A1 n1 c1) (.slice A2 n2 c2) (.slice A3 n3 c3) 27 ∧ Row wr lo (.slice A3 n3 c3) C.c ∧ Cv wr lo (.agg #[.slice A0 n0 c0, .slice A1 n1 c1, .slice A2 n2 c2, .slice A3 n3 c3]) C ∧ Below w.heap.size w wr) (fun _ i _ => n3 - (intOf i).toNat)
    case atStart => exact ⟨0, 0, Nat.zero_le _, rfl, rfl, Nat.le_refl _, rfl, X0, R3, VV, fin⟩
    case round =>
      clear X0 R3 VV fin
      obtain ⟨k, m, hk, rfl, rfl, hmk, hm, X, R, VV, hB⟩ := hrel
      obtain ⟨x0, x1, x2, x3, _⟩ := X.cells
      by_cases hlt : k < n3
      · have hb : (k : Int) < (n3 : Int) := by omega
        have V := specColoredValid_any _ _ _ _ VV
        rw [ev] at V
        go_wp2_with fail
        refine V.mono ?_; rintro e w1 ⟨rfl, hb1⟩
        have X1 := X.below hb1
        have R1 := R.below hb1
        have V1 := VV.below hb1
        have B1 := hB.trans (hb1.mono hB.size)
        clear X R VV hB V x0 x1 x2 x3 hb1
        obtain ⟨x0, x1, x2, x3, _⟩ := X1.cells
        obtain ⟨g, y, rfl, _, _, hy, hcy, _⟩ := R1.get (k := k) (by rw [l3.out]; exact hlt)
        have hct := count_take x hy.out
        clear hy
        by_cases hxy : y = x
        · subst hxy
          have hm' : Hid (m + 1 = (C.c.take (k + 1)).count y) := by unfold Hid; rw [hct, if_pos rfl, hm.out]
          go_wp2_with fail
          go_roundw
          case rel => exact ⟨k + 1, m + 1, by omega, by go_num, by go_num, by omega, hm', X1, R1, V1, B1⟩
          case measure => simp [intOf]; omega
        · have hxy1 : (y == x) = false := by simp [hxy]
          have hm' : Hid (m = (C.c.take (k + 1)).count x) := by unfold Hid; rw [hct, if_neg hxy, hm.out]; rfl
          go_wp2_with fail
          go_roundw
          case rel => exact ⟨k + 1, m, by omega, by go_num, rfl, by omega, hm', X1, R1, V1, B1⟩
          case measure => simp [intOf]; omega
      · obtain rfl : k = n3 := by omega
        have hfin : Hid (countO C x = (m : Int)) := by unfold Hid; rw [hf.out, hm.out, List.take_of_length_le (by rw [l3.out]; exact Nat.le_refl _)]
        clear hm
        go_wp2_with fail
        go_ret
        exact ⟨ret_int hfin.out.symm, hB⟩
end Go.Proofs.Ytmngkjcdaaladaa
