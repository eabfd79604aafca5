/- ColorHolds of spec. -/
import Derived.Test.YtmngkjcdaaladaaSCol2
namespace Go.Proofs.Ytmngkjcdaaladaa
open Go.RowKit

theorem holdsAt_eq {C : Cp} {k : Nat} {x y z : Int} (hx : C.h.l[k]? = some x) (hy : C.h.r[k]? = some y) (hz : C.c[k]? = some z) :
    holdsAt C k = !(decide (z = 2) && (decide (0 ≤ x ∧ C.c[x.toNat]? = some 0) || decide (0 ≤ y ∧ C.c[y.toNat]? = some 0))) := by
  unfold holdsAt
  rw [show C.h.l.getD k 0 = x by simp [List.getD, hx], show C.h.r.getD k 0 = y by simp [List.getD, hy], hz]
  simp
theorem holds_bad {C : Cp} {k : Nat} (hk : k < C.c.length) (h : holdsAt C k = false) : holdsB C = false := by
  rw [Bool.eq_false_iff]; intro h9
  unfold holdsB at h9
  rw [Bool.and_eq_true, List.all_eq_true] at h9
  rw [h9.2 k (List.mem_range.2 hk)] at h; cases h
theorem holds_good {C : Cp} (hv : cvB C = true) (h : ∀ j, j < C.c.length → holdsAt C j = true) : holdsB C = true := by
  unfold holdsB
  rw [Bool.and_eq_true, List.all_eq_true]
  exact ⟨hv, fun j hj => h j (List.mem_range.1 hj)⟩

set_option maxRecDepth 100000 in
set_option maxHeartbeats 4000000 in
theorem specColorHolds_any (w : World) (lo : Nat) (v : Value) (C : Cp) (hv : Cv w lo v C) :
    Calls Try.prog 32 #[v] w (RetB w (holdsB C)) := by
  have hvo := hv
  obtain ⟨A0, n0, c0, A1, n1, c1, A2, n2, c2, A3, n3, c3, rfl, hh, ⟨r0, r1, r2, r3⟩, ⟨l0, l1, l2, l3⟩, _, _⟩ := hvo.open_
  have X0 := Blk4.new w (.slice A0 n0 c0) (.slice A1 n1 c1) (.slice A2 n2 c2) (.slice A3 n3 c3) 27
  have fin : Below w.heap.size w (w.alloc (.cells #[.slice A0 n0 c0, .slice A1 n1 c1, .slice A2 n2 c2, .slice A3 n3 c3] 27)) := (Below.refl _ _).alloc (Nat.le_refl _) _
  have R0 := r0.alloc (.cells #[.slice A0 n0 c0, .slice A1 n1 c1, .slice A2 n2 c2, .slice A3 n3 c3] 27)
  have R1 := r1.alloc (.cells #[.slice A0 n0 c0, .slice A1 n1 c1, .slice A2 n2 c2, .slice A3 n3 c3] 27)
  have R3 := r3.alloc (.cells #[.slice A0 n0 c0, .slice A1 n1 c1, .slice A2 n2 c2, .slice A3 n3 c3] 27)
  have VV := hv.alloc (.cells #[.slice A0 n0 c0, .slice A1 n1 c1, .slice A2 n2 c2, .slice A3 n3 c3] 27)
  clear r0 r1 r2 r3 hh hv
  go_enter Try.func32, Try.ntmps32
  go_wp2_with fail
  generalize w.alloc (.cells #[.slice A0 n0 c0, .slice A1 n1 c1, .slice A2 n2 c2, .slice A3 n3 c3] 27) = W at X0 fin R0 R1 R3 VV ⊢
  obtain ⟨x0, x1, x2, x3, _⟩ := X0.cells
  have V := specColoredValid_any _ _ _ _ VV
  rcases ev : cvB C
  · have hf : Hid (holdsB C = false) := by unfold Hid holdsB; rw [ev]; rfl
    rw [ev] at V
    clear ev
    go_wp2_with fail
    refine V.mono ?_; rintro e w1 ⟨rfl, hb1⟩
    have B1 := fin.trans (hb1.mono fin.size)
    go_wp2_with fail
    go_ret
    exact ⟨ret_bool hf.out.symm, B1⟩
  · rw [ev] at V
    obtain ⟨hvh, hlen, _⟩ := cvB_parts ev
    obtain ⟨hrl, h8, _⟩ := hvB_len hvh
    have pl : Hid (∀ x ∈ C.h.l, -1 ≤ x ∧ x < n3) := fun x hx => by
      have hp := (hvB_parts hvh).2.1
      rw [List.all_eq_true] at hp; have := hp x hx; simp only [ptB, decide_eq_true_eq] at this; have := l3.out; omega
    have pr : Hid (∀ x ∈ C.h.r, -1 ≤ x ∧ x < n3) := fun x hx => by
      have hp := (hvB_parts hvh).2.2.1
      rw [List.all_eq_true] at hp; have := hp x hx; simp only [ptB, decide_eq_true_eq] at this; have := l3.out; omega
    have hev := Lib.hid ev
    obtain rfl : n0 = n3 := by have := l0.out; have := l3.out; omega
    obtain rfl : n1 = n0 := by have := l0.out; have := l1.out; omega
    clear ev
    go_wp2_with fail
    refine V.mono ?_; rintro e w1 ⟨rfl, hb1⟩
    have B1 := fin.trans (hb1.mono fin.size)
    have X1 := X0.below hb1
    have Q0 := R0.below hb1
    have Q1 := R1.below hb1
    have Q3 := R3.below hb1
    clear V X0 R0 R1 R3 VV fin hb1 x0 x1 x2 x3
    obtain ⟨x0, x1, x2, x3, _⟩ := X1.cells
    go_wp2_with fail
    go_loopw [3] (fun i wr => (∃ k : Nat, k ≤ n1 ∧ i = .int .i64 k ∧ Hid (∀ j, j < k → holdsAt C j = true)) ∧ ∃ nq, wr = w1.drewN nq) (fun i _ => n1 - (intOf i).toNat)
    case atStart => exact ⟨⟨0, Nat.zero_le _, rfl, fun j hj => absurd hj (Nat.not_lt_zero _)⟩, 0, rfl⟩
    case round =>
      obtain ⟨⟨k, hk, rfl, ht⟩, nq, rfl⟩ := hrel
      by_cases hlt : k < n1
      · obtain ⟨g0, x, rfl, _, _, hx, hcx, _⟩ := Q0.get (k := k) (by rw [l0.out]; exact hlt)
        obtain ⟨g1, y, rfl, _, _, hy, hcy, _⟩ := Q1.get (k := k) (by rw [l1.out]; exact hlt)
        obtain ⟨g3, z, rfl, _, _, hz, hcz, _⟩ := Q3.get (k := k) (by rw [l3.out]; exact hlt)
        obtain ⟨bx1, bx2⟩ := pl.out x (List.mem_of_getElem? hx.out)
        obtain ⟨by1, by2⟩ := pr.out y (List.mem_of_getElem? hy.out)
        have hb : (k : Int) < (n1 : Int) := by omega
        have hat := holdsAt_eq hx.out hy.out hz.out
        have hkc : k < C.c.length := by rw [l3.out]; exact hlt
        have next : holdsAt C k = true → Hid (∀ j, j < k + 1 → holdsAt C j = true) := fun h9 j hj => by
          rcases Nat.lt_succ_iff_lt_or_eq.1 hj with h | rfl
          · exact ht.out j h
          · exact h9
        have bad : holdsAt C k = false → Hid (holdsB C = false) := fun h9 => holds_bad hkc h9
        clear hx hy hz ht
        by_cases hz2 : z = 2
        · subst hz2
          by_cases hx1 : x = -1
          · subst hx1
            by_cases hy1 : y = -1
            · subst hy1
              have ho : holdsAt C k = true := by rw [hat]; simp 
              have hn := next ho
              clear ho hat next bad
              go_wp2_with fail
              go_roundw
              case rel => exact ⟨⟨k + 1, by omega, by go_num, hn⟩, _, rfl⟩
              case measure => simp [intOf]; omega
            · have hy2 : 0 ≤ y := by omega
              obtain ⟨b, rfl⟩ := Int.eq_ofNat_of_zero_le (by omega : 0 ≤ y)
              have hnb : ((b : Int) == -1) = false := by simp
              have hmb : ((b : Int) != -1) = true := by simp
              obtain ⟨_, qb, eb, _, _, hqb, hcb, _⟩ := Q3.get (k := b) (by rw [l3.out]; omega)
              cases eb
              have hqob := hqb.out
              by_cases hb0 : qb = 0
              · subst hb0
                have ho : holdsAt C k = false := by rw [hat]; simp [hqob]
                have hn := bad ho
                clear ho hat next bad
                go_wp2_with fail
                go_ret
                exact ⟨ret_bool hn.out.symm, below_drewN B1 _⟩
              · have hb1 : (qb == 0) = false := by simp [hb0]
                have ho : holdsAt C k = true := by rw [hat]; simp [hqob, hb0]
                have hn := next ho
                clear ho hat next bad
                go_wp2_with fail
                go_roundw
                case rel => exact ⟨⟨k + 1, by omega, by go_num, hn⟩, _, rfl⟩
                case measure => simp [intOf]; omega
          · have hx2 : 0 ≤ x := by omega
            obtain ⟨a, rfl⟩ := Int.eq_ofNat_of_zero_le (by omega : 0 ≤ x)
            have hna : ((a : Int) == -1) = false := by simp
            have hma : ((a : Int) != -1) = true := by simp
            obtain ⟨_, qa, ea, _, _, hqa, hca, _⟩ := Q3.get (k := a) (by rw [l3.out]; omega)
            cases ea
            have hqoa := hqa.out
            by_cases ha0 : qa = 0
            · subst ha0
              have ho : holdsAt C k = false := by rw [hat]; simp [hqoa]
              have hn := bad ho
              clear ho hat next bad
              go_wp2_with fail
              go_ret
              exact ⟨ret_bool hn.out.symm, below_drewN B1 _⟩
            · have ha1 : (qa == 0) = false := by simp [ha0]
              by_cases hy1 : y = -1
              · subst hy1
                have ho : holdsAt C k = true := by rw [hat]; simp [hqoa, ha0]
                have hn := next ho
                clear ho hat next bad
                go_wp2_with fail
                go_roundw
                case rel => exact ⟨⟨k + 1, by omega, by go_num, hn⟩, _, rfl⟩
                case measure => simp [intOf]; omega
              · have hy2 : 0 ≤ y := by omega
                obtain ⟨b, rfl⟩ := Int.eq_ofNat_of_zero_le (by omega : 0 ≤ y)
                have hnb : ((b : Int) == -1) = false := by simp
                have hmb : ((b : Int) != -1) = true := by simp
                obtain ⟨_, qb, eb, _, _, hqb, hcb, _⟩ := Q3.get (k := b) (by rw [l3.out]; omega)
                cases eb
                have hqob := hqb.out
                by_cases hb0 : qb = 0
                · subst hb0
                  have ho : holdsAt C k = false := by rw [hat]; simp [hqob]
                  have hn := bad ho
                  clear ho hat next bad
                  go_wp2_with fail
                  go_ret
                  exact ⟨ret_bool hn.out.symm, below_drewN B1 _⟩
                · have hb1 : (qb == 0) = false := by simp [hb0]
                  have ho : holdsAt C k = true := by rw [hat]; simp [hqoa, ha0, hqob, hb0]
                  have hn := next ho
                  clear ho hat next bad
                  go_wp2_with fail
                  go_roundw
                  case rel => exact ⟨⟨k + 1, by omega, by go_num, hn⟩, _, rfl⟩
                  case measure => simp [intOf]; omega
        · have hz1 : (z == 2) = false := by simp [hz2]
          have ho : holdsAt C k = true := by rw [hat]; simp [hz2]
          have hn := next ho
          clear ho hat next bad
          go_wp2_with fail
          go_roundw
          case rel => exact ⟨⟨k + 1, by omega, by go_num, hn⟩, _, rfl⟩
          case measure => simp [intOf]; omega
      · obtain rfl : k = n1 := by omega
        have hf : Hid (holdsB C = true) := holds_good hev.out (fun j hj => ht.out j (by rw [l3.out] at hj; exact hj))
        clear ht
        go_wp2_with fail
        go_ret
        exact ⟨ret_bool hf.out.symm, below_drewN B1 _⟩
end Go.Proofs.Ytmngkjcdaaladaa
