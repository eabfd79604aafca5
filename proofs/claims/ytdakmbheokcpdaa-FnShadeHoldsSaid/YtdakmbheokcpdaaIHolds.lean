/- ColorHolds of impl. -/
import Derived.Test.YtdakmbheokcpdaaICols
namespace Go.Proofs.Ytdakmbheokcpdaa
open Go.RowKit

theorem holdsAt_wt {C : Cp} {k : Nat} {x y z : Int} (hx : C.h.l[k]? = some x) (hy : C.h.r[k]? = some y) (hz : C.c[k]? = some z) : holdsAt C k = !(decide (z = 2) && (wtB C.c x || wtB C.c y)) := holdsAt_eq hx hy hz
theorem drawn_on {w1 wr : World} {nz : Nat} (h : wr = w1.drewN nz) (nq : Nat) : ∃ q, wr.drewN nq = w1.drewN q := ⟨nz + nq, by rw [h, World.drewN_drewN]⟩

set_option maxRecDepth 100000 in
set_option maxHeartbeats 12000000 in
theorem implColorHolds_any (w : World) (lo : Nat) (v : Value) (C : Cp) (hv : Cv w lo v C) :
    Calls Try.prog 18 #[v] w (RetB w (holdsB C)) := by
  have hvo := hv
  obtain ⟨A0, n0, c0, A1, n1, c1, A2, n2, c2, A3, n3, c3, rfl, hh, ⟨r0, r1, r2, r3⟩, ⟨l0, l1, l2, l3⟩, _, _⟩ := hvo.open_
  have X0 := Blk4.new w (.slice A0 n0 c0) (.slice A1 n1 c1) (.slice A2 n2 c2) (.slice A3 n3 c3) 38
  have fin : Below w.heap.size w (w.alloc (.cells #[.slice A0 n0 c0, .slice A1 n1 c1, .slice A2 n2 c2, .slice A3 n3 c3] 38)) := (Below.refl _ _).alloc (Nat.le_refl _) _
  have R0 := r0.alloc (.cells #[.slice A0 n0 c0, .slice A1 n1 c1, .slice A2 n2 c2, .slice A3 n3 c3] 38)
  have R1 := r1.alloc (.cells #[.slice A0 n0 c0, .slice A1 n1 c1, .slice A2 n2 c2, .slice A3 n3 c3] 38)
  have R3 := r3.alloc (.cells #[.slice A0 n0 c0, .slice A1 n1 c1, .slice A2 n2 c2, .slice A3 n3 c3] 38)
  have VV := hv.alloc (.cells #[.slice A0 n0 c0, .slice A1 n1 c1, .slice A2 n2 c2, .slice A3 n3 c3] 38)
  clear r0 r1 r2 r3 hh hv
  go_enter Try.func18, Try.ntmps18
  go_wp2_with fail
  generalize w.alloc (.cells #[.slice A0 n0 c0, .slice A1 n1 c1, .slice A2 n2 c2, .slice A3 n3 c3] 38) = W at X0 fin R0 R1 R3 VV ⊢
  obtain ⟨x0, x1, x2, x3, _⟩ := X0.cells
  have V := implColoredValid_any _ _ _ _ VV
  rcases ev : cvB C
  · have hf : Hid (holdsB C = false) := by unfold Hid holdsB; rw [ev]; rfl
    rw [ev] at V
    clear ev
    go_wp2_with fail
    refine V.mono ?_; rintro e w1 ⟨rfl, hb1⟩
    have B1 := fin.trans (hb1.mono fin.size)
    go_wp2_with fail
    go_ret
    exact ⟨ret_bool hf.out.symm, B1⟩
  · rw [ev] at V
    obtain ⟨hvh, hlen, _⟩ := cvB_parts ev
    obtain ⟨hrl, h8, _⟩ := hvB_len hvh
    have pl : Hid (∀ x ∈ C.h.l, -1 ≤ x ∧ x < n3) := fun x hx => by
      have hp := (hvB_parts hvh).2.1
      rw [List.all_eq_true] at hp; have := hp x hx; simp only [ptB, decide_eq_true_eq] at this; have := l3.out; omega
    have pr : Hid (∀ x ∈ C.h.r, -1 ≤ x ∧ x < n3) := fun x hx => by
      have hp := (hvB_parts hvh).2.2.1
      rw [List.all_eq_true] at hp; have := hp x hx; simp only [ptB, decide_eq_true_eq] at this; have := l3.out; omega
    have hev := Lib.hid ev
    obtain rfl : n0 = n3 := by have := l0.out; have := l3.out; omega
    obtain rfl : n1 = n0 := by have := l0.out; have := l1.out; omega
    clear ev
    go_wp2_with fail
    refine V.mono ?_; rintro e w1 ⟨rfl, hb1⟩
    have B1 := fin.trans (hb1.mono fin.size)
    have X1 := X0.below hb1
    have Q0 := R0.below hb1
    have Q1 := R1.below hb1
    have Q3 := R3.below hb1
    clear V X0 R0 R1 R3 VV fin hb1 x0 x1 x2 x3
    obtain ⟨x0, x1, x2, x3, _⟩ := X1.cells
    go_wp2_with fail
    go_loopw [12] (fun i wr => (∃ k : Nat, k ≤ n1 ∧ i = .int .i64 k ∧ Hid (∀ j, j < k → holdsAt C j = true)) ∧ ∃ nq, wr = w1.drewN nq) (fun i _ => n1 - (intOf i).toNat)
    case atStart => exact ⟨⟨0, Nat.zero_le _, rfl, fun j hj => absurd hj (Nat.not_lt_zero _)⟩, 0, rfl⟩
    case round =>
      obtain ⟨⟨k, hk, rfl, ht⟩, nz, hw⟩ := hrel
      have Br : Below w.heap.size w wr := by rw [hw]; exact below_drewN B1 _
      have P0 : Row wr lo (.slice A0 n1 c0) C.h.l := by rw [hw]; exact Q0
      have P1 : Row wr lo (.slice A1 n1 c1) C.h.r := by rw [hw]; exact Q1
      have P3 : Row wr lo (.slice A3 n1 c3) C.c := by rw [hw]; exact Q3
      have Xr : Blk4 wr w.heap.size (.slice A0 n1 c0) (.slice A1 n1 c1) (.slice A2 n2 c2) (.slice A3 n1 c3) 38 := by rw [hw]; exact X1
      have HW := Lib.hid hw
      clear hw x0 x1 x2 x3
      obtain ⟨x0, x1, x2, x3, _⟩ := Xr.cells
      by_cases hlt : k < n1
      · obtain ⟨g0, x, rfl, _, _, hx, hcx, _⟩ := P0.get (k := k) (by rw [l0.out]; exact hlt)
        obtain ⟨g1, y, rfl, _, _, hy, hcy, _⟩ := P1.get (k := k) (by rw [l1.out]; exact hlt)
        obtain ⟨g3, z, rfl, _, _, hz, hcz, _⟩ := P3.get (k := k) (by rw [l3.out]; exact hlt)
        obtain ⟨bx1, bx2⟩ := pl.out x (List.mem_of_getElem? hx.out)
        obtain ⟨by1, by2⟩ := pr.out y (List.mem_of_getElem? hy.out)
        have hb : (k : Int) < (n1 : Int) := by omega
        have hat := holdsAt_wt hx.out hy.out hz.out
        have hkc : k < C.c.length := by rw [l3.out]; exact hlt
        have next : holdsAt C k = true → Hid (∀ j, j < k + 1 → holdsAt C j = true) := fun h9 j hj => by
          rcases Nat.lt_succ_iff_lt_or_eq.1 hj with h | rfl
          · exact ht.out j h
          · exact h9
        have bad : holdsAt C k = false → Hid (holdsB C = false) := fun h9 => holds_bad hkc h9
        have TX := fun (q : Nat) => pointsToWhite_any (wr.drewN q) _ _ _ _ _ (P3.drewN q) l3.out x bx1 bx2
        have TY := fun (q : Nat) => pointsToWhite_any (wr.drewN q) _ _ _ _ _ (P3.drewN q) l3.out y by1 by2
        clear hx hy hz ht
        rcases hqx : wtB C.c x
        · rw [hqx] at TX hat
          rcases hqy : wtB C.c y
          · rw [hqy] at TY hat
            have DX := Lib.hid TX
            have DY := Lib.hid TY
            clear TX TY hqx hqy
            by_cases hz2 : z = 2
            · subst hz2
              have ho : holdsAt C k = true := by rw [hat]; simp
              have hn := next ho
              clear ho hat next bad
              go_wp2_with fail
              go_quiet ((first | (go_at_call_of 56 (Value.int .i64 x); exact quiet_left (DX.out _)) | (go_at_call_of 56 (Value.int .i64 y); exact quiet_left (DY.out _))))
              go_wp2_with fail
              go_roundw
              case rel => exact ⟨⟨k + 1, by omega, by go_num, hn⟩, drawn_on HW.out nq⟩
              case measure => simp [intOf]; omega
            · have hz1 : (z == 2) = false := by simp [hz2]
              have ho : holdsAt C k = true := by rw [hat]; simp [hz2]
              have hn := next ho
              clear ho hat next bad
              go_wp2_with fail
              go_quiet ((first | (go_at_call_of 56 (Value.int .i64 x); exact quiet_left (DX.out _)) | (go_at_call_of 56 (Value.int .i64 y); exact quiet_left (DY.out _))))
              go_wp2_with fail
              go_roundw
              case rel => exact ⟨⟨k + 1, by omega, by go_num, hn⟩, drawn_on HW.out nq⟩
              case measure => simp [intOf]; omega
          · rw [hqy] at TY hat
            have DX := Lib.hid TX
            have DY := Lib.hid TY
            clear TX TY hqx hqy
            by_cases hz2 : z = 2
            · subst hz2
              have ho : holdsAt C k = false := by rw [hat]; rfl
              have hn := bad ho
              clear ho hat next bad
              go_wp2_with fail
              go_quiet ((first | (go_at_call_of 56 (Value.int .i64 x); exact quiet_left (DX.out _)) | (go_at_call_of 56 (Value.int .i64 y); exact quiet_left (DY.out _))))
              go_wp2_with fail
              go_ret
              exact ⟨ret_bool hn.out.symm, below_drewN Br _⟩
            · have hz1 : (z == 2) = false := by simp [hz2]
              have ho : holdsAt C k = true := by rw [hat]; simp [hz2]
              have hn := next ho
              clear ho hat next bad
              go_wp2_with fail
              go_quiet ((first | (go_at_call_of 56 (Value.int .i64 x); exact quiet_left (DX.out _)) | (go_at_call_of 56 (Value.int .i64 y); exact quiet_left (DY.out _))))
              go_wp2_with fail
              go_roundw
              case rel => exact ⟨⟨k + 1, by omega, by go_num, hn⟩, drawn_on HW.out nq⟩
              case measure => simp [intOf]; omega
        · rw [hqx] at TX hat
          have hat2 : holdsAt C k = !(decide (z = 2) && true) := by rw [hat]; simp
          clear hat
          have hat := hat2
          have DX := Lib.hid TX
          have DY := Lib.hid TY
          clear TX TY hqx
          by_cases hz2 : z = 2
          · subst hz2
            have ho : holdsAt C k = false := by rw [hat]; rfl
            have hn := bad ho
            clear ho hat next bad
            go_wp2_with fail
            go_quiet ((first | (go_at_call_of 56 (Value.int .i64 x); exact quiet_left (DX.out _)) | (go_at_call_of 56 (Value.int .i64 y); exact quiet_left (DY.out _))))
            go_wp2_with fail
            go_ret
            exact ⟨ret_bool hn.out.symm, below_drewN Br _⟩
          · have hz1 : (z == 2) = false := by simp [hz2]
            have ho : holdsAt C k = true := by rw [hat]; simp [hz2]
            have hn := next ho
            clear ho hat next bad
            go_wp2_with fail
            go_quiet ((first | (go_at_call_of 56 (Value.int .i64 x); exact quiet_left (DX.out _)) | (go_at_call_of 56 (Value.int .i64 y); exact quiet_left (DY.out _))))
            go_wp2_with fail
            go_roundw
            case rel => exact ⟨⟨k + 1, by omega, by go_num, hn⟩, drawn_on HW.out nq⟩
            case measure => simp [intOf]; omega
      · obtain rfl : k = n1 := by omega
        have hf : Hid (holdsB C = true) := holds_good hev.out (fun j hj => ht.out j (by rw [l3.out] at hj; exact hj))
        clear ht
        go_wp2_with fail
        go_ret
        exact ⟨ret_bool hf.out.symm, Br⟩
end Go.Proofs.Ytdakmbheokcpdaa
