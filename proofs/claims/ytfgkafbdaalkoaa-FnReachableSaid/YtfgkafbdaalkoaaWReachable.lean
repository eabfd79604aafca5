/- The law FnReachable, walked. -/
import Derived.Test.YtfgkafbdaalkoaaDReach
import Derived.Test.YtfgkafbdaalkoaaReach
import Derived.Test.YtfgkafbdaalkoaaSReach
import Derived.Test.YtfgkafbdaalkoaaClos
import Derived.Test.YtfgkafbdaalkoaaCcB
import Derived.Test.YtfgkafbdaalkoaaWLaw
namespace Go.Proofs.Ytfgkafbdaalkoaa
open Go.RowKit

theorem reach_facts {h : Hp} (hv : hvB h = true) : (∀ x ∈ h.t, x ≠ -1 → ∃ kk : Nat, x = kk ∧ (liveL h)[kk]? = some true) ∧
    (∀ (k : Nat) (x : Int), (liveL h)[k]? = some true → (h.l[k]? = some x ∨ h.r[k]? = some x) → x ≠ -1 → ∃ kk : Nat, x = kk ∧ (liveL h)[kk]? = some true) := by
  obtain ⟨_, h3, h4, h5⟩ := hvB_parts hv
  obtain ⟨c1, c2⟩ := dist_closed hv h5
  have key : ∀ x : Int, ptB x h.l.length = true → x ≠ -1 → 0 ≤ gd (dist h h.t) x → ∃ kk : Nat, x = kk ∧ (liveL h)[kk]? = some true := by
    intro x hp hne hg
    simp only [ptB, decide_eq_true_eq] at hp
    obtain ⟨kk, rfl⟩ : ∃ kk : Nat, x = kk := ⟨x.toNat, by omega⟩
    refine ⟨kk, rfl, ?_⟩
    have hkl : kk < (liveL h).length := by rw [liveL_len hv]; omega
    have hb := live_get hv (k := kk) (b := (liveL h)[kk]) (List.getElem?_eq_getElem hkl)
    rw [List.getElem?_eq_getElem hkl, hb]
    simpa using hg
  refine ⟨fun x hx hne => ?_, fun k x hk hx hne => ?_⟩
  · rw [List.all_eq_true] at h5
    exact key x (h5 x hx) hne (c1 x hx hne)
  · have hg := live_get hv hk
    have hg' : 0 ≤ gd (dist h h.t) (k : Int) := by simpa using hg.symm
    have hx' : x = gd h.l (k : Int) ∨ x = gd h.r (k : Int) := hx.imp (fun e => (gd_nat e).symm) (fun e => (gd_nat e).symm)
    have hp : ptB x h.l.length = true := by
      rw [List.all_eq_true] at h3 h4
      rcases hx with e | e
      · exact h3 x (List.mem_of_getElem? e)
      · exact h4 x (List.mem_of_getElem? e)
    rcases c2 (k : Int) (by omega) hg' x hx' hne with h9 | h9
    · exact key x hp hne h9
    · simp at h9

set_option maxRecDepth 100000 in
set_option maxHeartbeats 3000000 in
theorem lawReachable_walk (w : World) (A : Option Addr) (n c : Nat) (h : Inp w A n c) :
    Calls Try.prog 14 #[.slice A n c] w (LawTrue w) := by
  by_cases hbig : 1048576 < n
  · go_enter Try.func14, Try.ntmps14
    go_wp2_with fail
    go_ret
    exact ⟨rfl, Below.refl _ _⟩
  go_enter Try.func14, Try.ntmps14
  go_wp2_with fail
  refine (drawReachable_any _ _ _ _ h).mono ?_; rintro e w1 ⟨v, hp, rfl, HA, hb1⟩
  have BW1 : Below w.heap.size w w1 := (Below.refl w.heap.size w).trans (hb1.mono (Below.refl w.heap.size w).size)
  have zz1 := hb1.size
  have I := fun W v hW => implReach_any W w.heap.size v hp hW
  have S := fun W v hW => specReach_any W w.heap.size v hp hW
  have V := fun W v hW => implHeapValid_any W w.heap.size v hp hW
  have HAo := HA
  obtain ⟨A0, n0, c0, A1, n1, c1, A2, n2, c2, rfl, ⟨r0, r1, r2⟩, ⟨l0, l1, l2⟩, _⟩ := HAo.open_
  rcases ev : hvB hp
  · rw [ev] at V
    have hxs : liveL hp = [] := by unfold liveL; rw [ev]; simp
    rw [hxs] at I S
    clear ev hxs
    go_wp2_with fail
    refine (I _ _ (HA.alloc (.cells #[.slice A0 n0 c0, .slice A1 n1 c1, .slice A2 n2 c2] 25))).mono ?_; rintro e w2 ⟨AR2, kR2, rfl, R2, hb2⟩
    have BW2 : Below w.heap.size w w2 := (BW1.alloc BW1.size (.cells #[.slice A0 n0 c0, .slice A1 n1 c1, .slice A2 n2 c2] 25)).trans (hb2.mono (BW1.alloc BW1.size (.cells #[.slice A0 n0 c0, .slice A1 n1 c1, .slice A2 n2 c2] 25)).size)
    have zz2 := hb2.size
    have HA_2 := Hv.below (by exact (HA.alloc (.cells #[.slice A0 n0 c0, .slice A1 n1 c1, .slice A2 n2 c2] 25))) hb2
    have X_2 := Blk3.below (by exact (Blk3.new w1 (.slice A0 n0 c0) (.slice A1 n1 c1) (.slice A2 n2 c2) 25)) hb2
    obtain ⟨cX_2_0, cX_2_1, cX_2_2, _⟩ := X_2.cells
    have lX_2 := X_2.lt
    go_wp2_with fail
    refine (S _ _ HA_2).mono ?_; rintro e w3 ⟨AR3, kR3, rfl, R3, hb3⟩
    have BW3 : Below w.heap.size w w3 := BW2.trans (hb3.mono BW2.size)
    have zz3 := hb3.size
    have HA_3 := Hv.below (by exact HA_2) hb3
    have X_3 := Blk3.below (by exact X_2) hb3
    obtain ⟨cX_3_0, cX_3_1, cX_3_2, _⟩ := X_3.cells
    have lX_3 := X_3.lt
    have R2_3 := RowB.below (by exact R2) hb3
    go_wp2_with fail
    refine (ccBools_same _ _ _ _ _ _ _ _ R2_3 R3).mono ?_; rintro e w4 ⟨rfl, hb4⟩
    have BW4 : Below w.heap.size w w4 := BW3.trans (hb4.mono BW3.size)
    have zz4 := hb4.size
    have HA_4 := Hv.below (by exact HA_3) hb4
    have X_4 := Blk3.below (by exact X_3) hb4
    obtain ⟨cX_4_0, cX_4_1, cX_4_2, _⟩ := X_4.cells
    have lX_4 := X_4.lt
    have R2_4 := RowB.below (by exact R2_3) hb4
    have R3_4 := RowB.below (by exact R3) hb4
    go_wp2_with fail
    refine (V _ _ HA_4).mono ?_; rintro e w5 ⟨rfl, hb5⟩
    have BW5 : Below w.heap.size w w5 := BW4.trans (hb5.mono BW4.size)
    have zz5 := hb5.size
    have HA_5 := Hv.below (by exact HA_4) hb5
    have X_5 := Blk3.below (by exact X_4) hb5
    obtain ⟨cX_5_0, cX_5_1, cX_5_2, _⟩ := X_5.cells
    have lX_5 := X_5.lt
    have R2_5 := RowB.below (by exact R2_4) hb5
    have R3_5 := RowB.below (by exact R3_4) hb5
    go_wp2_with fail
    refine (S _ _ HA_5).mono ?_; rintro e w6 ⟨AR6, kR6, rfl, R6, hb6⟩
    have BW6 : Below w.heap.size w w6 := BW5.trans (hb6.mono BW5.size)
    have zz6 := hb6.size
    have HA_6 := Hv.below (by exact HA_5) hb6
    have X_6 := Blk3.below (by exact X_5) hb6
    obtain ⟨cX_6_0, cX_6_1, cX_6_2, _⟩ := X_6.cells
    have lX_6 := X_6.lt
    have R2_6 := RowB.below (by exact R2_5) hb6
    have R3_6 := RowB.below (by exact R3_5) hb6
    go_wp2_with fail
    refine (ccBools_same _ _ _ _ _ _ _ _ R2_6 R6).mono ?_; rintro e w7 ⟨rfl, hb7⟩
    have BW7 : Below w.heap.size w w7 := BW6.trans (hb7.mono BW6.size)
    have zz7 := hb7.size
    have HA_7 := Hv.below (by exact HA_6) hb7
    have X_7 := Blk3.below (by exact X_6) hb7
    obtain ⟨cX_7_0, cX_7_1, cX_7_2, _⟩ := X_7.cells
    have lX_7 := X_7.lt
    have R2_7 := RowB.below (by exact R2_6) hb7
    have R3_7 := RowB.below (by exact R3_6) hb7
    have R6_7 := RowB.below (by exact R6) hb7
    go_wp2_with fail
    go_ret
    exact ⟨rfl, BW7⟩
  · rw [ev] at V
    have hl := hvB_len ev
    obtain ⟨f1, f2⟩ := reach_facts ev
    have hxl : Hid ((liveL hp).length = n0) := by unfold Hid; rw [liveL_len ev]; exact l0.out
    have u0 : n0 ≤ 8 ∧ Hid (n1 = n0) ∧ n2 ≤ 3 := by have := l0.out; have := l1.out; have := l2.out; exact ⟨by omega, by unfold Hid; omega, by omega⟩
    obtain ⟨u0a, u0b, u0c⟩ := u0
    generalize liveL hp = xs at I S f1 f2 hxl
    have F1 := Lib.hid f1
    have F2 := Lib.hid f2
    clear ev hl f1 f2
    go_wp2_with fail
    refine (I _ _ (HA.alloc (.cells #[.slice A0 n0 c0, .slice A1 n1 c1, .slice A2 n2 c2] 25))).mono ?_; rintro e w2 ⟨AR2, kR2, rfl, R2, hb2⟩
    have BW2 : Below w.heap.size w w2 := (BW1.alloc BW1.size (.cells #[.slice A0 n0 c0, .slice A1 n1 c1, .slice A2 n2 c2] 25)).trans (hb2.mono (BW1.alloc BW1.size (.cells #[.slice A0 n0 c0, .slice A1 n1 c1, .slice A2 n2 c2] 25)).size)
    have zz2 := hb2.size
    have HA_2 := Hv.below (by exact (HA.alloc (.cells #[.slice A0 n0 c0, .slice A1 n1 c1, .slice A2 n2 c2] 25))) hb2
    have X_2 := Blk3.below (by exact (Blk3.new w1 (.slice A0 n0 c0) (.slice A1 n1 c1) (.slice A2 n2 c2) 25)) hb2
    obtain ⟨cX_2_0, cX_2_1, cX_2_2, _⟩ := X_2.cells
    have lX_2 := X_2.lt
    go_wp2_with fail
    refine (S _ _ HA_2).mono ?_; rintro e w3 ⟨AR3, kR3, rfl, R3, hb3⟩
    have BW3 : Below w.heap.size w w3 := BW2.trans (hb3.mono BW2.size)
    have zz3 := hb3.size
    have HA_3 := Hv.below (by exact HA_2) hb3
    have X_3 := Blk3.below (by exact X_2) hb3
    obtain ⟨cX_3_0, cX_3_1, cX_3_2, _⟩ := X_3.cells
    have lX_3 := X_3.lt
    have R2_3 := RowB.below (by exact R2) hb3
    go_wp2_with fail
    refine (ccBools_same _ _ _ _ _ _ _ _ R2_3 R3).mono ?_; rintro e w4 ⟨rfl, hb4⟩
    have BW4 : Below w.heap.size w w4 := BW3.trans (hb4.mono BW3.size)
    have zz4 := hb4.size
    have HA_4 := Hv.below (by exact HA_3) hb4
    have X_4 := Blk3.below (by exact X_3) hb4
    obtain ⟨cX_4_0, cX_4_1, cX_4_2, _⟩ := X_4.cells
    have lX_4 := X_4.lt
    have R2_4 := RowB.below (by exact R2_3) hb4
    have R3_4 := RowB.below (by exact R3) hb4
    go_wp2_with fail
    refine (V _ _ HA_4).mono ?_; rintro e w5 ⟨rfl, hb5⟩
    have BW5 : Below w.heap.size w w5 := BW4.trans (hb5.mono BW4.size)
    have zz5 := hb5.size
    have HA_5 := Hv.below (by exact HA_4) hb5
    have X_5 := Blk3.below (by exact X_4) hb5
    obtain ⟨cX_5_0, cX_5_1, cX_5_2, _⟩ := X_5.cells
    have lX_5 := X_5.lt
    have R2_5 := RowB.below (by exact R2_4) hb5
    have C5 : Below w1.heap.size w1 w5 := (((((Below.refl _ _).alloc (Nat.le_refl _) _).trans (hb2.mono (by simp))).trans (hb3.mono (by simp at zz2; omega))).trans (hb4.mono (by simp at zz2; omega))).trans (hb5.mono (by simp at zz2; omega))
    have q0 := r0.below C5
    have q1 := r1.below C5
    have q2 := r2.below C5
    rw [hxl.out] at R2_5 ⊢
    clear I S V r0 r1 r2 HA_2 HA_3 HA_4 HA_5
    go_wp2_with fail
    go_loop [5] (fun i => ∃ k : Nat, k ≤ n2 ∧ i = .int .i64 k) (fun i => n2 - (intOf i).toNat)
    case atStart => exact ⟨0, Nat.zero_le _, rfl⟩
    case round =>
      obtain ⟨k, hk, rfl⟩ := hrel
      by_cases hlt : k < n2
      · obtain ⟨g, x, rfl, _, _, hx, hcell, _⟩ := q2.get (k := k) (by have := l2.out; omega)
        by_cases hx1 : x = -1
        · subst hx1
          clear hx
          go_wp2_with fail
          go_round
          case rel => exact ⟨k + 1, by omega, by go_num⟩
          case measure => simp [intOf]; omega
        · obtain ⟨kk, rfl, hkk⟩ := F1.out x (List.mem_of_getElem? hx.out) hx1
          have hkl : kk < n0 := by have h9 := (List.getElem?_eq_some_iff.1 hkk).1; rw [hxl.out] at h9; exact h9
          obtain ⟨gr, b, rfl, _, _, hb, hcb, _⟩ := R2_5.get (k := kk) (by rw [hxl.out]; exact hkl)
          have hbt : b = true := by have h9 := hb.out; rw [hkk] at h9; simpa using h9.symm
          subst hbt
          have hne1 : (((kk : Nat) : Int) != -1) = true := by simp
          clear hx hkk hb
          go_wp2_with fail
          go_round
          case rel => exact ⟨k + 1, by omega, by go_num⟩
          case measure => simp [intOf]; omega
      · obtain rfl : k = n2 := by omega
        go_wp2_with fail
        go_loop [6] (fun i => ∃ k : Nat, k ≤ n0 ∧ i = .int .i64 k) (fun i => n0 - (intOf i).toNat)
        case atStart => exact ⟨0, Nat.zero_le _, rfl⟩
        case round =>
          obtain ⟨k, hk, rfl⟩ := hrel
          by_cases hlt : k < n0
          · obtain ⟨gr, b, eR, _, _, hb, hcb, _⟩ := R2_5.get (k := k) (by rw [hxl.out]; exact hlt)
            cases eR
            cases b
            · clear hb
              go_wp2_with fail
              go_round
              case rel => exact ⟨k + 1, by omega, by go_num⟩
              case measure => simp [intOf]; omega
            · obtain ⟨ga, x, eA, _, _, hx, hcx, _⟩ := q0.get (k := k) (by have := l0.out; omega)
              obtain ⟨gb, y, eB, _, _, hy, hcy, _⟩ := q1.get (k := k) (by have := l1.out; have := u0b.out; omega)
              cases eA
              cases eB
              have hk1 : k < n1 := by have := u0b.out; omega
              have fx : x ≠ -1 → ∃ kk : Nat, x = kk ∧ kk < n0 ∧ w5.cell? ⟨gr, kk, none⟩ = some (.bool true) := fun hne => by
                obtain ⟨kk, e, hkk⟩ := F2.out k x hb.out (.inl hx.out) hne
                have hkl : kk < n0 := by have h9 := (List.getElem?_eq_some_iff.1 hkk).1; rw [hxl.out] at h9; exact h9
                obtain ⟨gr', b', e', _, _, hb', hcb', _⟩ := R2_5.get (k := kk) (by rw [hxl.out]; exact hkl)
                cases e'
                have hbt : b' = true := by have h9 := hb'.out; rw [hkk] at h9; simpa using h9.symm
                subst hbt
                exact ⟨kk, e, hkl, hcb'⟩
              have fy : y ≠ -1 → ∃ kk : Nat, y = kk ∧ kk < n0 ∧ w5.cell? ⟨gr, kk, none⟩ = some (.bool true) := fun hne => by
                obtain ⟨kk, e, hkk⟩ := F2.out k y hb.out (.inr hy.out) hne
                have hkl : kk < n0 := by have h9 := (List.getElem?_eq_some_iff.1 hkk).1; rw [hxl.out] at h9; exact h9
                obtain ⟨gr', b', e', _, _, hb', hcb', _⟩ := R2_5.get (k := kk) (by rw [hxl.out]; exact hkl)
                cases e'
                have hbt : b' = true := by have h9 := hb'.out; rw [hkk] at h9; simpa using h9.symm
                subst hbt
                exact ⟨kk, e, hkl, hcb'⟩
              clear hx hy hb
              by_cases hx1 : x = -1
              · subst hx1
                clear fx
                by_cases hy1 : y = -1
                · subst hy1
                  clear fy
                  go_wp2_with fail
                  go_round
                  case rel => exact ⟨k + 1, by omega, by go_num⟩
                  case measure => simp [intOf]; omega
                · obtain ⟨ky, rfl, hky, hcky⟩ := fy hy1
                  have hney : (((ky : Nat) : Int) != -1) = true := by simp
                  clear fy
                  go_wp2_with fail
                  go_round
                  case rel => exact ⟨k + 1, by omega, by go_num⟩
                  case measure => simp [intOf]; omega
              · obtain ⟨kx, rfl, hkx, hckx⟩ := fx hx1
                have hnex : (((kx : Nat) : Int) != -1) = true := by simp
                clear fx
                by_cases hy1 : y = -1
                · subst hy1
                  clear fy
                  go_wp2_with fail
                  go_round
                  case rel => exact ⟨k + 1, by omega, by go_num⟩
                  case measure => simp [intOf]; omega
                · obtain ⟨ky, rfl, hky, hcky⟩ := fy hy1
                  have hney : (((ky : Nat) : Int) != -1) = true := by simp
                  clear fy
                  go_wp2_with fail
                  go_round
                  case rel => exact ⟨k + 1, by omega, by go_num⟩
                  case measure => simp [intOf]; omega
          · obtain rfl : k = n0 := by omega
            go_wp2_with fail
            go_ret
            exact ⟨by simp, BW5⟩
end Go.Proofs.Ytfgkafbdaalkoaa
