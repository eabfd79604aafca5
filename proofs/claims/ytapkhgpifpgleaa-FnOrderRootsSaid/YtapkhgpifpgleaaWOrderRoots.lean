/- The law FnOrderRoots, walked. -/
import Derived.Test.YtapkhgpifpgleaaDOrd
import Derived.Test.YtapkhgpifpgleaaOrdW
import Derived.Test.YtapkhgpifpgleaaCc
import Derived.Test.YtapkhgpifpgleaaLaws0
namespace Go.Proofs.Ytapkhgpifpgleaa
open Go.RowKit

theorem row_maxO {w : World} {lo n c : Nat} {A : Option Addr} {xs : List Int} (h : Row w lo (.slice A n c) xs) : xs.length ≤ 9223372036854775807 := by
  obtain ⟨A', c', _, h1, h2⟩ := h.form
  unfold maxLen at h2; omega
theorem ccInts_sameO (w : World) (lo lo' : Nat) (A A' : Option Addr) (c c' : Nat) (xs : List Int) (h : Row w lo (.slice A xs.length c) xs) (h' : Row w lo' (.slice A' xs.length c') xs) :
    Calls Try.prog 32 #[.slice A xs.length c, .slice A' xs.length c'] w (RetB w true) :=
  (ccInts_any w lo lo' A A' xs.length c xs.length c' xs xs h rfl (row_maxO h) h' rfl (row_maxO h')).mono fun _ _ ⟨he, nq, hw⟩ => ⟨by rw [he]; simp, by rw [hw]; exact below_drewN (Below.refl _ _) _⟩

theorem order_none {h : Hp} (hv : hvB h = true) (hn : ∀ x ∈ h.t, x = -1) : order h = [] := by
  rw [order_eq hv]
  rw [List.eq_nil_iff_forall_not_mem]
  intro x hx
  exact ordL_least h.t (fun _ => False) (fun y hy h1 => h1 (hn y hy)) (fun c hc => hc.elim) x hx
theorem meets_skip {s t : List Int} (h : ∀ x ∈ t, x = -1) (u : List Int) : meets s (t ++ u) = meets s u := by
  induction t with
  | nil => rfl
  | cons a t ih =>
    have ha := h a (by simp)
    subst ha
    rw [List.cons_append, meets_cons]
    have : meet1 s (-1) = s := by simp [meet1]
    rw [this]
    exact ih (fun x hx => h x (by simp [hx]))
theorem order_first {h : Hp} (hv : hvB h = true) {k : Nat} {x : Int} (hx : h.t[k]? = some x) (hne : x ≠ -1) (hn : ∀ y ∈ h.t.take k, y = -1) : ∃ r, order h = x :: r := by
  have hpre := ordL_pre hv (hv_roots hv) 0
  rw [← order_eq hv] at hpre
  have e : ordN h h.t 0 = meets [] h.t := rfl
  have hk : k < h.t.length := (List.getElem?_eq_some_iff.1 hx).1
  have hd : h.t = h.t.take k ++ (x :: h.t.drop (k + 1)) := by
    conv => lhs; rw [← List.take_append_drop k h.t]
    congr 1
    rw [List.drop_eq_getElem_cons hk]
    congr 1
    rw [List.getElem?_eq_getElem hk] at hx; simpa using hx
  have e2 : meets [] h.t = meets [x] (h.t.drop (k + 1)) := by
    conv => lhs; rw [hd]
    rw [meets_skip hn, meets_cons]
    congr 1
    simp [meet1, hne]
  rw [e, e2] at hpre
  obtain ⟨r, hr⟩ := (meets_pre [x] (h.t.drop (k + 1))).trans hpre
  exact ⟨r, by rw [← hr]; rfl⟩
set_option maxRecDepth 100000 in
set_option maxHeartbeats 4000000 in
theorem lawOrderRoots_walk (w : World) (A : Option Addr) (n c : Nat) (h : Inp w A n c) :
    Calls Try.prog 8 #[.slice A n c] w (LawTrue w) := by
  by_cases hbig : 1048576 < n
  · go_enter Try.func8, Try.ntmps8
    go_wp2_with fail
    go_ret
    exact ⟨rfl, Below.refl _ _⟩
  go_enter Try.func8, Try.ntmps8
  go_wp2_with fail
  refine (drawOrderOf_any _ _ _ _ h).mono ?_; rintro e w1 ⟨v, hp, rfl, HA, hb1⟩
  have BW1 : Below w.heap.size w w1 := (Below.refl w.heap.size w).trans (hb1.mono (Below.refl w.heap.size w).size)
  have zz1 := hb1.size
  have I := fun W v hW => implOrder_any W w.heap.size v hp hW
  have S := fun W v hW => specOrder_any W w.heap.size v hp hW
  have V := fun W v hW => implHeapValid_any W w.heap.size v hp hW
  have HAo := HA
  obtain ⟨A0, n0, c0, A1, n1, c1, A2, n2, c2, rfl, ⟨r0, r1, r2⟩, ⟨l0, l1, l2⟩, _⟩ := HAo.open_
  rcases ev : hvB hp
  · rw [ev] at V
    have hxs : order hp = [] := by unfold order; rw [ev]; simp
    rw [hxs] at I S
    clear ev hxs
    go_wp2_with fail
    refine (I _ _ (HA.alloc (.cells #[.slice A0 n0 c0, .slice A1 n1 c1, .slice A2 n2 c2] 27))).mono ?_; rintro e w2 ⟨AR2, kR2, rfl, R2, hb2⟩
    have BW2 : Below w.heap.size w w2 := (BW1.alloc BW1.size (.cells #[.slice A0 n0 c0, .slice A1 n1 c1, .slice A2 n2 c2] 27)).trans (hb2.mono (BW1.alloc BW1.size (.cells #[.slice A0 n0 c0, .slice A1 n1 c1, .slice A2 n2 c2] 27)).size)
    have zz2 := hb2.size
    have HA_2 := Hv.below (by exact (HA.alloc (.cells #[.slice A0 n0 c0, .slice A1 n1 c1, .slice A2 n2 c2] 27))) hb2
    have X_2 := Blk3.below (by exact (Blk3.new w1 (.slice A0 n0 c0) (.slice A1 n1 c1) (.slice A2 n2 c2) 27)) hb2
    obtain ⟨cX_2_0, cX_2_1, cX_2_2, _⟩ := X_2.cells
    have lX_2 := X_2.lt
    go_wp2_with fail
    refine (S _ _ HA_2).mono ?_; rintro e w3 ⟨AR3, kR3, rfl, R3, hb3⟩
    have BW3 : Below w.heap.size w w3 := BW2.trans (hb3.mono BW2.size)
    have zz3 := hb3.size
    have HA_3 := Hv.below (by exact HA_2) hb3
    have X_3 := Blk3.below (by exact X_2) hb3
    obtain ⟨cX_3_0, cX_3_1, cX_3_2, _⟩ := X_3.cells
    have lX_3 := X_3.lt
    have R2_3 := Row.below (by exact R2) hb3
    go_wp2_with fail
    refine (ccInts_sameO _ _ _ _ _ _ _ [] R2_3 R3).mono ?_; rintro e w4 ⟨rfl, hb4⟩
    have BW4 : Below w.heap.size w w4 := BW3.trans (hb4.mono BW3.size)
    have zz4 := hb4.size
    have HA_4 := Hv.below (by exact HA_3) hb4
    have X_4 := Blk3.below (by exact X_3) hb4
    obtain ⟨cX_4_0, cX_4_1, cX_4_2, _⟩ := X_4.cells
    have lX_4 := X_4.lt
    have R2_4 := Row.below (by exact R2_3) hb4
    have R3_4 := Row.below (by exact R3) hb4
    go_wp2_with fail
    refine (V _ _ HA_4).mono ?_; rintro e w5 ⟨rfl, hb5⟩
    have BW5 : Below w.heap.size w w5 := BW4.trans (hb5.mono BW4.size)
    have zz5 := hb5.size
    have HA_5 := Hv.below (by exact HA_4) hb5
    have X_5 := Blk3.below (by exact X_4) hb5
    obtain ⟨cX_5_0, cX_5_1, cX_5_2, _⟩ := X_5.cells
    have lX_5 := X_5.lt
    have R2_5 := Row.below (by exact R2_4) hb5
    go_wp2_with fail
    refine (S _ _ HA_5).mono ?_; rintro e w6 ⟨AR6, kR6, rfl, R6, hb6⟩
    have BW6 : Below w.heap.size w w6 := BW5.trans (hb6.mono BW5.size)
    have zz6 := hb6.size
    have HA_6 := Hv.below (by exact HA_5) hb6
    have X_6 := Blk3.below (by exact X_5) hb6
    obtain ⟨cX_6_0, cX_6_1, cX_6_2, _⟩ := X_6.cells
    have lX_6 := X_6.lt
    have R2_6 := Row.below (by exact R2_5) hb6
    go_wp2_with fail
    refine (ccInts_sameO _ _ _ _ _ _ _ [] R2_6 R6).mono ?_; rintro e w7 ⟨rfl, hb7⟩
    have BW7 : Below w.heap.size w w7 := BW6.trans (hb7.mono BW6.size)
    have zz7 := hb7.size
    have HA_7 := Hv.below (by exact HA_6) hb7
    have X_7 := Blk3.below (by exact X_6) hb7
    obtain ⟨cX_7_0, cX_7_1, cX_7_2, _⟩ := X_7.cells
    have lX_7 := X_7.lt
    have R2_7 := Row.below (by exact R2_6) hb7
    have R6_7 := Row.below (by exact R6) hb7
    go_wp2_with fail
    go_ret
    exact ⟨rfl, BW7⟩
  · rw [ev] at V
    have F1 := Lib.hid (fun k x (hx : hp.t[k]? = some x) hne hn => order_first ev hx hne hn)
    have F2 := Lib.hid (order_none ev)
    have fb := order_len0 hp
    have h8 := hvB_len ev
    have n2b : n2 ≤ 3 := by have := l2.out; omega
    have ob : (order hp).length ≤ 8 := by omega
    generalize order hp = gs at I S F1 F2 fb ob
    clear ev h8 fb r0 r1
    go_wp2_with fail
    refine (I _ _ (HA.alloc (.cells #[.slice A0 n0 c0, .slice A1 n1 c1, .slice A2 n2 c2] 27))).mono ?_; rintro e w2 ⟨AR2, kR2, rfl, R2, hb2⟩
    have BW2 : Below w.heap.size w w2 := (BW1.alloc BW1.size (.cells #[.slice A0 n0 c0, .slice A1 n1 c1, .slice A2 n2 c2] 27)).trans (hb2.mono (BW1.alloc BW1.size (.cells #[.slice A0 n0 c0, .slice A1 n1 c1, .slice A2 n2 c2] 27)).size)
    have zz2 := hb2.size
    have HA_2 := Hv.below (by exact (HA.alloc (.cells #[.slice A0 n0 c0, .slice A1 n1 c1, .slice A2 n2 c2] 27))) hb2
    have X_2 := Blk3.below (by exact (Blk3.new w1 (.slice A0 n0 c0) (.slice A1 n1 c1) (.slice A2 n2 c2) 27)) hb2
    obtain ⟨cX_2_0, cX_2_1, cX_2_2, _⟩ := X_2.cells
    have lX_2 := X_2.lt
    have RT_2 := Row.below (by exact (r2.alloc (.cells #[.slice A0 n0 c0, .slice A1 n1 c1, .slice A2 n2 c2] 27))) hb2
    go_wp2_with fail
    refine (S _ _ HA_2).mono ?_; rintro e w3 ⟨AR3, kR3, rfl, R3, hb3⟩
    have BW3 : Below w.heap.size w w3 := BW2.trans (hb3.mono BW2.size)
    have zz3 := hb3.size
    have HA_3 := Hv.below (by exact HA_2) hb3
    have X_3 := Blk3.below (by exact X_2) hb3
    obtain ⟨cX_3_0, cX_3_1, cX_3_2, _⟩ := X_3.cells
    have lX_3 := X_3.lt
    have RT_3 := Row.below (by exact RT_2) hb3
    have R2_3 := Row.below (by exact R2) hb3
    go_wp2_with fail
    refine (ccInts_sameO _ _ _ _ _ _ _ _ R2_3 R3).mono ?_; rintro e w4 ⟨rfl, hb4⟩
    have BW4 : Below w.heap.size w w4 := BW3.trans (hb4.mono BW3.size)
    have zz4 := hb4.size
    have HA_4 := Hv.below (by exact HA_3) hb4
    have X_4 := Blk3.below (by exact X_3) hb4
    obtain ⟨cX_4_0, cX_4_1, cX_4_2, _⟩ := X_4.cells
    have lX_4 := X_4.lt
    have RT_4 := Row.below (by exact RT_3) hb4
    have R2_4 := Row.below (by exact R2_3) hb4
    have R3_4 := Row.below (by exact R3) hb4
    generalize hnx : gs.length = nx at *
    have HNX := Lib.hid hnx
    clear hnx
    go_wp2_with fail
    refine (V _ _ HA_4).mono ?_; rintro e w5 ⟨rfl, hb5⟩
    have BW5 : Below w.heap.size w w5 := BW4.trans (hb5.mono BW4.size)
    have zz5 := hb5.size
    have HA_5 := Hv.below (by exact HA_4) hb5
    have X_5 := Blk3.below (by exact X_4) hb5
    obtain ⟨cX_5_0, cX_5_1, cX_5_2, _⟩ := X_5.cells
    have lX_5 := X_5.lt
    have RT_5 := Row.below (by exact RT_4) hb5
    have R2_5 := Row.below (by exact R2_4) hb5
    go_wp2_with fail
    go_loopw [5] (fun i wr => (∃ k : Nat, k ≤ n2 ∧ i = .int .i64 k ∧ Hid (∀ y ∈ hp.t.take k, y = -1)) ∧ wr = w5) (fun i _ => n2 - (intOf i).toNat)
    case atStart => exact ⟨⟨0, Nat.zero_le _, rfl, fun y hy => by simp at hy⟩, rfl⟩
    case round =>
      obtain ⟨⟨k, hk, rfl, hn⟩, rfl⟩ := hrel
      rename_i wq _
      by_cases hlt : k < n2
      · obtain ⟨gt, x, egt, _, _, hx, hcx, _⟩ := RT_5.get (k := k) (by rw [l2.out]; exact hlt)
        cases egt
        by_cases hx1 : x = -1
        · subst hx1
          have hn' : Hid (∀ y ∈ hp.t.take (k + 1), y = -1) := fun y hy => by
            rw [List.take_add_one, hx.out] at hy
            rcases List.mem_append.1 hy with h9 | h9
            · exact hn.out y h9
            · simpa using h9
          clear hx
          go_wp2_with fail
          go_roundw
          case rel => exact ⟨⟨k + 1, by omega, by go_num, hn'⟩, trivial⟩
          case measure => simp [intOf]; omega
        · have hx2 : (x != -1) = true := by simpa using hx1
          obtain ⟨r, hr⟩ := F1.out k x hx.out hx1 hn.out
          have hnx : 0 < nx := by have := HNX.out; rw [hr] at this; simp at this; omega
          obtain ⟨go, y, ego, _, _, hy, hcy, _⟩ := R2_5.get (k := 0) (by have := HNX.out; omega)
          cases ego
          obtain rfl : y = x := by have h9 := hy.out; rw [hr] at h9; simp at h9; exact h9.symm
          have hb0 : decide ((0 : Int) < (nx : Int)) = true := by simp; omega
          clear hx hx1 hr hn hy
          go_wp2_with fail
          go_quiet (fail)
          go_wp2_with fail
          go_ret
          exact ⟨ret_bool (by simp), by first | exact BW5 | exact below_drewN BW5 _⟩
      · obtain rfl : n2 = k := by omega
        have hz : gs = [] := F2.out (fun y hy => hn.out y (by rw [List.take_of_length_le (by rw [l2.out]; omega)]; exact hy))
        have hz2 : nx = 0 := by have := HNX.out; rw [hz] at this; simpa using this.symm
        subst hz2
        go_wp2_with fail
        go_ret
        exact ⟨ret_bool (by simp), by first | exact BW5 | exact below_drewN BW5 _⟩
end Go.Proofs.Ytapkhgpifpgleaa
