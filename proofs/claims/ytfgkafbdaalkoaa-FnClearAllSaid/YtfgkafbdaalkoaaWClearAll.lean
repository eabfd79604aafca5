/- The law FnClearAll, walked. -/
import Derived.Test.YtfgkafbdaalkoaaDCount
import Derived.Test.YtfgkafbdaalkoaaSCount
import Derived.Test.YtfgkafbdaalkoaaPure
import Derived.Test.YtfgkafbdaalkoaaWLaw
import Derived.Test.YtfgkafbdaalkoaaNew
namespace Go.Proofs.Ytfgkafbdaalkoaa
open Go.RowKit

theorem clr_set {l : List Int} {k : Nat} (h : k < l.length) : (List.replicate k (-1) ++ l.drop k).set k (-1) = List.replicate (k + 1) (-1) ++ l.drop (k + 1) := by
  rw [List.set_append, if_neg (by simp), List.length_replicate, Nat.sub_self, List.drop_eq_getElem_cons h, List.set_cons_zero, List.replicate_succ' (n := k)]
  simp
theorem clr_len {l : List Int} {k : Nat} (h : k ≤ l.length) : (List.replicate k (-1) ++ l.drop k).length = l.length := by simp; omega
theorem clr_all {l : List Int} {p : Int → Bool} (h : l.all p = true) (hp : p (-1) = true) (k : Nat) : (List.replicate k (-1) ++ l.drop k).all p = true := by
  rw [List.all_eq_true] at h ⊢
  intro x hx
  rcases List.mem_append.1 hx with h1 | h1
  · rw [(List.mem_replicate.1 h1).2]; exact hp
  · exact h x (List.mem_of_mem_drop h1)
/-- The first k cells and the first j roots are cleared. -/
def clrH (k j : Nat) (h : Hp) : Hp := ⟨List.replicate k (-1) ++ h.l.drop k, List.replicate k (-1) ++ h.r.drop k, List.replicate j (-1) ++ h.t.drop j⟩
theorem clrH_zero (h : Hp) : clrH 0 0 h = h := by cases h; simp [clrH]
theorem clrH_valid {h : Hp} (hv : hvB h = true) {k j : Nat} (hk : k ≤ h.l.length) (hj : j ≤ h.t.length) : hvB (clrH k j h) = true ∧ (clrH k j h).l.length = h.l.length ∧ (clrH k j h).r.length = h.r.length ∧ (clrH k j h).t.length = h.t.length := by
  obtain ⟨⟨h1, h2⟩, h3, h4, h5⟩ := hvB_parts hv
  have pt : ptB (-1) (h.l.length : Int) = true := by simp [ptB]; omega
  have e0 : (clrH k j h).l.length = h.l.length := clr_len hk
  have e1 : (clrH k j h).r.length = h.r.length := clr_len (by omega)
  have e2 : (clrH k j h).t.length = h.t.length := clr_len hj
  refine ⟨hvB_mk (by rw [e0, e1]; exact h1) (by rw [e0, e2]; exact h2) ?_ ?_ ?_, e0, e1, e2⟩
  · rw [e0]; exact clr_all h3 pt k
  · rw [e0]; exact clr_all h4 pt k
  · rw [e0]; exact clr_all h5 pt j
theorem clr_step {h : Hp} (hv : hvB h = true) {k : Nat} (hk : k < h.l.length) : ∃ h', putL (clrH k 0 h) k (-1) = some h' ∧ putR h' k (-1) = some (clrH (k + 1) 0 h) := by
  have hl := hvB_len hv
  obtain ⟨v0, e0, e1, e2⟩ := clrH_valid hv (k := k) (j := 0) (by omega) (by omega)
  have p1 : putL (clrH k 0 h) k (-1) = some ⟨(clrH k 0 h).l.set k (-1), (clrH k 0 h).r, (clrH k 0 h).t⟩ := by
    unfold putL
    rw [if_pos (by simp only [Bool.and_eq_true]; exact ⟨⟨v0, by rw [e0]; simp [plB]; omega⟩, by rw [e0]; simp [ptB]; omega⟩)]; simp
  refine ⟨_, p1, ?_⟩
  have v1 := putL_valid p1
  unfold putR
  rw [if_pos (by simp only [Bool.and_eq_true]; exact ⟨⟨v1, by rw [e1]; simp [plB]; omega⟩, by rw [List.length_set, e0]; simp [ptB]; omega⟩)]
  simp only [Int.toNat_natCast, Option.some.injEq]
  show (⟨(List.replicate k (-1) ++ h.l.drop k).set k (-1), (List.replicate k (-1) ++ h.r.drop k).set k (-1), _⟩ : Hp) = _
  rw [clr_set hk, clr_set (by omega)]
  rfl
theorem clr_root {h : Hp} (hv : hvB h = true) {j : Nat} (hj : j < h.t.length) : putT (clrH h.l.length j h) j (-1) = some (clrH h.l.length (j + 1) h) := by
  have hl := hvB_len hv
  obtain ⟨v0, e0, e1, e2⟩ := clrH_valid hv (k := h.l.length) (j := j) (by omega) (by omega)
  unfold putT
  rw [if_pos (by simp only [Bool.and_eq_true]; exact ⟨⟨v0, by rw [e2]; simp [plB]; omega⟩, by rw [e0]; simp [ptB]; omega⟩)]
  simp only [Int.toNat_natCast, Option.some.injEq]
  show (⟨_, _, (List.replicate j (-1) ++ h.t.drop j).set j (-1)⟩ : Hp) = _
  rw [clr_set hj]
  rfl
theorem cnt_rep (n : Nat) : cntN (List.replicate n (-1)) = 0 := by
  unfold cntN; simp
theorem clr_end {h : Hp} (hv : hvB h = true) {n0 n2 : Nat} (e0 : h.l.length = n0) (e2 : h.t.length = n2) : newO (n0 : Int) (n2 : Int) = some (clrH n0 n2 h) ∧ cntH (clrH n0 n2 h) = 0 := by
  subst e0 e2
  obtain ⟨⟨h1, h2⟩, _⟩ := hvB_parts hv
  obtain ⟨v0, _⟩ := clrH_valid hv (k := h.l.length) (j := h.t.length) (by omega) (by omega)
  have c : clrH h.l.length h.t.length h = ⟨List.replicate h.l.length (-1), List.replicate h.l.length (-1), List.replicate h.t.length (-1)⟩ := by
    unfold clrH; rw [List.drop_length, List.drop_length, ← h1, List.drop_length]; simp
  constructor
  · unfold newO; rw [if_pos h2, c]; simp
  · unfold cntH; rw [if_pos v0, c]; simp [cnt_rep]
theorem Hv.formN {w : World} {lo n0 n1 n2 : Nat} {v : Value} {h : Hp} (hv : Hv w lo v h) (e0 : h.l.length = n0) (e1 : h.r.length = n1) (e2 : h.t.length = n2) :
    ∃ A0 c0 A1 c1 A2 c2, v = .agg #[.slice A0 n0 c0, .slice A1 n1 c1, .slice A2 n2 c2] := by
  subst e0 e1 e2
  obtain ⟨A0, c0, A1, c1, A2, c2, e, _⟩ := hv.form
  exact ⟨A0, c0, A1, c1, A2, c2, e⟩

set_option maxRecDepth 100000 in
set_option maxHeartbeats 3000000 in
theorem lawClearAll_walk (w : World) (A : Option Addr) (n c : Nat) (h : Inp w A n c) :
    Calls Try.prog 5 #[.slice A n c] w (LawTrue w) := by
  by_cases hbig : 1048576 < n
  · go_enter Try.func5, Try.ntmps5
    go_wp2_with fail
    go_ret
    exact ⟨rfl, Below.refl _ _⟩
  go_enter Try.func5, Try.ntmps5
  go_wp2_with fail
  refine (drawCountPointers_any _ _ _ _ h).mono ?_; rintro e w1 ⟨v, hp, rfl, HA, hb1⟩
  have B1 : Below w.heap.size w w1 := (Below.refl w.heap.size w).trans (hb1.mono (Below.refl w.heap.size w).size)
  have zz1 := hb1.size
  have I := fun W v hW => implCount_any W w.heap.size v hp hW
  have S := fun W v hW => specCount_any W w.heap.size v hp hW
  have V := fun W v hW => implHeapValid_any W w.heap.size v hp hW
  have HAo := HA
  obtain ⟨A0, n0, c0, A1, n1, c1, A2, n2, c2, rfl, _, ⟨l0, l1, l2⟩, _⟩ := HAo.open_
  rcases ev : hvB hp
  · rw [ev] at V
    have hc : cntH hp = 0 := by unfold cntH; rw [ev]; simp
    rw [hc] at I S
    clear ev hc
    go_wp2_with fail
    refine (I _ _ (HA.alloc (.cells #[.slice A0 n0 c0, .slice A1 n1 c1, .slice A2 n2 c2] 25))).mono ?_; rintro e w2 ⟨rfl, hb2⟩
    have B2 : Below w.heap.size w w2 := (B1.alloc B1.size (.cells #[.slice A0 n0 c0, .slice A1 n1 c1, .slice A2 n2 c2] 25)).trans (hb2.mono (B1.alloc B1.size (.cells #[.slice A0 n0 c0, .slice A1 n1 c1, .slice A2 n2 c2] 25)).size)
    have zz2 := hb2.size
    have HA_2 := Hv.below (by exact (HA.alloc (.cells #[.slice A0 n0 c0, .slice A1 n1 c1, .slice A2 n2 c2] 25))) hb2
    have X_2 := Blk3.below (by exact (Blk3.new w1 (.slice A0 n0 c0) (.slice A1 n1 c1) (.slice A2 n2 c2) 25)) hb2
    obtain ⟨cX_2_0, cX_2_1, cX_2_2, _⟩ := X_2.cells
    have lX_2 := X_2.lt
    go_wp2_with fail
    refine (S _ _ HA_2).mono ?_; rintro e w3 ⟨rfl, hb3⟩
    have B3 : Below w.heap.size w w3 := B2.trans (hb3.mono B2.size)
    have zz3 := hb3.size
    have HA_3 := Hv.below (by exact HA_2) hb3
    have X_3 := Blk3.below (by exact X_2) hb3
    obtain ⟨cX_3_0, cX_3_1, cX_3_2, _⟩ := X_3.cells
    have lX_3 := X_3.lt
    go_wp2_with fail
    refine (V _ _ HA_3).mono ?_; rintro e w4 ⟨rfl, hb4⟩
    have B4 : Below w.heap.size w w4 := B3.trans (hb4.mono B3.size)
    have zz4 := hb4.size
    have HA_4 := Hv.below (by exact HA_3) hb4
    have X_4 := Blk3.below (by exact X_3) hb4
    obtain ⟨cX_4_0, cX_4_1, cX_4_2, _⟩ := X_4.cells
    have lX_4 := X_4.lt
    go_wp2_with fail
    refine (S _ _ HA_4).mono ?_; rintro e w5 ⟨rfl, hb5⟩
    have B5 : Below w.heap.size w w5 := B4.trans (hb5.mono B4.size)
    have zz5 := hb5.size
    have HA_5 := Hv.below (by exact HA_4) hb5
    have X_5 := Blk3.below (by exact X_4) hb5
    obtain ⟨cX_5_0, cX_5_1, cX_5_2, _⟩ := X_5.cells
    have lX_5 := X_5.lt
    go_wp2_with fail
    go_ret
    exact ⟨rfl, B5⟩
  · rw [ev] at V
    have hl := hvB_len ev
    have u0 : 0 < n0 ∧ n0 ≤ 8 ∧ 0 < n2 ∧ n2 ≤ 3 := by have := l0.out; have := l2.out; omega
    obtain ⟨u0a, u0b, u0d, u0e⟩ := u0
    have EV := Lib.hid ev
    clear ev hl
    generalize cntH hp = N at I S
    go_wp2_with fail
    refine (I _ _ (HA.alloc (.cells #[.slice A0 n0 c0, .slice A1 n1 c1, .slice A2 n2 c2] 25))).mono ?_; rintro e w2 ⟨rfl, hb2⟩
    have B2 : Below w.heap.size w w2 := (B1.alloc B1.size (.cells #[.slice A0 n0 c0, .slice A1 n1 c1, .slice A2 n2 c2] 25)).trans (hb2.mono (B1.alloc B1.size (.cells #[.slice A0 n0 c0, .slice A1 n1 c1, .slice A2 n2 c2] 25)).size)
    have zz2 := hb2.size
    have HA_2 := Hv.below (by exact (HA.alloc (.cells #[.slice A0 n0 c0, .slice A1 n1 c1, .slice A2 n2 c2] 25))) hb2
    have X_2 := Blk3.below (by exact (Blk3.new w1 (.slice A0 n0 c0) (.slice A1 n1 c1) (.slice A2 n2 c2) 25)) hb2
    obtain ⟨cX_2_0, cX_2_1, cX_2_2, _⟩ := X_2.cells
    have lX_2 := X_2.lt
    go_wp2_with fail
    refine (S _ _ HA_2).mono ?_; rintro e w3 ⟨rfl, hb3⟩
    have B3 : Below w.heap.size w w3 := B2.trans (hb3.mono B2.size)
    have zz3 := hb3.size
    have HA_3 := Hv.below (by exact HA_2) hb3
    have X_3 := Blk3.below (by exact X_2) hb3
    obtain ⟨cX_3_0, cX_3_1, cX_3_2, _⟩ := X_3.cells
    have lX_3 := X_3.lt
    go_wp2_with fail
    refine (V _ _ HA_3).mono ?_; rintro e w4 ⟨rfl, hb4⟩
    have B4 : Below w.heap.size w w4 := B3.trans (hb4.mono B3.size)
    have zz4 := hb4.size
    have HA_4 := Hv.below (by exact HA_3) hb4
    have X_4 := Blk3.below (by exact X_3) hb4
    obtain ⟨cX_4_0, cX_4_1, cX_4_2, _⟩ := X_4.cells
    have lX_4 := X_4.lt
    clear I S V
    go_wp2_with fail
    go_loopw [5] (fun i wr => ∃ (k lo : Nat) (D0 : Option Addr) (d0 : Nat) (D1 : Option Addr) (d1 : Nat) (D2 : Option Addr) (d2 : Nat), k ≤ n0 ∧ i = .int .i64 k ∧ Blk3 wr w1.heap.size (.slice D0 n0 d0) (.slice D1 n1 d1) (.slice D2 n2 d2) 25 ∧ Hv wr lo (.agg #[.slice D0 n0 d0, .slice D1 n1 d1, .slice D2 n2 d2]) (clrH k 0 hp) ∧ Below w.heap.size w wr) (fun i _ => n0 - (intOf i).toNat)
    case atStart => exact ⟨0, _, _, _, _, _, _, _, Nat.zero_le _, rfl, X_4, by rw [clrH_zero]; exact HA_4, B4⟩
    case round =>
      obtain ⟨nK, lo, D0, d0, D1, d1, D2, d2, hk, rfl, X, H, BB⟩ := hrel
      obtain ⟨x0, x1, x2, xf0, xf1, xf2⟩ := X.cells
      have xl := X.lt
      by_cases hlt : nK < n0
      · obtain ⟨h2, e1, e2⟩ := clr_step EV.out (k := nK) (by rw [l0.out]; exact hlt)
        have J1 := implPutLeft_any wr lo _ _ H nK (-1)
        rw [e1] at J1
        obtain ⟨_, y0, y1, y2⟩ := clrH_valid EV.out (k := nK + 1) (j := 0) (by rw [l0.out]; omega) (by omega)
        rw [l0.out] at y0
        rw [l1.out] at y1
        rw [l2.out] at y2
        have Y0 := Lib.hid y0
        have Y1 := Lib.hid y1
        have Y2 := Lib.hid y2
        clear y0 y1 y2
        have J2 := fun W lo v (hW : Hv W lo v h2) => implPutRight_any W lo v h2 hW nK (-1)
        rw [e2] at J2
        clear e1 e2
        go_wp2_with fail
        refine J1.mono ?_; rintro e w5 ⟨v, rfl, H5, hb5⟩
        simp only [Option.isSome_some, Option.getD_some] at H5 ⊢
        have X5 := X.below hb5
        have xl5 := X5.lt
        have BB5 := BB.trans (hb5.mono BB.size)
        have H5o := H5
        obtain ⟨E0, q0, j0, E1, q1, j1, E2, q2, j2, rfl, _⟩ := H5o.open_
        obtain ⟨x50, x51, x52, _⟩ := X5.cells
        go_wp2_with fail
        refine (J2 _ _ _ (H5.alloc (.cells #[.slice E0 q0 j0, .slice E1 q1 j1, .slice E2 q2 j2] 25))).mono ?_; rintro e w6 ⟨v, rfl, H6, hb6⟩
        simp only [Option.isSome_some, Option.getD_some] at H6 ⊢
        have X6 := Blk3.below (by exact X5.alloc (.cells #[.slice E0 q0 j0, .slice E1 q1 j1, .slice E2 q2 j2] 25)) hb6
        have BB6 := (BB5.alloc BB5.size (.cells #[.slice E0 q0 j0, .slice E1 q1 j1, .slice E2 q2 j2] 25)).trans (hb6.mono (BB5.alloc BB5.size (.cells #[.slice E0 q0 j0, .slice E1 q1 j1, .slice E2 q2 j2] 25)).size)
        obtain ⟨F0, f0, F1, f1, F2, f2, rfl⟩ := H6.formN Y0.out Y1.out Y2.out
        obtain ⟨x60, x61, x62, xg0, xg1, xg2⟩ := X6.cells
        have xl6 := X6.lt
        have H7 := hv_set3 (b := w1.heap.size) H6 (by simp; omega) (.slice F0 n0 f0) (.slice F1 n1 f1) (.slice F2 n2 f2)
        have X7 := ((X6.set0 (.slice F0 n0 f0)).set1 (.slice F1 n1 f1)).set2 (.slice F2 n2 f2)
        have BB7 := ((BB6.setCell (p := ⟨w1.heap.size, 0, none⟩) B1.size (.slice F0 n0 f0)).setCell (p := ⟨w1.heap.size, 1, none⟩) B1.size (.slice F1 n1 f1)).setCell (p := ⟨w1.heap.size, 2, none⟩) B1.size (.slice F2 n2 f2)
        clear H H5 H6 X X5
        go_wp2_with fail
        go_roundw
        case rel => exact ⟨nK + 1, _, _, _, _, _, _, _, by omega, by go_num, X7, H7, BB7⟩
        case measure => simp [intOf]; omega
      · have hkn : nK = n0 := by omega
        subst hkn
        go_wp2_with fail
        go_loopw [8] (fun i wr => ∃ (k lo : Nat) (D0 : Option Addr) (d0 : Nat) (D1 : Option Addr) (d1 : Nat) (D2 : Option Addr) (d2 : Nat), k ≤ n2 ∧ i = .int .i64 k ∧ Blk3 wr w1.heap.size (.slice D0 nK d0) (.slice D1 n1 d1) (.slice D2 n2 d2) 25 ∧ Hv wr lo (.agg #[.slice D0 nK d0, .slice D1 n1 d1, .slice D2 n2 d2]) (clrH nK k hp) ∧ Below w.heap.size w wr) (fun i _ => n2 - (intOf i).toNat)
        case atStart => exact ⟨0, _, _, _, _, _, _, _, Nat.zero_le _, rfl, X, H, BB⟩
        case round =>
          obtain ⟨k, lo, D0, d0, D1, d1, D2, d2, hk, rfl, X, H, BB⟩ := hrel
          obtain ⟨x0, x1, x2, xf0, xf1, xf2⟩ := X.cells
          have xl := X.lt
          by_cases hlt : k < n2
          · have e1 := clr_root EV.out (j := k) (by rw [l2.out]; exact hlt)
            rw [l0.out] at e1
            have J1 := implPutRoot_any _ lo _ _ H k (-1)
            rw [e1] at J1
            obtain ⟨_, y0, y1, y2⟩ := clrH_valid EV.out (k := nK) (j := k + 1) (by rw [l0.out]; omega) (by rw [l2.out]; omega)
            rw [l0.out] at y0
            rw [l1.out] at y1
            rw [l2.out] at y2
            have Y0 := Lib.hid y0
            have Y1 := Lib.hid y1
            have Y2 := Lib.hid y2
            clear y0 y1 y2
            clear e1
            go_wp2_with fail
            refine J1.mono ?_; rintro e w6 ⟨v, rfl, H6, hb6⟩
            simp only [Option.isSome_some, Option.getD_some] at H6 ⊢
            have X6 := X.below hb6
            have BB6 := BB.trans (hb6.mono BB.size)
            obtain ⟨F0, f0, F1, f1, F2, f2, rfl⟩ := H6.formN Y0.out Y1.out Y2.out
            obtain ⟨x60, x61, x62, xg0, xg1, xg2⟩ := X6.cells
            have xl6 := X6.lt
            have H7 := hv_set3 (b := w1.heap.size) H6 (by omega) (.slice F0 nK f0) (.slice F1 n1 f1) (.slice F2 n2 f2)
            have X7 := ((X6.set0 (.slice F0 nK f0)).set1 (.slice F1 n1 f1)).set2 (.slice F2 n2 f2)
            have BB7 := ((BB6.setCell (p := ⟨w1.heap.size, 0, none⟩) B1.size (.slice F0 nK f0)).setCell (p := ⟨w1.heap.size, 1, none⟩) B1.size (.slice F1 n1 f1)).setCell (p := ⟨w1.heap.size, 2, none⟩) B1.size (.slice F2 n2 f2)
            clear H H6 X X6
            go_wp2_with fail
            go_roundw
            case rel => exact ⟨k + 1, _, _, _, _, _, _, _, by omega, by go_num, X7, H7, BB7⟩
            case measure => simp [intOf]; omega
          · obtain rfl : k = n2 := by omega
            obtain ⟨en, ec⟩ := clr_end EV.out l0.out l2.out
            have NN := fun W => implNewHeap_any W (nK : Int) (k : Int)
            rw [en] at NN
            have CC := fun W lo v (hW : Hv W lo v (clrH nK k hp)) => implCount_any W lo v _ hW
            rw [ec] at CC
            have SS := fun W lo lo2 v v2 (hW : Hv W lo v (clrH nK k hp)) (hW2 : Hv W lo2 v2 (clrH nK k hp)) => implHeapSame_any W lo lo2 v v2 _ _ hW hW2
            simp only [sameB_self'] at SS
            clear en ec
            go_wp2_with fail
            refine (NN _).mono ?_; rintro e w6 ⟨v, rfl, H6, hb6⟩
            simp only [Option.isSome_some, Option.getD_some] at H6 ⊢
            have H6o := H6
            obtain ⟨E0, q0, j0, E1, q1, j1, E2, q2, j2, rfl, _⟩ := H6o.open_
            have X6 := X.below hb6
            have xl6 := X6.lt
            have Hx6 := H.below hb6
            have BB6 := BB.trans (hb6.mono BB.size)
            obtain ⟨x60, x61, x62, _⟩ := X6.cells
            go_wp2_with fail
            refine (SS _ _ _ _ _ (Hx6.alloc (.cells #[.slice E0 q0 j0, .slice E1 q1 j1, .slice E2 q2 j2] 25)) (H6.alloc (.cells #[.slice E0 q0 j0, .slice E1 q1 j1, .slice E2 q2 j2] 25))).mono ?_; rintro e w7 ⟨rfl, hb7⟩
            have X7 := Blk3.below (by exact X6.alloc (.cells #[.slice E0 q0 j0, .slice E1 q1 j1, .slice E2 q2 j2] 25)) hb7
            have Hx7 := Hv.below (by exact Hx6.alloc (.cells #[.slice E0 q0 j0, .slice E1 q1 j1, .slice E2 q2 j2] 25)) hb7
            have BB7 := (BB6.alloc BB6.size (.cells #[.slice E0 q0 j0, .slice E1 q1 j1, .slice E2 q2 j2] 25)).trans (hb7.mono (BB6.alloc BB6.size (.cells #[.slice E0 q0 j0, .slice E1 q1 j1, .slice E2 q2 j2] 25)).size)
            obtain ⟨x70, x71, x72, _⟩ := X7.cells
            go_wp2_with fail
            refine (CC _ _ _ Hx7).mono ?_; rintro e w8 ⟨rfl, hb8⟩
            go_wp2_with fail
            go_ret
            exact ⟨rfl, BB7.trans (hb8.mono BB7.size)⟩
end Go.Proofs.Ytfgkafbdaalkoaa
