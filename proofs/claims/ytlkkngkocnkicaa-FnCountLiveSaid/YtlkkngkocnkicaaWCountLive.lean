/- The law FnCountLive, walked. -/
import Derived.Test.YtlkkngkocnkicaaDCountLive
import Derived.Test.YtlkkngkocnkicaaLive
import Derived.Test.YtlkkngkocnkicaaLeast
import Derived.Test.YtlkkngkocnkicaaPure
import Derived.Test.YtlkkngkocnkicaaPut
import Derived.Test.YtlkkngkocnkicaaWLaw
namespace Go.Proofs.Ytlkkngkocnkicaa
open Go.RowKit

/-- The first j roots are cleared. -/
def rtH (j : Nat) (h : Hp) : Hp := ⟨h.l, h.r, List.replicate j (-1) ++ h.t.drop j⟩
theorem rtH_zero (h : Hp) : rtH 0 h = h := by cases h; simp [rtH]
theorem rt_set {l : List Int} {k : Nat} (h : k < l.length) : (List.replicate k (-1) ++ l.drop k).set k (-1) = List.replicate (k + 1) (-1) ++ l.drop (k + 1) := by
  rw [List.set_append, if_neg (by simp), List.length_replicate, Nat.sub_self, List.drop_eq_getElem_cons h, List.set_cons_zero, List.replicate_succ' (n := k)]
  simp
theorem rtH_valid {h : Hp} (hv : hvB h = true) {j : Nat} (hj : j ≤ h.t.length) : hvB (rtH j h) = true ∧ (rtH j h).t.length = h.t.length := by
  obtain ⟨⟨h1, h2⟩, h3, h4, h5⟩ := hvB_parts hv
  have pt : ptB (-1) (h.l.length : Int) = true := by simp [ptB]; omega
  have e2 : (rtH j h).t.length = h.t.length := by simp [rtH]; omega
  refine ⟨hvB_mk h1 (by rw [e2]; exact h2) h3 h4 ?_, e2⟩
  show (List.replicate j (-1) ++ h.t.drop j).all (ptB · h.l.length) = true
  rw [List.all_eq_true] at h5 ⊢
  intro x hx
  rcases List.mem_append.1 hx with h6 | h6
  · rw [(List.mem_replicate.1 h6).2]; exact pt
  · exact h5 x (List.mem_of_mem_drop h6)
theorem rt_step {h : Hp} (hv : hvB h = true) {j : Nat} (hj : j < h.t.length) : putT (rtH j h) j (-1) = some (rtH (j + 1) h) := by
  obtain ⟨v0, e2⟩ := rtH_valid hv (j := j) (by omega)
  unfold putT
  rw [if_pos (by simp only [Bool.and_eq_true]; exact ⟨⟨v0, by rw [e2]; simp [plB]; omega⟩, by simp [ptB]; omega⟩)]
  simp only [Int.toNat_natCast, Option.some.injEq]
  show (⟨_, _, (List.replicate j (-1) ++ h.t.drop j).set j (-1)⟩ : Hp) = _
  rw [rt_set hj]
  rfl
theorem rt_live {h : Hp} (hv : hvB h = true) {j : Nat} (hj : j < h.t.length) : cntB (liveL (rtH (j + 1) h)) ≤ cntB (liveL (rtH j h)) := by
  obtain ⟨v0, _⟩ := rtH_valid hv (j := j) (by omega)
  obtain ⟨v1, _⟩ := rtH_valid hv (j := j + 1) (by omega)
  refine cntB_mono (by rw [liveL_len v0, liveL_len v1]; rfl) (live_sub v0 v1 rfl (fun x hx hne => ?_) (fun c => .inr rfl) (fun c => .inr rfl))
  rcases List.mem_append.1 hx with h6 | h6
  · exact absurd (List.mem_replicate.1 h6).2 hne
  · show x ∈ List.replicate j (-1) ++ h.t.drop j
    refine List.mem_append.2 (.inr ?_)
    rw [List.drop_eq_getElem_cons hj]
    exact List.mem_cons_of_mem _ h6
theorem rt_end {h : Hp} (hv : hvB h = true) {n2 : Nat} (e2 : h.t.length = n2) : cntB (liveL (rtH n2 h)) = 0 := by
  subst e2
  obtain ⟨v0, _⟩ := rtH_valid hv (j := h.t.length) (Nat.le_refl _)
  have hall : ∀ x ∈ (rtH h.t.length h).t, x = -1 := fun x hx => by
    have hx' : x ∈ List.replicate h.t.length (-1) ++ h.t.drop h.t.length := hx
    rw [List.drop_length, List.append_nil] at hx'
    exact (List.mem_replicate.1 hx').2
  unfold liveL cntB
  rw [if_pos v0, dist_none hall, List.map_replicate]
  simp
theorem Hv.formL {w : World} {lo n0 n1 n2 : Nat} {v : Value} {h : Hp} (hv : Hv w lo v h) (e0 : h.l.length = n0) (e1 : h.r.length = n1) (e2 : h.t.length = n2) :
    ∃ A0 c0 A1 c1 A2 c2, v = .agg #[.slice A0 n0 c0, .slice A1 n1 c1, .slice A2 n2 c2] := by
  subst e0 e1 e2
  obtain ⟨A0, c0, A1, c1, A2, c2, e, _⟩ := hv.form
  exact ⟨A0, c0, A1, c1, A2, c2, e⟩
theorem live_bds (h : Hp) : 0 ≤ cntB (liveL h) ∧ cntB (liveL h) ≤ 8 := by
  have h1 := cntB_bd (liveL h)
  have h2 := liveL_bd h
  omega

set_option maxRecDepth 100000 in
set_option maxHeartbeats 3000000 in
theorem lawCountLive_walk (w : World) (A : Option Addr) (n c : Nat) (h : Inp w A n c) :
    Calls Try.prog 4 #[.slice A n c] w (LawTrue w) := by
  by_cases hbig : 1048576 < n
  · go_enter Try.func4, Try.ntmps4
    go_wp2_with fail
    go_ret
    exact ⟨rfl, Below.refl _ _⟩
  go_enter Try.func4, Try.ntmps4
  go_wp2_with fail
  refine (drawCountLive_any _ _ _ _ h).mono ?_; rintro e w1 ⟨v, hp, rfl, HA, hb1⟩
  have BW1 : Below w.heap.size w w1 := (Below.refl w.heap.size w).trans (hb1.mono (Below.refl w.heap.size w).size)
  have zz1 := hb1.size
  have I := fun W v hW => implLive_any W w.heap.size v hp hW
  have S := fun W v hW => specLive_any W w.heap.size v hp hW
  have V := fun W v hW => implHeapValid_any W w.heap.size v hp hW
  have HAo := HA
  obtain ⟨A0, n0, c0, A1, n1, c1, A2, n2, c2, rfl, _, ⟨l0, l1, l2⟩, _⟩ := HAo.open_
  rcases ev : hvB hp
  · rw [ev] at V
    have hc : cntB (liveL hp) = 0 := by unfold liveL; rw [ev]; simp [cntB]
    rw [hc] at I S
    clear ev hc
    go_wp2_with fail
    refine (I _ _ (HA.alloc (.cells #[.slice A0 n0 c0, .slice A1 n1 c1, .slice A2 n2 c2] 25))).mono ?_; rintro e w2 ⟨rfl, hb2⟩
    have BW2 : Below w.heap.size w w2 := (BW1.alloc BW1.size (.cells #[.slice A0 n0 c0, .slice A1 n1 c1, .slice A2 n2 c2] 25)).trans (hb2.mono (BW1.alloc BW1.size (.cells #[.slice A0 n0 c0, .slice A1 n1 c1, .slice A2 n2 c2] 25)).size)
    have zz2 := hb2.size
    have HA_2 := Hv.below (by exact (HA.alloc (.cells #[.slice A0 n0 c0, .slice A1 n1 c1, .slice A2 n2 c2] 25))) hb2
    have X_2 := Blk3.below (by exact (Blk3.new w1 (.slice A0 n0 c0) (.slice A1 n1 c1) (.slice A2 n2 c2) 25)) hb2
    obtain ⟨cX_2_0, cX_2_1, cX_2_2, _⟩ := X_2.cells
    have lX_2 := X_2.lt
    go_wp2_with fail
    refine (S _ _ HA_2).mono ?_; rintro e w3 ⟨rfl, hb3⟩
    have BW3 : Below w.heap.size w w3 := BW2.trans (hb3.mono BW2.size)
    have zz3 := hb3.size
    have HA_3 := Hv.below (by exact HA_2) hb3
    have X_3 := Blk3.below (by exact X_2) hb3
    obtain ⟨cX_3_0, cX_3_1, cX_3_2, _⟩ := X_3.cells
    have lX_3 := X_3.lt
    go_wp2_with fail
    refine (V _ _ HA_3).mono ?_; rintro e w4 ⟨rfl, hb4⟩
    have BW4 : Below w.heap.size w w4 := BW3.trans (hb4.mono BW3.size)
    have zz4 := hb4.size
    have HA_4 := Hv.below (by exact HA_3) hb4
    have X_4 := Blk3.below (by exact X_3) hb4
    obtain ⟨cX_4_0, cX_4_1, cX_4_2, _⟩ := X_4.cells
    have lX_4 := X_4.lt
    go_wp2_with fail
    refine (S _ _ HA_4).mono ?_; rintro e w5 ⟨rfl, hb5⟩
    have BW5 : Below w.heap.size w w5 := BW4.trans (hb5.mono BW4.size)
    have zz5 := hb5.size
    have HA_5 := Hv.below (by exact HA_4) hb5
    have X_5 := Blk3.below (by exact X_4) hb5
    obtain ⟨cX_5_0, cX_5_1, cX_5_2, _⟩ := X_5.cells
    have lX_5 := X_5.lt
    go_wp2_with fail
    go_ret
    exact ⟨rfl, BW5⟩
  · rw [ev] at V
    have hl := hvB_len ev
    have u0 : n0 ≤ 8 ∧ n2 ≤ 3 := by have := l0.out; have := l2.out; omega
    obtain ⟨u0b, u0e⟩ := u0
    have EV := Lib.hid ev
    have hN0 : Hid (cntB (liveL hp) = cntB (liveL (rtH 0 hp))) := by unfold Hid; rw [rtH_zero]
    have hNb := live_bds hp
    clear ev hl
    generalize cntB (liveL hp) = N at I S hN0 hNb
    go_wp2_with fail
    refine (I _ _ (HA.alloc (.cells #[.slice A0 n0 c0, .slice A1 n1 c1, .slice A2 n2 c2] 25))).mono ?_; rintro e w2 ⟨rfl, hb2⟩
    have BW2 : Below w.heap.size w w2 := (BW1.alloc BW1.size (.cells #[.slice A0 n0 c0, .slice A1 n1 c1, .slice A2 n2 c2] 25)).trans (hb2.mono (BW1.alloc BW1.size (.cells #[.slice A0 n0 c0, .slice A1 n1 c1, .slice A2 n2 c2] 25)).size)
    have zz2 := hb2.size
    have HA_2 := Hv.below (by exact (HA.alloc (.cells #[.slice A0 n0 c0, .slice A1 n1 c1, .slice A2 n2 c2] 25))) hb2
    have X_2 := Blk3.below (by exact (Blk3.new w1 (.slice A0 n0 c0) (.slice A1 n1 c1) (.slice A2 n2 c2) 25)) hb2
    obtain ⟨cX_2_0, cX_2_1, cX_2_2, _⟩ := X_2.cells
    have lX_2 := X_2.lt
    go_wp2_with fail
    refine (S _ _ HA_2).mono ?_; rintro e w3 ⟨rfl, hb3⟩
    have BW3 : Below w.heap.size w w3 := BW2.trans (hb3.mono BW2.size)
    have zz3 := hb3.size
    have HA_3 := Hv.below (by exact HA_2) hb3
    have X_3 := Blk3.below (by exact X_2) hb3
    obtain ⟨cX_3_0, cX_3_1, cX_3_2, _⟩ := X_3.cells
    have lX_3 := X_3.lt
    go_wp2_with fail
    refine (V _ _ HA_3).mono ?_; rintro e w4 ⟨rfl, hb4⟩
    have BW4 : Below w.heap.size w w4 := BW3.trans (hb4.mono BW3.size)
    have zz4 := hb4.size
    have HA_4 := Hv.below (by exact HA_3) hb4
    have X_4 := Blk3.below (by exact X_3) hb4
    obtain ⟨cX_4_0, cX_4_1, cX_4_2, _⟩ := X_4.cells
    have lX_4 := X_4.lt
    clear I S V
    go_wp2_with fail
    go_loopw [4, 5] (fun s i wr => ∃ (k lo : Nat) (M : Int) (D0 : Option Addr) (d0 : Nat) (D1 : Option Addr) (d1 : Nat) (D2 : Option Addr) (d2 : Nat), k ≤ n2 ∧ i = .int .i64 k ∧ s = .int .i64 M ∧ Hid (M = cntB (liveL (rtH k hp))) ∧ Blk3 wr w1.heap.size (.slice D0 n0 d0) (.slice D1 n1 d1) (.slice D2 n2 d2) 25 ∧ Hv wr lo (.agg #[.slice D0 n0 d0, .slice D1 n1 d1, .slice D2 n2 d2]) (rtH k hp) ∧ Below w.heap.size w wr) (fun _ i _ => n2 - (intOf i).toNat)
    case atStart => exact ⟨0, _, N, _, _, _, _, _, _, Nat.zero_le _, rfl, rfl, hN0, X_4, by rw [rtH_zero]; exact HA_4, BW4⟩
    case round =>
      obtain ⟨k, lo, M, D0, d0, D1, d1, D2, d2, hk, rfl, rfl, hM, X, H, BB⟩ := hrel
      obtain ⟨x0, x1, x2, xf0, xf1, xf2⟩ := X.cells
      have xl := X.lt
      have hMb : 0 ≤ M ∧ M ≤ 8 := by rw [hM.out]; exact live_bds _
      by_cases hlt : k < n2
      · have e1 := rt_step EV.out (j := k) (by rw [l2.out]; exact hlt)
        have J1 := implPutRoot_any _ lo _ _ H k (-1)
        rw [e1] at J1
        have hle : cntB (liveL (rtH (k + 1) hp)) ≤ M := by rw [hM.out]; exact rt_live EV.out (by rw [l2.out]; exact hlt)
        have hb9 := live_bds (rtH (k + 1) hp)
        have LC := fun W lo v (hW : Hv W lo v (rtH (k + 1) hp)) => implLive_any W lo v _ hW
        obtain ⟨_, y2⟩ := rtH_valid EV.out (j := k + 1) (by rw [l2.out]; omega)
        rw [l2.out] at y2
        have Y0 : Hid ((rtH (k + 1) hp).l.length = n0) := l0
        have Y1 : Hid ((rtH (k + 1) hp).r.length = n1) := l1
        have Y2 := Lib.hid y2
        generalize hM2 : cntB (liveL (rtH (k + 1) hp)) = M2 at LC hle hb9
        have HM2 := Lib.hid hM2.symm
        clear e1 y2 hM hM2
        go_wp2_with fail
        refine J1.mono ?_; rintro e w6 ⟨v, rfl, H6, hb6⟩
        simp only [Option.isSome_some, Option.getD_some] at H6 ⊢
        have X6 := X.below hb6
        have BB6 := BB.trans (hb6.mono BB.size)
        obtain ⟨F0, f0, F1, f1, F2, f2, rfl⟩ := H6.formL Y0.out Y1.out Y2.out
        have xl6 := X6.lt
        go_wp2_with fail
        refine (LC _ _ _ (H6.alloc (.cells #[.slice F0 n0 f0, .slice F1 n1 f1, .slice F2 n2 f2] 25))).mono ?_; rintro e w7 ⟨rfl, hb7⟩
        have X7 := Blk3.below (by exact X6.alloc (.cells #[.slice F0 n0 f0, .slice F1 n1 f1, .slice F2 n2 f2] 25)) hb7
        have Y7 := Blk3.below (by exact Blk3.new w6 (.slice F0 n0 f0) (.slice F1 n1 f1) (.slice F2 n2 f2) 25) hb7
        have H7 := Hv.below (by exact H6.alloc (.cells #[.slice F0 n0 f0, .slice F1 n1 f1, .slice F2 n2 f2] 25)) hb7
        have BB7 := (BB6.alloc BB6.size (.cells #[.slice F0 n0 f0, .slice F1 n1 f1, .slice F2 n2 f2] 25)).trans (hb7.mono (BB6.alloc BB6.size (.cells #[.slice F0 n0 f0, .slice F1 n1 f1, .slice F2 n2 f2] 25)).size)
        obtain ⟨x70, x71, x72, xg0, xg1, xg2⟩ := X7.cells
        obtain ⟨y70, y71, y72, _⟩ := Y7.cells
        have xl7 := X7.lt
        have yl7 := Y7.lt
        have H8 := hv_set3 (b := w1.heap.size) H7 (by omega) (.slice F0 n0 f0) (.slice F1 n1 f1) (.slice F2 n2 f2)
        have X8 := ((X7.set0 (.slice F0 n0 f0)).set1 (.slice F1 n1 f1)).set2 (.slice F2 n2 f2)
        have BB8 := ((BB7.setCell (p := ⟨w1.heap.size, 0, none⟩) BW1.size (.slice F0 n0 f0)).setCell (p := ⟨w1.heap.size, 1, none⟩) BW1.size (.slice F1 n1 f1)).setCell (p := ⟨w1.heap.size, 2, none⟩) BW1.size (.slice F2 n2 f2)
        have hnl : ¬ (M < M2) := by omega
        clear H H6 X X6 H7
        go_wp2_with fail
        go_roundw
        case rel => exact ⟨k + 1, _, M2, _, _, _, _, _, _, by omega, by go_num, rfl, HM2, X8, H8, BB8⟩
        case measure => simp [intOf]; omega
      · obtain rfl : k = n2 := by omega
        have hM0 : M = 0 := by rw [hM.out]; exact rt_end EV.out l2.out
        subst hM0
        clear hM
        go_wp2_with fail
        go_ret
        exact ⟨rfl, BB⟩
end Go.Proofs.Ytlkkngkocnkicaa
