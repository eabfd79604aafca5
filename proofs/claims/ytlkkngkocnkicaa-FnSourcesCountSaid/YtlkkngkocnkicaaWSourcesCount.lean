/- The law FnSourcesCount, walked. -/
import Derived.Test.YtlkkngkocnkicaaDSourcesOf
import Derived.Test.YtlkkngkocnkicaaSrc
import Derived.Test.YtlkkngkocnkicaaReach
import Derived.Test.YtlkkngkocnkicaaSReach
import Derived.Test.YtlkkngkocnkicaaClos
import Derived.Test.YtlkkngkocnkicaaCc
import Derived.Test.YtlkkngkocnkicaaWLaw
namespace Go.Proofs.Ytlkkngkocnkicaa
open Go.RowKit

theorem row_max {w : World} {lo n c : Nat} {A : Option Addr} {xs : List Int} (h : Row w lo (.slice A n c) xs) : xs.length ≤ 9223372036854775807 := by
  obtain ⟨A', c', _, h1, h2⟩ := h.form
  unfold maxLen at h2; omega
theorem ccInts_same (w : World) (lo lo' : Nat) (A A' : Option Addr) (c c' : Nat) (xs : List Int) (h : Row w lo (.slice A xs.length c) xs) (h' : Row w lo' (.slice A' xs.length c') xs) :
    Calls Try.prog 15 #[.slice A xs.length c, .slice A' xs.length c'] w (RetB w true) :=
  (ccInts_any w lo lo' A A' xs.length c xs.length c' xs xs h rfl (row_max h) h' rfl (row_max h')).mono fun _ _ ⟨he, nq, hw⟩ => ⟨by rw [he]; simp, by rw [hw]; exact below_drewN (Below.refl _ _) _⟩
theorem srcs_mem {h : Hp} {c : Int} {y : Int} (hy : y ∈ srcs h c) : hvB h = true ∧ plB c h.l.length = true ∧ ∃ k : Nat, y = k ∧ k < h.l.length ∧ pntB h k c = true := by
  unfold srcs at hy
  split at hy
  · rename_i hc
    rw [Bool.and_eq_true] at hc
    unfold srcN at hy
    rw [List.mem_map] at hy
    obtain ⟨k, hk, rfl⟩ := hy
    rw [List.mem_filter, List.mem_range] at hk
    exact ⟨hc.1, hc.2, k, rfl, hk.1, hk.2⟩
  · simp at hy
/-- A cell to which a live cell points is live. -/
theorem srcs_live {h : Hp} {c : Int} {y : Int} (hy : y ∈ srcs h c) : ∃ k kc : Nat, y = k ∧ c = kc ∧ k < (liveL h).length ∧ kc < (liveL h).length ∧ ((liveL h)[k]? = some true → (liveL h)[kc]? = some true) := by
  obtain ⟨hv, hc, k, rfl, hk, hp⟩ := srcs_mem hy
  obtain ⟨kc, rfl, hkc⟩ := plB_nat hc
  obtain ⟨⟨hr, _⟩, _, _, h5⟩ := hvB_parts hv
  refine ⟨k, kc, rfl, rfl, by rw [liveL_len hv]; exact hk, by rw [liveL_len hv]; exact hkc, fun hl => ?_⟩
  have hg := live_get hv hl
  have hg' : 0 ≤ gd (dist h h.t) (k : Int) := by simpa using hg.symm
  have hx : (kc : Int) = gd h.l (k : Int) ∨ (kc : Int) = gd h.r (k : Int) := by
    have hk2 : k < h.r.length := by rw [hr]; exact hk
    unfold pntB at hp
    rw [Bool.or_eq_true] at hp
    refine hp.imp (fun e => ?_) (fun e => ?_)
    · have e' : h.l.getD k 0 = (kc : Int) := by simpa using e
      rw [← e']; simp [gd, List.getD, List.getElem?_eq_getElem hk]
    · have e' : h.r.getD k 0 = (kc : Int) := by simpa using e
      rw [← e']; simp [gd, List.getD, List.getElem?_eq_getElem hk2]
  rcases (dist_closed hv h5).2 (k : Int) (by omega) hg' (kc : Int) hx (by omega) with h9 | h9
  · have hkl : kc < (liveL h).length := by rw [liveL_len hv]; exact hkc
    have hb := live_get hv (k := kc) (b := (liveL h)[kc]) (List.getElem?_eq_getElem hkl)
    rw [List.getElem?_eq_getElem hkl, hb]
    simpa using h9
  · simp at h9

set_option maxRecDepth 100000 in
set_option maxHeartbeats 3000000 in
theorem lawSourcesCount_walk (w : World) (A : Option Addr) (n c : Nat) (h : Inp w A n c) :
    Calls Try.prog 5 #[.slice A n c] w (LawTrue w) := by
  by_cases hbig : 1048576 < n
  · go_enter Try.func5, Try.ntmps5
    go_wp2_with fail
    go_ret
    exact ⟨rfl, Below.refl _ _⟩
  go_enter Try.func5, Try.ntmps5
  go_wp2_with fail
  refine (drawSourcesOf_any _ _ _ _ h).mono ?_; rintro e w1 ⟨v, hp, x, rfl, HA, hb1, hx8⟩
  have BW1 : Below w.heap.size w w1 := (Below.refl w.heap.size w).trans (hb1.mono (Below.refl w.heap.size w).size)
  have zz1 := hb1.size
  have I := fun W v hW => implSources_any W w.heap.size v hp hW x
  have S := fun W v hW => specSources_any W w.heap.size v hp hW x
  have RR := fun W v hW => implReach_any W w.heap.size v hp hW
  have fl := srcs_len hp x
  have fm := fun y (hy : y ∈ srcs hp x) => srcs_live hy
  have fb := liveL_bd hp
  have HAo := HA
  obtain ⟨A0, n0, c0, A1, n1, c1, A2, n2, c2, rfl, ⟨r0, r1, r2⟩, ⟨l0, l1, l2⟩, _⟩ := HAo.open_
  have fl2 : (srcs hp x).length ≤ n0 := by have := l0.out; omega
  generalize hxs : srcs hp x = xs at I S fl fm fl2
  generalize hys : liveL hp = ys at RR fm fb
  have FM := Lib.hid fm
  clear fl fm hxs hys hx8 r0 r1 r2
  by_cases hnil : xs = []
  · subst hnil
    go_wp2_with fail
    refine (I _ _ (HA.alloc (.cells #[.slice A0 n0 c0, .slice A1 n1 c1, .slice A2 n2 c2] 25))).mono ?_; rintro e w2 ⟨AR2, kR2, rfl, R2, hb2⟩
    have BW2 : Below w.heap.size w w2 := (BW1.alloc BW1.size (.cells #[.slice A0 n0 c0, .slice A1 n1 c1, .slice A2 n2 c2] 25)).trans (hb2.mono (BW1.alloc BW1.size (.cells #[.slice A0 n0 c0, .slice A1 n1 c1, .slice A2 n2 c2] 25)).size)
    have zz2 := hb2.size
    have HA_2 := Hv.below (by exact (HA.alloc (.cells #[.slice A0 n0 c0, .slice A1 n1 c1, .slice A2 n2 c2] 25))) hb2
    have X_2 := Blk3.below (by exact (Blk3.new w1 (.slice A0 n0 c0) (.slice A1 n1 c1) (.slice A2 n2 c2) 25)) hb2
    obtain ⟨cX_2_0, cX_2_1, cX_2_2, _⟩ := X_2.cells
    have lX_2 := X_2.lt
    go_wp2_with fail
    refine (S _ _ HA_2).mono ?_; rintro e w3 ⟨AR3, kR3, rfl, R3, hb3⟩
    have BW3 : Below w.heap.size w w3 := BW2.trans (hb3.mono BW2.size)
    have zz3 := hb3.size
    have HA_3 := Hv.below (by exact HA_2) hb3
    have X_3 := Blk3.below (by exact X_2) hb3
    obtain ⟨cX_3_0, cX_3_1, cX_3_2, _⟩ := X_3.cells
    have lX_3 := X_3.lt
    have R2_3 := Row.below (by exact R2) hb3
    go_wp2_with fail
    refine (ccInts_same _ _ _ _ _ _ _ [] R2_3 R3).mono ?_; rintro e w4 ⟨rfl, hb4⟩
    have BW4 : Below w.heap.size w w4 := BW3.trans (hb4.mono BW3.size)
    have zz4 := hb4.size
    have HA_4 := Hv.below (by exact HA_3) hb4
    have X_4 := Blk3.below (by exact X_3) hb4
    obtain ⟨cX_4_0, cX_4_1, cX_4_2, _⟩ := X_4.cells
    have lX_4 := X_4.lt
    have R2_4 := Row.below (by exact R2_3) hb4
    have R3_4 := Row.below (by exact R3) hb4
    go_wp2_with fail
    refine (S _ _ HA_4).mono ?_; rintro e w5 ⟨AR5, kR5, rfl, R5, hb5⟩
    have BW5 : Below w.heap.size w w5 := BW4.trans (hb5.mono BW4.size)
    have zz5 := hb5.size
    have HA_5 := Hv.below (by exact HA_4) hb5
    have X_5 := Blk3.below (by exact X_4) hb5
    obtain ⟨cX_5_0, cX_5_1, cX_5_2, _⟩ := X_5.cells
    have lX_5 := X_5.lt
    have R2_5 := Row.below (by exact R2_4) hb5
    go_wp2_with fail
    refine (ccInts_same _ _ _ _ _ _ _ [] R2_5 R5).mono ?_; rintro e w6 ⟨rfl, hb6⟩
    have BW6 : Below w.heap.size w w6 := BW5.trans (hb6.mono BW5.size)
    have zz6 := hb6.size
    have HA_6 := Hv.below (by exact HA_5) hb6
    have X_6 := Blk3.below (by exact X_5) hb6
    obtain ⟨cX_6_0, cX_6_1, cX_6_2, _⟩ := X_6.cells
    have lX_6 := X_6.lt
    have R2_6 := Row.below (by exact R2_5) hb6
    have R5_6 := Row.below (by exact R5) hb6
    go_wp2_with fail
    go_ret
    exact ⟨rfl, BW6⟩
  · have hpos : 0 < xs.length := List.length_pos_iff.2 hnil
    obtain ⟨y0, hy0⟩ := List.exists_mem_of_length_pos hpos
    obtain ⟨k0, kc, e0, rfl, _, hkc, _⟩ := FM.out y0 hy0
    clear e0 hy0 hnil
    go_wp2_with fail
    refine (I _ _ (HA.alloc (.cells #[.slice A0 n0 c0, .slice A1 n1 c1, .slice A2 n2 c2] 25))).mono ?_; rintro e w2 ⟨AR2, kR2, rfl, R2, hb2⟩
    have BW2 : Below w.heap.size w w2 := (BW1.alloc BW1.size (.cells #[.slice A0 n0 c0, .slice A1 n1 c1, .slice A2 n2 c2] 25)).trans (hb2.mono (BW1.alloc BW1.size (.cells #[.slice A0 n0 c0, .slice A1 n1 c1, .slice A2 n2 c2] 25)).size)
    have zz2 := hb2.size
    have HA_2 := Hv.below (by exact (HA.alloc (.cells #[.slice A0 n0 c0, .slice A1 n1 c1, .slice A2 n2 c2] 25))) hb2
    have X_2 := Blk3.below (by exact (Blk3.new w1 (.slice A0 n0 c0) (.slice A1 n1 c1) (.slice A2 n2 c2) 25)) hb2
    obtain ⟨cX_2_0, cX_2_1, cX_2_2, _⟩ := X_2.cells
    have lX_2 := X_2.lt
    go_wp2_with fail
    refine (S _ _ HA_2).mono ?_; rintro e w3 ⟨AR3, kR3, rfl, R3, hb3⟩
    have BW3 : Below w.heap.size w w3 := BW2.trans (hb3.mono BW2.size)
    have zz3 := hb3.size
    have HA_3 := Hv.below (by exact HA_2) hb3
    have X_3 := Blk3.below (by exact X_2) hb3
    obtain ⟨cX_3_0, cX_3_1, cX_3_2, _⟩ := X_3.cells
    have lX_3 := X_3.lt
    have R2_3 := Row.below (by exact R2) hb3
    go_wp2_with fail
    refine (ccInts_same _ _ _ _ _ _ _ _ R2_3 R3).mono ?_; rintro e w4 ⟨rfl, hb4⟩
    have BW4 : Below w.heap.size w w4 := BW3.trans (hb4.mono BW3.size)
    have zz4 := hb4.size
    have HA_4 := Hv.below (by exact HA_3) hb4
    have X_4 := Blk3.below (by exact X_3) hb4
    obtain ⟨cX_4_0, cX_4_1, cX_4_2, _⟩ := X_4.cells
    have lX_4 := X_4.lt
    have R2_4 := Row.below (by exact R2_3) hb4
    have R3_4 := Row.below (by exact R3) hb4
    generalize hnx : xs.length = nx at *
    have HNX := Lib.hid hnx
    clear hnx
    have hnil2 : (((nx : Nat) : Int) == 0) = false := by simp; omega
    go_wp2_with fail
    refine (RR _ _ HA_4).mono ?_; rintro e w5 ⟨A5, k5, rfl, R5, hb5⟩
    have BW5 : Below w.heap.size w w5 := BW4.trans (hb5.mono BW4.size)
    have zz5 := hb5.size
    have HA_5 := Hv.below (by exact HA_4) hb5
    have X_5 := Blk3.below (by exact X_4) hb5
    obtain ⟨cX_5_0, cX_5_1, cX_5_2, _⟩ := X_5.cells
    have lX_5 := X_5.lt
    have R2_5 := Row.below (by exact R2_4) hb5
    generalize hny : ys.length = ny at *
    have HNY := Lib.hid hny
    clear hny
    go_wp2_with fail
    go_loop [7] (fun i => ∃ k : Nat, k ≤ nx ∧ i = .int .i64 k) (fun i => nx - (intOf i).toNat)
    case atStart => exact ⟨0, Nat.zero_le _, rfl⟩
    case round =>
      obtain ⟨k, hk, rfl⟩ := hrel
      by_cases hlt : k < nx
      · obtain ⟨g, y, rfl, _, _, hy, hcell, _⟩ := R2_5.get (k := k) (by have := HNX.out; omega)
        obtain ⟨ky, kc', rfl, ekc, hky, hkc', himp⟩ := FM.out y (List.mem_of_getElem? hy.out)
        have ekc2 : kc' = kc := by omega
        subst ekc2
        have hky2 : ky < ny := by have := HNY.out; omega
        obtain ⟨gr, b, rfl, _, _, hb, hcb, _⟩ := R5.get (k := ky) (by have := HNY.out; omega)
        obtain ⟨gr', b', er, _, _, hb', hcb', _⟩ := R5.get (k := kc') (by have := HNY.out; omega)
        cases er
        have hbb : b = true → b' = true := fun e => by
          have h9 := himp (by rw [hb.out, e]); rw [hb'.out] at h9; simpa using h9
        have hkc2 : kc' < ny := by have := HNY.out; omega
        clear hy hb hb' himp ekc
        cases b
        · go_wp2_with fail
          go_round
          case rel => exact ⟨k + 1, by omega, by go_num⟩
          case measure => simp [intOf]; omega
        · obtain rfl : b' = true := hbb rfl
          clear hbb
          go_wp2_with fail
          go_round
          case rel => exact ⟨k + 1, by omega, by go_num⟩
          case measure => simp [intOf]; omega
      · obtain rfl : k = nx := by omega
        go_wp2_with fail
        go_ret
        exact ⟨by simp <;> omega, BW5⟩
end Go.Proofs.Ytlkkngkocnkicaa
