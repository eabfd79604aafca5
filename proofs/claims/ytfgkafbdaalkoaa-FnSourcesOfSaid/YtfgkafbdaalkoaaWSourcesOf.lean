/- The law FnSourcesOf, walked. -/
import Derived.Test.YtfgkafbdaalkoaaDSourcesOf
import Derived.Test.YtfgkafbdaalkoaaSrc
import Derived.Test.YtfgkafbdaalkoaaPut
import Derived.Test.YtfgkafbdaalkoaaPure
import Derived.Test.YtfgkafbdaalkoaaCc
import Derived.Test.YtfgkafbdaalkoaaWLaw
namespace Go.Proofs.Ytfgkafbdaalkoaa
open Go.RowKit

theorem row_maxS {w : World} {lo n c : Nat} {A : Option Addr} {xs : List Int} (h : Row w lo (.slice A n c) xs) : xs.length ≤ 9223372036854775807 := by
  obtain ⟨A', c', _, h1, h2⟩ := h.form
  unfold maxLen at h2; omega
theorem ccInts_sameS (w : World) (lo lo' : Nat) (A A' : Option Addr) (c c' : Nat) (xs : List Int) (h : Row w lo (.slice A xs.length c) xs) (h' : Row w lo' (.slice A' xs.length c') xs) :
    Calls Try.prog 37 #[.slice A xs.length c, .slice A' xs.length c'] w (RetB w true) :=
  (ccInts_any w lo lo' A A' xs.length c xs.length c' xs xs h rfl (row_maxS h) h' rfl (row_maxS h')).mono fun _ _ ⟨he, nq, hw⟩ => ⟨by rw [he]; simp, by rw [hw]; exact below_drewN (Below.refl _ _) _⟩
theorem up_nextS {xs : List Int} (h : xs.Pairwise (· < ·)) {k : Nat} {x y : Int} (hx : xs[k]? = some x) (hy : xs[k + 1]? = some y) : x < y := by
  obtain ⟨h1, rfl⟩ := List.getElem?_eq_some_iff.1 hx
  obtain ⟨h2, rfl⟩ := List.getElem?_eq_some_iff.1 hy
  exact (List.pairwise_iff_getElem.1 h) k (k + 1) h1 h2 (by omega)
theorem srcs_up (h : Hp) (c : Int) : (srcs h c).Pairwise (· < ·) := by
  unfold srcs
  split
  · unfold srcN
    rw [List.pairwise_map]
    exact (List.Pairwise.filter _ List.pairwise_lt_range).imp (fun h => by omega)
  · exact List.Pairwise.nil
theorem filter_less {p q : Nat → Bool} {k : Nat} : ∀ {l : List Nat}, l.Nodup → k ∈ l → p k = true → q k = false → (∀ j, j ≠ k → q j = p j) → (l.filter q).length + 1 = (l.filter p).length := by
  intro l
  induction l with
  | nil => intro _ h; simp at h
  | cons a l ih =>
    intro hn hk hp hq hj
    rw [List.nodup_cons] at hn
    by_cases hak : a = k
    · subst hak
      have e : l.filter q = l.filter p := by
        refine List.filter_congr fun j hjl => hj j fun e => hn.1 (e ▸ hjl)
      simp only [List.filter_cons, hp, hq, if_true, List.length_cons, e]
      simp
    · have hkl : k ∈ l := by
        rcases List.mem_cons.1 hk with e | e
        · exact absurd e.symm hak
        · exact e
      have h9 := ih hn.2 hkl hp hq hj
      rw [List.filter_cons, List.filter_cons, hj a hak]
      split
      · simp only [List.length_cons]; omega
      · exact h9
theorem getD_set_no {l : List Int} {k j : Nat} {y : Int} (h : j ≠ k) : (l.set k y).getD j 0 = l.getD j 0 := by
  simp [List.getD, List.getElem?_set_ne (Ne.symm h)]
theorem srcs_facts {h : Hp} {c : Int} {y : Int} (hy : y ∈ srcs h c) : ∃ k kc : Nat, y = k ∧ c = kc ∧ k < h.l.length ∧ h.r.length = h.l.length ∧ (h.l[k]? = some c ∨ h.r[k]? = some c) ∧
    ∃ h1 h2, putL h y (-1) = some h1 ∧ putR h1 y (-1) = some h2 ∧ (srcs h2 c).length + 1 = (srcs h c).length := by
  have hy2 := hy
  unfold srcs at hy2
  split at hy2
  · rename_i hc
    rw [Bool.and_eq_true] at hc
    obtain ⟨hv, hpl⟩ := hc
    unfold srcN at hy2
    rw [List.mem_map] at hy2
    obtain ⟨k, hk, rfl⟩ := hy2
    rw [List.mem_filter, List.mem_range] at hk
    obtain ⟨hkl, hp⟩ := hk
    obtain ⟨kc, rfl, hkc⟩ := plB_nat hpl
    obtain ⟨⟨hr, _⟩, _⟩ := hvB_parts hv
    have hk2 : k < h.r.length := by omega
    have p1 : putL h k (-1) = some ⟨h.l.set k (-1), h.r, h.t⟩ := by
      unfold putL
      rw [if_pos (by simp only [Bool.and_eq_true]; exact ⟨⟨hv, by simp [plB]; omega⟩, by simp [ptB]; omega⟩)]; simp
    have v1 := putL_valid p1
    have p2 : putR ⟨h.l.set k (-1), h.r, h.t⟩ k (-1) = some ⟨h.l.set k (-1), h.r.set k (-1), h.t⟩ := by
      unfold putR
      rw [if_pos (by simp only [Bool.and_eq_true]; exact ⟨⟨v1, by simp [plB]; omega⟩, by simp [ptB]; omega⟩)]; simp
    have v2 := putR_valid p2
    have hp2 := hp
    unfold pntB at hp2
    rw [Bool.or_eq_true] at hp2
    refine ⟨k, kc, rfl, rfl, hkl, hr, hp2.imp (fun e => ?_) (fun e => ?_), _, _, p1, p2, ?_⟩
    · rw [List.getElem?_eq_getElem hkl]; simp [List.getD, List.getElem?_eq_getElem hkl] at e; rw [e]
    · rw [List.getElem?_eq_getElem hk2]; simp [List.getD, List.getElem?_eq_getElem hk2] at e; rw [e]
    · have s1 : srcs h (kc : Int) = srcN h kc h.l.length := by unfold srcs; rw [if_pos (by rw [hv, hpl]; rfl)]
      have s2 : srcs ⟨h.l.set k (-1), h.r.set k (-1), h.t⟩ (kc : Int) = srcN ⟨h.l.set k (-1), h.r.set k (-1), h.t⟩ kc h.l.length := by
        unfold srcs; rw [if_pos (by rw [v2]; simp [plB]; omega)]; simp
      rw [s1, s2]
      unfold srcN
      rw [List.length_map, List.length_map]
      refine filter_less List.nodup_range (List.mem_range.2 hkl) hp ?_ (fun j hj => ?_)
      · unfold pntB
        simp [List.getD, hkl, hk2]
      · unfold pntB
        show ((h.l.set k (-1)).getD j 0 == _ || (h.r.set k (-1)).getD j 0 == _) = _
        rw [getD_set_no hj, getD_set_no hj]
  · simp at hy2
theorem lenminus {N m : Nat} (h : N + 1 = m) (hm : m ≤ 8) : IntKind.i64.wrap ((m : Int) - 1) = (N : Int) := by
  rw [show IntKind.i64.wrap ((m : Int) - 1) = (m : Int) - 1 from IntWalk.i64_in _ (by omega)]; omega

set_option maxRecDepth 100000 in
set_option maxHeartbeats 3000000 in
theorem lawSourcesOf_walk (w : World) (A : Option Addr) (n c : Nat) (h : Inp w A n c) :
    Calls Try.prog 12 #[.slice A n c] w (LawTrue w) := by
  by_cases hbig : 1048576 < n
  · go_enter Try.func12, Try.ntmps12
    go_wp2_with fail
    go_ret
    exact ⟨rfl, Below.refl _ _⟩
  go_enter Try.func12, Try.ntmps12
  go_wp2_with fail
  refine (drawSourcesOf_any _ _ _ _ h).mono ?_; rintro e w1 ⟨v, hp, x, rfl, HA, hb1, hx8⟩
  have BW1 : Below w.heap.size w w1 := (Below.refl w.heap.size w).trans (hb1.mono (Below.refl w.heap.size w).size)
  have zz1 := hb1.size
  have I := fun W v hW => implSources_any W w.heap.size v hp hW x
  have S := fun W v hW => specSources_any W w.heap.size v hp hW x
  have HAo := HA
  obtain ⟨A0, n0, c0, A1, n1, c1, A2, n2, c2, rfl, ⟨r0, r1, r2⟩, ⟨l0, l1, l2⟩, _⟩ := HAo.open_
  have fl := srcs_len hp x
  by_cases hnil : srcs hp x = []
  · rw [hnil] at I S
    clear hnil fl r0 r1 r2
    go_wp2_with fail
    refine (I _ _ (HA.alloc (.cells #[.slice A0 n0 c0, .slice A1 n1 c1, .slice A2 n2 c2] 25))).mono ?_; rintro e w2 ⟨AR2, kR2, rfl, R2, hb2⟩
    have BW2 : Below w.heap.size w w2 := (BW1.alloc BW1.size (.cells #[.slice A0 n0 c0, .slice A1 n1 c1, .slice A2 n2 c2] 25)).trans (hb2.mono (BW1.alloc BW1.size (.cells #[.slice A0 n0 c0, .slice A1 n1 c1, .slice A2 n2 c2] 25)).size)
    have zz2 := hb2.size
    have HA_2 := Hv.below (by exact (HA.alloc (.cells #[.slice A0 n0 c0, .slice A1 n1 c1, .slice A2 n2 c2] 25))) hb2
    have X_2 := Blk3.below (by exact (Blk3.new w1 (.slice A0 n0 c0) (.slice A1 n1 c1) (.slice A2 n2 c2) 25)) hb2
    obtain ⟨cX_2_0, cX_2_1, cX_2_2, _⟩ := X_2.cells
    have lX_2 := X_2.lt
    go_wp2_with fail
    refine (S _ _ HA_2).mono ?_; rintro e w3 ⟨AR3, kR3, rfl, R3, hb3⟩
    have BW3 : Below w.heap.size w w3 := BW2.trans (hb3.mono BW2.size)
    have zz3 := hb3.size
    have HA_3 := Hv.below (by exact HA_2) hb3
    have X_3 := Blk3.below (by exact X_2) hb3
    obtain ⟨cX_3_0, cX_3_1, cX_3_2, _⟩ := X_3.cells
    have lX_3 := X_3.lt
    have R2_3 := Row.below (by exact R2) hb3
    go_wp2_with fail
    refine (ccInts_sameS _ _ _ _ _ _ _ [] R2_3 R3).mono ?_; rintro e w4 ⟨rfl, hb4⟩
    have BW4 : Below w.heap.size w w4 := BW3.trans (hb4.mono BW3.size)
    have zz4 := hb4.size
    have HA_4 := Hv.below (by exact HA_3) hb4
    have X_4 := Blk3.below (by exact X_3) hb4
    obtain ⟨cX_4_0, cX_4_1, cX_4_2, _⟩ := X_4.cells
    have lX_4 := X_4.lt
    have R2_4 := Row.below (by exact R2_3) hb4
    have R3_4 := Row.below (by exact R3) hb4
    go_wp2_with fail
    go_ret
    exact ⟨rfl, BW4⟩
  · have hpos : 0 < (srcs hp x).length := List.length_pos_iff.2 hnil
    have hv8 : hvB hp = true := by
      rcases e : hvB hp
      · exact absurd (by unfold srcs; rw [e]; simp) hnil
      · rfl
    have hl8 := hvB_len hv8
    have fl8 : (srcs hp x).length ≤ 8 := by omega
    have hkb := fun y (hy : y ∈ srcs hp x) => srcs_facts hy
    have hup := srcs_up hp x
    have J1 := fun W lo v (hW : Hv W lo v hp) y => implPutLeft_any W lo v hp hW y (-1)
    generalize hgs : srcs hp x = gs at I S hpos fl8 hkb hup
    clear hgs hv8 hl8 hnil fl hx8 r0 r1 r2
    go_wp2_with fail
    refine (I _ _ (HA.alloc (.cells #[.slice A0 n0 c0, .slice A1 n1 c1, .slice A2 n2 c2] 25))).mono ?_; rintro e w2 ⟨AR2, kR2, rfl, R2, hb2⟩
    have BW2 : Below w.heap.size w w2 := (BW1.alloc BW1.size (.cells #[.slice A0 n0 c0, .slice A1 n1 c1, .slice A2 n2 c2] 25)).trans (hb2.mono (BW1.alloc BW1.size (.cells #[.slice A0 n0 c0, .slice A1 n1 c1, .slice A2 n2 c2] 25)).size)
    have zz2 := hb2.size
    have HA_2 := Hv.below (by exact (HA.alloc (.cells #[.slice A0 n0 c0, .slice A1 n1 c1, .slice A2 n2 c2] 25))) hb2
    have X_2 := Blk3.below (by exact (Blk3.new w1 (.slice A0 n0 c0) (.slice A1 n1 c1) (.slice A2 n2 c2) 25)) hb2
    obtain ⟨cX_2_0, cX_2_1, cX_2_2, _⟩ := X_2.cells
    have lX_2 := X_2.lt
    go_wp2_with fail
    refine (S _ _ HA_2).mono ?_; rintro e w3 ⟨AR3, kR3, rfl, R3, hb3⟩
    have BW3 : Below w.heap.size w w3 := BW2.trans (hb3.mono BW2.size)
    have zz3 := hb3.size
    have HA_3 := Hv.below (by exact HA_2) hb3
    have X_3 := Blk3.below (by exact X_2) hb3
    obtain ⟨cX_3_0, cX_3_1, cX_3_2, _⟩ := X_3.cells
    have lX_3 := X_3.lt
    have R2_3 := Row.below (by exact R2) hb3
    go_wp2_with fail
    refine (ccInts_sameS _ _ _ _ _ _ _ _ R2_3 R3).mono ?_; rintro e w4 ⟨rfl, hb4⟩
    have BW4 : Below w.heap.size w w4 := BW3.trans (hb4.mono BW3.size)
    have zz4 := hb4.size
    have HA_4 := Hv.below (by exact HA_3) hb4
    have X_4 := Blk3.below (by exact X_3) hb4
    obtain ⟨cX_4_0, cX_4_1, cX_4_2, _⟩ := X_4.cells
    have lX_4 := X_4.lt
    have R2_4 := Row.below (by exact R2_3) hb4
    have R3_4 := Row.below (by exact R3) hb4
    have HKB := Lib.hid hkb
    have HUP := Lib.hid hup
    clear hkb hup I S
    generalize hnx : gs.length = nx at hpos fl8 R2_4 BW4 ⊢
    have HNX := Lib.hid hnx
    clear hnx
    have hnil2 : (((nx : Nat) : Int) == 0) = false := by simp; omega
    obtain ⟨A0', n0', c0', A1', n1', c1', A2', n2', c2', eA, ⟨ar0, ar1, ar2⟩, ⟨al0, al1, al2⟩, _⟩ := HA_4.open_
    cases eA
    go_wp2_with fail
    go_loopw [6] (fun i wr => (∃ k : Nat, k ≤ nx ∧ i = .int .i64 k) ∧ ∃ nq, wr = w4.drewN nq) (fun i _ => nx - (intOf i).toNat)
    case atStart => exact ⟨⟨0, Nat.zero_le _, rfl⟩, 0, rfl⟩
    case round =>
      obtain ⟨⟨k, hk, rfl⟩, nq, rfl⟩ := hrel
      by_cases hlt : k < nx
      · obtain ⟨g, y, eg, _, _, hy, hcell, _⟩ := R2_4.get (k := k) (by have := HNX.out; omega)
        cases eg
        obtain ⟨ky, kc, rfl, rfl, hky, hrl, hpt, _⟩ := HKB.out y (List.mem_of_getElem? hy.out)
        obtain ⟨gl, ul, el, _, _, hul, hcl, _⟩ := ar0.get (k := ky) hky
        obtain ⟨gr, ur, er, _, _, hur, hcr, _⟩ := ar1.get (k := ky) (by omega)
        cases el
        cases er
        have hky0 : ky < n0 := by have := al0.out; omega
        have hky1 : ky < n1 := by have := al1.out; omega
        have hpp : ul = (kc : Int) ∨ ur = (kc : Int) := hpt.imp (fun e => by rw [hul.out] at e; simpa using e) (fun e => by rw [hur.out] at e; simpa using e)
        clear hul hur hpt
        have fin : ∀ (j : Nat), k = j + 1 → ∃ ky' : Nat, w4.cell? ⟨g, j, none⟩ = some (.int .i64 (ky' : Int)) ∧ ky' < ky := fun j e => by
          subst e
          obtain ⟨g', y', eg', _, _, hy', hcell', _⟩ := R2_4.get (k := j) (by have := HNX.out; omega)
          cases eg'
          obtain ⟨ky', _, rfl, _⟩ := HKB.out y' (List.mem_of_getElem? hy'.out)
          exact ⟨ky', hcell', by have := up_nextS HUP.out hy'.out hy.out; omega⟩
        clear hy
        by_cases hul1 : ul = (kc : Int)
        · subst hul1
          clear hpp
          rcases k with _ | j
          · clear fin
            have hk0 : ((0 : Nat) : Int) < (nx : Int) := by omega
            go_wp2_with fail
            go_quiet (fail)
            go_wp2_with fail
            go_roundw
            case rel => exact ⟨⟨1, by omega, by go_num⟩, _, by first | rfl | (rw [World.drewN_drewN])⟩
            case measure => simp [intOf]; omega
          · obtain ⟨ky', hcell', hlt'⟩ := fin j rfl
            clear fin
            have hk1 : (((j + 1 : Nat) : Int) - 1).toNat = j := by omega
            have hk2 : ¬ ((ky : Int) ≤ (ky' : Int)) := by omega
            go_wp2_with fail
            go_quiet (fail)
            go_wp2_with fail
            go_roundw
            case rel => exact ⟨⟨j + 1 + 1, by omega, by go_num⟩, _, by first | rfl | (rw [World.drewN_drewN])⟩
            case measure => simp [intOf]; omega
        · have hur1 : ur = (kc : Int) := hpp.resolve_left hul1
          subst hur1
          have hul2 : (ul != (kc : Int)) = true := by simpa using hul1
          clear hpp
          rcases k with _ | j
          · clear fin
            have hk0 : ((0 : Nat) : Int) < (nx : Int) := by omega
            go_wp2_with fail
            go_quiet (fail)
            go_wp2_with fail
            go_roundw
            case rel => exact ⟨⟨1, by omega, by go_num⟩, _, by first | rfl | (rw [World.drewN_drewN])⟩
            case measure => simp [intOf]; omega
          · obtain ⟨ky', hcell', hlt'⟩ := fin j rfl
            clear fin
            have hk1 : (((j + 1 : Nat) : Int) - 1).toNat = j := by omega
            have hk2 : ¬ ((ky : Int) ≤ (ky' : Int)) := by omega
            go_wp2_with fail
            go_quiet (fail)
            go_wp2_with fail
            go_roundw
            case rel => exact ⟨⟨j + 1 + 1, by omega, by go_num⟩, _, by first | rfl | (rw [World.drewN_drewN])⟩
            case measure => simp [intOf]; omega
      · obtain rfl : k = nx := by omega
        have hbq : Below w4.heap.size w4 (w4.drewN nq) := below_drewN (Below.refl _ _) nq
        generalize w4.drewN nq = wq at hbq ⊢
        have BW5 : Below w.heap.size w wq := BW4.trans (hbq.mono BW4.size)
        have zz5 := hbq.size
        have HA_5 := Hv.below (by exact HA_4) hbq
        have X_5 := Blk3.below (by exact X_4) hbq
        obtain ⟨cX_5_0, cX_5_1, cX_5_2, _⟩ := X_5.cells
        have lX_5 := X_5.lt
        have R2_5 := Row.below (by exact R2_4) hbq
        obtain ⟨g, y, eg, _, hgw, hy, hcell, _⟩ := R2_5.get (k := 0) (by have := HNX.out; omega)
        cases eg
        obtain ⟨ky, kc, rfl, rfl, _, _, _, h1, h2, e1, e2, el⟩ := HKB.out y (List.mem_of_getElem? hy.out)
        have K1 := fun W lo v (hW : Hv W lo v hp) => J1 W lo v hW (ky : Int)
        rw [e1] at K1
        have K2 := fun W lo v (hW : Hv W lo v h1) => implPutRight_any W lo v h1 hW (ky : Int) (-1)
        rw [e2] at K2
        have G2 := fun W lo v (hW : Hv W lo v h2) => implSources_any W lo v h2 hW (kc : Int)
        have hm9 := lenminus (by rw [HNX.out] at el; exact el) fl8
        generalize srcs h2 (kc : Int) = ts at G2 hm9
        have hk0 : (0 : Int) < (k : Int) := by omega
        clear hy e1 e2 el J1
        go_wp2_with fail
        have nbXa : wq.heap.size ≠ w1.heap.size := Nat.ne_of_gt (by exact lX_5)
        have nbc0a : wq.heap.size ≠ g := Nat.ne_of_gt (by exact hgw)
        go_region_held3 (fun w' => w'.cell? ⟨w1.heap.size, 0, none⟩ = some (.slice A0 n0 c0) ∧ w'.cell? ⟨w1.heap.size, 1, none⟩ = some (.slice A1 n1 c1) ∧ w'.cell? ⟨w1.heap.size, 2, none⟩ = some (.slice A2 n2 c2) ∧ w'.cell? ⟨g, 0, none⟩ = some (.int .i64 (ky : Int)))
          (((try dsimp only); (repeat' apply And.intro) <;> (with_reducible (first | exact cX_5_0 | exact cX_5_1 | exact cX_5_2 | exact hcell | exact cellD cX_5_0 | exact cellD cX_5_1 | exact cellD cX_5_2 | exact cellD hcell | exact cellD (cellA cX_5_0 _) | exact cellD (cellA cX_5_1 _) | exact cellD (cellA cX_5_2 _) | exact cellD (cellA hcell _) | exact yXa_0 | exact yXa_1 | exact yXa_2 | exact yc0a | exact cellA yXa_0 _ | exact cellA yXa_1 _ | exact cellA yXa_2 _ | exact cellA yc0a _ | (rw [World.cell?_setCell_far _ _ _ _ (by exact nbXa), World.cell?_setCell_far _ _ _ _ (by exact nbXa), World.cell?_setCell_far _ _ _ _ (by exact nbXa)]; first | exact yXa_0 | exact yXa_1 | exact yXa_2) | (rw [World.cell?_setCell_far _ _ _ _ (by exact nbc0a), World.cell?_setCell_far _ _ _ _ (by exact nbc0a), World.cell?_setCell_far _ _ _ _ (by exact nbc0a)]; first | exact yc0a)))))
          (first
            | (go_at_call 19; (with_reducible refine (K1 _ _ _ HA_5.drew).mono ?_); rintro e w5a ⟨v, rfl, hv5, hb5⟩; obtain ⟨hDa, D0, q0, j0, D1, q1, j1, D2, q2, j2, rfl, hb5a⟩ := opt_open hv5 hb5; have YXa := Blk3.below (by exact X_5) hb5a; obtain ⟨yXa_0, yXa_1, yXa_2, _⟩ := YXa.cells; have yc0a : w5a.cell? ⟨g, 0, none⟩ = some (.int .i64 (ky : Int)) := (hb5a.cell (p := ⟨g, 0, none⟩) (by exact hgw)).trans (by exact hcell))
            | (go_at_call 19; (with_reducible refine (K1 _ _ _ (HA_5.alloc (.cells #[.slice none 0 0, .slice none 0 0, .slice none 0 0] 25)).drew).mono ?_); rintro e w5a ⟨v, rfl, hv5, hb5⟩; obtain ⟨hDa, D0, q0, j0, D1, q1, j1, D2, q2, j2, rfl, hb5a⟩ := opt_open hv5 hb5; have YXa := Blk3.below (by exact X_5.alloc (.cells #[.slice none 0 0, .slice none 0 0, .slice none 0 0] 25)) hb5a; obtain ⟨yXa_0, yXa_1, yXa_2, _⟩ := YXa.cells; have yc0a : w5a.cell? ⟨g, 0, none⟩ = some (.int .i64 (ky : Int)) := (hb5a.cell (p := ⟨g, 0, none⟩) (lt_alloc hgw _)).trans (by exact cellA hcell _); have Z5a := Blk3.below (by exact Blk3.new wq (.slice none 0 0) (.slice none 0 0) (.slice none 0 0) 25) hb5a; obtain ⟨zz0, zz1, zz2, zf0, zf1, zf2⟩ := Z5a.cells))
        · have B45a : Below wq.heap.size wq w5a := (Below.refl _ _).drew.trans hb5a
          have B46a : Below wq.heap.size wq (w5a.alloc (.cells #[.slice D0 q0 j0, .slice D1 q1 j1, .slice D2 q2 j2] 25)) := B45a.alloc B45a.size _
          have HP := hDa.alloc (.cells #[.slice D0 q0 j0, .slice D1 q1 j1, .slice D2 q2 j2] 25)
          have P := Blk3.new w5a (.slice D0 q0 j0) (.slice D1 q1 j1) (.slice D2 q2 j2) 25
          rename_i hHelda
          clear hHelda
          generalize (w5a.alloc (.cells #[.slice D0 q0 j0, .slice D1 q1 j1, .slice D2 q2 j2] 25)) = W6a at B46a HP P ⊢
          have BW6 : Below w.heap.size w W6a := BW5.trans (B46a.mono BW5.size)
          have zz6 := B46a.size
          have HA_6 := Hv.below (by exact HA_5) B46a
          have X_6 := Blk3.below (by exact X_5) B46a
          obtain ⟨cX_6_0, cX_6_1, cX_6_2, _⟩ := X_6.cells
          have lX_6 := X_6.lt
          have R2_6 := Row.below (by exact R2_5) B46a
          have hcell_6 : W6a.cell? ⟨g, 0, none⟩ = some (.int .i64 (ky : Int)) := (B46a.cell (p := ⟨g, 0, none⟩) (by exact hgw)).trans (by exact hcell)
          have hgw_6 : g < W6a.heap.size := Nat.lt_of_lt_of_le hgw B46a.size
          obtain ⟨cP_0, cP_1, cP_2, _⟩ := P.cells
          have lP := P.lt
          go_wp2_with fail
          have nbPb : W6a.heap.size ≠ w5a.heap.size := Nat.ne_of_gt (by exact lP)
          have nbc0b : W6a.heap.size ≠ g := Nat.ne_of_gt (by exact hgw_6)
          go_region_held3 (fun w' => w'.cell? ⟨w5a.heap.size, 0, none⟩ = some (.slice D0 q0 j0) ∧ w'.cell? ⟨w5a.heap.size, 1, none⟩ = some (.slice D1 q1 j1) ∧ w'.cell? ⟨w5a.heap.size, 2, none⟩ = some (.slice D2 q2 j2) ∧ w'.cell? ⟨g, 0, none⟩ = some (.int .i64 (ky : Int)))
            (((try dsimp only); (repeat' apply And.intro) <;> (with_reducible (first | exact cP_0 | exact cP_1 | exact cP_2 | exact hcell_6 | exact cellD cP_0 | exact cellD cP_1 | exact cellD cP_2 | exact cellD hcell_6 | exact cellD (cellA cP_0 _) | exact cellD (cellA cP_1 _) | exact cellD (cellA cP_2 _) | exact cellD (cellA hcell_6 _) | exact yPb_0 | exact yPb_1 | exact yPb_2 | exact yc0b | exact cellA yPb_0 _ | exact cellA yPb_1 _ | exact cellA yPb_2 _ | exact cellA yc0b _ | (rw [World.cell?_setCell_far _ _ _ _ (by exact nbPb), World.cell?_setCell_far _ _ _ _ (by exact nbPb), World.cell?_setCell_far _ _ _ _ (by exact nbPb)]; first | exact yPb_0 | exact yPb_1 | exact yPb_2) | (rw [World.cell?_setCell_far _ _ _ _ (by exact nbc0b), World.cell?_setCell_far _ _ _ _ (by exact nbc0b), World.cell?_setCell_far _ _ _ _ (by exact nbc0b)]; first | exact yc0b)))))
            (first
              | (go_at_call 22; (with_reducible refine (K2 _ _ _ HP.drew).mono ?_); rintro e w5b ⟨v, rfl, hv5, hb5⟩; obtain ⟨hDb, D0, q0, j0, D1, q1, j1, D2, q2, j2, rfl, hb5b⟩ := opt_open hv5 hb5; have YPb := Blk3.below (by exact P) hb5b; obtain ⟨yPb_0, yPb_1, yPb_2, _⟩ := YPb.cells; have yc0b : w5b.cell? ⟨g, 0, none⟩ = some (.int .i64 (ky : Int)) := (hb5b.cell (p := ⟨g, 0, none⟩) (by exact hgw_6)).trans (by exact hcell_6))
              | (go_at_call 22; (with_reducible refine (K2 _ _ _ (HP.alloc (.cells #[.slice none 0 0, .slice none 0 0, .slice none 0 0] 25)).drew).mono ?_); rintro e w5b ⟨v, rfl, hv5, hb5⟩; obtain ⟨hDb, D0, q0, j0, D1, q1, j1, D2, q2, j2, rfl, hb5b⟩ := opt_open hv5 hb5; have YPb := Blk3.below (by exact P.alloc (.cells #[.slice none 0 0, .slice none 0 0, .slice none 0 0] 25)) hb5b; obtain ⟨yPb_0, yPb_1, yPb_2, _⟩ := YPb.cells; have yc0b : w5b.cell? ⟨g, 0, none⟩ = some (.int .i64 (ky : Int)) := (hb5b.cell (p := ⟨g, 0, none⟩) (lt_alloc hgw_6 _)).trans (by exact cellA hcell_6 _); have Z5b := Blk3.below (by exact Blk3.new W6a (.slice none 0 0) (.slice none 0 0) (.slice none 0 0) 25) hb5b; obtain ⟨zz0, zz1, zz2, zf0, zf1, zf2⟩ := Z5b.cells))
          · have B45b : Below W6a.heap.size W6a w5b := (Below.refl _ _).drew.trans hb5b
            have B46b : Below W6a.heap.size W6a (w5b.alloc (.cells #[.slice D0 q0 j0, .slice D1 q1 j1, .slice D2 q2 j2] 25)) := B45b.alloc B45b.size _
            have HY := hDb.alloc (.cells #[.slice D0 q0 j0, .slice D1 q1 j1, .slice D2 q2 j2] 25)
            have Y := Blk3.new w5b (.slice D0 q0 j0) (.slice D1 q1 j1) (.slice D2 q2 j2) 25
            rename_i hHeldb
            clear hHeldb
            generalize (w5b.alloc (.cells #[.slice D0 q0 j0, .slice D1 q1 j1, .slice D2 q2 j2] 25)) = W6b at B46b HY Y ⊢
            have BW7 : Below w.heap.size w W6b := BW6.trans (B46b.mono BW6.size)
            have zz7 := B46b.size
            have HA_7 := Hv.below (by exact HA_6) B46b
            have X_7 := Blk3.below (by exact X_6) B46b
            obtain ⟨cX_7_0, cX_7_1, cX_7_2, _⟩ := X_7.cells
            have lX_7 := X_7.lt
            have R2_7 := Row.below (by exact R2_6) B46b
            have HP_7 := Hv.below (by exact HP) B46b
            have P_7 := Blk3.below (by exact P) B46b
            obtain ⟨cP_7_0, cP_7_1, cP_7_2, _⟩ := P_7.cells
            have lP_7 := P_7.lt
            have hcell_7 : W6b.cell? ⟨g, 0, none⟩ = some (.int .i64 (ky : Int)) := (B46b.cell (p := ⟨g, 0, none⟩) (by exact hgw_6)).trans (by exact hcell_6)
            have hgw_7 : g < W6b.heap.size := Nat.lt_of_lt_of_le hgw_6 B46b.size
            obtain ⟨cY_0, cY_1, cY_2, _⟩ := Y.cells
            have lY := Y.lt
            go_wp2_with fail
            refine (G2 _ _ _ HY).mono ?_; rintro e w9 ⟨A9, k9, rfl, R9, hb9⟩
            have BW8 : Below w.heap.size w w9 := BW7.trans (hb9.mono BW7.size)
            have zz8 := hb9.size
            have HA_8 := Hv.below (by exact HA_7) hb9
            have X_8 := Blk3.below (by exact X_7) hb9
            obtain ⟨cX_8_0, cX_8_1, cX_8_2, _⟩ := X_8.cells
            have lX_8 := X_8.lt
            have R2_8 := Row.below (by exact R2_7) hb9
            have HP_8 := Hv.below (by exact HP_7) hb9
            have P_8 := Blk3.below (by exact P_7) hb9
            obtain ⟨cP_8_0, cP_8_1, cP_8_2, _⟩ := P_8.cells
            have lP_8 := P_8.lt
            have HY_8 := Hv.below (by exact HY) hb9
            have Y_8 := Blk3.below (by exact Y) hb9
            obtain ⟨cY_8_0, cY_8_1, cY_8_2, _⟩ := Y_8.cells
            have lY_8 := Y_8.lt
            go_wp2_with fail
            go_ret
            exact ⟨by simp, BW8⟩
          · have B45b : Below W6a.heap.size W6a w5b := ((Below.refl _ _).alloc (Nat.le_refl _) (.cells #[.slice none 0 0, .slice none 0 0, .slice none 0 0] 25)).drew.trans (hb5b.mono (by simp))
            have B46b : Below W6a.heap.size W6a (((w5b.setCell ⟨W6a.heap.size, 0, none⟩ (.slice D0 q0 j0)).setCell ⟨W6a.heap.size, 1, none⟩ (.slice D1 q1 j1)).setCell ⟨W6a.heap.size, 2, none⟩ (.slice D2 q2 j2)) := ((B45b.setCell (Nat.le_refl _) _).setCell (Nat.le_refl _) _).setCell (Nat.le_refl _) _
            have HY := hv_set3 (b := W6a.heap.size) hDb (by simp) (.slice D0 q0 j0) (.slice D1 q1 j1) (.slice D2 q2 j2)
            have Y := ((Z5b.set0 (.slice D0 q0 j0)).set1 (.slice D1 q1 j1)).set2 (.slice D2 q2 j2)
            rename_i hHeldb
            clear hHeldb zz0 zz1 zz2 zf0 zf1 zf2
            generalize (((w5b.setCell ⟨W6a.heap.size, 0, none⟩ (.slice D0 q0 j0)).setCell ⟨W6a.heap.size, 1, none⟩ (.slice D1 q1 j1)).setCell ⟨W6a.heap.size, 2, none⟩ (.slice D2 q2 j2)) = W6b at B46b HY Y ⊢
            have BW7 : Below w.heap.size w W6b := BW6.trans (B46b.mono BW6.size)
            have zz7 := B46b.size
            have HA_7 := Hv.below (by exact HA_6) B46b
            have X_7 := Blk3.below (by exact X_6) B46b
            obtain ⟨cX_7_0, cX_7_1, cX_7_2, _⟩ := X_7.cells
            have lX_7 := X_7.lt
            have R2_7 := Row.below (by exact R2_6) B46b
            have HP_7 := Hv.below (by exact HP) B46b
            have P_7 := Blk3.below (by exact P) B46b
            obtain ⟨cP_7_0, cP_7_1, cP_7_2, _⟩ := P_7.cells
            have lP_7 := P_7.lt
            have hcell_7 : W6b.cell? ⟨g, 0, none⟩ = some (.int .i64 (ky : Int)) := (B46b.cell (p := ⟨g, 0, none⟩) (by exact hgw_6)).trans (by exact hcell_6)
            have hgw_7 : g < W6b.heap.size := Nat.lt_of_lt_of_le hgw_6 B46b.size
            obtain ⟨cY_0, cY_1, cY_2, _⟩ := Y.cells
            have lY := Y.lt
            go_wp2_with fail
            refine (G2 _ _ _ HY).mono ?_; rintro e w9 ⟨A9, k9, rfl, R9, hb9⟩
            have BW8 : Below w.heap.size w w9 := BW7.trans (hb9.mono BW7.size)
            have zz8 := hb9.size
            have HA_8 := Hv.below (by exact HA_7) hb9
            have X_8 := Blk3.below (by exact X_7) hb9
            obtain ⟨cX_8_0, cX_8_1, cX_8_2, _⟩ := X_8.cells
            have lX_8 := X_8.lt
            have R2_8 := Row.below (by exact R2_7) hb9
            have HP_8 := Hv.below (by exact HP_7) hb9
            have P_8 := Blk3.below (by exact P_7) hb9
            obtain ⟨cP_8_0, cP_8_1, cP_8_2, _⟩ := P_8.cells
            have lP_8 := P_8.lt
            have HY_8 := Hv.below (by exact HY) hb9
            have Y_8 := Blk3.below (by exact Y) hb9
            obtain ⟨cY_8_0, cY_8_1, cY_8_2, _⟩ := Y_8.cells
            have lY_8 := Y_8.lt
            go_wp2_with fail
            go_ret
            exact ⟨by simp, BW8⟩
        · have B45a : Below wq.heap.size wq w5a := ((Below.refl _ _).alloc (Nat.le_refl _) (.cells #[.slice none 0 0, .slice none 0 0, .slice none 0 0] 25)).drew.trans (hb5a.mono (by simp))
          have B46a : Below wq.heap.size wq (((w5a.setCell ⟨wq.heap.size, 0, none⟩ (.slice D0 q0 j0)).setCell ⟨wq.heap.size, 1, none⟩ (.slice D1 q1 j1)).setCell ⟨wq.heap.size, 2, none⟩ (.slice D2 q2 j2)) := ((B45a.setCell (Nat.le_refl _) _).setCell (Nat.le_refl _) _).setCell (Nat.le_refl _) _
          have HP := hv_set3 (b := wq.heap.size) hDa (by simp) (.slice D0 q0 j0) (.slice D1 q1 j1) (.slice D2 q2 j2)
          have P := ((Z5a.set0 (.slice D0 q0 j0)).set1 (.slice D1 q1 j1)).set2 (.slice D2 q2 j2)
          rename_i hHelda
          clear hHelda zz0 zz1 zz2 zf0 zf1 zf2
          generalize (((w5a.setCell ⟨wq.heap.size, 0, none⟩ (.slice D0 q0 j0)).setCell ⟨wq.heap.size, 1, none⟩ (.slice D1 q1 j1)).setCell ⟨wq.heap.size, 2, none⟩ (.slice D2 q2 j2)) = W6a at B46a HP P ⊢
          have BW6 : Below w.heap.size w W6a := BW5.trans (B46a.mono BW5.size)
          have zz6 := B46a.size
          have HA_6 := Hv.below (by exact HA_5) B46a
          have X_6 := Blk3.below (by exact X_5) B46a
          obtain ⟨cX_6_0, cX_6_1, cX_6_2, _⟩ := X_6.cells
          have lX_6 := X_6.lt
          have R2_6 := Row.below (by exact R2_5) B46a
          have hcell_6 : W6a.cell? ⟨g, 0, none⟩ = some (.int .i64 (ky : Int)) := (B46a.cell (p := ⟨g, 0, none⟩) (by exact hgw)).trans (by exact hcell)
          have hgw_6 : g < W6a.heap.size := Nat.lt_of_lt_of_le hgw B46a.size
          obtain ⟨cP_0, cP_1, cP_2, _⟩ := P.cells
          have lP := P.lt
          go_wp2_with fail
          have nbPb : W6a.heap.size ≠ wq.heap.size := Nat.ne_of_gt (by exact lP)
          have nbc0b : W6a.heap.size ≠ g := Nat.ne_of_gt (by exact hgw_6)
          go_region_held3 (fun w' => w'.cell? ⟨wq.heap.size, 0, none⟩ = some (.slice D0 q0 j0) ∧ w'.cell? ⟨wq.heap.size, 1, none⟩ = some (.slice D1 q1 j1) ∧ w'.cell? ⟨wq.heap.size, 2, none⟩ = some (.slice D2 q2 j2) ∧ w'.cell? ⟨g, 0, none⟩ = some (.int .i64 (ky : Int)))
            (((try dsimp only); (repeat' apply And.intro) <;> (with_reducible (first | exact cP_0 | exact cP_1 | exact cP_2 | exact hcell_6 | exact cellD cP_0 | exact cellD cP_1 | exact cellD cP_2 | exact cellD hcell_6 | exact cellD (cellA cP_0 _) | exact cellD (cellA cP_1 _) | exact cellD (cellA cP_2 _) | exact cellD (cellA hcell_6 _) | exact yPb_0 | exact yPb_1 | exact yPb_2 | exact yc0b | exact cellA yPb_0 _ | exact cellA yPb_1 _ | exact cellA yPb_2 _ | exact cellA yc0b _ | (rw [World.cell?_setCell_far _ _ _ _ (by exact nbPb), World.cell?_setCell_far _ _ _ _ (by exact nbPb), World.cell?_setCell_far _ _ _ _ (by exact nbPb)]; first | exact yPb_0 | exact yPb_1 | exact yPb_2) | (rw [World.cell?_setCell_far _ _ _ _ (by exact nbc0b), World.cell?_setCell_far _ _ _ _ (by exact nbc0b), World.cell?_setCell_far _ _ _ _ (by exact nbc0b)]; first | exact yc0b)))))
            (first
              | (go_at_call 22; (with_reducible refine (K2 _ _ _ HP.drew).mono ?_); rintro e w5b ⟨v, rfl, hv5, hb5⟩; obtain ⟨hDb, D0, q0, j0, D1, q1, j1, D2, q2, j2, rfl, hb5b⟩ := opt_open hv5 hb5; have YPb := Blk3.below (by exact P) hb5b; obtain ⟨yPb_0, yPb_1, yPb_2, _⟩ := YPb.cells; have yc0b : w5b.cell? ⟨g, 0, none⟩ = some (.int .i64 (ky : Int)) := (hb5b.cell (p := ⟨g, 0, none⟩) (by exact hgw_6)).trans (by exact hcell_6))
              | (go_at_call 22; (with_reducible refine (K2 _ _ _ (HP.alloc (.cells #[.slice none 0 0, .slice none 0 0, .slice none 0 0] 25)).drew).mono ?_); rintro e w5b ⟨v, rfl, hv5, hb5⟩; obtain ⟨hDb, D0, q0, j0, D1, q1, j1, D2, q2, j2, rfl, hb5b⟩ := opt_open hv5 hb5; have YPb := Blk3.below (by exact P.alloc (.cells #[.slice none 0 0, .slice none 0 0, .slice none 0 0] 25)) hb5b; obtain ⟨yPb_0, yPb_1, yPb_2, _⟩ := YPb.cells; have yc0b : w5b.cell? ⟨g, 0, none⟩ = some (.int .i64 (ky : Int)) := (hb5b.cell (p := ⟨g, 0, none⟩) (lt_alloc hgw_6 _)).trans (by exact cellA hcell_6 _); have Z5b := Blk3.below (by exact Blk3.new W6a (.slice none 0 0) (.slice none 0 0) (.slice none 0 0) 25) hb5b; obtain ⟨zz0, zz1, zz2, zf0, zf1, zf2⟩ := Z5b.cells))
          · have B45b : Below W6a.heap.size W6a w5b := (Below.refl _ _).drew.trans hb5b
            have B46b : Below W6a.heap.size W6a (w5b.alloc (.cells #[.slice D0 q0 j0, .slice D1 q1 j1, .slice D2 q2 j2] 25)) := B45b.alloc B45b.size _
            have HY := hDb.alloc (.cells #[.slice D0 q0 j0, .slice D1 q1 j1, .slice D2 q2 j2] 25)
            have Y := Blk3.new w5b (.slice D0 q0 j0) (.slice D1 q1 j1) (.slice D2 q2 j2) 25
            rename_i hHeldb
            clear hHeldb
            generalize (w5b.alloc (.cells #[.slice D0 q0 j0, .slice D1 q1 j1, .slice D2 q2 j2] 25)) = W6b at B46b HY Y ⊢
            have BW7 : Below w.heap.size w W6b := BW6.trans (B46b.mono BW6.size)
            have zz7 := B46b.size
            have HA_7 := Hv.below (by exact HA_6) B46b
            have X_7 := Blk3.below (by exact X_6) B46b
            obtain ⟨cX_7_0, cX_7_1, cX_7_2, _⟩ := X_7.cells
            have lX_7 := X_7.lt
            have R2_7 := Row.below (by exact R2_6) B46b
            have HP_7 := Hv.below (by exact HP) B46b
            have P_7 := Blk3.below (by exact P) B46b
            obtain ⟨cP_7_0, cP_7_1, cP_7_2, _⟩ := P_7.cells
            have lP_7 := P_7.lt
            have hcell_7 : W6b.cell? ⟨g, 0, none⟩ = some (.int .i64 (ky : Int)) := (B46b.cell (p := ⟨g, 0, none⟩) (by exact hgw_6)).trans (by exact hcell_6)
            have hgw_7 : g < W6b.heap.size := Nat.lt_of_lt_of_le hgw_6 B46b.size
            obtain ⟨cY_0, cY_1, cY_2, _⟩ := Y.cells
            have lY := Y.lt
            go_wp2_with fail
            refine (G2 _ _ _ HY).mono ?_; rintro e w9 ⟨A9, k9, rfl, R9, hb9⟩
            have BW8 : Below w.heap.size w w9 := BW7.trans (hb9.mono BW7.size)
            have zz8 := hb9.size
            have HA_8 := Hv.below (by exact HA_7) hb9
            have X_8 := Blk3.below (by exact X_7) hb9
            obtain ⟨cX_8_0, cX_8_1, cX_8_2, _⟩ := X_8.cells
            have lX_8 := X_8.lt
            have R2_8 := Row.below (by exact R2_7) hb9
            have HP_8 := Hv.below (by exact HP_7) hb9
            have P_8 := Blk3.below (by exact P_7) hb9
            obtain ⟨cP_8_0, cP_8_1, cP_8_2, _⟩ := P_8.cells
            have lP_8 := P_8.lt
            have HY_8 := Hv.below (by exact HY) hb9
            have Y_8 := Blk3.below (by exact Y) hb9
            obtain ⟨cY_8_0, cY_8_1, cY_8_2, _⟩ := Y_8.cells
            have lY_8 := Y_8.lt
            go_wp2_with fail
            go_ret
            exact ⟨by simp, BW8⟩
          · have B45b : Below W6a.heap.size W6a w5b := ((Below.refl _ _).alloc (Nat.le_refl _) (.cells #[.slice none 0 0, .slice none 0 0, .slice none 0 0] 25)).drew.trans (hb5b.mono (by simp))
            have B46b : Below W6a.heap.size W6a (((w5b.setCell ⟨W6a.heap.size, 0, none⟩ (.slice D0 q0 j0)).setCell ⟨W6a.heap.size, 1, none⟩ (.slice D1 q1 j1)).setCell ⟨W6a.heap.size, 2, none⟩ (.slice D2 q2 j2)) := ((B45b.setCell (Nat.le_refl _) _).setCell (Nat.le_refl _) _).setCell (Nat.le_refl _) _
            have HY := hv_set3 (b := W6a.heap.size) hDb (by simp) (.slice D0 q0 j0) (.slice D1 q1 j1) (.slice D2 q2 j2)
            have Y := ((Z5b.set0 (.slice D0 q0 j0)).set1 (.slice D1 q1 j1)).set2 (.slice D2 q2 j2)
            rename_i hHeldb
            clear hHeldb zz0 zz1 zz2 zf0 zf1 zf2
            generalize (((w5b.setCell ⟨W6a.heap.size, 0, none⟩ (.slice D0 q0 j0)).setCell ⟨W6a.heap.size, 1, none⟩ (.slice D1 q1 j1)).setCell ⟨W6a.heap.size, 2, none⟩ (.slice D2 q2 j2)) = W6b at B46b HY Y ⊢
            have BW7 : Below w.heap.size w W6b := BW6.trans (B46b.mono BW6.size)
            have zz7 := B46b.size
            have HA_7 := Hv.below (by exact HA_6) B46b
            have X_7 := Blk3.below (by exact X_6) B46b
            obtain ⟨cX_7_0, cX_7_1, cX_7_2, _⟩ := X_7.cells
            have lX_7 := X_7.lt
            have R2_7 := Row.below (by exact R2_6) B46b
            have HP_7 := Hv.below (by exact HP) B46b
            have P_7 := Blk3.below (by exact P) B46b
            obtain ⟨cP_7_0, cP_7_1, cP_7_2, _⟩ := P_7.cells
            have lP_7 := P_7.lt
            have hcell_7 : W6b.cell? ⟨g, 0, none⟩ = some (.int .i64 (ky : Int)) := (B46b.cell (p := ⟨g, 0, none⟩) (by exact hgw_6)).trans (by exact hcell_6)
            have hgw_7 : g < W6b.heap.size := Nat.lt_of_lt_of_le hgw_6 B46b.size
            obtain ⟨cY_0, cY_1, cY_2, _⟩ := Y.cells
            have lY := Y.lt
            go_wp2_with fail
            refine (G2 _ _ _ HY).mono ?_; rintro e w9 ⟨A9, k9, rfl, R9, hb9⟩
            have BW8 : Below w.heap.size w w9 := BW7.trans (hb9.mono BW7.size)
            have zz8 := hb9.size
            have HA_8 := Hv.below (by exact HA_7) hb9
            have X_8 := Blk3.below (by exact X_7) hb9
            obtain ⟨cX_8_0, cX_8_1, cX_8_2, _⟩ := X_8.cells
            have lX_8 := X_8.lt
            have R2_8 := Row.below (by exact R2_7) hb9
            have HP_8 := Hv.below (by exact HP_7) hb9
            have P_8 := Blk3.below (by exact P_7) hb9
            obtain ⟨cP_8_0, cP_8_1, cP_8_2, _⟩ := P_8.cells
            have lP_8 := P_8.lt
            have HY_8 := Hv.below (by exact HY) hb9
            have Y_8 := Blk3.below (by exact Y) hb9
            obtain ⟨cY_8_0, cY_8_1, cY_8_2, _⟩ := Y_8.cells
            have lY_8 := Y_8.lt
            go_wp2_with fail
            go_ret
            exact ⟨by simp, BW8⟩
end Go.Proofs.Ytfgkafbdaalkoaa
