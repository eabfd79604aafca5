/- The law FnHasCycle, walked. -/
import Derived.Test.YthagchhegljphaaDHasCycle
import Derived.Test.YthagchhegljphaaCyc
import Derived.Test.YthagchhegljphaaLeast
import Derived.Test.YthagchhegljphaaWLaw
namespace Go.Proofs.Ythagchhegljphaa
open Go.RowKit

/-- Sources that are reached: a cell on a way back to itself has one from which a way leads back. -/
theorem cyc_source {h : Hp} {c : Int} (hc : cycB h c = true) : ∃ y ∈ srcs h c, cycB h y = true := by
  have hc2 := hc
  unfold cycB at hc2
  rw [Bool.and_eq_true, Bool.and_eq_true, decide_eq_true_eq] at hc2
  obtain ⟨⟨hv, hpl⟩, hg⟩ := hc2
  obtain ⟨⟨hr, _⟩, h3, h4, _⟩ := hvB_parts hv
  have kid : ∀ p : Int, plB p h.l.length = true → ptB (gd h.l p) h.l.length = true ∧ ptB (gd h.r p) h.l.length = true := fun p hp => ⟨gd_all h3 hp, gd_all h4 (by rw [hr]; exact hp)⟩
  have starts : ∀ p : Int, plB p h.l.length = true → [gd h.l p, gd h.r p].all (ptB · h.l.length) = true := fun p hp => by simp [(kid p hp).1, (kid p hp).2]
  have pt0 : ∀ x : Int, ptB x h.l.length = true → x ≠ -1 → 0 ≤ x := fun x hx hne => by simp only [ptB, decide_eq_true_eq] at hx; omega
  -- what is reached from a cell's pointers is closed
  have clo : ∀ p : Int, plB p h.l.length = true → (∀ x, x = gd h.l p ∨ x = gd h.r p → x ≠ -1 → 0 ≤ x ∧ 0 ≤ gd (dist h [gd h.l p, gd h.r p]) x) ∧
      ∀ y, (0 ≤ y ∧ 0 ≤ gd (dist h [gd h.l p, gd h.r p]) y) → plB y h.l.length = true ∧ ∀ x, x = gd h.l y ∨ x = gd h.r y → x ≠ -1 → 0 ≤ x ∧ 0 ≤ gd (dist h [gd h.l p, gd h.r p]) x := fun p hp => by
    obtain ⟨c1, c2⟩ := dist_closed hv (starts p hp)
    refine ⟨fun x hx hne => ⟨?_, c1 x (by rcases hx with rfl | rfl <;> simp) hne⟩, fun y hy => ?_⟩
    · rcases hx with rfl | rfl
      · exact pt0 _ (kid p hp).1 hne
      · exact pt0 _ (kid p hp).2 hne
    · have hyl := gd_plB hy.1 hy.2
      rw [dist_len] at hyl
      refine ⟨hyl, fun x hx hne => ⟨?_, ?_⟩⟩
      · rcases hx with rfl | rfl
        · exact pt0 _ (kid y hyl).1 hne
        · exact pt0 _ (kid y hyl).2 hne
      · rcases c2 y hy.1 hy.2 x hx hne with h9 | h9
        · exact h9
        · simp at h9
  have hc0 : 0 ≤ c := by simp only [plB, decide_eq_true_eq] at hpl; omega
  obtain ⟨k1, k2⟩ := clo c hpl
  obtain ⟨_, _, p, hpp, hpr, hcp⟩ := dist_least hv (starts c hpl) (fun x => 0 ≤ x ∧ 0 ≤ gd (dist h [gd h.l c, gd h.r c]) x ∧ ∃ p : Int, plB p h.l.length = true ∧ (p = c ∨ (0 ≤ p ∧ 0 ≤ gd (dist h [gd h.l c, gd h.r c]) p)) ∧ (x = gd h.l p ∨ x = gd h.r p))
    (fun x hx hne => by
      have hx' : x = gd h.l c ∨ x = gd h.r c := by simpa using hx
      exact ⟨(k1 x hx' hne).1, (k1 x hx' hne).2, c, hpl, .inl rfl, hx'⟩)
    (fun y hy x hx hne => by
      obtain ⟨q1, q2⟩ := k2 y ⟨hy.1, hy.2.1⟩
      exact ⟨(q2 x hx hne).1, (q2 x hx hne).2, y, q1, .inr ⟨hy.1, hy.2.1⟩, hx⟩) c hc0 hg
  obtain ⟨k, rfl, hk⟩ := plB_nat hpp
  refine ⟨(k : Int), ?_, ?_⟩
  · unfold srcs
    rw [if_pos (by rw [hv, hpl]; rfl)]
    unfold srcN
    rw [List.mem_map]
    refine ⟨k, ?_, rfl⟩
    rw [List.mem_filter, List.mem_range]
    refine ⟨hk, ?_⟩
    unfold pntB
    have hk2 : k < h.r.length := by rw [hr]; exact hk
    rw [Bool.or_eq_true]
    refine hcp.imp (fun e => ?_) (fun e => ?_)
    · rw [e]; simp [gd, List.getD, List.getElem?_eq_getElem hk]
    · rw [e]; simp [gd, List.getD, List.getElem?_eq_getElem hk2]
  · rcases hpr with e | ⟨e0, e1⟩
    · rw [e]; exact hc
    · obtain ⟨m1, m2⟩ := clo (k : Int) hpp
      have hct := m1 c hcp (by omega)
      have h9 := dist_least hv (starts c hpl) (fun x => 0 ≤ x ∧ 0 ≤ gd (dist h [gd h.l k, gd h.r k]) x)
        (fun x hx hne => (m2 c hct).2 x (by simpa using hx) hne)
        (fun y hy x hx hne => (m2 y hy).2 x hx hne) (k : Int) e0 e1
      unfold cycB
      rw [Bool.and_eq_true, Bool.and_eq_true, decide_eq_true_eq]
      exact ⟨⟨hv, hpp⟩, h9.2⟩
theorem any_snoc {p : Int → Bool} {l : List Int} {k : Nat} {x : Int} (h : l[k]? = some x) : (l.take (k + 1)).any p = ((l.take k).any p || p x) := by
  rw [take_snoc h, List.any_append]; simp

set_option maxRecDepth 100000 in
set_option maxHeartbeats 3000000 in
theorem lawHasCycle_walk (w : World) (A : Option Addr) (n c : Nat) (h : Inp w A n c) :
    Calls Try.prog 5 #[.slice A n c] w (LawTrue w) := by
  by_cases hbig : 1048576 < n
  · go_enter Try.func5, Try.ntmps5
    go_wp2_with fail
    go_ret
    exact ⟨rfl, Below.refl _ _⟩
  go_enter Try.func5, Try.ntmps5
  go_wp2_with fail
  refine (drawHasCycle_any _ _ _ _ h).mono ?_; rintro e w1 ⟨v, hp, x, rfl, HA, hb1, hx8⟩
  have BW1 : Below w.heap.size w w1 := (Below.refl w.heap.size w).trans (hb1.mono (Below.refl w.heap.size w).size)
  have zz1 := hb1.size
  have I := fun W v hW => implCyc_any W w.heap.size v hp hW x
  have S := fun W v hW => specCyc_any W w.heap.size v hp hW x
  have HAo := HA
  obtain ⟨A0, n0, c0, A1, n1, c1, A2, n2, c2, rfl, ⟨r0, r1, r2⟩, ⟨l0, l1, l2⟩, _⟩ := HAo.open_
  have fl := srcs_len hp x
  rcases ho : cycB hp x
  · rw [ho] at I S
    clear ho r0 r1 r2 fl
    go_wp2_with fail
    refine (I _ _ (HA.alloc (.cells #[.slice A0 n0 c0, .slice A1 n1 c1, .slice A2 n2 c2] 25))).mono ?_; rintro e w2 ⟨rfl, hb2⟩
    have BW2 : Below w.heap.size w w2 := (BW1.alloc BW1.size (.cells #[.slice A0 n0 c0, .slice A1 n1 c1, .slice A2 n2 c2] 25)).trans (hb2.mono (BW1.alloc BW1.size (.cells #[.slice A0 n0 c0, .slice A1 n1 c1, .slice A2 n2 c2] 25)).size)
    have zz2 := hb2.size
    have HA_2 := Hv.below (by exact (HA.alloc (.cells #[.slice A0 n0 c0, .slice A1 n1 c1, .slice A2 n2 c2] 25))) hb2
    have X_2 := Blk3.below (by exact (Blk3.new w1 (.slice A0 n0 c0) (.slice A1 n1 c1) (.slice A2 n2 c2) 25)) hb2
    obtain ⟨cX_2_0, cX_2_1, cX_2_2, _⟩ := X_2.cells
    have lX_2 := X_2.lt
    go_wp2_with fail
    refine (S _ _ HA_2).mono ?_; rintro e w3 ⟨rfl, hb3⟩
    have BW3 : Below w.heap.size w w3 := BW2.trans (hb3.mono BW2.size)
    have zz3 := hb3.size
    have HA_3 := Hv.below (by exact HA_2) hb3
    have X_3 := Blk3.below (by exact X_2) hb3
    obtain ⟨cX_3_0, cX_3_1, cX_3_2, _⟩ := X_3.cells
    have lX_3 := X_3.lt
    go_wp2_with fail
    refine (S _ _ HA_3).mono ?_; rintro e w4 ⟨rfl, hb4⟩
    have BW4 : Below w.heap.size w w4 := BW3.trans (hb4.mono BW3.size)
    have zz4 := hb4.size
    have HA_4 := Hv.below (by exact HA_3) hb4
    have X_4 := Blk3.below (by exact X_3) hb4
    obtain ⟨cX_4_0, cX_4_1, cX_4_2, _⟩ := X_4.cells
    have lX_4 := X_4.lt
    go_wp2_with fail
    go_ret
    exact ⟨rfl, BW4⟩
  · have hsrc := cyc_source ho
    have hany : (srcs hp x).any (cycB hp) = true := by rw [List.any_eq_true]; exact hsrc
    have HANY := Lib.hid hany
    have hvx : hvB hp = true := by unfold cycB at ho; rw [Bool.and_eq_true, Bool.and_eq_true] at ho; exact ho.1.1
    have hl8 := hvB_len hvx
    have fl2 : (srcs hp x).length ≤ 8 := by omega
    rw [ho] at I S
    have IS := fun W v hW => implSources_any W w.heap.size v hp hW x
    have JJ := fun W lo v (hW : Hv W lo v hp) y => implCyc_any W lo v hp hW y
    generalize srcs hp x = gs at IS HANY fl2
    clear ho hany hsrc hvx hl8 fl r0 r1 r2
    go_wp2_with fail
    refine (I _ _ (HA.alloc (.cells #[.slice A0 n0 c0, .slice A1 n1 c1, .slice A2 n2 c2] 25))).mono ?_; rintro e w2 ⟨rfl, hb2⟩
    have BW2 : Below w.heap.size w w2 := (BW1.alloc BW1.size (.cells #[.slice A0 n0 c0, .slice A1 n1 c1, .slice A2 n2 c2] 25)).trans (hb2.mono (BW1.alloc BW1.size (.cells #[.slice A0 n0 c0, .slice A1 n1 c1, .slice A2 n2 c2] 25)).size)
    have zz2 := hb2.size
    have HA_2 := Hv.below (by exact (HA.alloc (.cells #[.slice A0 n0 c0, .slice A1 n1 c1, .slice A2 n2 c2] 25))) hb2
    have X_2 := Blk3.below (by exact (Blk3.new w1 (.slice A0 n0 c0) (.slice A1 n1 c1) (.slice A2 n2 c2) 25)) hb2
    obtain ⟨cX_2_0, cX_2_1, cX_2_2, _⟩ := X_2.cells
    have lX_2 := X_2.lt
    go_wp2_with fail
    refine (S _ _ HA_2).mono ?_; rintro e w3 ⟨rfl, hb3⟩
    have BW3 : Below w.heap.size w w3 := BW2.trans (hb3.mono BW2.size)
    have zz3 := hb3.size
    have HA_3 := Hv.below (by exact HA_2) hb3
    have X_3 := Blk3.below (by exact X_2) hb3
    obtain ⟨cX_3_0, cX_3_1, cX_3_2, _⟩ := X_3.cells
    have lX_3 := X_3.lt
    go_wp2_with fail
    refine (IS _ _ HA_3).mono ?_; rintro e w4 ⟨A4, k4, rfl, R4, hb4⟩
    have BW4 : Below w.heap.size w w4 := BW3.trans (hb4.mono BW3.size)
    have zz4 := hb4.size
    have HA_4 := Hv.below (by exact HA_3) hb4
    have X_4 := Blk3.below (by exact X_3) hb4
    obtain ⟨cX_4_0, cX_4_1, cX_4_2, _⟩ := X_4.cells
    have lX_4 := X_4.lt
    generalize hnx : gs.length = nx at *
    have HNX := Lib.hid hnx
    clear hnx
    go_wp2_with fail
    go_loopw [7, 8] (fun s i wr => ∃ (k : Nat) (b : Bool), k ≤ nx ∧ i = .int .i64 k ∧ s = .bool b ∧ Hid (b = (gs.take k).any (cycB hp)) ∧ Blk3 wr w1.heap.size (.slice A0 n0 c0) (.slice A1 n1 c1) (.slice A2 n2 c2) 25 ∧ Hv wr w.heap.size (.agg #[.slice A0 n0 c0, .slice A1 n1 c1, .slice A2 n2 c2]) hp ∧ Row wr 0 (.slice A4 nx k4) gs ∧ Below w.heap.size w wr) (fun _ i _ => nx - (intOf i).toNat)
    case atStart => exact ⟨0, false, Nat.zero_le _, rfl, rfl, rfl, X_4, HA_4, R4.mono (Nat.zero_le _), BW4⟩
    case round =>
      obtain ⟨k, b, hk, rfl, rfl, hs, X, H, R, BB⟩ := hrel
      obtain ⟨cX_0, cX_1, cX_2, xf0, xf1, xf2⟩ := X.cells
      have xl := X.lt
      by_cases hlt : k < nx
      · obtain ⟨g, y, eg, _, hgw, hy, hcell, _⟩ := R.get (k := k) (by have := HNX.out; omega)
        cases eg
        have hn : Hid ((gs.take (k + 1)).any (cycB hp) = (b || cycB hp y)) := by unfold Hid; rw [any_snoc hy.out, ← hs.out]
        have K := fun W lo v (hW : Hv W lo v hp) => JJ W lo v hW y
        generalize cycB hp y = q at K hn
        clear hs hy
        cases b
        · go_wp2_with fail
          go_region_held3 (fun w' => w'.cell? ⟨w1.heap.size, 0, none⟩ = some (.slice A0 n0 c0) ∧ w'.cell? ⟨w1.heap.size, 1, none⟩ = some (.slice A1 n1 c1) ∧ w'.cell? ⟨w1.heap.size, 2, none⟩ = some (.slice A2 n2 c2) ∧ w'.cell? ⟨g, k, none⟩ = some (.int .i64 y))
            (((try dsimp only); (repeat' apply And.intro) <;> (with_reducible (first | exact hcell_w5 | exact cX_1_2 | exact cX_1_1 | exact cX_1_0 | exact cellD hcell | exact cellD cX_2 | exact cellD cX_1 | exact cellD cX_0 | exact hcell | exact cX_2 | exact cX_1 | exact cX_0))))
            (first
              | (go_at_call 19; (with_reducible refine (K _ _ _ (H.drew)).mono ?_); rintro e w5 ⟨rfl, hb5⟩; have BW1 : Below w.heap.size w w5 := (Below.drew BB).trans (hb5.mono (Below.drew BB).size); have zz1 := hb5.size; have X_1 := Blk3.below (by exact (X.drew)) hb5; obtain ⟨cX_1_0, cX_1_1, cX_1_2, _⟩ := X_1.cells; have lX_1 := X_1.lt; have HA_1 := Hv.below (by exact (H.drew)) hb5; have R_1 := Row.below (by exact (R.drew)) hb5; have hcell_w5 : w5.cell? ⟨g, k, none⟩ = some (.int .i64 y) := (hb5.cell (p := ⟨g, k, none⟩) (by simp <;> omega)).trans (by exact hcell)))
          rename_i hHeld1
          clear hHeld1
          go_wp2_with fail
          go_roundw
          case rel => exact ⟨k + 1, q, by omega, by go_num, rfl, by unfold Hid; rw [hn.out]; simp, X_1, HA_1, R_1, BW1⟩
          case measure => simp [intOf]; omega
        · go_wp2_with fail
          go_quiet (fail)
          go_wp2_with fail
          go_roundw
          case rel => exact ⟨k + 1, true, by omega, by go_num, rfl, by unfold Hid; rw [hn.out]; simp, X, H, R, below_drewN BB _⟩
          case measure => simp [intOf]; omega
      · obtain rfl : k = nx := by omega
        obtain rfl : b = true := by rw [hs.out, List.take_of_length_le (by rw [HNX.out]; omega)]; exact HANY.out
        clear hs
        go_wp2_with fail
        go_ret
        exact ⟨rfl, BB⟩
end Go.Proofs.Ythagchhegljphaa
