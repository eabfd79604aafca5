/- The law FnStoreSame, walked. -/
import Derived.Test.YtkonlhmmkcpgnaaDoorDStoreSame
import Derived.Test.YtkonlhmmkcpgnaaDoorFmtS
import Derived.Test.YtkonlhmmkcpgnaaDoorIStos
import Derived.Test.YtkonlhmmkcpgnaaDoorStos
import Derived.Test.YtkonlhmmkcpgnaaDoorWLaw
namespace Go.Proofs.YtkonlhmmkcpgnaaDoor
open Go.RowKit

theorem Blk4.drew {w : World} {b : Nat} {x y z q : Value} {t : TypeId} (h : Blk4 w b x y z q t) : Blk4 w.drew b x y z q t := h
theorem sameS_comm (a b : Cp) : sameC b a = sameC a b := by
  unfold sameC sameB
  simp only [eq_comm]
theorem sameS_iff (a b : Cp) : sameC a b = true ↔ a = b := by
  cases a; cases b
  unfold sameC
  rw [Bool.and_eq_true, sameB_iff, decide_eq_true_eq]
  simp
theorem implSameSE (w : World) (lo lo' : Nat) (v v' : Value) (a b : Cp) (r : Bool) (e : sameC a b = r) (hv : Cv w lo v a) (hv' : Cv w lo' v' b) : Calls Tryd.prog 8 #[v, v'] w (RetB w r) := by
  rw [← e]; exact implStoreSame_any w lo lo' v v' a b hv hv'
theorem specSameSE (w : World) (lo lo' : Nat) (v v' : Value) (a b : Cp) (r : Bool) (e : sameC a b = r) (hv : Cv w lo v a) (hv' : Cv w lo' v' b) : Calls Tryd.prog 9 #[v, v'] w (RetB w r) := by
  rw [← e]; exact specStoreSame_any w lo lo' v v' a b hv hv'

set_option maxRecDepth 100000 in
set_option maxHeartbeats 4000000 in
theorem lawStoreSame_walk (w : World) (A : Option Addr) (n c : Nat) (h : Inp w A n c) :
    Calls Tryd.prog 3 #[.slice A n c] w (LawTrue w) := by
  by_cases hbig : 1048576 < n
  · go_enter Tryd.func3, Tryd.ntmps3
    go_wp2_with fail
    go_ret
    exact ⟨rfl, Below.refl _ _⟩
  go_enter Tryd.func3, Tryd.ntmps3
  go_wp2_with fail
  refine (drawStoreSame_any _ _ _ _ h).mono ?_; rintro e w1 ⟨v, ca, v', cb, rfl, HA, HB, hb1⟩
  have BW1 : Below w.heap.size w w1 := (Below.refl w.heap.size w).trans (hb1.mono (Below.refl w.heap.size w).size)
  have zz1 : w.heap.size ≤ w1.heap.size := hb1.size
  have HAo := HA
  obtain ⟨A0, n0, c0, A1, n1, c1, A2, n2, c2, A3, n3, c3, rfl, _⟩ := HAo.open_
  have HBo := HB
  obtain ⟨B0, k0, d0, B1, k1, d1, B2, k2, d2, B3, k3, d3, rfl, _⟩ := HBo.open_
  have Ynew : Blk4 ((w1.alloc (.cells #[.slice A0 n0 c0, .slice A1 n1 c1, .slice A2 n2 c2, .slice A3 n3 c3] 27)).alloc (.cells #[.slice B0 k0 d0, .slice B1 k1 d1, .slice B2 k2 d2, .slice B3 k3 d3] 27)) (w1.heap.size + 1) (.slice B0 k0 d0) (.slice B1 k1 d1) (.slice B2 k2 d2) (.slice B3 k3 d3) 27 := Blk4.new_at (by simp) _ _ _ _ _
  rcases hs : sameC ca cb
  · have E1 := implStoreSame_any _ _ _ _ _ _ _ ((HA.alloc (.cells #[.slice A0 n0 c0, .slice A1 n1 c1, .slice A2 n2 c2, .slice A3 n3 c3] 27)).alloc (.cells #[.slice B0 k0 d0, .slice B1 k1 d1, .slice B2 k2 d2, .slice B3 k3 d3] 27)) ((HB.alloc (.cells #[.slice A0 n0 c0, .slice A1 n1 c1, .slice A2 n2 c2, .slice A3 n3 c3] 27)).alloc (.cells #[.slice B0 k0 d0, .slice B1 k1 d1, .slice B2 k2 d2, .slice B3 k3 d3] 27))
    rw [hs] at E1
    go_wp2_with fail
    refine (E1).mono ?_; rintro e w2 ⟨rfl, hb2⟩
    have BW2 : Below w.heap.size w w2 := ((BW1.alloc BW1.size (.cells #[.slice A0 n0 c0, .slice A1 n1 c1, .slice A2 n2 c2, .slice A3 n3 c3] 27)).alloc (BW1.alloc BW1.size (.cells #[.slice A0 n0 c0, .slice A1 n1 c1, .slice A2 n2 c2, .slice A3 n3 c3] 27)).size (.cells #[.slice B0 k0 d0, .slice B1 k1 d1, .slice B2 k2 d2, .slice B3 k3 d3] 27)).trans (hb2.mono ((BW1.alloc BW1.size (.cells #[.slice A0 n0 c0, .slice A1 n1 c1, .slice A2 n2 c2, .slice A3 n3 c3] 27)).alloc (BW1.alloc BW1.size (.cells #[.slice A0 n0 c0, .slice A1 n1 c1, .slice A2 n2 c2, .slice A3 n3 c3] 27)).size (.cells #[.slice B0 k0 d0, .slice B1 k1 d1, .slice B2 k2 d2, .slice B3 k3 d3] 27)).size)
    have zz2 : w1.heap.size + 2 ≤ w2.heap.size := by have := hb2.size; simp at this; omega
    have HA_2 := Cv.below (by exact ((HA.alloc (.cells #[.slice A0 n0 c0, .slice A1 n1 c1, .slice A2 n2 c2, .slice A3 n3 c3] 27)).alloc (.cells #[.slice B0 k0 d0, .slice B1 k1 d1, .slice B2 k2 d2, .slice B3 k3 d3] 27))) hb2
    have HB_2 := Cv.below (by exact ((HB.alloc (.cells #[.slice A0 n0 c0, .slice A1 n1 c1, .slice A2 n2 c2, .slice A3 n3 c3] 27)).alloc (.cells #[.slice B0 k0 d0, .slice B1 k1 d1, .slice B2 k2 d2, .slice B3 k3 d3] 27))) hb2
    have X_2 := Blk4.below (by exact ((Blk4.new w1 (.slice A0 n0 c0) (.slice A1 n1 c1) (.slice A2 n2 c2) (.slice A3 n3 c3) 27).alloc (.cells #[.slice B0 k0 d0, .slice B1 k1 d1, .slice B2 k2 d2, .slice B3 k3 d3] 27))) hb2
    obtain ⟨cX_2_0, cX_2_1, cX_2_2, cX_2_3, _⟩ := X_2.cells
    have lX_2 := X_2.lt
    have Y_2 := Blk4.below (by exact Ynew) hb2
    obtain ⟨cY_2_0, cY_2_1, cY_2_2, cY_2_3, _⟩ := Y_2.cells
    have lY_2 := Y_2.lt
    go_wp2_with fail
    refine wp_region_held_drew (S := fun w' => w'.cell? ⟨w1.heap.size, 0, none⟩ = some (.slice A0 n0 c0) ∧ w'.cell? ⟨w1.heap.size, 1, none⟩ = some (.slice A1 n1 c1) ∧ w'.cell? ⟨w1.heap.size, 2, none⟩ = some (.slice A2 n2 c2) ∧ w'.cell? ⟨w1.heap.size, 3, none⟩ = some (.slice A3 n3 c3) ∧ w'.cell? ⟨w1.heap.size + 1, 0, none⟩ = some (.slice B0 k0 d0) ∧ w'.cell? ⟨w1.heap.size + 1, 1, none⟩ = some (.slice B1 k1 d1) ∧ w'.cell? ⟨w1.heap.size + 1, 2, none⟩ = some (.slice B2 k2 d2) ∧ w'.cell? ⟨w1.heap.size + 1, 3, none⟩ = some (.slice B3 k3 d3)) (by kernel_rfl) ?_ (fun hHeld => ?_)
    · exact ⟨cellD cX_2_0, cellD cX_2_1, cellD cX_2_2, cellD cX_2_3, cellD cY_2_0, cellD cY_2_1, cellD cY_2_2, cellD cY_2_3⟩
    refine wpAnyH_take (i := 0) (oi := ?oib0) (v := ?vb0) ?hib0 (by kernel_rfl) (by kernel_rfl) (by kernel_rfl) ?hQb0 ?hyb0 (by assumption) ?_
    case hib0 => simp only [List.getElem?_toArray, List.getElem?_cons_zero]; rfl
    case hQb0 => exact fun _ _ _ h => h
    case hyb0 => refine Or.inl ⟨by rfl, ?_⟩; intro w9 hSw; (try dsimp only at hSw); go_simp; (try with_reducible rfl)
    try simp only [Act.put, List.setIfInBounds_toArray, List.set_cons_zero, List.set_cons_succ]
    refine wpAnyH_take (i := 1) (oi := ?oib1) (v := ?vb1) ?hib1 (by kernel_rfl) (by kernel_rfl) (by kernel_rfl) ?hQb1 ?hyb1 (by assumption) ?_
    case hib1 => simp only [List.getElem?_toArray, List.getElem?_cons_zero, List.getElem?_cons_succ]; rfl
    case hQb1 => exact fun _ _ _ h => h
    case hyb1 => refine Or.inl ⟨by rfl, ?_⟩; intro w9 hSw; (try dsimp only at hSw); go_simp; (try with_reducible rfl)
    try simp only [Act.put, List.setIfInBounds_toArray, List.set_cons_zero, List.set_cons_succ]
    refine wpAnyH_take (i := 2) (oi := ?oib2) (v := ?vb2) ?hib2 (by kernel_rfl) (by kernel_rfl) (by kernel_rfl) ?hQb2 ?hyb2 (by assumption) ?_
    case hib2 => simp only [List.getElem?_toArray, List.getElem?_cons_zero, List.getElem?_cons_succ]; rfl
    case hQb2 => exact fun _ _ _ h => h
    case hyb2 => refine Or.inl ⟨by rfl, ?_⟩; intro w9 hSw; (try dsimp only at hSw); go_simp; (try with_reducible rfl)
    try simp only [Act.put, List.setIfInBounds_toArray, List.set_cons_zero, List.set_cons_succ]
    refine wpAnyH_ready (rs := [3]) (by kernel_rfl) (by simp) ?_
    refine AllReadyH.cons (o := ?oob3) ?hob3 (fun K hK => ?_) AllReadyH.nil
    case hob3 => simp only [List.getElem?_toArray, List.getElem?_cons_zero, List.getElem?_cons_succ]; rfl
    go_simp
    refine (specSameSE _ _ _ _ _ _ _ false hs (HA_2.drew) (HB_2.drew)).mono ?_; rintro e w3 ⟨rfl, hb3⟩
    have BW3 : Below w.heap.size w w3 := (Below.drew BW2).trans (hb3.mono (Below.drew BW2).size)
    have zz3 : w2.heap.size ≤ w3.heap.size := hb3.size
    have HA_3 := Cv.below (by exact (HA_2.drew)) hb3
    have HB_3 := Cv.below (by exact (HB_2.drew)) hb3
    have X_3 := Blk4.below (by exact (X_2.drew)) hb3
    obtain ⟨cX_3_0, cX_3_1, cX_3_2, cX_3_3, _⟩ := X_3.cells
    have lX_3 := X_3.lt
    have Y_3 := Blk4.below (by exact (Y_2.drew)) hb3
    obtain ⟨cY_3_0, cY_3_1, cY_3_2, cY_3_3, _⟩ := Y_3.cells
    have lY_3 := Y_3.lt
    go_wp2_with fail
    refine hK.out _ _ ?hSb3 (fun hHeld3 => ?_)
    case hSb3 => exact ⟨cX_3_0, cX_3_1, cX_3_2, cX_3_3, cY_3_0, cY_3_1, cY_3_2, cY_3_3⟩
    clear hK K
    try simp only [Act.put, List.setIfInBounds_toArray, List.set_cons_zero, List.set_cons_succ]
    refine wpAnyH_take (i := 4) (oi := ?oib4) (v := ?vb4) ?hib4 (by kernel_rfl) (by kernel_rfl) (by kernel_rfl) ?hQb4 ?hyb4 (by assumption) ?_
    case hib4 => simp only [List.getElem?_toArray, List.getElem?_cons_zero, List.getElem?_cons_succ]; rfl
    case hQb4 => exact fun _ _ _ h => h
    case hyb4 => refine Or.inl ⟨by rfl, ?_⟩; intro w9 hSw; (try dsimp only at hSw); go_simp; (try with_reducible rfl)
    try simp only [Act.put, List.setIfInBounds_toArray, List.set_cons_zero, List.set_cons_succ]
    refine wpAnyH_take (i := 5) (oi := ?oib5) (v := ?vb5) ?hib5 (by kernel_rfl) (by kernel_rfl) (by kernel_rfl) ?hQb5 ?hyb5 (by assumption) ?_
    case hib5 => simp only [List.getElem?_toArray, List.getElem?_cons_zero, List.getElem?_cons_succ]; rfl
    case hQb5 => exact fun _ _ _ h => h
    case hyb5 => refine Or.inl ⟨by rfl, ?_⟩; intro w9 hSw; (try dsimp only at hSw); go_simp; (try with_reducible rfl)
    try simp only [Act.put, List.setIfInBounds_toArray, List.set_cons_zero, List.set_cons_succ]
    refine wpAnyH_take (i := 6) (oi := ?oib6) (v := ?vb6) ?hib6 (by kernel_rfl) (by kernel_rfl) (by kernel_rfl) ?hQb6 ?hyb6 (by assumption) ?_
    case hib6 => simp only [List.getElem?_toArray, List.getElem?_cons_zero, List.getElem?_cons_succ]; rfl
    case hQb6 => exact fun _ _ _ h => h
    case hyb6 => refine Or.inl ⟨by rfl, ?_⟩; intro w9 hSw; (try dsimp only at hSw); go_simp; (try with_reducible rfl)
    try simp only [Act.put, List.setIfInBounds_toArray, List.set_cons_zero, List.set_cons_succ]
    refine wpAnyH_take (i := 7) (oi := ?oib7) (v := ?vb7) ?hib7 (by kernel_rfl) (by kernel_rfl) (by kernel_rfl) ?hQb7 ?hyb7 (by assumption) ?_
    case hib7 => simp only [List.getElem?_toArray, List.getElem?_cons_zero, List.getElem?_cons_succ]; rfl
    case hQb7 => exact fun _ _ _ h => h
    case hyb7 => refine Or.inl ⟨by rfl, ?_⟩; intro w9 hSw; (try dsimp only at hSw); go_simp; (try with_reducible rfl)
    try simp only [Act.put, List.setIfInBounds_toArray, List.set_cons_zero, List.set_cons_succ]
    refine wpAnyH_take (i := 8) (oi := ?oib8) (v := ?vb8) ?hib8 (by kernel_rfl) (by kernel_rfl) (by kernel_rfl) ?hQb8 ?hyb8 (by assumption) ?_
    case hib8 => simp only [List.getElem?_toArray, List.getElem?_cons_zero, List.getElem?_cons_succ]; rfl
    case hQb8 => exact fun _ _ _ h => h
    case hyb8 => refine Or.inl ⟨by rfl, ?_⟩; intro w9 hSw; (try dsimp only at hSw); go_simp; (try with_reducible rfl)
    try simp only [Act.put, List.setIfInBounds_toArray, List.set_cons_zero, List.set_cons_succ]
    refine wpAnyH_ready (rs := [9]) (by kernel_rfl) (by simp) ?_
    refine AllReadyH.cons (o := ?oob9) ?hob9 (fun K hK => ?_) AllReadyH.nil
    case hob9 => simp only [List.getElem?_toArray, List.getElem?_cons_zero, List.getElem?_cons_succ]; rfl
    go_simp
    refine (implSameSE _ _ _ _ _ _ _ false ((sameS_comm _ _).trans hs) HB_3 HA_3).mono ?_; rintro e w4 ⟨rfl, hb4⟩
    have BW4 : Below w.heap.size w w4 := BW3.trans (hb4.mono BW3.size)
    have zz4 : w3.heap.size ≤ w4.heap.size := hb4.size
    have HA_4 := Cv.below (by exact HA_3) hb4
    have HB_4 := Cv.below (by exact HB_3) hb4
    have X_4 := Blk4.below (by exact X_3) hb4
    obtain ⟨cX_4_0, cX_4_1, cX_4_2, cX_4_3, _⟩ := X_4.cells
    have lX_4 := X_4.lt
    have Y_4 := Blk4.below (by exact Y_3) hb4
    obtain ⟨cY_4_0, cY_4_1, cY_4_2, cY_4_3, _⟩ := Y_4.cells
    have lY_4 := Y_4.lt
    go_wp2_with fail
    refine hK.out _ _ ?hSb9 (fun hHeld9 => ?_)
    case hSb9 => exact ⟨cX_4_0, cX_4_1, cX_4_2, cX_4_3, cY_4_0, cY_4_1, cY_4_2, cY_4_3⟩
    clear hK K
    try simp only [Act.put, List.setIfInBounds_toArray, List.set_cons_zero, List.set_cons_succ]
    refine wpAnyH_take (i := 10) (oi := ?oib10) (v := ?vb10) ?hib10 (by kernel_rfl) (by kernel_rfl) (by kernel_rfl) ?hQb10 ?hyb10 (by assumption) ?_
    case hib10 => simp only [List.getElem?_toArray, List.getElem?_cons_zero, List.getElem?_cons_succ]; rfl
    case hQb10 => exact fun _ _ _ h => h
    case hyb10 => refine Or.inl ⟨by rfl, ?_⟩; intro w9 hSw; (try dsimp only at hSw); go_simp; (try with_reducible rfl)
    try simp only [Act.put, List.setIfInBounds_toArray, List.set_cons_zero, List.set_cons_succ]
    refine wpAnyH_take (i := 11) (oi := ?oib11) (v := ?vb11) ?hib11 (by kernel_rfl) (by kernel_rfl) (by kernel_rfl) ?hQb11 ?hyb11 (by assumption) ?_
    case hib11 => simp only [List.getElem?_toArray, List.getElem?_cons_zero, List.getElem?_cons_succ]; rfl
    case hQb11 => exact fun _ _ _ h => h
    case hyb11 => refine Or.inl ⟨by rfl, ?_⟩; intro w9 hSw; (try dsimp only at hSw); go_simp; (try with_reducible rfl)
    try simp only [Act.put, List.setIfInBounds_toArray, List.set_cons_zero, List.set_cons_succ]
    refine wpAnyH_take (i := 12) (oi := ?oib12) (v := ?vb12) ?hib12 (by kernel_rfl) (by kernel_rfl) (by kernel_rfl) ?hQb12 ?hyb12 (by assumption) ?_
    case hib12 => simp only [List.getElem?_toArray, List.getElem?_cons_zero, List.getElem?_cons_succ]; rfl
    case hQb12 => exact fun _ _ _ h => h
    case hyb12 => refine Or.inl ⟨by rfl, ?_⟩; intro w9 hSw; (try dsimp only at hSw); go_simp; (try with_reducible rfl)
    try simp only [Act.put, List.setIfInBounds_toArray, List.set_cons_zero, List.set_cons_succ]
    refine wpAnyH_take (i := 13) (oi := ?oib13) (v := ?vb13) ?hib13 (by kernel_rfl) (by kernel_rfl) (by kernel_rfl) ?hQb13 ?hyb13 (by assumption) ?_
    case hib13 => simp only [List.getElem?_toArray, List.getElem?_cons_zero, List.getElem?_cons_succ]; rfl
    case hQb13 => exact fun _ _ _ h => h
    case hyb13 => refine Or.inl ⟨by rfl, ?_⟩; intro w9 hSw; (try dsimp only at hSw); go_simp; (try with_reducible rfl)
    try simp only [Act.put, List.setIfInBounds_toArray, List.set_cons_zero, List.set_cons_succ]
    refine wpAnyH_take (i := 14) (oi := ?oib14) (v := ?vb14) ?hib14 (by kernel_rfl) (by kernel_rfl) (by kernel_rfl) ?hQb14 ?hyb14 (by assumption) ?_
    case hib14 => simp only [List.getElem?_toArray, List.getElem?_cons_zero, List.getElem?_cons_succ]; rfl
    case hQb14 => exact fun _ _ _ h => h
    case hyb14 => refine Or.inl ⟨by rfl, ?_⟩; intro w9 hSw; (try dsimp only at hSw); go_simp; (try with_reducible rfl)
    try simp only [Act.put, List.setIfInBounds_toArray, List.set_cons_zero, List.set_cons_succ]
    refine wpAnyH_ready (rs := [15]) (by kernel_rfl) (by simp) ?_
    refine AllReadyH.cons (o := ?oob15) ?hob15 (fun K hK => ?_) AllReadyH.nil
    case hob15 => simp only [List.getElem?_toArray, List.getElem?_cons_zero, List.getElem?_cons_succ]; rfl
    go_simp
    refine (implSameSE _ _ _ _ _ _ _ true (sameC_self _) HA_4 HA_4).mono ?_; rintro e w5 ⟨rfl, hb5⟩
    have BW5 : Below w.heap.size w w5 := BW4.trans (hb5.mono BW4.size)
    have zz5 : w4.heap.size ≤ w5.heap.size := hb5.size
    have HA_5 := Cv.below (by exact HA_4) hb5
    have HB_5 := Cv.below (by exact HB_4) hb5
    have X_5 := Blk4.below (by exact X_4) hb5
    obtain ⟨cX_5_0, cX_5_1, cX_5_2, cX_5_3, _⟩ := X_5.cells
    have lX_5 := X_5.lt
    have Y_5 := Blk4.below (by exact Y_4) hb5
    obtain ⟨cY_5_0, cY_5_1, cY_5_2, cY_5_3, _⟩ := Y_5.cells
    have lY_5 := Y_5.lt
    go_wp2_with fail
    refine hK.out _ _ ?hSb15 (fun hHeld15 => ?_)
    case hSb15 => exact ⟨cX_5_0, cX_5_1, cX_5_2, cX_5_3, cY_5_0, cY_5_1, cY_5_2, cY_5_3⟩
    clear hK K
    try simp only [Act.put, List.setIfInBounds_toArray, List.set_cons_zero, List.set_cons_succ]
    refine wpAnyH_take (i := 16) (oi := ?oib16) (v := ?vb16) ?hib16 (by kernel_rfl) (by kernel_rfl) (by kernel_rfl) ?hQb16 ?hyb16 (by assumption) ?_
    case hib16 => simp only [List.getElem?_toArray, List.getElem?_cons_zero, List.getElem?_cons_succ]; rfl
    case hQb16 => exact fun _ _ _ h => h
    case hyb16 => refine Or.inl ⟨by rfl, ?_⟩; intro w9 hSw; (try dsimp only at hSw); go_simp; (try with_reducible rfl)
    try simp only [Act.put, List.setIfInBounds_toArray, List.set_cons_zero, List.set_cons_succ]
    refine wpAnyH_take (i := 17) (oi := ?oib17) (v := ?vb17) ?hib17 (by kernel_rfl) (by kernel_rfl) (by kernel_rfl) ?hQb17 ?hyb17 (by assumption) ?_
    case hib17 => simp only [List.getElem?_toArray, List.getElem?_cons_zero, List.getElem?_cons_succ]; rfl
    case hQb17 => exact fun _ _ _ h => h
    case hyb17 => refine Or.inl ⟨by rfl, ?_⟩; intro w9 hSw; (try dsimp only at hSw); go_simp; (try with_reducible rfl)
    try simp only [Act.put, List.setIfInBounds_toArray, List.set_cons_zero, List.set_cons_succ]
    refine wpAnyH_take (i := 18) (oi := ?oib18) (v := ?vb18) ?hib18 (by kernel_rfl) (by kernel_rfl) (by kernel_rfl) ?hQb18 ?hyb18 (by assumption) ?_
    case hib18 => simp only [List.getElem?_toArray, List.getElem?_cons_zero, List.getElem?_cons_succ]; rfl
    case hQb18 => exact fun _ _ _ h => h
    case hyb18 => refine Or.inl ⟨by rfl, ?_⟩; intro w9 hSw; (try dsimp only at hSw); go_simp; (try with_reducible rfl)
    try simp only [Act.put, List.setIfInBounds_toArray, List.set_cons_zero, List.set_cons_succ]
    refine wpAnyH_take (i := 19) (oi := ?oib19) (v := ?vb19) ?hib19 (by kernel_rfl) (by kernel_rfl) (by kernel_rfl) ?hQb19 ?hyb19 (by assumption) ?_
    case hib19 => simp only [List.getElem?_toArray, List.getElem?_cons_zero, List.getElem?_cons_succ]; rfl
    case hQb19 => exact fun _ _ _ h => h
    case hyb19 => refine Or.inl ⟨by rfl, ?_⟩; intro w9 hSw; (try dsimp only at hSw); go_simp; (try with_reducible rfl)
    try simp only [Act.put, List.setIfInBounds_toArray, List.set_cons_zero, List.set_cons_succ]
    refine wpAnyH_take (i := 20) (oi := ?oib20) (v := ?vb20) ?hib20 (by kernel_rfl) (by kernel_rfl) (by kernel_rfl) ?hQb20 ?hyb20 (by assumption) ?_
    case hib20 => simp only [List.getElem?_toArray, List.getElem?_cons_zero, List.getElem?_cons_succ]; rfl
    case hQb20 => exact fun _ _ _ h => h
    case hyb20 => refine Or.inl ⟨by rfl, ?_⟩; intro w9 hSw; (try dsimp only at hSw); go_simp; (try with_reducible rfl)
    try simp only [Act.put, List.setIfInBounds_toArray, List.set_cons_zero, List.set_cons_succ]
    refine wpAnyH_take (i := 21) (oi := ?oib21) (v := undef) ?hib21 (by kernel_rfl) (by kernel_rfl) (by kernel_rfl) ?hQb21 ?hyb21 (by assumption) ?_
    case hib21 => simp only [List.getElem?_toArray, List.getElem?_cons_zero, List.getElem?_cons_succ]; rfl
    case hQb21 => exact fun _ _ _ h => h
    case hyb21 => exact Or.inr ⟨by rfl, rfl⟩
    try simp only [Act.put, List.setIfInBounds_toArray, List.set_cons_zero, List.set_cons_succ]
    refine wpAnyH_take (i := 22) (oi := ?oib22) (v := undef) ?hib22 (by kernel_rfl) (by kernel_rfl) (by kernel_rfl) ?hQb22 ?hyb22 (by assumption) ?_
    case hib22 => simp only [List.getElem?_toArray, List.getElem?_cons_zero, List.getElem?_cons_succ]; rfl
    case hQb22 => exact fun _ _ _ h => h
    case hyb22 => exact Or.inr ⟨by rfl, rfl⟩
    try simp only [Act.put, List.setIfInBounds_toArray, List.set_cons_zero, List.set_cons_succ]
    refine wpAnyH_take (i := 23) (oi := ?oib23) (v := undef) ?hib23 (by kernel_rfl) (by kernel_rfl) (by kernel_rfl) ?hQb23 ?hyb23 (by assumption) ?_
    case hib23 => simp only [List.getElem?_toArray, List.getElem?_cons_zero, List.getElem?_cons_succ]; rfl
    case hQb23 => exact fun _ _ _ h => h
    case hyb23 => exact Or.inr ⟨by rfl, rfl⟩
    try simp only [Act.put, List.setIfInBounds_toArray, List.set_cons_zero, List.set_cons_succ]
    refine wpAnyH_take (i := 24) (oi := ?oib24) (v := undef) ?hib24 (by kernel_rfl) (by kernel_rfl) (by kernel_rfl) ?hQb24 ?hyb24 (by assumption) ?_
    case hib24 => simp only [List.getElem?_toArray, List.getElem?_cons_zero, List.getElem?_cons_succ]; rfl
    case hQb24 => exact fun _ _ _ h => h
    case hyb24 => exact Or.inr ⟨by rfl, rfl⟩
    try simp only [Act.put, List.setIfInBounds_toArray, List.set_cons_zero, List.set_cons_succ]
    refine wpAnyH_take (i := 25) (oi := ?oib25) (v := undef) ?hib25 (by kernel_rfl) (by kernel_rfl) (by kernel_rfl) ?hQb25 ?hyb25 (by assumption) ?_
    case hib25 => simp only [List.getElem?_toArray, List.getElem?_cons_zero, List.getElem?_cons_succ]; rfl
    case hQb25 => exact fun _ _ _ h => h
    case hyb25 => exact Or.inr ⟨by rfl, rfl⟩
    try simp only [Act.put, List.setIfInBounds_toArray, List.set_cons_zero, List.set_cons_succ]
    refine wpAnyH_take (i := 26) (oi := ?oib26) (v := ?vb26) ?hib26 (by kernel_rfl) (by kernel_rfl) (by kernel_rfl) ?hQb26 ?hyb26 (by assumption) ?_
    case hib26 => simp only [List.getElem?_toArray, List.getElem?_cons_zero, List.getElem?_cons_succ]; rfl
    case hQb26 => exact fun _ _ _ h => h
    case hyb26 => refine Or.inl ⟨by rfl, ?_⟩; intro w9 hSw; (try dsimp only at hSw); go_simp; (try with_reducible rfl)
    try simp only [Act.put, List.setIfInBounds_toArray, List.set_cons_zero, List.set_cons_succ]
    refine wpAnyH_take (i := 27) (oi := ?oib27) (v := ?vb27) ?hib27 (by kernel_rfl) (by kernel_rfl) (by kernel_rfl) ?hQb27 ?hyb27 (by assumption) ?_
    case hib27 => simp only [List.getElem?_toArray, List.getElem?_cons_zero, List.getElem?_cons_succ]; rfl
    case hQb27 => exact fun _ _ _ h => h
    case hyb27 => refine Or.inl ⟨by rfl, ?_⟩; intro w9 hSw; (try dsimp only at hSw); go_simp; (try with_reducible rfl)
    try simp only [Act.put, List.setIfInBounds_toArray, List.set_cons_zero, List.set_cons_succ]
    refine wpAnyH_take (i := 28) (oi := ?oib28) (v := ?vb28) ?hib28 (by kernel_rfl) (by kernel_rfl) (by kernel_rfl) ?hQb28 ?hyb28 (by assumption) ?_
    case hib28 => simp only [List.getElem?_toArray, List.getElem?_cons_zero, List.getElem?_cons_succ]; rfl
    case hQb28 => exact fun _ _ _ h => h
    case hyb28 => refine Or.inl ⟨by rfl, ?_⟩; intro w9 hSw; (try dsimp only at hSw); go_simp; (try with_reducible rfl)
    try simp only [Act.put, List.setIfInBounds_toArray, List.set_cons_zero, List.set_cons_succ]
    refine wpAnyH_done (by kernel_rfl) ?_ _
    go_wp2_with fail
    go_ret
    exact ⟨by simp, BW5⟩
  · obtain rfl := (sameS_iff _ _).1 hs
    have E1 := implStoreSame_any _ _ _ _ _ _ _ ((HA.alloc (.cells #[.slice A0 n0 c0, .slice A1 n1 c1, .slice A2 n2 c2, .slice A3 n3 c3] 27)).alloc (.cells #[.slice B0 k0 d0, .slice B1 k1 d1, .slice B2 k2 d2, .slice B3 k3 d3] 27)) ((HB.alloc (.cells #[.slice A0 n0 c0, .slice A1 n1 c1, .slice A2 n2 c2, .slice A3 n3 c3] 27)).alloc (.cells #[.slice B0 k0 d0, .slice B1 k1 d1, .slice B2 k2 d2, .slice B3 k3 d3] 27))
    rw [hs] at E1
    go_wp2_with fail
    refine (E1).mono ?_; rintro e w2 ⟨rfl, hb2⟩
    have BW2 : Below w.heap.size w w2 := ((BW1.alloc BW1.size (.cells #[.slice A0 n0 c0, .slice A1 n1 c1, .slice A2 n2 c2, .slice A3 n3 c3] 27)).alloc (BW1.alloc BW1.size (.cells #[.slice A0 n0 c0, .slice A1 n1 c1, .slice A2 n2 c2, .slice A3 n3 c3] 27)).size (.cells #[.slice B0 k0 d0, .slice B1 k1 d1, .slice B2 k2 d2, .slice B3 k3 d3] 27)).trans (hb2.mono ((BW1.alloc BW1.size (.cells #[.slice A0 n0 c0, .slice A1 n1 c1, .slice A2 n2 c2, .slice A3 n3 c3] 27)).alloc (BW1.alloc BW1.size (.cells #[.slice A0 n0 c0, .slice A1 n1 c1, .slice A2 n2 c2, .slice A3 n3 c3] 27)).size (.cells #[.slice B0 k0 d0, .slice B1 k1 d1, .slice B2 k2 d2, .slice B3 k3 d3] 27)).size)
    have zz2 : w1.heap.size + 2 ≤ w2.heap.size := by have := hb2.size; simp at this; omega
    have HA_2 := Cv.below (by exact ((HA.alloc (.cells #[.slice A0 n0 c0, .slice A1 n1 c1, .slice A2 n2 c2, .slice A3 n3 c3] 27)).alloc (.cells #[.slice B0 k0 d0, .slice B1 k1 d1, .slice B2 k2 d2, .slice B3 k3 d3] 27))) hb2
    have HB_2 := Cv.below (by exact ((HB.alloc (.cells #[.slice A0 n0 c0, .slice A1 n1 c1, .slice A2 n2 c2, .slice A3 n3 c3] 27)).alloc (.cells #[.slice B0 k0 d0, .slice B1 k1 d1, .slice B2 k2 d2, .slice B3 k3 d3] 27))) hb2
    have X_2 := Blk4.below (by exact ((Blk4.new w1 (.slice A0 n0 c0) (.slice A1 n1 c1) (.slice A2 n2 c2) (.slice A3 n3 c3) 27).alloc (.cells #[.slice B0 k0 d0, .slice B1 k1 d1, .slice B2 k2 d2, .slice B3 k3 d3] 27))) hb2
    obtain ⟨cX_2_0, cX_2_1, cX_2_2, cX_2_3, _⟩ := X_2.cells
    have lX_2 := X_2.lt
    have Y_2 := Blk4.below (by exact Ynew) hb2
    obtain ⟨cY_2_0, cY_2_1, cY_2_2, cY_2_3, _⟩ := Y_2.cells
    have lY_2 := Y_2.lt
    go_wp2_with fail
    go_region_held3 (fun w' => w'.cell? ⟨w1.heap.size, 0, none⟩ = some (.slice A0 n0 c0) ∧ w'.cell? ⟨w1.heap.size, 1, none⟩ = some (.slice A1 n1 c1) ∧ w'.cell? ⟨w1.heap.size, 2, none⟩ = some (.slice A2 n2 c2) ∧ w'.cell? ⟨w1.heap.size, 3, none⟩ = some (.slice A3 n3 c3) ∧ w'.cell? ⟨w1.heap.size + 1, 0, none⟩ = some (.slice B0 k0 d0) ∧ w'.cell? ⟨w1.heap.size + 1, 1, none⟩ = some (.slice B1 k1 d1) ∧ w'.cell? ⟨w1.heap.size + 1, 2, none⟩ = some (.slice B2 k2 d2) ∧ w'.cell? ⟨w1.heap.size + 1, 3, none⟩ = some (.slice B3 k3 d3))
      (((try dsimp only); (repeat' apply And.intro) <;> (with_reducible (first | exact cY_7_3 | exact cY_7_2 | exact cY_7_1 | exact cY_7_0 | exact cX_7_3 | exact cX_7_2 | exact cX_7_1 | exact cX_7_0 | exact cY_6_3 | exact cY_6_2 | exact cY_6_1 | exact cY_6_0 | exact cX_6_3 | exact cX_6_2 | exact cX_6_1 | exact cX_6_0 | exact cY_5_3 | exact cY_5_2 | exact cY_5_1 | exact cY_5_0 | exact cX_5_3 | exact cX_5_2 | exact cX_5_1 | exact cX_5_0 | exact cY_4_3 | exact cY_4_2 | exact cY_4_1 | exact cY_4_0 | exact cX_4_3 | exact cX_4_2 | exact cX_4_1 | exact cX_4_0 | exact cY_3_3 | exact cY_3_2 | exact cY_3_1 | exact cY_3_0 | exact cX_3_3 | exact cX_3_2 | exact cX_3_1 | exact cX_3_0 | exact cellD cY_2_3 | exact cellD cY_2_2 | exact cellD cY_2_1 | exact cellD cY_2_0 | exact cellD cX_2_3 | exact cellD cX_2_2 | exact cellD cX_2_1 | exact cellD cX_2_0 | exact cY_2_3 | exact cY_2_2 | exact cY_2_1 | exact cY_2_0 | exact cX_2_3 | exact cX_2_2 | exact cX_2_1 | exact cX_2_0))))
      (first
        | (go_at_call 9; (with_reducible refine (specSameSE _ _ _ _ _ _ _ true hs (HA_2.drew) (HB_2.drew)).mono ?_); rintro e w3 ⟨rfl, hb3⟩; have BW3 : Below w.heap.size w w3 := (Below.drew BW2).trans (hb3.mono (Below.drew BW2).size); have zz3 : w2.heap.size ≤ w3.heap.size := hb3.size; have HA_3 := Cv.below (by exact (HA_2.drew)) hb3; have HB_3 := Cv.below (by exact (HB_2.drew)) hb3; have X_3 := Blk4.below (by exact (X_2.drew)) hb3; obtain ⟨cX_3_0, cX_3_1, cX_3_2, cX_3_3, _⟩ := X_3.cells; have lX_3 := X_3.lt; have Y_3 := Blk4.below (by exact (Y_2.drew)) hb3; obtain ⟨cY_3_0, cY_3_1, cY_3_2, cY_3_3, _⟩ := Y_3.cells; have lY_3 := Y_3.lt)
        | (go_at_call 8; (with_reducible refine (implSameSE _ _ _ _ _ _ _ true hs HB_3 HA_3).mono ?_); rintro e w4 ⟨rfl, hb4⟩; have BW4 : Below w.heap.size w w4 := BW3.trans (hb4.mono BW3.size); have zz4 : w3.heap.size ≤ w4.heap.size := hb4.size; have HA_4 := Cv.below (by exact HA_3) hb4; have HB_4 := Cv.below (by exact HB_3) hb4; have X_4 := Blk4.below (by exact X_3) hb4; obtain ⟨cX_4_0, cX_4_1, cX_4_2, cX_4_3, _⟩ := X_4.cells; have lX_4 := X_4.lt; have Y_4 := Blk4.below (by exact Y_3) hb4; obtain ⟨cY_4_0, cY_4_1, cY_4_2, cY_4_3, _⟩ := Y_4.cells; have lY_4 := Y_4.lt)
        | (go_at_call 8; (with_reducible refine (implSameSE _ _ _ _ _ _ _ true (sameC_self _) HA_4 HA_4).mono ?_); rintro e w5 ⟨rfl, hb5⟩; have BW5 : Below w.heap.size w w5 := BW4.trans (hb5.mono BW4.size); have zz5 : w4.heap.size ≤ w5.heap.size := hb5.size; have HA_5 := Cv.below (by exact HA_4) hb5; have HB_5 := Cv.below (by exact HB_4) hb5; have X_5 := Blk4.below (by exact X_4) hb5; obtain ⟨cX_5_0, cX_5_1, cX_5_2, cX_5_3, _⟩ := X_5.cells; have lX_5 := X_5.lt; have Y_5 := Blk4.below (by exact Y_4) hb5; obtain ⟨cY_5_0, cY_5_1, cY_5_2, cY_5_3, _⟩ := Y_5.cells; have lY_5 := Y_5.lt)
        | (go_at_call 10; (with_reducible refine (implFmtS_any _ _ _ _ HA_5).mono ?_); rintro e w6 ⟨rfl, hb6⟩; have BW6 : Below w.heap.size w w6 := BW5.trans (hb6.mono BW5.size); have zz6 : w5.heap.size ≤ w6.heap.size := hb6.size; have HA_6 := Cv.below (by exact HA_5) hb6; have HB_6 := Cv.below (by exact HB_5) hb6; have X_6 := Blk4.below (by exact X_5) hb6; obtain ⟨cX_6_0, cX_6_1, cX_6_2, cX_6_3, _⟩ := X_6.cells; have lX_6 := X_6.lt; have Y_6 := Blk4.below (by exact Y_5) hb6; obtain ⟨cY_6_0, cY_6_1, cY_6_2, cY_6_3, _⟩ := Y_6.cells; have lY_6 := Y_6.lt)
        | (go_at_call 10; (with_reducible refine (implFmtS_any _ _ _ _ HB_6).mono ?_); rintro e w7 ⟨rfl, hb7⟩; have BW7 : Below w.heap.size w w7 := BW6.trans (hb7.mono BW6.size); have zz7 : w6.heap.size ≤ w7.heap.size := hb7.size; have HA_7 := Cv.below (by exact HA_6) hb7; have HB_7 := Cv.below (by exact HB_6) hb7; have X_7 := Blk4.below (by exact X_6) hb7; obtain ⟨cX_7_0, cX_7_1, cX_7_2, cX_7_3, _⟩ := X_7.cells; have lX_7 := X_7.lt; have Y_7 := Blk4.below (by exact Y_6) hb7; obtain ⟨cY_7_0, cY_7_1, cY_7_2, cY_7_3, _⟩ := Y_7.cells; have lY_7 := Y_7.lt))
    rename_i hHeld1
    clear hHeld1
    go_wp2_with fail
    go_ret
    exact ⟨by simp, BW7⟩
end Go.Proofs.YtkonlhmmkcpgnaaDoor
