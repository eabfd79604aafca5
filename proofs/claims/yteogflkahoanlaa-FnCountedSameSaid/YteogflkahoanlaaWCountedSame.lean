/- The law FnCountedSame, walked. -/
import Derived.Test.YteogflkahoanlaaLaws0
import Derived.Test.YteogflkahoanlaaDSameD
import Derived.Test.YteogflkahoanlaaCVal
import Derived.Test.YteogflkahoanlaaWrgDs
namespace Go.Proofs.Yteogflkahoanlaa
open Go.RowKit

theorem sameD_iff (a b : Dp) : sameD a b = true ↔ a = b := by
  obtain ⟨⟨h, c⟩, n⟩ := a
  obtain ⟨⟨h', c'⟩, n'⟩ := b
  unfold sameD sameC
  simp only [Bool.and_eq_true, decide_eq_true_eq]
  rw [sameB_iff]
  constructor
  · rintro ⟨⟨rfl, rfl⟩, rfl⟩; rfl
  · intro e; cases e; exact ⟨⟨rfl, rfl⟩, rfl⟩
theorem sameD_comm {a b : Dp} {r : Bool} (h : sameD a b = r) : sameD b a = r := by
  cases r with
  | true => rw [sameD_iff] at h ⊢; exact h.symm
  | false => rcases e : sameD b a with _ | _
             · rfl
             · rw [sameD_iff] at e; subst e; rw [sameD_self] at h; cases h

set_option maxRecDepth 100000 in
set_option maxHeartbeats 4000000 in
theorem lawCountedSame_walk (w : World) (A : Option Addr) (n c : Nat) (h : Inp w A n c) :
    Calls Try.prog 9 #[.slice A n c] w (LawTrue w) := by
  by_cases hbig : 1048576 < n
  · go_enter Try.func9, Try.ntmps9
    go_wp2_with fail
    go_ret
    exact ⟨rfl, Below.refl _ _⟩
  go_enter Try.func9, Try.ntmps9
  go_wp2_with fail
  refine (drawCountedSame_any _ _ _ _ h).mono ?_; rintro e w1 ⟨v, D, v2, D2, rfl, HA, HB, hb1⟩
  have BW1 : Below w.heap.size w w1 := (Below.refl w.heap.size w).trans (hb1.mono (Below.refl w.heap.size w).size)
  have zz1 : w.heap.size ≤ w1.heap.size := hb1.size
  have HAo := HA
  obtain ⟨A0, n0, c0, A1, n1, c1, A2, n2, c2, A3, n3, c3, A4, n4, c4, rfl, -⟩ := HAo.open_
  clear HAo
  have HBo := HB
  obtain ⟨B0, k0, d0, B1, k1, d1, B2, k2, d2, B3, k3, d3, B4, k4, d4, rfl, -⟩ := HBo.open_
  clear HBo
  have SM := fun W lo lo' v v' h h' => implCountedSame_any W lo lo' v v' D D2 h h'
  have SS := fun W lo lo' v v' h h' => specCountedSame_any W lo lo' v v' D D2 h h'
  have SR := fun W lo lo' v v' h h' => implCountedSame_any W lo lo' v v' D2 D h h'
  have SA := fun W lo lo' v v' h h' => implCountedSame_any W lo lo' v v' D D h h'
  have VA := fun W lo v h => implCountedValid_any W lo v D h
  have VB := fun W lo v h => implCountedValid_any W lo v D2 h
  rw [sameD_self] at SA
  rcases hs : sameD D D2
  · rw [hs] at SM SS
    rw [sameD_comm hs] at SR
    go_wp2_with fail
    refine (SM _ _ _ _ _ ((HA.alloc (.cells #[.slice A0 n0 c0, .slice A1 n1 c1, .slice A2 n2 c2, .slice A3 n3 c3, .slice A4 n4 c4] 29)).alloc (.cells #[.slice B0 k0 d0, .slice B1 k1 d1, .slice B2 k2 d2, .slice B3 k3 d3, .slice B4 k4 d4] 29)) ((HB.alloc (.cells #[.slice A0 n0 c0, .slice A1 n1 c1, .slice A2 n2 c2, .slice A3 n3 c3, .slice A4 n4 c4] 29)).alloc (.cells #[.slice B0 k0 d0, .slice B1 k1 d1, .slice B2 k2 d2, .slice B3 k3 d3, .slice B4 k4 d4] 29))).mono ?_; rintro e w2 ⟨rfl, hb2⟩
    have BW2 : Below w.heap.size w w2 := ((BW1.alloc BW1.size (.cells #[.slice A0 n0 c0, .slice A1 n1 c1, .slice A2 n2 c2, .slice A3 n3 c3, .slice A4 n4 c4] 29)).alloc (BW1.alloc BW1.size (.cells #[.slice A0 n0 c0, .slice A1 n1 c1, .slice A2 n2 c2, .slice A3 n3 c3, .slice A4 n4 c4] 29)).size (.cells #[.slice B0 k0 d0, .slice B1 k1 d1, .slice B2 k2 d2, .slice B3 k3 d3, .slice B4 k4 d4] 29)).trans (hb2.mono ((BW1.alloc BW1.size (.cells #[.slice A0 n0 c0, .slice A1 n1 c1, .slice A2 n2 c2, .slice A3 n3 c3, .slice A4 n4 c4] 29)).alloc (BW1.alloc BW1.size (.cells #[.slice A0 n0 c0, .slice A1 n1 c1, .slice A2 n2 c2, .slice A3 n3 c3, .slice A4 n4 c4] 29)).size (.cells #[.slice B0 k0 d0, .slice B1 k1 d1, .slice B2 k2 d2, .slice B3 k3 d3, .slice B4 k4 d4] 29)).size)
    have zz2 : w1.heap.size + 2 ≤ w2.heap.size := by have := hb2.size; simp at this; omega
    have HA_2 := Dv.below (by exact ((HA.alloc (.cells #[.slice A0 n0 c0, .slice A1 n1 c1, .slice A2 n2 c2, .slice A3 n3 c3, .slice A4 n4 c4] 29)).alloc (.cells #[.slice B0 k0 d0, .slice B1 k1 d1, .slice B2 k2 d2, .slice B3 k3 d3, .slice B4 k4 d4] 29))) hb2
    have HB_2 := Dv.below (by exact ((HB.alloc (.cells #[.slice A0 n0 c0, .slice A1 n1 c1, .slice A2 n2 c2, .slice A3 n3 c3, .slice A4 n4 c4] 29)).alloc (.cells #[.slice B0 k0 d0, .slice B1 k1 d1, .slice B2 k2 d2, .slice B3 k3 d3, .slice B4 k4 d4] 29))) hb2
    have X_2 := Blk5.below (by exact ((Blk5.new w1 (.slice A0 n0 c0) (.slice A1 n1 c1) (.slice A2 n2 c2) (.slice A3 n3 c3) (.slice A4 n4 c4) 29).alloc (.cells #[.slice B0 k0 d0, .slice B1 k1 d1, .slice B2 k2 d2, .slice B3 k3 d3, .slice B4 k4 d4] 29))) hb2
    obtain ⟨cX_2_0, cX_2_1, cX_2_2, cX_2_3, cX_2_4, -⟩ := X_2.cells
    have lX_2 := X_2.lt
    have Y_2 := Blk5.below (by exact (Blk5.new (w1.alloc (.cells #[.slice A0 n0 c0, .slice A1 n1 c1, .slice A2 n2 c2, .slice A3 n3 c3, .slice A4 n4 c4] 29)) (.slice B0 k0 d0) (.slice B1 k1 d1) (.slice B2 k2 d2) (.slice B3 k3 d3) (.slice B4 k4 d4) 29)) hb2
    obtain ⟨cY_2_0, cY_2_1, cY_2_2, cY_2_3, cY_2_4, -⟩ := Y_2.cells
    have lY_2 := Y_2.lt
    have hYa : (w1.alloc (.cells #[.slice A0 n0 c0, .slice A1 n1 c1, .slice A2 n2 c2, .slice A3 n3 c3, .slice A4 n4 c4] 29)).heap.size = w1.heap.size + 1 := by simp
    have Y9 := Y_2
    rw [hYa] at Y9
    have SO : ∀ w' : World, Below w2.heap.size w2 w' → w'.cell? ⟨w1.heap.size, 0, none⟩ = some (.slice A0 n0 c0) ∧ w'.cell? ⟨w1.heap.size, 1, none⟩ = some (.slice A1 n1 c1) ∧ w'.cell? ⟨w1.heap.size, 2, none⟩ = some (.slice A2 n2 c2) ∧ w'.cell? ⟨w1.heap.size, 3, none⟩ = some (.slice A3 n3 c3) ∧ w'.cell? ⟨w1.heap.size, 4, none⟩ = some (.slice A4 n4 c4) ∧ w'.cell? ⟨w1.heap.size + 1, 0, none⟩ = some (.slice B0 k0 d0) ∧ w'.cell? ⟨w1.heap.size + 1, 1, none⟩ = some (.slice B1 k1 d1) ∧ w'.cell? ⟨w1.heap.size + 1, 2, none⟩ = some (.slice B2 k2 d2) ∧ w'.cell? ⟨w1.heap.size + 1, 3, none⟩ = some (.slice B3 k3 d3) ∧ w'.cell? ⟨w1.heap.size + 1, 4, none⟩ = some (.slice B4 k4 d4) := fun w' hb => ⟨(X_2.below hb).cells.1, (X_2.below hb).cells.2.1, (X_2.below hb).cells.2.2.1, (X_2.below hb).cells.2.2.2.1, (X_2.below hb).cells.2.2.2.2.1, (Y9.below hb).cells.1, (Y9.below hb).cells.2.1, (Y9.below hb).cells.2.2.1, (Y9.below hb).cells.2.2.2.1, (Y9.below hb).cells.2.2.2.2.1⟩
    obtain ⟨b90, b91, b92, b93, b94, -⟩ := Y9.cells
    have C1 := SS w2.drew _ _ _ _ (HA_2).drew (HB_2).drew
    have C2 := fun V (hb : Below w2.heap.size w2 V) => SR V _ _ _ _ ((HB_2).below hb) ((HA_2).below hb)
    have C3 := fun V (hb : Below w2.heap.size w2 V) => SA V _ _ _ _ ((HA_2).below hb) ((HA_2).below hb)
    clear SM SS SR SA VA VB hs
    go_wp2_with fail
    refine wp_region_held_drew (S := fun w' => w'.cell? ⟨w1.heap.size, 0, none⟩ = some (.slice A0 n0 c0) ∧ w'.cell? ⟨w1.heap.size, 1, none⟩ = some (.slice A1 n1 c1) ∧ w'.cell? ⟨w1.heap.size, 2, none⟩ = some (.slice A2 n2 c2) ∧ w'.cell? ⟨w1.heap.size, 3, none⟩ = some (.slice A3 n3 c3) ∧ w'.cell? ⟨w1.heap.size, 4, none⟩ = some (.slice A4 n4 c4) ∧ w'.cell? ⟨w1.heap.size + 1, 0, none⟩ = some (.slice B0 k0 d0) ∧ w'.cell? ⟨w1.heap.size + 1, 1, none⟩ = some (.slice B1 k1 d1) ∧ w'.cell? ⟨w1.heap.size + 1, 2, none⟩ = some (.slice B2 k2 d2) ∧ w'.cell? ⟨w1.heap.size + 1, 3, none⟩ = some (.slice B3 k3 d3) ∧ w'.cell? ⟨w1.heap.size + 1, 4, none⟩ = some (.slice B4 k4 d4)) (by kernel_rfl) ?_ (fun hHeld => ?_)
    · exact SO w2.drew (B5_dr (Below.refl _ _))
    refine wpAnyH_take (i := 0) (oi := ?oim0) (v := ?vm0) ?him0 (by kernel_rfl) (by kernel_rfl) (by kernel_rfl) ?hQm0 ?hym0 (by assumption) ?_
    case him0 => simp only [List.getElem?_toArray, List.getElem?_cons_zero]; rfl
    case hQm0 => exact fun _ _ _ h => h
    case hym0 => refine Or.inl ⟨by rfl, ?_⟩; intro w9 hSw; (try dsimp only at hSw); go_simp; (try with_reducible rfl)
    try simp only [Act.put, List.setIfInBounds_toArray, List.set_cons_zero, List.set_cons_succ]
    refine wpAnyH_take (i := 1) (oi := ?oim1) (v := ?vm1) ?him1 (by kernel_rfl) (by kernel_rfl) (by kernel_rfl) ?hQm1 ?hym1 (by assumption) ?_
    case him1 => simp only [List.getElem?_toArray, List.getElem?_cons_zero, List.getElem?_cons_succ]; rfl
    case hQm1 => exact fun _ _ _ h => h
    case hym1 => refine Or.inl ⟨by rfl, ?_⟩; intro w9 hSw; (try dsimp only at hSw); go_simp; (try with_reducible rfl)
    try simp only [Act.put, List.setIfInBounds_toArray, List.set_cons_zero, List.set_cons_succ]
    refine wpAnyH_take (i := 2) (oi := ?oim2) (v := ?vm2) ?him2 (by kernel_rfl) (by kernel_rfl) (by kernel_rfl) ?hQm2 ?hym2 (by assumption) ?_
    case him2 => simp only [List.getElem?_toArray, List.getElem?_cons_zero, List.getElem?_cons_succ]; rfl
    case hQm2 => exact fun _ _ _ h => h
    case hym2 => refine Or.inl ⟨by rfl, ?_⟩; intro w9 hSw; (try dsimp only at hSw); go_simp; (try with_reducible rfl)
    try simp only [Act.put, List.setIfInBounds_toArray, List.set_cons_zero, List.set_cons_succ]
    refine wpAnyH_ready (rs := [3]) (by kernel_rfl) (by simp) ?_
    refine AllReadyH.cons (o := ?oom3) ?hom3 (fun K hK => ?_) AllReadyH.nil
    case hom3 => simp only [List.getElem?_toArray, List.getElem?_cons_zero, List.getElem?_cons_succ]; rfl
    go_simp
    refine C1.mono ?_; rintro e w3 ⟨rfl, hb3⟩
    have hR3 : Below w2.heap.size w2 w3 := B5_th (B5_dr (Below.refl _ _)) hb3
    go_wp2_with fail
    refine hK.out _ _ ?hSm3 (fun hHeld3 => ?_)
    case hSm3 => exact SO w3 hR3
    clear hK K
    try simp only [Act.put, List.setIfInBounds_toArray, List.set_cons_zero, List.set_cons_succ]
    refine wpAnyH_take (i := 4) (oi := ?oim4) (v := ?vm4) ?him4 (by kernel_rfl) (by kernel_rfl) (by kernel_rfl) ?hQm4 ?hym4 (by assumption) ?_
    case him4 => simp only [List.getElem?_toArray, List.getElem?_cons_zero, List.getElem?_cons_succ]; rfl
    case hQm4 => exact fun _ _ _ h => h
    case hym4 => refine Or.inl ⟨by rfl, ?_⟩; intro w9 hSw; (try dsimp only at hSw); go_simp; (try with_reducible rfl)
    try simp only [Act.put, List.setIfInBounds_toArray, List.set_cons_zero, List.set_cons_succ]
    refine wpAnyH_take (i := 5) (oi := ?oim5) (v := ?vm5) ?him5 (by kernel_rfl) (by kernel_rfl) (by kernel_rfl) ?hQm5 ?hym5 (by assumption) ?_
    case him5 => simp only [List.getElem?_toArray, List.getElem?_cons_zero, List.getElem?_cons_succ]; rfl
    case hQm5 => exact fun _ _ _ h => h
    case hym5 => refine Or.inl ⟨by rfl, ?_⟩; intro w9 hSw; (try dsimp only at hSw); go_simp; (try with_reducible rfl)
    try simp only [Act.put, List.setIfInBounds_toArray, List.set_cons_zero, List.set_cons_succ]
    refine wpAnyH_take (i := 6) (oi := ?oim6) (v := ?vm6) ?him6 (by kernel_rfl) (by kernel_rfl) (by kernel_rfl) ?hQm6 ?hym6 (by assumption) ?_
    case him6 => simp only [List.getElem?_toArray, List.getElem?_cons_zero, List.getElem?_cons_succ]; rfl
    case hQm6 => exact fun _ _ _ h => h
    case hym6 => refine Or.inl ⟨by rfl, ?_⟩; intro w9 hSw; (try dsimp only at hSw); go_simp; (try with_reducible rfl)
    try simp only [Act.put, List.setIfInBounds_toArray, List.set_cons_zero, List.set_cons_succ]
    refine wpAnyH_take (i := 7) (oi := ?oim7) (v := ?vm7) ?him7 (by kernel_rfl) (by kernel_rfl) (by kernel_rfl) ?hQm7 ?hym7 (by assumption) ?_
    case him7 => simp only [List.getElem?_toArray, List.getElem?_cons_zero, List.getElem?_cons_succ]; rfl
    case hQm7 => exact fun _ _ _ h => h
    case hym7 => refine Or.inl ⟨by rfl, ?_⟩; intro w9 hSw; (try dsimp only at hSw); go_simp; (try with_reducible rfl)
    try simp only [Act.put, List.setIfInBounds_toArray, List.set_cons_zero, List.set_cons_succ]
    refine wpAnyH_take (i := 8) (oi := ?oim8) (v := ?vm8) ?him8 (by kernel_rfl) (by kernel_rfl) (by kernel_rfl) ?hQm8 ?hym8 (by assumption) ?_
    case him8 => simp only [List.getElem?_toArray, List.getElem?_cons_zero, List.getElem?_cons_succ]; rfl
    case hQm8 => exact fun _ _ _ h => h
    case hym8 => refine Or.inl ⟨by rfl, ?_⟩; intro w9 hSw; (try dsimp only at hSw); go_simp; (try with_reducible rfl)
    try simp only [Act.put, List.setIfInBounds_toArray, List.set_cons_zero, List.set_cons_succ]
    refine wpAnyH_ready (rs := [9]) (by kernel_rfl) (by simp) ?_
    refine AllReadyH.cons (o := ?oom9) ?hom9 (fun K hK => ?_) AllReadyH.nil
    case hom9 => simp only [List.getElem?_toArray, List.getElem?_cons_zero, List.getElem?_cons_succ]; rfl
    go_simp
    refine (C2 _ hR3).mono ?_; rintro e w4 ⟨rfl, hb4⟩
    have hR4 : Below w2.heap.size w2 w4 := B5_th hR3 hb4
    go_wp2_with fail
    refine hK.out _ _ ?hSm9 (fun hHeld9 => ?_)
    case hSm9 => exact SO w4 hR4
    clear hK K
    try simp only [Act.put, List.setIfInBounds_toArray, List.set_cons_zero, List.set_cons_succ]
    refine wpAnyH_take (i := 10) (oi := ?oim10) (v := ?vm10) ?him10 (by kernel_rfl) (by kernel_rfl) (by kernel_rfl) ?hQm10 ?hym10 (by assumption) ?_
    case him10 => simp only [List.getElem?_toArray, List.getElem?_cons_zero, List.getElem?_cons_succ]; rfl
    case hQm10 => exact fun _ _ _ h => h
    case hym10 => refine Or.inl ⟨by rfl, ?_⟩; intro w9 hSw; (try dsimp only at hSw); go_simp; (try with_reducible rfl)
    try simp only [Act.put, List.setIfInBounds_toArray, List.set_cons_zero, List.set_cons_succ]
    refine wpAnyH_take (i := 11) (oi := ?oim11) (v := ?vm11) ?him11 (by kernel_rfl) (by kernel_rfl) (by kernel_rfl) ?hQm11 ?hym11 (by assumption) ?_
    case him11 => simp only [List.getElem?_toArray, List.getElem?_cons_zero, List.getElem?_cons_succ]; rfl
    case hQm11 => exact fun _ _ _ h => h
    case hym11 => refine Or.inl ⟨by rfl, ?_⟩; intro w9 hSw; (try dsimp only at hSw); go_simp; (try with_reducible rfl)
    try simp only [Act.put, List.setIfInBounds_toArray, List.set_cons_zero, List.set_cons_succ]
    refine wpAnyH_take (i := 12) (oi := ?oim12) (v := ?vm12) ?him12 (by kernel_rfl) (by kernel_rfl) (by kernel_rfl) ?hQm12 ?hym12 (by assumption) ?_
    case him12 => simp only [List.getElem?_toArray, List.getElem?_cons_zero, List.getElem?_cons_succ]; rfl
    case hQm12 => exact fun _ _ _ h => h
    case hym12 => refine Or.inl ⟨by rfl, ?_⟩; intro w9 hSw; (try dsimp only at hSw); go_simp; (try with_reducible rfl)
    try simp only [Act.put, List.setIfInBounds_toArray, List.set_cons_zero, List.set_cons_succ]
    refine wpAnyH_take (i := 13) (oi := ?oim13) (v := ?vm13) ?him13 (by kernel_rfl) (by kernel_rfl) (by kernel_rfl) ?hQm13 ?hym13 (by assumption) ?_
    case him13 => simp only [List.getElem?_toArray, List.getElem?_cons_zero, List.getElem?_cons_succ]; rfl
    case hQm13 => exact fun _ _ _ h => h
    case hym13 => refine Or.inl ⟨by rfl, ?_⟩; intro w9 hSw; (try dsimp only at hSw); go_simp; (try with_reducible rfl)
    try simp only [Act.put, List.setIfInBounds_toArray, List.set_cons_zero, List.set_cons_succ]
    refine wpAnyH_take (i := 14) (oi := ?oim14) (v := ?vm14) ?him14 (by kernel_rfl) (by kernel_rfl) (by kernel_rfl) ?hQm14 ?hym14 (by assumption) ?_
    case him14 => simp only [List.getElem?_toArray, List.getElem?_cons_zero, List.getElem?_cons_succ]; rfl
    case hQm14 => exact fun _ _ _ h => h
    case hym14 => refine Or.inl ⟨by rfl, ?_⟩; intro w9 hSw; (try dsimp only at hSw); go_simp; (try with_reducible rfl)
    try simp only [Act.put, List.setIfInBounds_toArray, List.set_cons_zero, List.set_cons_succ]
    refine wpAnyH_ready (rs := [15]) (by kernel_rfl) (by simp) ?_
    refine AllReadyH.cons (o := ?oom15) ?hom15 (fun K hK => ?_) AllReadyH.nil
    case hom15 => simp only [List.getElem?_toArray, List.getElem?_cons_zero, List.getElem?_cons_succ]; rfl
    go_simp
    refine (C3 _ hR4).mono ?_; rintro e w5 ⟨rfl, hb5⟩
    have hR5 : Below w2.heap.size w2 w5 := B5_th hR4 hb5
    go_wp2_with fail
    refine hK.out _ _ ?hSm15 (fun hHeld15 => ?_)
    case hSm15 => exact SO w5 hR5
    clear hK K
    try simp only [Act.put, List.setIfInBounds_toArray, List.set_cons_zero, List.set_cons_succ]
    refine wpAnyH_take (i := 16) (oi := ?oim16) (v := ?vm16) ?him16 (by kernel_rfl) (by kernel_rfl) (by kernel_rfl) ?hQm16 ?hym16 (by assumption) ?_
    case him16 => simp only [List.getElem?_toArray, List.getElem?_cons_zero, List.getElem?_cons_succ]; rfl
    case hQm16 => exact fun _ _ _ h => h
    case hym16 => refine Or.inl ⟨by rfl, ?_⟩; intro w9 hSw; (try dsimp only at hSw); go_simp; (try with_reducible rfl)
    try simp only [Act.put, List.setIfInBounds_toArray, List.set_cons_zero, List.set_cons_succ]
    refine wpAnyH_take (i := 17) (oi := ?oim17) (v := ?vm17) ?him17 (by kernel_rfl) (by kernel_rfl) (by kernel_rfl) ?hQm17 ?hym17 (by assumption) ?_
    case him17 => simp only [List.getElem?_toArray, List.getElem?_cons_zero, List.getElem?_cons_succ]; rfl
    case hQm17 => exact fun _ _ _ h => h
    case hym17 => refine Or.inl ⟨by rfl, ?_⟩; intro w9 hSw; (try dsimp only at hSw); go_simp; (try with_reducible rfl)
    try simp only [Act.put, List.setIfInBounds_toArray, List.set_cons_zero, List.set_cons_succ]
    refine wpAnyH_take (i := 18) (oi := ?oim18) (v := ?vm18) ?him18 (by kernel_rfl) (by kernel_rfl) (by kernel_rfl) ?hQm18 ?hym18 (by assumption) ?_
    case him18 => simp only [List.getElem?_toArray, List.getElem?_cons_zero, List.getElem?_cons_succ]; rfl
    case hQm18 => exact fun _ _ _ h => h
    case hym18 => refine Or.inl ⟨by rfl, ?_⟩; intro w9 hSw; (try dsimp only at hSw); go_simp; (try with_reducible rfl)
    try simp only [Act.put, List.setIfInBounds_toArray, List.set_cons_zero, List.set_cons_succ]
    refine wpAnyH_take (i := 19) (oi := ?oim19) (v := ?vm19) ?him19 (by kernel_rfl) (by kernel_rfl) (by kernel_rfl) ?hQm19 ?hym19 (by assumption) ?_
    case him19 => simp only [List.getElem?_toArray, List.getElem?_cons_zero, List.getElem?_cons_succ]; rfl
    case hQm19 => exact fun _ _ _ h => h
    case hym19 => refine Or.inl ⟨by rfl, ?_⟩; intro w9 hSw; (try dsimp only at hSw); go_simp; (try with_reducible rfl)
    try simp only [Act.put, List.setIfInBounds_toArray, List.set_cons_zero, List.set_cons_succ]
    refine wpAnyH_take (i := 20) (oi := ?oim20) (v := ?vm20) ?him20 (by kernel_rfl) (by kernel_rfl) (by kernel_rfl) ?hQm20 ?hym20 (by assumption) ?_
    case him20 => simp only [List.getElem?_toArray, List.getElem?_cons_zero, List.getElem?_cons_succ]; rfl
    case hQm20 => exact fun _ _ _ h => h
    case hym20 => refine Or.inl ⟨by rfl, ?_⟩; intro w9 hSw; (try dsimp only at hSw); go_simp; (try with_reducible rfl)
    try simp only [Act.put, List.setIfInBounds_toArray, List.set_cons_zero, List.set_cons_succ]
    refine wpAnyH_take (i := 21) (oi := ?oim21) (v := undef) ?him21 (by kernel_rfl) (by kernel_rfl) (by kernel_rfl) ?hQm21 ?hym21 (by assumption) ?_
    case him21 => simp only [List.getElem?_toArray, List.getElem?_cons_zero, List.getElem?_cons_succ]; rfl
    case hQm21 => exact fun _ _ _ h => h
    case hym21 => exact Or.inr ⟨by rfl, rfl⟩
    try simp only [Act.put, List.setIfInBounds_toArray, List.set_cons_zero, List.set_cons_succ]
    refine wpAnyH_take (i := 22) (oi := ?oim22) (v := undef) ?him22 (by kernel_rfl) (by kernel_rfl) (by kernel_rfl) ?hQm22 ?hym22 (by assumption) ?_
    case him22 => simp only [List.getElem?_toArray, List.getElem?_cons_zero, List.getElem?_cons_succ]; rfl
    case hQm22 => exact fun _ _ _ h => h
    case hym22 => exact Or.inr ⟨by rfl, rfl⟩
    try simp only [Act.put, List.setIfInBounds_toArray, List.set_cons_zero, List.set_cons_succ]
    refine wpAnyH_take (i := 23) (oi := ?oim23) (v := undef) ?him23 (by kernel_rfl) (by kernel_rfl) (by kernel_rfl) ?hQm23 ?hym23 (by assumption) ?_
    case him23 => simp only [List.getElem?_toArray, List.getElem?_cons_zero, List.getElem?_cons_succ]; rfl
    case hQm23 => exact fun _ _ _ h => h
    case hym23 => exact Or.inr ⟨by rfl, rfl⟩
    try simp only [Act.put, List.setIfInBounds_toArray, List.set_cons_zero, List.set_cons_succ]
    refine wpAnyH_take (i := 24) (oi := ?oim24) (v := undef) ?him24 (by kernel_rfl) (by kernel_rfl) (by kernel_rfl) ?hQm24 ?hym24 (by assumption) ?_
    case him24 => simp only [List.getElem?_toArray, List.getElem?_cons_zero, List.getElem?_cons_succ]; rfl
    case hQm24 => exact fun _ _ _ h => h
    case hym24 => exact Or.inr ⟨by rfl, rfl⟩
    try simp only [Act.put, List.setIfInBounds_toArray, List.set_cons_zero, List.set_cons_succ]
    refine wpAnyH_take (i := 25) (oi := ?oim25) (v := undef) ?him25 (by kernel_rfl) (by kernel_rfl) (by kernel_rfl) ?hQm25 ?hym25 (by assumption) ?_
    case him25 => simp only [List.getElem?_toArray, List.getElem?_cons_zero, List.getElem?_cons_succ]; rfl
    case hQm25 => exact fun _ _ _ h => h
    case hym25 => exact Or.inr ⟨by rfl, rfl⟩
    try simp only [Act.put, List.setIfInBounds_toArray, List.set_cons_zero, List.set_cons_succ]
    refine wpAnyH_take (i := 26) (oi := ?oim26) (v := ?vm26) ?him26 (by kernel_rfl) (by kernel_rfl) (by kernel_rfl) ?hQm26 ?hym26 (by assumption) ?_
    case him26 => simp only [List.getElem?_toArray, List.getElem?_cons_zero, List.getElem?_cons_succ]; rfl
    case hQm26 => exact fun _ _ _ h => h
    case hym26 => refine Or.inl ⟨by rfl, ?_⟩; intro w9 hSw; (try dsimp only at hSw); go_simp; (try with_reducible rfl)
    try simp only [Act.put, List.setIfInBounds_toArray, List.set_cons_zero, List.set_cons_succ]
    refine wpAnyH_take (i := 27) (oi := ?oim27) (v := ?vm27) ?him27 (by kernel_rfl) (by kernel_rfl) (by kernel_rfl) ?hQm27 ?hym27 (by assumption) ?_
    case him27 => simp only [List.getElem?_toArray, List.getElem?_cons_zero, List.getElem?_cons_succ]; rfl
    case hQm27 => exact fun _ _ _ h => h
    case hym27 => refine Or.inl ⟨by rfl, ?_⟩; intro w9 hSw; (try dsimp only at hSw); go_simp; (try with_reducible rfl)
    try simp only [Act.put, List.setIfInBounds_toArray, List.set_cons_zero, List.set_cons_succ]
    refine wpAnyH_take (i := 28) (oi := ?oim28) (v := ?vm28) ?him28 (by kernel_rfl) (by kernel_rfl) (by kernel_rfl) ?hQm28 ?hym28 (by assumption) ?_
    case him28 => simp only [List.getElem?_toArray, List.getElem?_cons_zero, List.getElem?_cons_succ]; rfl
    case hQm28 => exact fun _ _ _ h => h
    case hym28 => refine Or.inl ⟨by rfl, ?_⟩; intro w9 hSw; (try dsimp only at hSw); go_simp; (try with_reducible rfl)
    try simp only [Act.put, List.setIfInBounds_toArray, List.set_cons_zero, List.set_cons_succ]
    refine wpAnyH_done (by kernel_rfl) ?_ _
    go_wp2_with fail
    go_ret
    exact ⟨rfl, BW2.trans (hR5.mono BW2.size)⟩
  · rw [hs] at SM SS
    rw [sameD_comm hs] at SR
    go_wp2_with fail
    refine (SM _ _ _ _ _ ((HA.alloc (.cells #[.slice A0 n0 c0, .slice A1 n1 c1, .slice A2 n2 c2, .slice A3 n3 c3, .slice A4 n4 c4] 29)).alloc (.cells #[.slice B0 k0 d0, .slice B1 k1 d1, .slice B2 k2 d2, .slice B3 k3 d3, .slice B4 k4 d4] 29)) ((HB.alloc (.cells #[.slice A0 n0 c0, .slice A1 n1 c1, .slice A2 n2 c2, .slice A3 n3 c3, .slice A4 n4 c4] 29)).alloc (.cells #[.slice B0 k0 d0, .slice B1 k1 d1, .slice B2 k2 d2, .slice B3 k3 d3, .slice B4 k4 d4] 29))).mono ?_; rintro e w2 ⟨rfl, hb2⟩
    have BW2 : Below w.heap.size w w2 := ((BW1.alloc BW1.size (.cells #[.slice A0 n0 c0, .slice A1 n1 c1, .slice A2 n2 c2, .slice A3 n3 c3, .slice A4 n4 c4] 29)).alloc (BW1.alloc BW1.size (.cells #[.slice A0 n0 c0, .slice A1 n1 c1, .slice A2 n2 c2, .slice A3 n3 c3, .slice A4 n4 c4] 29)).size (.cells #[.slice B0 k0 d0, .slice B1 k1 d1, .slice B2 k2 d2, .slice B3 k3 d3, .slice B4 k4 d4] 29)).trans (hb2.mono ((BW1.alloc BW1.size (.cells #[.slice A0 n0 c0, .slice A1 n1 c1, .slice A2 n2 c2, .slice A3 n3 c3, .slice A4 n4 c4] 29)).alloc (BW1.alloc BW1.size (.cells #[.slice A0 n0 c0, .slice A1 n1 c1, .slice A2 n2 c2, .slice A3 n3 c3, .slice A4 n4 c4] 29)).size (.cells #[.slice B0 k0 d0, .slice B1 k1 d1, .slice B2 k2 d2, .slice B3 k3 d3, .slice B4 k4 d4] 29)).size)
    have zz2 : w1.heap.size + 2 ≤ w2.heap.size := by have := hb2.size; simp at this; omega
    have HA_2 := Dv.below (by exact ((HA.alloc (.cells #[.slice A0 n0 c0, .slice A1 n1 c1, .slice A2 n2 c2, .slice A3 n3 c3, .slice A4 n4 c4] 29)).alloc (.cells #[.slice B0 k0 d0, .slice B1 k1 d1, .slice B2 k2 d2, .slice B3 k3 d3, .slice B4 k4 d4] 29))) hb2
    have HB_2 := Dv.below (by exact ((HB.alloc (.cells #[.slice A0 n0 c0, .slice A1 n1 c1, .slice A2 n2 c2, .slice A3 n3 c3, .slice A4 n4 c4] 29)).alloc (.cells #[.slice B0 k0 d0, .slice B1 k1 d1, .slice B2 k2 d2, .slice B3 k3 d3, .slice B4 k4 d4] 29))) hb2
    have X_2 := Blk5.below (by exact ((Blk5.new w1 (.slice A0 n0 c0) (.slice A1 n1 c1) (.slice A2 n2 c2) (.slice A3 n3 c3) (.slice A4 n4 c4) 29).alloc (.cells #[.slice B0 k0 d0, .slice B1 k1 d1, .slice B2 k2 d2, .slice B3 k3 d3, .slice B4 k4 d4] 29))) hb2
    obtain ⟨cX_2_0, cX_2_1, cX_2_2, cX_2_3, cX_2_4, -⟩ := X_2.cells
    have lX_2 := X_2.lt
    have Y_2 := Blk5.below (by exact (Blk5.new (w1.alloc (.cells #[.slice A0 n0 c0, .slice A1 n1 c1, .slice A2 n2 c2, .slice A3 n3 c3, .slice A4 n4 c4] 29)) (.slice B0 k0 d0) (.slice B1 k1 d1) (.slice B2 k2 d2) (.slice B3 k3 d3) (.slice B4 k4 d4) 29)) hb2
    obtain ⟨cY_2_0, cY_2_1, cY_2_2, cY_2_3, cY_2_4, -⟩ := Y_2.cells
    have lY_2 := Y_2.lt
    have hYa : (w1.alloc (.cells #[.slice A0 n0 c0, .slice A1 n1 c1, .slice A2 n2 c2, .slice A3 n3 c3, .slice A4 n4 c4] 29)).heap.size = w1.heap.size + 1 := by simp
    have Y9 := Y_2
    rw [hYa] at Y9
    have SO : ∀ w' : World, Below w2.heap.size w2 w' → w'.cell? ⟨w1.heap.size, 0, none⟩ = some (.slice A0 n0 c0) ∧ w'.cell? ⟨w1.heap.size, 1, none⟩ = some (.slice A1 n1 c1) ∧ w'.cell? ⟨w1.heap.size, 2, none⟩ = some (.slice A2 n2 c2) ∧ w'.cell? ⟨w1.heap.size, 3, none⟩ = some (.slice A3 n3 c3) ∧ w'.cell? ⟨w1.heap.size, 4, none⟩ = some (.slice A4 n4 c4) ∧ w'.cell? ⟨w1.heap.size + 1, 0, none⟩ = some (.slice B0 k0 d0) ∧ w'.cell? ⟨w1.heap.size + 1, 1, none⟩ = some (.slice B1 k1 d1) ∧ w'.cell? ⟨w1.heap.size + 1, 2, none⟩ = some (.slice B2 k2 d2) ∧ w'.cell? ⟨w1.heap.size + 1, 3, none⟩ = some (.slice B3 k3 d3) ∧ w'.cell? ⟨w1.heap.size + 1, 4, none⟩ = some (.slice B4 k4 d4) := fun w' hb => ⟨(X_2.below hb).cells.1, (X_2.below hb).cells.2.1, (X_2.below hb).cells.2.2.1, (X_2.below hb).cells.2.2.2.1, (X_2.below hb).cells.2.2.2.2.1, (Y9.below hb).cells.1, (Y9.below hb).cells.2.1, (Y9.below hb).cells.2.2.1, (Y9.below hb).cells.2.2.2.1, (Y9.below hb).cells.2.2.2.2.1⟩
    obtain ⟨b90, b91, b92, b93, b94, -⟩ := Y9.cells
    have e2 := (sameD_iff _ _).1 hs
    have C1 := SS w2.drew _ _ _ _ (HA_2).drew (HB_2).drew
    have C2 := fun V (hb : Below w2.heap.size w2 V) => SR V _ _ _ _ ((HB_2).below hb) ((HA_2).below hb)
    have C3 := fun V (hb : Below w2.heap.size w2 V) => SA V _ _ _ _ ((HA_2).below hb) ((HA_2).below hb)
    have C4 := fun V (hb : Below w2.heap.size w2 V) => VA V _ _ ((HA_2).below hb)
    have C5 := fun V (hb : Below w2.heap.size w2 V) => VB V _ _ ((HB_2).below hb)
    rw [← e2] at C5
    generalize dpB D = d at C4 C5
    have hdd : (d == d) = true := by simp
    clear SM SS SR SA VA VB hs
    go_wp2_with fail
    go_region_held3 (fun w' => w'.cell? ⟨w1.heap.size, 0, none⟩ = some (.slice A0 n0 c0) ∧ w'.cell? ⟨w1.heap.size, 1, none⟩ = some (.slice A1 n1 c1) ∧ w'.cell? ⟨w1.heap.size, 2, none⟩ = some (.slice A2 n2 c2) ∧ w'.cell? ⟨w1.heap.size, 3, none⟩ = some (.slice A3 n3 c3) ∧ w'.cell? ⟨w1.heap.size, 4, none⟩ = some (.slice A4 n4 c4) ∧ w'.cell? ⟨w1.heap.size + 1, 0, none⟩ = some (.slice B0 k0 d0) ∧ w'.cell? ⟨w1.heap.size + 1, 1, none⟩ = some (.slice B1 k1 d1) ∧ w'.cell? ⟨w1.heap.size + 1, 2, none⟩ = some (.slice B2 k2 d2) ∧ w'.cell? ⟨w1.heap.size + 1, 3, none⟩ = some (.slice B3 k3 d3) ∧ w'.cell? ⟨w1.heap.size + 1, 4, none⟩ = some (.slice B4 k4 d4))
      (((try dsimp only); (refine SO _ ?_); (repeat (with_reducible (first | exact Below.refl _ _ | exact hR7 | exact hR6 | exact hR5 | exact hR4 | exact hR3 | refine B5_dr ?_ | refine B5_al ?_ _)))))
      (first
        | (go_at_call 42; (with_reducible refine C1.mono ?_); rintro e w3 ⟨rfl, hb3⟩; (have hR3 : Below w2.heap.size w2 w3 := B5_th (B5_dr (Below.refl _ _)) hb3))
        | (go_at_call_of 18 (Value.agg #[.slice B0 k0 d0, .slice B1 k1 d1, .slice B2 k2 d2, .slice B3 k3 d3, .slice B4 k4 d4]); (with_reducible refine (C2 _ hR3).mono ?_); rintro e w4 ⟨rfl, hb4⟩; (have hR4 : Below w2.heap.size w2 w4 := B5_th hR3 hb4))
        | (go_at_call 18; (with_reducible refine (C3 _ hR4).mono ?_); rintro e w5 ⟨rfl, hb5⟩; (have hR5 : Below w2.heap.size w2 w5 := B5_th hR4 hb5))
        | (go_at_call_of 20 (Value.agg #[.slice A0 n0 c0, .slice A1 n1 c1, .slice A2 n2 c2, .slice A3 n3 c3, .slice A4 n4 c4]); (with_reducible refine (C4 _ hR5).mono ?_); rintro e w6 ⟨rfl, hb6⟩; (have hR6 : Below w2.heap.size w2 w6 := B5_th hR5 hb6))
        | (go_at_call 20; (with_reducible refine (C5 _ hR6).mono ?_); rintro e w7 ⟨rfl, hb7⟩; (have hR7 : Below w2.heap.size w2 w7 := B5_th hR6 hb7)))
    all_goals
      rename_i hHeld
      clear hHeld
      go_wp2_with fail
      go_ret
      exact ⟨rfl, BW2.trans (hR7.mono BW2.size)⟩
end Go.Proofs.Yteogflkahoanlaa
