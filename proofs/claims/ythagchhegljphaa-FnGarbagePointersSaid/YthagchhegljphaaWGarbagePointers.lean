/- The law FnGarbagePointers, walked. -/
import Derived.Test.YthagchhegljphaaDGarbageOf
import Derived.Test.YthagchhegljphaaGarb
import Derived.Test.YthagchhegljphaaLeast
import Derived.Test.YthagchhegljphaaPut
import Derived.Test.YthagchhegljphaaPure
import Derived.Test.YthagchhegljphaaCc
import Derived.Test.YthagchhegljphaaWLaw
namespace Go.Proofs.Ythagchhegljphaa
open Go.RowKit

theorem row_maxP {w : World} {lo n c : Nat} {A : Option Addr} {xs : List Int} (h : Row w lo (.slice A n c) xs) : xs.length ≤ 9223372036854775807 := by
  obtain ⟨A', c', _, h1, h2⟩ := h.form
  unfold maxLen at h2; omega
theorem ccInts_sameP (w : World) (lo lo' : Nat) (A A' : Option Addr) (c c' : Nat) (xs : List Int) (h : Row w lo (.slice A xs.length c) xs) (h' : Row w lo' (.slice A' xs.length c') xs) :
    Calls Try.prog 14 #[.slice A xs.length c, .slice A' xs.length c'] w (RetB w true) :=
  (ccInts_any w lo lo' A A' xs.length c xs.length c' xs xs h rfl (row_maxP h) h' rfl (row_maxP h')).mono fun _ _ ⟨he, nq, hw⟩ => ⟨by rw [he]; simp, by rw [hw]; exact below_drewN (Below.refl _ _) _⟩
theorem ccInts_sameP2 (w : World) (lo lo' : Nat) (A A' : Option Addr) (n c c' : Nat) (xs : List Int) (hn : xs.length = n) (h : Row w lo (.slice A n c) xs) (h' : Row w lo' (.slice A' n c') xs) :
    Calls Try.prog 14 #[.slice A n c, .slice A' n c'] w (RetB w true) := by
  subst hn; exact ccInts_sameP w lo lo' A A' c c' xs h h'
/-- What is live stays when only a cell that is not live has turned. -/
theorem live_keep {h h2 : Hp} {k : Nat} (hv : hvB h = true) (hv2 : hvB h2 = true) (hlen : h2.l.length = h.l.length) (ht : h2.t = h.t) (hk : (liveL h)[k]? = some false)
    (hl : ∀ c : Int, 0 ≤ c → c ≠ k → gd h2.l c = gd h.l c ∧ gd h2.r c = gd h.r c) : liveL h2 = liveL h := by
  obtain ⟨⟨hrl, _⟩, h3, h4, h5⟩ := hvB_parts hv
  obtain ⟨⟨hrl2, _⟩, h32, h42, h52⟩ := hvB_parts hv2
  have hg := live_get hv hk
  have hg' : ¬ (0 ≤ gd (dist h h.t) (k : Int)) := by simpa using hg.symm
  have pts : ∀ {g : Hp}, g.l.all (ptB · g.l.length) = true → g.r.all (ptB · g.l.length) = true → g.r.length = g.l.length → ∀ c : Int, plB c g.l.length = true → ∀ x, x = gd g.l c ∨ x = gd g.r c → x ≠ -1 → 0 ≤ x := @fun g a b e c hc x hx hne => by
    have hp : ptB x (g.l.length : Int) = true := by
      rcases hx with rfl | rfl
      · exact gd_all a hc
      · exact gd_all b (by rw [e]; exact hc)
    simp only [ptB, decide_eq_true_eq] at hp; omega
  obtain ⟨c1, c2⟩ := dist_closed hv h5
  obtain ⟨c12, c22⟩ := dist_closed hv2 h52
  have root0 : ∀ x ∈ h.t, x ≠ -1 → 0 ≤ x := fun x hx hne => by
    rw [List.all_eq_true] at h5
    have hp := h5 x hx
    simp only [ptB, decide_eq_true_eq] at hp; omega
  have s1 : ∀ c : Int, 0 ≤ c → 0 ≤ gd (dist h2 h2.t) c → 0 ≤ gd (dist h h.t) c := fun c h0 hc => (dist_least hv2 h52 (fun x => 0 ≤ x ∧ 0 ≤ gd (dist h h.t) x)
    (fun x hx hne => by rw [ht] at hx; exact ⟨root0 x hx hne, c1 x hx hne⟩)
    (fun y hy x hx hne => by
      have hyk : y ≠ k := fun e => hg' (e ▸ hy.2)
      obtain ⟨e1, e2⟩ := hl y hy.1 hyk
      rw [e1, e2] at hx
      have hpl := gd_plB hy.1 hy.2
      rw [dist_len] at hpl
      refine ⟨pts h3 h4 hrl y hpl x hx hne, ?_⟩
      rcases c2 y hy.1 hy.2 x hx hne with h9 | h9
      · exact h9
      · simp at h9) c h0 hc).2
  have s2 : ∀ c : Int, 0 ≤ c → 0 ≤ gd (dist h h.t) c → 0 ≤ gd (dist h2 h2.t) c := fun c h0 hc => (dist_least hv h5 (fun x => 0 ≤ x ∧ 0 ≤ gd (dist h2 h2.t) x)
    (fun x hx hne => ⟨root0 x hx hne, c12 x (by rw [ht]; exact hx) hne⟩)
    (fun y hy x hx hne => by
      have hyk : y ≠ k := fun e => hg' (e ▸ s1 y hy.1 hy.2)
      obtain ⟨e1, e2⟩ := hl y hy.1 hyk
      rw [← e1, ← e2] at hx
      have hpl := gd_plB hy.1 hy.2
      rw [dist_len] at hpl
      refine ⟨pts h32 h42 hrl2 y hpl x hx hne, ?_⟩
      rcases c22 y hy.1 hy.2 x hx hne with h9 | h9
      · exact h9
      · simp at h9) c h0 hc).2
  have hll : (liveL h2).length = (liveL h).length := by rw [liveL_len hv, liveL_len hv2, hlen]
  refine List.ext_getElem hll fun j hj1 hj2 => ?_
  rw [live_get hv2 (k := j) (List.getElem?_eq_getElem hj1), live_get hv (k := j) (List.getElem?_eq_getElem hj2)]
  by_cases h9 : 0 ≤ gd (dist h h.t) (j : Int)
  · simp [h9, s2 j (by omega) h9]
  · have h8 : ¬ (0 ≤ gd (dist h2 h2.t) (j : Int)) := fun e => h9 (s1 j (by omega) e)
    simp [h9, h8]
theorem gd_set_no {l : List Int} {k : Nat} {y c : Int} (h0 : 0 ≤ c) (hc : c ≠ k) : gd (l.set k y) c = gd l c := by
  have : k ≠ c.toNat := by omega
  simp [gd, List.getD, List.getElem?_set_ne this]
theorem gptr_facts {h : Hp} {y : Int} (hv : hvB h = true) (hy : y ∈ garb h) : ∃ h1 h2, putL h y y = some h1 ∧ putR h1 y 0 = some h2 ∧ liveL h2 = liveL h ∧ garb h2 = garb h := by
  unfold garb garbN at hy
  rw [List.mem_map] at hy
  obtain ⟨k, hk, rfl⟩ := hy
  rw [List.mem_filter, List.mem_range] at hk
  have hkl : k < (liveL h).length := hk.1
  have hkn := hkl
  rw [liveL_len hv] at hkn
  have hkf : (liveL h)[k]? = some false := by
    have h9 := hk.2
    rw [List.getElem?_eq_getElem hkl]
    simp [List.getD, List.getElem?_eq_getElem hkl] at h9
    rw [h9]
  obtain ⟨⟨hr, _⟩, _⟩ := hvB_parts hv
  have p1 : putL h k k = some ⟨h.l.set k k, h.r, h.t⟩ := by
    unfold putL
    rw [if_pos (by simp only [Bool.and_eq_true]; exact ⟨⟨hv, by simp [plB]; omega⟩, by simp [ptB]; omega⟩)]; simp
  have v1 := putL_valid p1
  have p2 : putR ⟨h.l.set k k, h.r, h.t⟩ k 0 = some ⟨h.l.set k k, h.r.set k 0, h.t⟩ := by
    unfold putR
    rw [if_pos (by simp only [Bool.and_eq_true]; exact ⟨⟨v1, by simp [plB]; omega⟩, by simp [ptB]; omega⟩)]; simp
  have v2 := putR_valid p2
  have hlive := live_keep hv v2 (by simp) rfl hkf (fun c h0 hc => ⟨gd_set_no h0 hc, gd_set_no h0 hc⟩)
  exact ⟨_, _, p1, p2, hlive, by unfold garb; rw [hlive]⟩

set_option maxRecDepth 100000 in
set_option maxHeartbeats 3000000 in
theorem lawGarbagePointers_walk (w : World) (A : Option Addr) (n c : Nat) (h : Inp w A n c) :
    Calls Try.prog 4 #[.slice A n c] w (LawTrue w) := by
  by_cases hbig : 1048576 < n
  · go_enter Try.func4, Try.ntmps4
    go_wp2_with fail
    go_ret
    exact ⟨rfl, Below.refl _ _⟩
  go_enter Try.func4, Try.ntmps4
  go_wp2_with fail
  refine (drawGarbageOf_any _ _ _ _ h).mono ?_; rintro e w1 ⟨v, hp, rfl, HA, hb1⟩
  have BW1 : Below w.heap.size w w1 := (Below.refl w.heap.size w).trans (hb1.mono (Below.refl w.heap.size w).size)
  have zz1 := hb1.size
  have I := fun W v hW => implGarb_any W w.heap.size v hp hW
  have S := fun W v hW => specGarb_any W w.heap.size v hp hW
  have HAo := HA
  obtain ⟨A0, n0, c0, A1, n1, c1, A2, n2, c2, rfl, ⟨r0, r1, r2⟩, ⟨l0, l1, l2⟩, _⟩ := HAo.open_
  have fb := garb_len hp
  by_cases hnil : garb hp = []
  · rw [hnil] at I S
    clear hnil fb r0 r1 r2
    go_wp2_with fail
    refine (I _ _ (HA.alloc (.cells #[.slice A0 n0 c0, .slice A1 n1 c1, .slice A2 n2 c2] 25))).mono ?_; rintro e w2 ⟨AR2, kR2, rfl, R2, hb2⟩
    have BW2 : Below w.heap.size w w2 := (BW1.alloc BW1.size (.cells #[.slice A0 n0 c0, .slice A1 n1 c1, .slice A2 n2 c2] 25)).trans (hb2.mono (BW1.alloc BW1.size (.cells #[.slice A0 n0 c0, .slice A1 n1 c1, .slice A2 n2 c2] 25)).size)
    have zz2 := hb2.size
    have HA_2 := Hv.below (by exact (HA.alloc (.cells #[.slice A0 n0 c0, .slice A1 n1 c1, .slice A2 n2 c2] 25))) hb2
    have X_2 := Blk3.below (by exact (Blk3.new w1 (.slice A0 n0 c0) (.slice A1 n1 c1) (.slice A2 n2 c2) 25)) hb2
    obtain ⟨cX_2_0, cX_2_1, cX_2_2, _⟩ := X_2.cells
    have lX_2 := X_2.lt
    go_wp2_with fail
    refine (S _ _ HA_2).mono ?_; rintro e w3 ⟨AR3, kR3, rfl, R3, hb3⟩
    have BW3 : Below w.heap.size w w3 := BW2.trans (hb3.mono BW2.size)
    have zz3 := hb3.size
    have HA_3 := Hv.below (by exact HA_2) hb3
    have X_3 := Blk3.below (by exact X_2) hb3
    obtain ⟨cX_3_0, cX_3_1, cX_3_2, _⟩ := X_3.cells
    have lX_3 := X_3.lt
    have R2_3 := Row.below (by exact R2) hb3
    go_wp2_with fail
    refine (ccInts_sameP _ _ _ _ _ _ _ [] R2_3 R3).mono ?_; rintro e w4 ⟨rfl, hb4⟩
    have BW4 : Below w.heap.size w w4 := BW3.trans (hb4.mono BW3.size)
    have zz4 := hb4.size
    have HA_4 := Hv.below (by exact HA_3) hb4
    have X_4 := Blk3.below (by exact X_3) hb4
    obtain ⟨cX_4_0, cX_4_1, cX_4_2, _⟩ := X_4.cells
    have lX_4 := X_4.lt
    have R2_4 := Row.below (by exact R2_3) hb4
    have R3_4 := Row.below (by exact R3) hb4
    go_wp2_with fail
    refine (S _ _ HA_4).mono ?_; rintro e w6 ⟨AR6, kR6, rfl, R6, hb6⟩
    have BW5 : Below w.heap.size w w6 := BW4.trans (hb6.mono BW4.size)
    have zz5 := hb6.size
    have HA_5 := Hv.below (by exact HA_4) hb6
    have X_5 := Blk3.below (by exact X_4) hb6
    obtain ⟨cX_5_0, cX_5_1, cX_5_2, _⟩ := X_5.cells
    have lX_5 := X_5.lt
    have R2_5 := Row.below (by exact R2_4) hb6
    go_wp2_with fail
    refine (ccInts_sameP _ _ _ _ _ _ _ [] R2_5 R6).mono ?_; rintro e w7 ⟨rfl, hb7⟩
    have BW6 : Below w.heap.size w w7 := BW5.trans (hb7.mono BW5.size)
    have zz6 := hb7.size
    have HA_6 := Hv.below (by exact HA_5) hb7
    have X_6 := Blk3.below (by exact X_5) hb7
    obtain ⟨cX_6_0, cX_6_1, cX_6_2, _⟩ := X_6.cells
    have lX_6 := X_6.lt
    have R2_6 := Row.below (by exact R2_5) hb7
    have R6_6 := Row.below (by exact R6) hb7
    go_wp2_with fail
    go_ret
    exact ⟨rfl, BW6⟩
  · have hpos : 0 < (garb hp).length := List.length_pos_iff.2 hnil
    have hva : hvB hp = true := by
      rcases e : hvB hp
      · exact absurd (by unfold garb liveL; rw [e]; simp [garbN]) hnil
      · rfl
    have hkb := fun y (hy : y ∈ garb hp) => gptr_facts hva hy
    have J1 := fun W lo v (hW : Hv W lo v hp) y => implPutLeft_any W lo v hp hW y y
    have LC := fun W lo v (hW : Hv W lo v hp) => implLive_any W lo v hp hW
    generalize hgs : garb hp = gs at I S hpos fb hkb
    clear hgs hva hnil r0 r1 r2
    go_wp2_with fail
    refine (I _ _ (HA.alloc (.cells #[.slice A0 n0 c0, .slice A1 n1 c1, .slice A2 n2 c2] 25))).mono ?_; rintro e w2 ⟨AR2, kR2, rfl, R2, hb2⟩
    have BW2 : Below w.heap.size w w2 := (BW1.alloc BW1.size (.cells #[.slice A0 n0 c0, .slice A1 n1 c1, .slice A2 n2 c2] 25)).trans (hb2.mono (BW1.alloc BW1.size (.cells #[.slice A0 n0 c0, .slice A1 n1 c1, .slice A2 n2 c2] 25)).size)
    have zz2 := hb2.size
    have HA_2 := Hv.below (by exact (HA.alloc (.cells #[.slice A0 n0 c0, .slice A1 n1 c1, .slice A2 n2 c2] 25))) hb2
    have X_2 := Blk3.below (by exact (Blk3.new w1 (.slice A0 n0 c0) (.slice A1 n1 c1) (.slice A2 n2 c2) 25)) hb2
    obtain ⟨cX_2_0, cX_2_1, cX_2_2, _⟩ := X_2.cells
    have lX_2 := X_2.lt
    go_wp2_with fail
    refine (S _ _ HA_2).mono ?_; rintro e w3 ⟨AR3, kR3, rfl, R3, hb3⟩
    have BW3 : Below w.heap.size w w3 := BW2.trans (hb3.mono BW2.size)
    have zz3 := hb3.size
    have HA_3 := Hv.below (by exact HA_2) hb3
    have X_3 := Blk3.below (by exact X_2) hb3
    obtain ⟨cX_3_0, cX_3_1, cX_3_2, _⟩ := X_3.cells
    have lX_3 := X_3.lt
    have R2_3 := Row.below (by exact R2) hb3
    go_wp2_with fail
    refine (ccInts_sameP _ _ _ _ _ _ _ _ R2_3 R3).mono ?_; rintro e w4 ⟨rfl, hb4⟩
    have BW4 : Below w.heap.size w w4 := BW3.trans (hb4.mono BW3.size)
    have zz4 := hb4.size
    have HA_4 := Hv.below (by exact HA_3) hb4
    have X_4 := Blk3.below (by exact X_3) hb4
    obtain ⟨cX_4_0, cX_4_1, cX_4_2, _⟩ := X_4.cells
    have lX_4 := X_4.lt
    have R2_4 := Row.below (by exact R2_3) hb4
    have R3_4 := Row.below (by exact R3) hb4
    obtain ⟨g, y, rfl, _, hgw, hy, hcell, _⟩ := R2_4.get (k := 0) hpos
    obtain ⟨h1, h2, e1, e2, el, eg⟩ := hkb y (List.mem_of_getElem? hy.out)
    have K1 := fun W lo v (hW : Hv W lo v hp) => J1 W lo v hW y
    rw [e1] at K1
    have K2 := fun W lo v (hW : Hv W lo v h1) => implPutRight_any W lo v h1 hW y 0
    rw [e2] at K2
    have G2 := fun W lo v (hW : Hv W lo v h2) => implGarb_any W lo v h2 hW
    rw [eg] at G2
    have L2 := fun W lo v (hW : Hv W lo v h2) => implLive_any W lo v h2 hW
    rw [el] at L2
    have hcbd := cntB_bd (liveL hp)
    generalize cntB (liveL hp) = M at LC L2 hcbd
    have HAr := HA_4
    generalize hnx : gs.length = nx at *
    have HNX := Lib.hid hnx
    clear hnx
    have hnil2 : (((nx : Nat) : Int) == 0) = false := by simp; omega
    have hnb : (0 : Int) < (nx : Int) := by omega
    have G3 : ∀ W lo v, Hv W lo v h2 → Calls Try.prog 13 #[v] W (fun e w' => ∃ A c, e = .returned (.slice A nx c) ∧ Row w' W.heap.size (.slice A nx c) gs ∧ Below W.heap.size W w') := fun W lo v hW => by
      have h9 := G2 W lo v hW
      unfold NewRow at h9; rw [HNX.out] at h9; exact h9
    clear hkb hy e1 e2 el eg J1 I S HAr hcbd G2
    go_wp2_with fail
    have nbXa : w4.heap.size ≠ w1.heap.size := Nat.ne_of_gt (by exact lX_4)
    have nbc0a : w4.heap.size ≠ g := Nat.ne_of_gt (by exact hgw)
    go_region_held3 (fun w' => w'.cell? ⟨w1.heap.size, 0, none⟩ = some (.slice A0 n0 c0) ∧ w'.cell? ⟨w1.heap.size, 1, none⟩ = some (.slice A1 n1 c1) ∧ w'.cell? ⟨w1.heap.size, 2, none⟩ = some (.slice A2 n2 c2) ∧ w'.cell? ⟨g, 0, none⟩ = some (.int .i64 y))
      (((try dsimp only); (repeat' apply And.intro) <;> (with_reducible (first | exact cX_4_0 | exact cX_4_1 | exact cX_4_2 | exact hcell | exact cellD cX_4_0 | exact cellD cX_4_1 | exact cellD cX_4_2 | exact cellD hcell | exact cellD (cellA cX_4_0 _) | exact cellD (cellA cX_4_1 _) | exact cellD (cellA cX_4_2 _) | exact cellD (cellA hcell _) | exact yXa_0 | exact yXa_1 | exact yXa_2 | exact yc0a | exact cellA yXa_0 _ | exact cellA yXa_1 _ | exact cellA yXa_2 _ | exact cellA yc0a _ | (rw [World.cell?_setCell_far _ _ _ _ (by exact nbXa), World.cell?_setCell_far _ _ _ _ (by exact nbXa), World.cell?_setCell_far _ _ _ _ (by exact nbXa)]; first | exact yXa_0 | exact yXa_1 | exact yXa_2) | (rw [World.cell?_setCell_far _ _ _ _ (by exact nbc0a), World.cell?_setCell_far _ _ _ _ (by exact nbc0a), World.cell?_setCell_far _ _ _ _ (by exact nbc0a)]; first | exact yc0a)))))
      (first
        | (go_at_call 16; (with_reducible refine (K1 _ _ _ HA_4.drew).mono ?_); rintro e w5a ⟨v, rfl, hv5, hb5⟩; obtain ⟨hDa, D0, q0, j0, D1, q1, j1, D2, q2, j2, rfl, hb5a⟩ := opt_open hv5 hb5; have YXa := Blk3.below (by exact X_4) hb5a; obtain ⟨yXa_0, yXa_1, yXa_2, _⟩ := YXa.cells; have yc0a : w5a.cell? ⟨g, 0, none⟩ = some (.int .i64 y) := (hb5a.cell (p := ⟨g, 0, none⟩) (by exact hgw)).trans (by exact hcell))
        | (go_at_call 16; (with_reducible refine (K1 _ _ _ (HA_4.alloc (.cells #[.slice none 0 0, .slice none 0 0, .slice none 0 0] 25)).drew).mono ?_); rintro e w5a ⟨v, rfl, hv5, hb5⟩; obtain ⟨hDa, D0, q0, j0, D1, q1, j1, D2, q2, j2, rfl, hb5a⟩ := opt_open hv5 hb5; have YXa := Blk3.below (by exact X_4.alloc (.cells #[.slice none 0 0, .slice none 0 0, .slice none 0 0] 25)) hb5a; obtain ⟨yXa_0, yXa_1, yXa_2, _⟩ := YXa.cells; have yc0a : w5a.cell? ⟨g, 0, none⟩ = some (.int .i64 y) := (hb5a.cell (p := ⟨g, 0, none⟩) (lt_alloc hgw _)).trans (by exact cellA hcell _); have Z5a := Blk3.below (by exact Blk3.new w4 (.slice none 0 0) (.slice none 0 0) (.slice none 0 0) 25) hb5a; obtain ⟨zz0, zz1, zz2, zf0, zf1, zf2⟩ := Z5a.cells))
    · have B45a : Below w4.heap.size w4 w5a := (Below.refl _ _).drew.trans hb5a
      have B46a : Below w4.heap.size w4 (w5a.alloc (.cells #[.slice D0 q0 j0, .slice D1 q1 j1, .slice D2 q2 j2] 25)) := B45a.alloc B45a.size _
      have HP := hDa.alloc (.cells #[.slice D0 q0 j0, .slice D1 q1 j1, .slice D2 q2 j2] 25)
      have P := Blk3.new w5a (.slice D0 q0 j0) (.slice D1 q1 j1) (.slice D2 q2 j2) 25
      rename_i hHelda
      clear hHelda
      generalize (w5a.alloc (.cells #[.slice D0 q0 j0, .slice D1 q1 j1, .slice D2 q2 j2] 25)) = W6a at B46a HP P ⊢
      have BW5 : Below w.heap.size w W6a := BW4.trans (B46a.mono BW4.size)
      have zz5 := B46a.size
      have HA_5 := Hv.below (by exact HA_4) B46a
      have X_5 := Blk3.below (by exact X_4) B46a
      obtain ⟨cX_5_0, cX_5_1, cX_5_2, _⟩ := X_5.cells
      have lX_5 := X_5.lt
      have R2_5 := Row.below (by exact R2_4) B46a
      have hcell_5 : W6a.cell? ⟨g, 0, none⟩ = some (.int .i64 y) := (B46a.cell (p := ⟨g, 0, none⟩) (by exact hgw)).trans (by exact hcell)
      have hgw_5 : g < W6a.heap.size := Nat.lt_of_lt_of_le hgw B46a.size
      obtain ⟨cP_0, cP_1, cP_2, _⟩ := P.cells
      have lP := P.lt
      go_wp2_with fail
      have nbPb : W6a.heap.size ≠ w5a.heap.size := Nat.ne_of_gt (by exact lP)
      have nbc0b : W6a.heap.size ≠ g := Nat.ne_of_gt (by exact hgw_5)
      go_region_held3 (fun w' => w'.cell? ⟨w5a.heap.size, 0, none⟩ = some (.slice D0 q0 j0) ∧ w'.cell? ⟨w5a.heap.size, 1, none⟩ = some (.slice D1 q1 j1) ∧ w'.cell? ⟨w5a.heap.size, 2, none⟩ = some (.slice D2 q2 j2) ∧ w'.cell? ⟨g, 0, none⟩ = some (.int .i64 y))
        (((try dsimp only); (repeat' apply And.intro) <;> (with_reducible (first | exact cP_0 | exact cP_1 | exact cP_2 | exact hcell_5 | exact cellD cP_0 | exact cellD cP_1 | exact cellD cP_2 | exact cellD hcell_5 | exact cellD (cellA cP_0 _) | exact cellD (cellA cP_1 _) | exact cellD (cellA cP_2 _) | exact cellD (cellA hcell_5 _) | exact yPb_0 | exact yPb_1 | exact yPb_2 | exact yc0b | exact cellA yPb_0 _ | exact cellA yPb_1 _ | exact cellA yPb_2 _ | exact cellA yc0b _ | (rw [World.cell?_setCell_far _ _ _ _ (by exact nbPb), World.cell?_setCell_far _ _ _ _ (by exact nbPb), World.cell?_setCell_far _ _ _ _ (by exact nbPb)]; first | exact yPb_0 | exact yPb_1 | exact yPb_2) | (rw [World.cell?_setCell_far _ _ _ _ (by exact nbc0b), World.cell?_setCell_far _ _ _ _ (by exact nbc0b), World.cell?_setCell_far _ _ _ _ (by exact nbc0b)]; first | exact yc0b)))))
        (first
          | (go_at_call 17; (with_reducible refine (K2 _ _ _ HP.drew).mono ?_); rintro e w5b ⟨v, rfl, hv5, hb5⟩; obtain ⟨hDb, D0, q0, j0, D1, q1, j1, D2, q2, j2, rfl, hb5b⟩ := opt_open hv5 hb5; have YPb := Blk3.below (by exact P) hb5b; obtain ⟨yPb_0, yPb_1, yPb_2, _⟩ := YPb.cells; have yc0b : w5b.cell? ⟨g, 0, none⟩ = some (.int .i64 y) := (hb5b.cell (p := ⟨g, 0, none⟩) (by exact hgw_5)).trans (by exact hcell_5))
          | (go_at_call 17; (with_reducible refine (K2 _ _ _ (HP.alloc (.cells #[.slice none 0 0, .slice none 0 0, .slice none 0 0] 25)).drew).mono ?_); rintro e w5b ⟨v, rfl, hv5, hb5⟩; obtain ⟨hDb, D0, q0, j0, D1, q1, j1, D2, q2, j2, rfl, hb5b⟩ := opt_open hv5 hb5; have YPb := Blk3.below (by exact P.alloc (.cells #[.slice none 0 0, .slice none 0 0, .slice none 0 0] 25)) hb5b; obtain ⟨yPb_0, yPb_1, yPb_2, _⟩ := YPb.cells; have yc0b : w5b.cell? ⟨g, 0, none⟩ = some (.int .i64 y) := (hb5b.cell (p := ⟨g, 0, none⟩) (lt_alloc hgw_5 _)).trans (by exact cellA hcell_5 _); have Z5b := Blk3.below (by exact Blk3.new W6a (.slice none 0 0) (.slice none 0 0) (.slice none 0 0) 25) hb5b; obtain ⟨zz0, zz1, zz2, zf0, zf1, zf2⟩ := Z5b.cells))
      · have B45b : Below W6a.heap.size W6a w5b := (Below.refl _ _).drew.trans hb5b
        have B46b : Below W6a.heap.size W6a (w5b.alloc (.cells #[.slice D0 q0 j0, .slice D1 q1 j1, .slice D2 q2 j2] 25)) := B45b.alloc B45b.size _
        have HY := hDb.alloc (.cells #[.slice D0 q0 j0, .slice D1 q1 j1, .slice D2 q2 j2] 25)
        have Y := Blk3.new w5b (.slice D0 q0 j0) (.slice D1 q1 j1) (.slice D2 q2 j2) 25
        rename_i hHeldb
        clear hHeldb
        generalize (w5b.alloc (.cells #[.slice D0 q0 j0, .slice D1 q1 j1, .slice D2 q2 j2] 25)) = W6b at B46b HY Y ⊢
        have BW6 : Below w.heap.size w W6b := BW5.trans (B46b.mono BW5.size)
        have zz6 := B46b.size
        have HA_6 := Hv.below (by exact HA_5) B46b
        have X_6 := Blk3.below (by exact X_5) B46b
        obtain ⟨cX_6_0, cX_6_1, cX_6_2, _⟩ := X_6.cells
        have lX_6 := X_6.lt
        have R2_6 := Row.below (by exact R2_5) B46b
        have HP_6 := Hv.below (by exact HP) B46b
        have P_6 := Blk3.below (by exact P) B46b
        obtain ⟨cP_6_0, cP_6_1, cP_6_2, _⟩ := P_6.cells
        have lP_6 := P_6.lt
        have hcell_6 : W6b.cell? ⟨g, 0, none⟩ = some (.int .i64 y) := (B46b.cell (p := ⟨g, 0, none⟩) (by exact hgw_5)).trans (by exact hcell_5)
        have hgw_6 : g < W6b.heap.size := Nat.lt_of_lt_of_le hgw_5 B46b.size
        obtain ⟨cY_0, cY_1, cY_2, _⟩ := Y.cells
        have lY := Y.lt
        go_wp2_with fail
        go_region_held3 (fun w' => w'.cell? ⟨w5b.heap.size, 0, none⟩ = some (.slice D0 q0 j0) ∧ w'.cell? ⟨w5b.heap.size, 1, none⟩ = some (.slice D1 q1 j1) ∧ w'.cell? ⟨w5b.heap.size, 2, none⟩ = some (.slice D2 q2 j2) ∧ w'.cell? ⟨w1.heap.size, 0, none⟩ = some (.slice A0 n0 c0) ∧ w'.cell? ⟨w1.heap.size, 1, none⟩ = some (.slice A1 n1 c1) ∧ w'.cell? ⟨w1.heap.size, 2, none⟩ = some (.slice A2 n2 c2))
          (((try dsimp only); (repeat' apply And.intro) <;> (with_reducible (first | exact cX_10_2 | exact cX_10_1 | exact cX_10_0 | exact cY_10_2 | exact cY_10_1 | exact cY_10_0 | exact cX_9_2 | exact cX_9_1 | exact cX_9_0 | exact cY_9_2 | exact cY_9_1 | exact cY_9_0 | exact cX_8_2 | exact cX_8_1 | exact cX_8_0 | exact cY_8_2 | exact cY_8_1 | exact cY_8_0 | exact cX_7_2 | exact cX_7_1 | exact cX_7_0 | exact cY_7_2 | exact cY_7_1 | exact cY_7_0 | exact cellD cX_6_2 | exact cellD cX_6_1 | exact cellD cX_6_0 | exact cellD cY_2 | exact cellD cY_1 | exact cellD cY_0 | exact cX_6_2 | exact cX_6_1 | exact cX_6_0 | exact cY_2 | exact cY_1 | exact cY_0))))
          (first
            | (go_at_call 13; (with_reducible refine (G3 _ _ _ (HY.drew)).mono ?_); rintro e w9 ⟨A9, k9, rfl, R9, hb9⟩; have BW7 : Below w.heap.size w w9 := (Below.drew BW6).trans (hb9.mono (Below.drew BW6).size); have zz7 := hb9.size; have HA_7 := Hv.below (by exact (HA_6.drew)) hb9; have X_7 := Blk3.below (by exact (X_6.drew)) hb9; obtain ⟨cX_7_0, cX_7_1, cX_7_2, _⟩ := X_7.cells; have lX_7 := X_7.lt; have R2_7 := Row.below (by exact (R2_6.drew)) hb9; have HP_7 := Hv.below (by exact (HP_6.drew)) hb9; have P_7 := Blk3.below (by exact (P_6.drew)) hb9; obtain ⟨cP_7_0, cP_7_1, cP_7_2, _⟩ := P_7.cells; have lP_7 := P_7.lt; have HY_7 := Hv.below (by exact (HY.drew)) hb9; have Y_7 := Blk3.below (by exact (Y.drew)) hb9; obtain ⟨cY_7_0, cY_7_1, cY_7_2, _⟩ := Y_7.cells; have lY_7 := Y_7.lt)
            | (go_at_call 14; (with_reducible refine (ccInts_sameP2 _ _ _ _ _ _ _ _ _ HNX.out R9 R2_7).mono ?_); rintro e w10 ⟨rfl, hb10⟩; have BW8 : Below w.heap.size w w10 := BW7.trans (hb10.mono BW7.size); have zz8 := hb10.size; have HA_8 := Hv.below (by exact HA_7) hb10; have X_8 := Blk3.below (by exact X_7) hb10; obtain ⟨cX_8_0, cX_8_1, cX_8_2, _⟩ := X_8.cells; have lX_8 := X_8.lt; have R2_8 := Row.below (by exact R2_7) hb10; have HP_8 := Hv.below (by exact HP_7) hb10; have P_8 := Blk3.below (by exact P_7) hb10; obtain ⟨cP_8_0, cP_8_1, cP_8_2, _⟩ := P_8.cells; have lP_8 := P_8.lt; have HY_8 := Hv.below (by exact HY_7) hb10; have Y_8 := Blk3.below (by exact Y_7) hb10; obtain ⟨cY_8_0, cY_8_1, cY_8_2, _⟩ := Y_8.cells; have lY_8 := Y_8.lt; have R9_8 := Row.below (by exact R9) hb10)
            | (go_at_call 11; (with_reducible refine (L2 _ _ _ HY_8).mono ?_); rintro e w11 ⟨rfl, hb11⟩; have BW9 : Below w.heap.size w w11 := BW8.trans (hb11.mono BW8.size); have zz9 := hb11.size; have HA_9 := Hv.below (by exact HA_8) hb11; have X_9 := Blk3.below (by exact X_8) hb11; obtain ⟨cX_9_0, cX_9_1, cX_9_2, _⟩ := X_9.cells; have lX_9 := X_9.lt; have R2_9 := Row.below (by exact R2_8) hb11; have HP_9 := Hv.below (by exact HP_8) hb11; have P_9 := Blk3.below (by exact P_8) hb11; obtain ⟨cP_9_0, cP_9_1, cP_9_2, _⟩ := P_9.cells; have lP_9 := P_9.lt; have HY_9 := Hv.below (by exact HY_8) hb11; have Y_9 := Blk3.below (by exact Y_8) hb11; obtain ⟨cY_9_0, cY_9_1, cY_9_2, _⟩ := Y_9.cells; have lY_9 := Y_9.lt; have R9_9 := Row.below (by exact R9_8) hb11)
            | (go_at_call 11; (with_reducible refine (LC _ _ _ HA_9).mono ?_); rintro e w12 ⟨rfl, hb12⟩; have BW10 : Below w.heap.size w w12 := BW9.trans (hb12.mono BW9.size); have zz10 := hb12.size; have HA_10 := Hv.below (by exact HA_9) hb12; have X_10 := Blk3.below (by exact X_9) hb12; obtain ⟨cX_10_0, cX_10_1, cX_10_2, _⟩ := X_10.cells; have lX_10 := X_10.lt; have R2_10 := Row.below (by exact R2_9) hb12; have HP_10 := Hv.below (by exact HP_9) hb12; have P_10 := Blk3.below (by exact P_9) hb12; obtain ⟨cP_10_0, cP_10_1, cP_10_2, _⟩ := P_10.cells; have lP_10 := P_10.lt; have HY_10 := Hv.below (by exact HY_9) hb12; have Y_10 := Blk3.below (by exact Y_9) hb12; obtain ⟨cY_10_0, cY_10_1, cY_10_2, _⟩ := Y_10.cells; have lY_10 := Y_10.lt; have R9_10 := Row.below (by exact R9_9) hb12))
        rename_i hHeld1
        clear hHeld1
        go_wp2_with fail
        go_ret
        exact ⟨by simp, BW10⟩
      · have B45b : Below W6a.heap.size W6a w5b := ((Below.refl _ _).alloc (Nat.le_refl _) (.cells #[.slice none 0 0, .slice none 0 0, .slice none 0 0] 25)).drew.trans (hb5b.mono (by simp))
        have B46b : Below W6a.heap.size W6a (((w5b.setCell ⟨W6a.heap.size, 0, none⟩ (.slice D0 q0 j0)).setCell ⟨W6a.heap.size, 1, none⟩ (.slice D1 q1 j1)).setCell ⟨W6a.heap.size, 2, none⟩ (.slice D2 q2 j2)) := ((B45b.setCell (Nat.le_refl _) _).setCell (Nat.le_refl _) _).setCell (Nat.le_refl _) _
        have HY := hv_set3 (b := W6a.heap.size) hDb (by simp) (.slice D0 q0 j0) (.slice D1 q1 j1) (.slice D2 q2 j2)
        have Y := ((Z5b.set0 (.slice D0 q0 j0)).set1 (.slice D1 q1 j1)).set2 (.slice D2 q2 j2)
        rename_i hHeldb
        clear hHeldb zz0 zz1 zz2 zf0 zf1 zf2
        generalize (((w5b.setCell ⟨W6a.heap.size, 0, none⟩ (.slice D0 q0 j0)).setCell ⟨W6a.heap.size, 1, none⟩ (.slice D1 q1 j1)).setCell ⟨W6a.heap.size, 2, none⟩ (.slice D2 q2 j2)) = W6b at B46b HY Y ⊢
        have BW6 : Below w.heap.size w W6b := BW5.trans (B46b.mono BW5.size)
        have zz6 := B46b.size
        have HA_6 := Hv.below (by exact HA_5) B46b
        have X_6 := Blk3.below (by exact X_5) B46b
        obtain ⟨cX_6_0, cX_6_1, cX_6_2, _⟩ := X_6.cells
        have lX_6 := X_6.lt
        have R2_6 := Row.below (by exact R2_5) B46b
        have HP_6 := Hv.below (by exact HP) B46b
        have P_6 := Blk3.below (by exact P) B46b
        obtain ⟨cP_6_0, cP_6_1, cP_6_2, _⟩ := P_6.cells
        have lP_6 := P_6.lt
        have hcell_6 : W6b.cell? ⟨g, 0, none⟩ = some (.int .i64 y) := (B46b.cell (p := ⟨g, 0, none⟩) (by exact hgw_5)).trans (by exact hcell_5)
        have hgw_6 : g < W6b.heap.size := Nat.lt_of_lt_of_le hgw_5 B46b.size
        obtain ⟨cY_0, cY_1, cY_2, _⟩ := Y.cells
        have lY := Y.lt
        go_wp2_with fail
        go_region_held3 (fun w' => w'.cell? ⟨W6a.heap.size, 0, none⟩ = some (.slice D0 q0 j0) ∧ w'.cell? ⟨W6a.heap.size, 1, none⟩ = some (.slice D1 q1 j1) ∧ w'.cell? ⟨W6a.heap.size, 2, none⟩ = some (.slice D2 q2 j2) ∧ w'.cell? ⟨w1.heap.size, 0, none⟩ = some (.slice A0 n0 c0) ∧ w'.cell? ⟨w1.heap.size, 1, none⟩ = some (.slice A1 n1 c1) ∧ w'.cell? ⟨w1.heap.size, 2, none⟩ = some (.slice A2 n2 c2))
          (((try dsimp only); (repeat' apply And.intro) <;> (with_reducible (first | exact cX_10_2 | exact cX_10_1 | exact cX_10_0 | exact cY_10_2 | exact cY_10_1 | exact cY_10_0 | exact cX_9_2 | exact cX_9_1 | exact cX_9_0 | exact cY_9_2 | exact cY_9_1 | exact cY_9_0 | exact cX_8_2 | exact cX_8_1 | exact cX_8_0 | exact cY_8_2 | exact cY_8_1 | exact cY_8_0 | exact cX_7_2 | exact cX_7_1 | exact cX_7_0 | exact cY_7_2 | exact cY_7_1 | exact cY_7_0 | exact cellD cX_6_2 | exact cellD cX_6_1 | exact cellD cX_6_0 | exact cellD cY_2 | exact cellD cY_1 | exact cellD cY_0 | exact cX_6_2 | exact cX_6_1 | exact cX_6_0 | exact cY_2 | exact cY_1 | exact cY_0))))
          (first
            | (go_at_call 13; (with_reducible refine (G3 _ _ _ (HY.drew)).mono ?_); rintro e w9 ⟨A9, k9, rfl, R9, hb9⟩; have BW7 : Below w.heap.size w w9 := (Below.drew BW6).trans (hb9.mono (Below.drew BW6).size); have zz7 := hb9.size; have HA_7 := Hv.below (by exact (HA_6.drew)) hb9; have X_7 := Blk3.below (by exact (X_6.drew)) hb9; obtain ⟨cX_7_0, cX_7_1, cX_7_2, _⟩ := X_7.cells; have lX_7 := X_7.lt; have R2_7 := Row.below (by exact (R2_6.drew)) hb9; have HP_7 := Hv.below (by exact (HP_6.drew)) hb9; have P_7 := Blk3.below (by exact (P_6.drew)) hb9; obtain ⟨cP_7_0, cP_7_1, cP_7_2, _⟩ := P_7.cells; have lP_7 := P_7.lt; have HY_7 := Hv.below (by exact (HY.drew)) hb9; have Y_7 := Blk3.below (by exact (Y.drew)) hb9; obtain ⟨cY_7_0, cY_7_1, cY_7_2, _⟩ := Y_7.cells; have lY_7 := Y_7.lt)
            | (go_at_call 14; (with_reducible refine (ccInts_sameP2 _ _ _ _ _ _ _ _ _ HNX.out R9 R2_7).mono ?_); rintro e w10 ⟨rfl, hb10⟩; have BW8 : Below w.heap.size w w10 := BW7.trans (hb10.mono BW7.size); have zz8 := hb10.size; have HA_8 := Hv.below (by exact HA_7) hb10; have X_8 := Blk3.below (by exact X_7) hb10; obtain ⟨cX_8_0, cX_8_1, cX_8_2, _⟩ := X_8.cells; have lX_8 := X_8.lt; have R2_8 := Row.below (by exact R2_7) hb10; have HP_8 := Hv.below (by exact HP_7) hb10; have P_8 := Blk3.below (by exact P_7) hb10; obtain ⟨cP_8_0, cP_8_1, cP_8_2, _⟩ := P_8.cells; have lP_8 := P_8.lt; have HY_8 := Hv.below (by exact HY_7) hb10; have Y_8 := Blk3.below (by exact Y_7) hb10; obtain ⟨cY_8_0, cY_8_1, cY_8_2, _⟩ := Y_8.cells; have lY_8 := Y_8.lt; have R9_8 := Row.below (by exact R9) hb10)
            | (go_at_call 11; (with_reducible refine (L2 _ _ _ HY_8).mono ?_); rintro e w11 ⟨rfl, hb11⟩; have BW9 : Below w.heap.size w w11 := BW8.trans (hb11.mono BW8.size); have zz9 := hb11.size; have HA_9 := Hv.below (by exact HA_8) hb11; have X_9 := Blk3.below (by exact X_8) hb11; obtain ⟨cX_9_0, cX_9_1, cX_9_2, _⟩ := X_9.cells; have lX_9 := X_9.lt; have R2_9 := Row.below (by exact R2_8) hb11; have HP_9 := Hv.below (by exact HP_8) hb11; have P_9 := Blk3.below (by exact P_8) hb11; obtain ⟨cP_9_0, cP_9_1, cP_9_2, _⟩ := P_9.cells; have lP_9 := P_9.lt; have HY_9 := Hv.below (by exact HY_8) hb11; have Y_9 := Blk3.below (by exact Y_8) hb11; obtain ⟨cY_9_0, cY_9_1, cY_9_2, _⟩ := Y_9.cells; have lY_9 := Y_9.lt; have R9_9 := Row.below (by exact R9_8) hb11)
            | (go_at_call 11; (with_reducible refine (LC _ _ _ HA_9).mono ?_); rintro e w12 ⟨rfl, hb12⟩; have BW10 : Below w.heap.size w w12 := BW9.trans (hb12.mono BW9.size); have zz10 := hb12.size; have HA_10 := Hv.below (by exact HA_9) hb12; have X_10 := Blk3.below (by exact X_9) hb12; obtain ⟨cX_10_0, cX_10_1, cX_10_2, _⟩ := X_10.cells; have lX_10 := X_10.lt; have R2_10 := Row.below (by exact R2_9) hb12; have HP_10 := Hv.below (by exact HP_9) hb12; have P_10 := Blk3.below (by exact P_9) hb12; obtain ⟨cP_10_0, cP_10_1, cP_10_2, _⟩ := P_10.cells; have lP_10 := P_10.lt; have HY_10 := Hv.below (by exact HY_9) hb12; have Y_10 := Blk3.below (by exact Y_9) hb12; obtain ⟨cY_10_0, cY_10_1, cY_10_2, _⟩ := Y_10.cells; have lY_10 := Y_10.lt; have R9_10 := Row.below (by exact R9_9) hb12))
        rename_i hHeld1
        clear hHeld1
        go_wp2_with fail
        go_ret
        exact ⟨by simp, BW10⟩
    · have B45a : Below w4.heap.size w4 w5a := ((Below.refl _ _).alloc (Nat.le_refl _) (.cells #[.slice none 0 0, .slice none 0 0, .slice none 0 0] 25)).drew.trans (hb5a.mono (by simp))
      have B46a : Below w4.heap.size w4 (((w5a.setCell ⟨w4.heap.size, 0, none⟩ (.slice D0 q0 j0)).setCell ⟨w4.heap.size, 1, none⟩ (.slice D1 q1 j1)).setCell ⟨w4.heap.size, 2, none⟩ (.slice D2 q2 j2)) := ((B45a.setCell (Nat.le_refl _) _).setCell (Nat.le_refl _) _).setCell (Nat.le_refl _) _
      have HP := hv_set3 (b := w4.heap.size) hDa (by simp) (.slice D0 q0 j0) (.slice D1 q1 j1) (.slice D2 q2 j2)
      have P := ((Z5a.set0 (.slice D0 q0 j0)).set1 (.slice D1 q1 j1)).set2 (.slice D2 q2 j2)
      rename_i hHelda
      clear hHelda zz0 zz1 zz2 zf0 zf1 zf2
      generalize (((w5a.setCell ⟨w4.heap.size, 0, none⟩ (.slice D0 q0 j0)).setCell ⟨w4.heap.size, 1, none⟩ (.slice D1 q1 j1)).setCell ⟨w4.heap.size, 2, none⟩ (.slice D2 q2 j2)) = W6a at B46a HP P ⊢
      have BW5 : Below w.heap.size w W6a := BW4.trans (B46a.mono BW4.size)
      have zz5 := B46a.size
      have HA_5 := Hv.below (by exact HA_4) B46a
      have X_5 := Blk3.below (by exact X_4) B46a
      obtain ⟨cX_5_0, cX_5_1, cX_5_2, _⟩ := X_5.cells
      have lX_5 := X_5.lt
      have R2_5 := Row.below (by exact R2_4) B46a
      have hcell_5 : W6a.cell? ⟨g, 0, none⟩ = some (.int .i64 y) := (B46a.cell (p := ⟨g, 0, none⟩) (by exact hgw)).trans (by exact hcell)
      have hgw_5 : g < W6a.heap.size := Nat.lt_of_lt_of_le hgw B46a.size
      obtain ⟨cP_0, cP_1, cP_2, _⟩ := P.cells
      have lP := P.lt
      go_wp2_with fail
      have nbPb : W6a.heap.size ≠ w4.heap.size := Nat.ne_of_gt (by exact lP)
      have nbc0b : W6a.heap.size ≠ g := Nat.ne_of_gt (by exact hgw_5)
      go_region_held3 (fun w' => w'.cell? ⟨w4.heap.size, 0, none⟩ = some (.slice D0 q0 j0) ∧ w'.cell? ⟨w4.heap.size, 1, none⟩ = some (.slice D1 q1 j1) ∧ w'.cell? ⟨w4.heap.size, 2, none⟩ = some (.slice D2 q2 j2) ∧ w'.cell? ⟨g, 0, none⟩ = some (.int .i64 y))
        (((try dsimp only); (repeat' apply And.intro) <;> (with_reducible (first | exact cP_0 | exact cP_1 | exact cP_2 | exact hcell_5 | exact cellD cP_0 | exact cellD cP_1 | exact cellD cP_2 | exact cellD hcell_5 | exact cellD (cellA cP_0 _) | exact cellD (cellA cP_1 _) | exact cellD (cellA cP_2 _) | exact cellD (cellA hcell_5 _) | exact yPb_0 | exact yPb_1 | exact yPb_2 | exact yc0b | exact cellA yPb_0 _ | exact cellA yPb_1 _ | exact cellA yPb_2 _ | exact cellA yc0b _ | (rw [World.cell?_setCell_far _ _ _ _ (by exact nbPb), World.cell?_setCell_far _ _ _ _ (by exact nbPb), World.cell?_setCell_far _ _ _ _ (by exact nbPb)]; first | exact yPb_0 | exact yPb_1 | exact yPb_2) | (rw [World.cell?_setCell_far _ _ _ _ (by exact nbc0b), World.cell?_setCell_far _ _ _ _ (by exact nbc0b), World.cell?_setCell_far _ _ _ _ (by exact nbc0b)]; first | exact yc0b)))))
        (first
          | (go_at_call 17; (with_reducible refine (K2 _ _ _ HP.drew).mono ?_); rintro e w5b ⟨v, rfl, hv5, hb5⟩; obtain ⟨hDb, D0, q0, j0, D1, q1, j1, D2, q2, j2, rfl, hb5b⟩ := opt_open hv5 hb5; have YPb := Blk3.below (by exact P) hb5b; obtain ⟨yPb_0, yPb_1, yPb_2, _⟩ := YPb.cells; have yc0b : w5b.cell? ⟨g, 0, none⟩ = some (.int .i64 y) := (hb5b.cell (p := ⟨g, 0, none⟩) (by exact hgw_5)).trans (by exact hcell_5))
          | (go_at_call 17; (with_reducible refine (K2 _ _ _ (HP.alloc (.cells #[.slice none 0 0, .slice none 0 0, .slice none 0 0] 25)).drew).mono ?_); rintro e w5b ⟨v, rfl, hv5, hb5⟩; obtain ⟨hDb, D0, q0, j0, D1, q1, j1, D2, q2, j2, rfl, hb5b⟩ := opt_open hv5 hb5; have YPb := Blk3.below (by exact P.alloc (.cells #[.slice none 0 0, .slice none 0 0, .slice none 0 0] 25)) hb5b; obtain ⟨yPb_0, yPb_1, yPb_2, _⟩ := YPb.cells; have yc0b : w5b.cell? ⟨g, 0, none⟩ = some (.int .i64 y) := (hb5b.cell (p := ⟨g, 0, none⟩) (lt_alloc hgw_5 _)).trans (by exact cellA hcell_5 _); have Z5b := Blk3.below (by exact Blk3.new W6a (.slice none 0 0) (.slice none 0 0) (.slice none 0 0) 25) hb5b; obtain ⟨zz0, zz1, zz2, zf0, zf1, zf2⟩ := Z5b.cells))
      · have B45b : Below W6a.heap.size W6a w5b := (Below.refl _ _).drew.trans hb5b
        have B46b : Below W6a.heap.size W6a (w5b.alloc (.cells #[.slice D0 q0 j0, .slice D1 q1 j1, .slice D2 q2 j2] 25)) := B45b.alloc B45b.size _
        have HY := hDb.alloc (.cells #[.slice D0 q0 j0, .slice D1 q1 j1, .slice D2 q2 j2] 25)
        have Y := Blk3.new w5b (.slice D0 q0 j0) (.slice D1 q1 j1) (.slice D2 q2 j2) 25
        rename_i hHeldb
        clear hHeldb
        generalize (w5b.alloc (.cells #[.slice D0 q0 j0, .slice D1 q1 j1, .slice D2 q2 j2] 25)) = W6b at B46b HY Y ⊢
        have BW6 : Below w.heap.size w W6b := BW5.trans (B46b.mono BW5.size)
        have zz6 := B46b.size
        have HA_6 := Hv.below (by exact HA_5) B46b
        have X_6 := Blk3.below (by exact X_5) B46b
        obtain ⟨cX_6_0, cX_6_1, cX_6_2, _⟩ := X_6.cells
        have lX_6 := X_6.lt
        have R2_6 := Row.below (by exact R2_5) B46b
        have HP_6 := Hv.below (by exact HP) B46b
        have P_6 := Blk3.below (by exact P) B46b
        obtain ⟨cP_6_0, cP_6_1, cP_6_2, _⟩ := P_6.cells
        have lP_6 := P_6.lt
        have hcell_6 : W6b.cell? ⟨g, 0, none⟩ = some (.int .i64 y) := (B46b.cell (p := ⟨g, 0, none⟩) (by exact hgw_5)).trans (by exact hcell_5)
        have hgw_6 : g < W6b.heap.size := Nat.lt_of_lt_of_le hgw_5 B46b.size
        obtain ⟨cY_0, cY_1, cY_2, _⟩ := Y.cells
        have lY := Y.lt
        go_wp2_with fail
        go_region_held3 (fun w' => w'.cell? ⟨w5b.heap.size, 0, none⟩ = some (.slice D0 q0 j0) ∧ w'.cell? ⟨w5b.heap.size, 1, none⟩ = some (.slice D1 q1 j1) ∧ w'.cell? ⟨w5b.heap.size, 2, none⟩ = some (.slice D2 q2 j2) ∧ w'.cell? ⟨w1.heap.size, 0, none⟩ = some (.slice A0 n0 c0) ∧ w'.cell? ⟨w1.heap.size, 1, none⟩ = some (.slice A1 n1 c1) ∧ w'.cell? ⟨w1.heap.size, 2, none⟩ = some (.slice A2 n2 c2))
          (((try dsimp only); (repeat' apply And.intro) <;> (with_reducible (first | exact cX_10_2 | exact cX_10_1 | exact cX_10_0 | exact cY_10_2 | exact cY_10_1 | exact cY_10_0 | exact cX_9_2 | exact cX_9_1 | exact cX_9_0 | exact cY_9_2 | exact cY_9_1 | exact cY_9_0 | exact cX_8_2 | exact cX_8_1 | exact cX_8_0 | exact cY_8_2 | exact cY_8_1 | exact cY_8_0 | exact cX_7_2 | exact cX_7_1 | exact cX_7_0 | exact cY_7_2 | exact cY_7_1 | exact cY_7_0 | exact cellD cX_6_2 | exact cellD cX_6_1 | exact cellD cX_6_0 | exact cellD cY_2 | exact cellD cY_1 | exact cellD cY_0 | exact cX_6_2 | exact cX_6_1 | exact cX_6_0 | exact cY_2 | exact cY_1 | exact cY_0))))
          (first
            | (go_at_call 13; (with_reducible refine (G3 _ _ _ (HY.drew)).mono ?_); rintro e w9 ⟨A9, k9, rfl, R9, hb9⟩; have BW7 : Below w.heap.size w w9 := (Below.drew BW6).trans (hb9.mono (Below.drew BW6).size); have zz7 := hb9.size; have HA_7 := Hv.below (by exact (HA_6.drew)) hb9; have X_7 := Blk3.below (by exact (X_6.drew)) hb9; obtain ⟨cX_7_0, cX_7_1, cX_7_2, _⟩ := X_7.cells; have lX_7 := X_7.lt; have R2_7 := Row.below (by exact (R2_6.drew)) hb9; have HP_7 := Hv.below (by exact (HP_6.drew)) hb9; have P_7 := Blk3.below (by exact (P_6.drew)) hb9; obtain ⟨cP_7_0, cP_7_1, cP_7_2, _⟩ := P_7.cells; have lP_7 := P_7.lt; have HY_7 := Hv.below (by exact (HY.drew)) hb9; have Y_7 := Blk3.below (by exact (Y.drew)) hb9; obtain ⟨cY_7_0, cY_7_1, cY_7_2, _⟩ := Y_7.cells; have lY_7 := Y_7.lt)
            | (go_at_call 14; (with_reducible refine (ccInts_sameP2 _ _ _ _ _ _ _ _ _ HNX.out R9 R2_7).mono ?_); rintro e w10 ⟨rfl, hb10⟩; have BW8 : Below w.heap.size w w10 := BW7.trans (hb10.mono BW7.size); have zz8 := hb10.size; have HA_8 := Hv.below (by exact HA_7) hb10; have X_8 := Blk3.below (by exact X_7) hb10; obtain ⟨cX_8_0, cX_8_1, cX_8_2, _⟩ := X_8.cells; have lX_8 := X_8.lt; have R2_8 := Row.below (by exact R2_7) hb10; have HP_8 := Hv.below (by exact HP_7) hb10; have P_8 := Blk3.below (by exact P_7) hb10; obtain ⟨cP_8_0, cP_8_1, cP_8_2, _⟩ := P_8.cells; have lP_8 := P_8.lt; have HY_8 := Hv.below (by exact HY_7) hb10; have Y_8 := Blk3.below (by exact Y_7) hb10; obtain ⟨cY_8_0, cY_8_1, cY_8_2, _⟩ := Y_8.cells; have lY_8 := Y_8.lt; have R9_8 := Row.below (by exact R9) hb10)
            | (go_at_call 11; (with_reducible refine (L2 _ _ _ HY_8).mono ?_); rintro e w11 ⟨rfl, hb11⟩; have BW9 : Below w.heap.size w w11 := BW8.trans (hb11.mono BW8.size); have zz9 := hb11.size; have HA_9 := Hv.below (by exact HA_8) hb11; have X_9 := Blk3.below (by exact X_8) hb11; obtain ⟨cX_9_0, cX_9_1, cX_9_2, _⟩ := X_9.cells; have lX_9 := X_9.lt; have R2_9 := Row.below (by exact R2_8) hb11; have HP_9 := Hv.below (by exact HP_8) hb11; have P_9 := Blk3.below (by exact P_8) hb11; obtain ⟨cP_9_0, cP_9_1, cP_9_2, _⟩ := P_9.cells; have lP_9 := P_9.lt; have HY_9 := Hv.below (by exact HY_8) hb11; have Y_9 := Blk3.below (by exact Y_8) hb11; obtain ⟨cY_9_0, cY_9_1, cY_9_2, _⟩ := Y_9.cells; have lY_9 := Y_9.lt; have R9_9 := Row.below (by exact R9_8) hb11)
            | (go_at_call 11; (with_reducible refine (LC _ _ _ HA_9).mono ?_); rintro e w12 ⟨rfl, hb12⟩; have BW10 : Below w.heap.size w w12 := BW9.trans (hb12.mono BW9.size); have zz10 := hb12.size; have HA_10 := Hv.below (by exact HA_9) hb12; have X_10 := Blk3.below (by exact X_9) hb12; obtain ⟨cX_10_0, cX_10_1, cX_10_2, _⟩ := X_10.cells; have lX_10 := X_10.lt; have R2_10 := Row.below (by exact R2_9) hb12; have HP_10 := Hv.below (by exact HP_9) hb12; have P_10 := Blk3.below (by exact P_9) hb12; obtain ⟨cP_10_0, cP_10_1, cP_10_2, _⟩ := P_10.cells; have lP_10 := P_10.lt; have HY_10 := Hv.below (by exact HY_9) hb12; have Y_10 := Blk3.below (by exact Y_9) hb12; obtain ⟨cY_10_0, cY_10_1, cY_10_2, _⟩ := Y_10.cells; have lY_10 := Y_10.lt; have R9_10 := Row.below (by exact R9_9) hb12))
        rename_i hHeld1
        clear hHeld1
        go_wp2_with fail
        go_ret
        exact ⟨by simp, BW10⟩
      · have B45b : Below W6a.heap.size W6a w5b := ((Below.refl _ _).alloc (Nat.le_refl _) (.cells #[.slice none 0 0, .slice none 0 0, .slice none 0 0] 25)).drew.trans (hb5b.mono (by simp))
        have B46b : Below W6a.heap.size W6a (((w5b.setCell ⟨W6a.heap.size, 0, none⟩ (.slice D0 q0 j0)).setCell ⟨W6a.heap.size, 1, none⟩ (.slice D1 q1 j1)).setCell ⟨W6a.heap.size, 2, none⟩ (.slice D2 q2 j2)) := ((B45b.setCell (Nat.le_refl _) _).setCell (Nat.le_refl _) _).setCell (Nat.le_refl _) _
        have HY := hv_set3 (b := W6a.heap.size) hDb (by simp) (.slice D0 q0 j0) (.slice D1 q1 j1) (.slice D2 q2 j2)
        have Y := ((Z5b.set0 (.slice D0 q0 j0)).set1 (.slice D1 q1 j1)).set2 (.slice D2 q2 j2)
        rename_i hHeldb
        clear hHeldb zz0 zz1 zz2 zf0 zf1 zf2
        generalize (((w5b.setCell ⟨W6a.heap.size, 0, none⟩ (.slice D0 q0 j0)).setCell ⟨W6a.heap.size, 1, none⟩ (.slice D1 q1 j1)).setCell ⟨W6a.heap.size, 2, none⟩ (.slice D2 q2 j2)) = W6b at B46b HY Y ⊢
        have BW6 : Below w.heap.size w W6b := BW5.trans (B46b.mono BW5.size)
        have zz6 := B46b.size
        have HA_6 := Hv.below (by exact HA_5) B46b
        have X_6 := Blk3.below (by exact X_5) B46b
        obtain ⟨cX_6_0, cX_6_1, cX_6_2, _⟩ := X_6.cells
        have lX_6 := X_6.lt
        have R2_6 := Row.below (by exact R2_5) B46b
        have HP_6 := Hv.below (by exact HP) B46b
        have P_6 := Blk3.below (by exact P) B46b
        obtain ⟨cP_6_0, cP_6_1, cP_6_2, _⟩ := P_6.cells
        have lP_6 := P_6.lt
        have hcell_6 : W6b.cell? ⟨g, 0, none⟩ = some (.int .i64 y) := (B46b.cell (p := ⟨g, 0, none⟩) (by exact hgw_5)).trans (by exact hcell_5)
        have hgw_6 : g < W6b.heap.size := Nat.lt_of_lt_of_le hgw_5 B46b.size
        obtain ⟨cY_0, cY_1, cY_2, _⟩ := Y.cells
        have lY := Y.lt
        go_wp2_with fail
        go_region_held3 (fun w' => w'.cell? ⟨W6a.heap.size, 0, none⟩ = some (.slice D0 q0 j0) ∧ w'.cell? ⟨W6a.heap.size, 1, none⟩ = some (.slice D1 q1 j1) ∧ w'.cell? ⟨W6a.heap.size, 2, none⟩ = some (.slice D2 q2 j2) ∧ w'.cell? ⟨w1.heap.size, 0, none⟩ = some (.slice A0 n0 c0) ∧ w'.cell? ⟨w1.heap.size, 1, none⟩ = some (.slice A1 n1 c1) ∧ w'.cell? ⟨w1.heap.size, 2, none⟩ = some (.slice A2 n2 c2))
          (((try dsimp only); (repeat' apply And.intro) <;> (with_reducible (first | exact cX_10_2 | exact cX_10_1 | exact cX_10_0 | exact cY_10_2 | exact cY_10_1 | exact cY_10_0 | exact cX_9_2 | exact cX_9_1 | exact cX_9_0 | exact cY_9_2 | exact cY_9_1 | exact cY_9_0 | exact cX_8_2 | exact cX_8_1 | exact cX_8_0 | exact cY_8_2 | exact cY_8_1 | exact cY_8_0 | exact cX_7_2 | exact cX_7_1 | exact cX_7_0 | exact cY_7_2 | exact cY_7_1 | exact cY_7_0 | exact cellD cX_6_2 | exact cellD cX_6_1 | exact cellD cX_6_0 | exact cellD cY_2 | exact cellD cY_1 | exact cellD cY_0 | exact cX_6_2 | exact cX_6_1 | exact cX_6_0 | exact cY_2 | exact cY_1 | exact cY_0))))
          (first
            | (go_at_call 13; (with_reducible refine (G3 _ _ _ (HY.drew)).mono ?_); rintro e w9 ⟨A9, k9, rfl, R9, hb9⟩; have BW7 : Below w.heap.size w w9 := (Below.drew BW6).trans (hb9.mono (Below.drew BW6).size); have zz7 := hb9.size; have HA_7 := Hv.below (by exact (HA_6.drew)) hb9; have X_7 := Blk3.below (by exact (X_6.drew)) hb9; obtain ⟨cX_7_0, cX_7_1, cX_7_2, _⟩ := X_7.cells; have lX_7 := X_7.lt; have R2_7 := Row.below (by exact (R2_6.drew)) hb9; have HP_7 := Hv.below (by exact (HP_6.drew)) hb9; have P_7 := Blk3.below (by exact (P_6.drew)) hb9; obtain ⟨cP_7_0, cP_7_1, cP_7_2, _⟩ := P_7.cells; have lP_7 := P_7.lt; have HY_7 := Hv.below (by exact (HY.drew)) hb9; have Y_7 := Blk3.below (by exact (Y.drew)) hb9; obtain ⟨cY_7_0, cY_7_1, cY_7_2, _⟩ := Y_7.cells; have lY_7 := Y_7.lt)
            | (go_at_call 14; (with_reducible refine (ccInts_sameP2 _ _ _ _ _ _ _ _ _ HNX.out R9 R2_7).mono ?_); rintro e w10 ⟨rfl, hb10⟩; have BW8 : Below w.heap.size w w10 := BW7.trans (hb10.mono BW7.size); have zz8 := hb10.size; have HA_8 := Hv.below (by exact HA_7) hb10; have X_8 := Blk3.below (by exact X_7) hb10; obtain ⟨cX_8_0, cX_8_1, cX_8_2, _⟩ := X_8.cells; have lX_8 := X_8.lt; have R2_8 := Row.below (by exact R2_7) hb10; have HP_8 := Hv.below (by exact HP_7) hb10; have P_8 := Blk3.below (by exact P_7) hb10; obtain ⟨cP_8_0, cP_8_1, cP_8_2, _⟩ := P_8.cells; have lP_8 := P_8.lt; have HY_8 := Hv.below (by exact HY_7) hb10; have Y_8 := Blk3.below (by exact Y_7) hb10; obtain ⟨cY_8_0, cY_8_1, cY_8_2, _⟩ := Y_8.cells; have lY_8 := Y_8.lt; have R9_8 := Row.below (by exact R9) hb10)
            | (go_at_call 11; (with_reducible refine (L2 _ _ _ HY_8).mono ?_); rintro e w11 ⟨rfl, hb11⟩; have BW9 : Below w.heap.size w w11 := BW8.trans (hb11.mono BW8.size); have zz9 := hb11.size; have HA_9 := Hv.below (by exact HA_8) hb11; have X_9 := Blk3.below (by exact X_8) hb11; obtain ⟨cX_9_0, cX_9_1, cX_9_2, _⟩ := X_9.cells; have lX_9 := X_9.lt; have R2_9 := Row.below (by exact R2_8) hb11; have HP_9 := Hv.below (by exact HP_8) hb11; have P_9 := Blk3.below (by exact P_8) hb11; obtain ⟨cP_9_0, cP_9_1, cP_9_2, _⟩ := P_9.cells; have lP_9 := P_9.lt; have HY_9 := Hv.below (by exact HY_8) hb11; have Y_9 := Blk3.below (by exact Y_8) hb11; obtain ⟨cY_9_0, cY_9_1, cY_9_2, _⟩ := Y_9.cells; have lY_9 := Y_9.lt; have R9_9 := Row.below (by exact R9_8) hb11)
            | (go_at_call 11; (with_reducible refine (LC _ _ _ HA_9).mono ?_); rintro e w12 ⟨rfl, hb12⟩; have BW10 : Below w.heap.size w w12 := BW9.trans (hb12.mono BW9.size); have zz10 := hb12.size; have HA_10 := Hv.below (by exact HA_9) hb12; have X_10 := Blk3.below (by exact X_9) hb12; obtain ⟨cX_10_0, cX_10_1, cX_10_2, _⟩ := X_10.cells; have lX_10 := X_10.lt; have R2_10 := Row.below (by exact R2_9) hb12; have HP_10 := Hv.below (by exact HP_9) hb12; have P_10 := Blk3.below (by exact P_9) hb12; obtain ⟨cP_10_0, cP_10_1, cP_10_2, _⟩ := P_10.cells; have lP_10 := P_10.lt; have HY_10 := Hv.below (by exact HY_9) hb12; have Y_10 := Blk3.below (by exact Y_9) hb12; obtain ⟨cY_10_0, cY_10_1, cY_10_2, _⟩ := Y_10.cells; have lY_10 := Y_10.lt; have R9_10 := Row.below (by exact R9_9) hb12))
        rename_i hHeld1
        clear hHeld1
        go_wp2_with fail
        go_ret
        exact ⟨by simp, BW10⟩
end Go.Proofs.Ythagchhegljphaa
