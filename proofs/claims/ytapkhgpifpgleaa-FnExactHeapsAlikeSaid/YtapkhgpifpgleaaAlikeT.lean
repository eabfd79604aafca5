/- spec's HeapsAlike. -/
import Derived.Test.YtapkhgpifpgleaaCopyT
namespace Go.Proofs.Ytapkhgpifpgleaa
open Go.RowKit

theorem alike_no1 {a b : Hp} (ha : hvB a = true) (hb : hvB b = true) {k : Nat} {u v : Int} (hu : a.t[k]? = some u) (hv : b.t[k]? = some v) (hne : ren (at_ (order a)) u ≠ ren (at_ (order b)) v) : alikeB a b = false := by
  rw [Bool.eq_false_iff]; intro h
  have h9 := congrArg (fun x => x[k]?) ((alike_parts ha hb).1 h).2.1
  simp [hu, hv] at h9
  exact hne h9
theorem alike_no2 {a b : Hp} (ha : hvB a = true) (hb : hvB b = true) {k : Nat} {c d : Int} (hu : (order a)[k]? = some c) (hv : (order b)[k]? = some d) (hne : ren (at_ (order a)) (gd a.l c) ≠ ren (at_ (order b)) (gd b.l d)) : alikeB a b = false := by
  rw [Bool.eq_false_iff]; intro h
  have h9 := congrArg (fun x => x[k]?) ((alike_parts ha hb).1 h).2.2.1
  simp only [shL_get hu, shL_get hv, Option.some.injEq] at h9
  exact hne h9
theorem alike_no3 {a b : Hp} (ha : hvB a = true) (hb : hvB b = true) {k : Nat} {c d : Int} (hu : (order a)[k]? = some c) (hv : (order b)[k]? = some d) (hne : ren (at_ (order a)) (gd a.r c) ≠ ren (at_ (order b)) (gd b.r d)) : alikeB a b = false := by
  rw [Bool.eq_false_iff]; intro h
  have h9 := congrArg (fun x => x[k]?) ((alike_parts ha hb).1 h).2.2.2
  simp only [shL_get hu, shL_get hv, Option.some.injEq] at h9
  exact hne h9
theorem alike_no0 {a b : Hp} (ha : hvB a = true) (hb : hvB b = true) (hne : ¬ ((order a).length = (order b).length ∧ a.t.length = b.t.length)) : alikeB a b = false := by
  rw [Bool.eq_false_iff]; intro h
  exact hne ((alike_parts ha hb).1 h).1
theorem list_ext2 {xs ys : List Int} (hl : xs.length = ys.length) (h : ∀ (k : Nat) (u v : Int), xs[k]? = some u → ys[k]? = some v → u = v) : xs = ys := by
  apply List.ext_getElem hl
  intro k h1 h2
  exact h k _ _ (List.getElem?_eq_getElem h1) (List.getElem?_eq_getElem h2)
theorem alike_yes {a b : Hp} (ha : hvB a = true) (hb : hvB b = true) (hl : (order a).length = (order b).length) (ht : a.t.length = b.t.length)
    (h1 : ∀ (k : Nat) (u v : Int), a.t[k]? = some u → b.t[k]? = some v → ren (at_ (order a)) u = ren (at_ (order b)) v)
    (h2 : ∀ (k : Nat) (c d : Int), (order a)[k]? = some c → (order b)[k]? = some d → ren (at_ (order a)) (gd a.l c) = ren (at_ (order b)) (gd b.l d) ∧ ren (at_ (order a)) (gd a.r c) = ren (at_ (order b)) (gd b.r d)) : alikeB a b = true := by
  refine (alike_parts ha hb).2 ⟨⟨hl, ht⟩, ?_, ?_, ?_⟩
  · refine list_ext2 (by simpa using ht) (fun k u v hu hv => ?_)
    rw [List.getElem?_map, Option.map_eq_some_iff] at hu hv
    obtain ⟨u', hu, rfl⟩ := hu
    obtain ⟨v', hv, rfl⟩ := hv
    exact h1 k u' v' hu hv
  · refine list_ext2 (by rw [shL_len, shL_len]; exact hl) (fun k u v hu hv => ?_)
    unfold shL at hu hv
    rw [List.getElem?_map, Option.map_eq_some_iff] at hu hv
    obtain ⟨u', hu, rfl⟩ := hu
    obtain ⟨v', hv, rfl⟩ := hv
    exact (h2 k u' v' hu hv).1
  · refine list_ext2 (by rw [shL_len, shL_len]; exact hl) (fun k u v hu hv => ?_)
    unfold shL at hu hv
    rw [List.getElem?_map, Option.map_eq_some_iff] at hu hv
    obtain ⟨u', hu, rfl⟩ := hu
    obtain ⟨v', hv, rfl⟩ := hv
    exact (h2 k u' v' hu hv).2
theorem Row.cellAtK {w : World} {lo g n c : Nat} {xs : List Int} {k : Nat} {x : Int} (h : Row w lo (.slice (some ⟨g, 0, none⟩) n c) xs) (hx : xs[k]? = some x) : w.cell? ⟨g, k, none⟩ = some (.int .i64 x) := by
  obtain ⟨g', y, e, _, _, hy, hc, _⟩ := h.get (k := k) ((List.getElem?_eq_some_iff.1 hx).1)
  obtain rfl : g = g' := by simpa using e
  have := hy.out; rw [hx] at this
  rw [hc]; simp at this; rw [this]

set_option maxRecDepth 100000 in
set_option maxHeartbeats 4000000 in
theorem specAlike_any (w : World) (lo lo' : Nat) (v v' : Value) (a b : Hp) (hv : Hv w lo v a) (hv' : Hv w lo' v' b) : Calls Try.prog 24 #[v, v'] w (RetB w (alikeB a b)) := by
  have hvo := hv
  have hvo' := hv'
  obtain ⟨A0, n0, c0, A1, n1, c1, A2, n2, c2, rfl, ⟨r0, r1, r2⟩, ⟨l0, l1, l2⟩, _⟩ := hvo.open_
  obtain ⟨B0, m0, d0, B1, m1, d1, B2, m2, d2, rfl, ⟨s0, s1, s2⟩, ⟨k0, k1, k2⟩, _⟩ := hvo'.open_
  go_enter Try.func24, Try.ntmps24
  have Y0 := (Blk3.new_at (w := w.alloc (.cells #[.slice A0 n0 c0, .slice A1 n1 c1, .slice A2 n2 c2] 27)) (b := w.heap.size + 1) (by simp) (.slice B0 m0 d0) (.slice B1 m1 d1) (.slice B2 m2 d2) 27)
  obtain ⟨cY0_0, cY0_1, cY0_2, _⟩ := Y0.cells
  rcases ea : hvB a
  · have hr : alikeB a b = false := by unfold alikeB; rw [ea]; simp
    rw [hr]
    have Va := specHeapValid_any _ _ _ _ ((hv.alloc (.cells #[.slice A0 n0 c0, .slice A1 n1 c1, .slice A2 n2 c2] 27)).alloc (.cells #[.slice B0 m0 d0, .slice B1 m1 d1, .slice B2 m2 d2] 27))
    rw [ea] at Va
    go_wp2_with fail
    refine (Va).mono ?_; rintro e w1 ⟨rfl, hb1⟩
    have BW1 : Below w.heap.size w w1 := (((Below.refl w.heap.size w).alloc (Below.refl w.heap.size w).size (.cells #[.slice A0 n0 c0, .slice A1 n1 c1, .slice A2 n2 c2] 27)).alloc ((Below.refl w.heap.size w).alloc (Below.refl w.heap.size w).size (.cells #[.slice A0 n0 c0, .slice A1 n1 c1, .slice A2 n2 c2] 27)).size (.cells #[.slice B0 m0 d0, .slice B1 m1 d1, .slice B2 m2 d2] 27)).trans (hb1.mono (((Below.refl w.heap.size w).alloc (Below.refl w.heap.size w).size (.cells #[.slice A0 n0 c0, .slice A1 n1 c1, .slice A2 n2 c2] 27)).alloc ((Below.refl w.heap.size w).alloc (Below.refl w.heap.size w).size (.cells #[.slice A0 n0 c0, .slice A1 n1 c1, .slice A2 n2 c2] 27)).size (.cells #[.slice B0 m0 d0, .slice B1 m1 d1, .slice B2 m2 d2] 27)).size)
    have zz1 := hb1.size
    have HA_1 := Hv.below (by exact ((hv.alloc (.cells #[.slice A0 n0 c0, .slice A1 n1 c1, .slice A2 n2 c2] 27)).alloc (.cells #[.slice B0 m0 d0, .slice B1 m1 d1, .slice B2 m2 d2] 27))) hb1
    have HB_1 := Hv.below (by exact ((hv'.alloc (.cells #[.slice A0 n0 c0, .slice A1 n1 c1, .slice A2 n2 c2] 27)).alloc (.cells #[.slice B0 m0 d0, .slice B1 m1 d1, .slice B2 m2 d2] 27))) hb1
    have R0_1 := Row.below (by exact ((r0.alloc (.cells #[.slice A0 n0 c0, .slice A1 n1 c1, .slice A2 n2 c2] 27)).alloc (.cells #[.slice B0 m0 d0, .slice B1 m1 d1, .slice B2 m2 d2] 27))) hb1
    have R1_1 := Row.below (by exact ((r1.alloc (.cells #[.slice A0 n0 c0, .slice A1 n1 c1, .slice A2 n2 c2] 27)).alloc (.cells #[.slice B0 m0 d0, .slice B1 m1 d1, .slice B2 m2 d2] 27))) hb1
    have R2_1 := Row.below (by exact ((r2.alloc (.cells #[.slice A0 n0 c0, .slice A1 n1 c1, .slice A2 n2 c2] 27)).alloc (.cells #[.slice B0 m0 d0, .slice B1 m1 d1, .slice B2 m2 d2] 27))) hb1
    have S0_1 := Row.below (by exact ((s0.alloc (.cells #[.slice A0 n0 c0, .slice A1 n1 c1, .slice A2 n2 c2] 27)).alloc (.cells #[.slice B0 m0 d0, .slice B1 m1 d1, .slice B2 m2 d2] 27))) hb1
    have S1_1 := Row.below (by exact ((s1.alloc (.cells #[.slice A0 n0 c0, .slice A1 n1 c1, .slice A2 n2 c2] 27)).alloc (.cells #[.slice B0 m0 d0, .slice B1 m1 d1, .slice B2 m2 d2] 27))) hb1
    have S2_1 := Row.below (by exact ((s2.alloc (.cells #[.slice A0 n0 c0, .slice A1 n1 c1, .slice A2 n2 c2] 27)).alloc (.cells #[.slice B0 m0 d0, .slice B1 m1 d1, .slice B2 m2 d2] 27))) hb1
    have X_1 := Blk3.below (by exact ((Blk3.new w (.slice A0 n0 c0) (.slice A1 n1 c1) (.slice A2 n2 c2) 27).alloc (.cells #[.slice B0 m0 d0, .slice B1 m1 d1, .slice B2 m2 d2] 27))) hb1
    obtain ⟨cX_1_0, cX_1_1, cX_1_2, _⟩ := X_1.cells
    have lX_1 := X_1.lt
    have Y_1 := Blk3.below (by exact Y0) hb1
    obtain ⟨cY_1_0, cY_1_1, cY_1_2, _⟩ := Y_1.cells
    have lY_1 := Y_1.lt
    go_wp2_with fail
    go_ret
    exact ⟨rfl, BW1⟩
  · rcases eb : hvB b
    · have hr : alikeB a b = false := by unfold alikeB; rw [eb]; simp
      rw [hr]
      have Va := specHeapValid_any _ _ _ _ ((hv.alloc (.cells #[.slice A0 n0 c0, .slice A1 n1 c1, .slice A2 n2 c2] 27)).alloc (.cells #[.slice B0 m0 d0, .slice B1 m1 d1, .slice B2 m2 d2] 27))
      rw [ea] at Va
      go_wp2_with fail
      refine (Va).mono ?_; rintro e w1 ⟨rfl, hb1⟩
      have BW1 : Below w.heap.size w w1 := (((Below.refl w.heap.size w).alloc (Below.refl w.heap.size w).size (.cells #[.slice A0 n0 c0, .slice A1 n1 c1, .slice A2 n2 c2] 27)).alloc ((Below.refl w.heap.size w).alloc (Below.refl w.heap.size w).size (.cells #[.slice A0 n0 c0, .slice A1 n1 c1, .slice A2 n2 c2] 27)).size (.cells #[.slice B0 m0 d0, .slice B1 m1 d1, .slice B2 m2 d2] 27)).trans (hb1.mono (((Below.refl w.heap.size w).alloc (Below.refl w.heap.size w).size (.cells #[.slice A0 n0 c0, .slice A1 n1 c1, .slice A2 n2 c2] 27)).alloc ((Below.refl w.heap.size w).alloc (Below.refl w.heap.size w).size (.cells #[.slice A0 n0 c0, .slice A1 n1 c1, .slice A2 n2 c2] 27)).size (.cells #[.slice B0 m0 d0, .slice B1 m1 d1, .slice B2 m2 d2] 27)).size)
      have zz1 := hb1.size
      have HA_1 := Hv.below (by exact ((hv.alloc (.cells #[.slice A0 n0 c0, .slice A1 n1 c1, .slice A2 n2 c2] 27)).alloc (.cells #[.slice B0 m0 d0, .slice B1 m1 d1, .slice B2 m2 d2] 27))) hb1
      have HB_1 := Hv.below (by exact ((hv'.alloc (.cells #[.slice A0 n0 c0, .slice A1 n1 c1, .slice A2 n2 c2] 27)).alloc (.cells #[.slice B0 m0 d0, .slice B1 m1 d1, .slice B2 m2 d2] 27))) hb1
      have R0_1 := Row.below (by exact ((r0.alloc (.cells #[.slice A0 n0 c0, .slice A1 n1 c1, .slice A2 n2 c2] 27)).alloc (.cells #[.slice B0 m0 d0, .slice B1 m1 d1, .slice B2 m2 d2] 27))) hb1
      have R1_1 := Row.below (by exact ((r1.alloc (.cells #[.slice A0 n0 c0, .slice A1 n1 c1, .slice A2 n2 c2] 27)).alloc (.cells #[.slice B0 m0 d0, .slice B1 m1 d1, .slice B2 m2 d2] 27))) hb1
      have R2_1 := Row.below (by exact ((r2.alloc (.cells #[.slice A0 n0 c0, .slice A1 n1 c1, .slice A2 n2 c2] 27)).alloc (.cells #[.slice B0 m0 d0, .slice B1 m1 d1, .slice B2 m2 d2] 27))) hb1
      have S0_1 := Row.below (by exact ((s0.alloc (.cells #[.slice A0 n0 c0, .slice A1 n1 c1, .slice A2 n2 c2] 27)).alloc (.cells #[.slice B0 m0 d0, .slice B1 m1 d1, .slice B2 m2 d2] 27))) hb1
      have S1_1 := Row.below (by exact ((s1.alloc (.cells #[.slice A0 n0 c0, .slice A1 n1 c1, .slice A2 n2 c2] 27)).alloc (.cells #[.slice B0 m0 d0, .slice B1 m1 d1, .slice B2 m2 d2] 27))) hb1
      have S2_1 := Row.below (by exact ((s2.alloc (.cells #[.slice A0 n0 c0, .slice A1 n1 c1, .slice A2 n2 c2] 27)).alloc (.cells #[.slice B0 m0 d0, .slice B1 m1 d1, .slice B2 m2 d2] 27))) hb1
      have X_1 := Blk3.below (by exact ((Blk3.new w (.slice A0 n0 c0) (.slice A1 n1 c1) (.slice A2 n2 c2) 27).alloc (.cells #[.slice B0 m0 d0, .slice B1 m1 d1, .slice B2 m2 d2] 27))) hb1
      obtain ⟨cX_1_0, cX_1_1, cX_1_2, _⟩ := X_1.cells
      have lX_1 := X_1.lt
      have Y_1 := Blk3.below (by exact Y0) hb1
      obtain ⟨cY_1_0, cY_1_1, cY_1_2, _⟩ := Y_1.cells
      have lY_1 := Y_1.lt
      have Vb := specHeapValid_any _ _ _ _ HB_1
      rw [eb] at Vb
      go_wp2_with fail
      refine (Vb).mono ?_; rintro e w2 ⟨rfl, hb2⟩
      have BW2 : Below w.heap.size w w2 := BW1.trans (hb2.mono BW1.size)
      have zz2 := hb2.size
      have HA_2 := Hv.below (by exact HA_1) hb2
      have HB_2 := Hv.below (by exact HB_1) hb2
      have R0_2 := Row.below (by exact R0_1) hb2
      have R1_2 := Row.below (by exact R1_1) hb2
      have R2_2 := Row.below (by exact R2_1) hb2
      have S0_2 := Row.below (by exact S0_1) hb2
      have S1_2 := Row.below (by exact S1_1) hb2
      have S2_2 := Row.below (by exact S2_1) hb2
      have X_2 := Blk3.below (by exact X_1) hb2
      obtain ⟨cX_2_0, cX_2_1, cX_2_2, _⟩ := X_2.cells
      have lX_2 := X_2.lt
      have Y_2 := Blk3.below (by exact Y_1) hb2
      obtain ⟨cY_2_0, cY_2_1, cY_2_2, _⟩ := Y_2.cells
      have lY_2 := Y_2.lt
      go_wp2_with fail
      go_ret
      exact ⟨rfl, BW2⟩
    · have N0 := Lib.hid (alike_no0 ea eb)
      have N1 := Lib.hid (fun (k : Nat) (u v : Int) (hu : a.t[k]? = some u) (hv : b.t[k]? = some v) h => alike_no1 ea eb hu hv h)
      have N2 := Lib.hid (fun (k : Nat) (c d : Int) (hu : (order a)[k]? = some c) (hv : (order b)[k]? = some d) h => alike_no2 ea eb hu hv h)
      have N3 := Lib.hid (fun (k : Nat) (c d : Int) (hu : (order a)[k]? = some c) (hv : (order b)[k]? = some d) h => alike_no3 ea eb hu hv h)
      have YS := Lib.hid (alike_yes ea eb)
      have CA := Lib.hid (fun (k : Nat) (c : Int) (hc : (order a)[k]? = some c) => order_cell ea (List.mem_of_getElem? hc))
      have CB := Lib.hid (fun (k : Nat) (c : Int) (hc : (order b)[k]? = some c) => order_cell eb (List.mem_of_getElem? hc))
      have h8 := hvB_len ea
      have h8b := hvB_len eb
      have ola := order_len ea
      have olb := order_len eb
      have Va := specHeapValid_any _ _ _ _ ((hv.alloc (.cells #[.slice A0 n0 c0, .slice A1 n1 c1, .slice A2 n2 c2] 27)).alloc (.cells #[.slice B0 m0 d0, .slice B1 m1 d1, .slice B2 m2 d2] 27))
      rw [ea] at Va
      go_wp2_with fail
      refine (Va).mono ?_; rintro e w1 ⟨rfl, hb1⟩
      have BW1 : Below w.heap.size w w1 := (((Below.refl w.heap.size w).alloc (Below.refl w.heap.size w).size (.cells #[.slice A0 n0 c0, .slice A1 n1 c1, .slice A2 n2 c2] 27)).alloc ((Below.refl w.heap.size w).alloc (Below.refl w.heap.size w).size (.cells #[.slice A0 n0 c0, .slice A1 n1 c1, .slice A2 n2 c2] 27)).size (.cells #[.slice B0 m0 d0, .slice B1 m1 d1, .slice B2 m2 d2] 27)).trans (hb1.mono (((Below.refl w.heap.size w).alloc (Below.refl w.heap.size w).size (.cells #[.slice A0 n0 c0, .slice A1 n1 c1, .slice A2 n2 c2] 27)).alloc ((Below.refl w.heap.size w).alloc (Below.refl w.heap.size w).size (.cells #[.slice A0 n0 c0, .slice A1 n1 c1, .slice A2 n2 c2] 27)).size (.cells #[.slice B0 m0 d0, .slice B1 m1 d1, .slice B2 m2 d2] 27)).size)
      have zz1 := hb1.size
      have HA_1 := Hv.below (by exact ((hv.alloc (.cells #[.slice A0 n0 c0, .slice A1 n1 c1, .slice A2 n2 c2] 27)).alloc (.cells #[.slice B0 m0 d0, .slice B1 m1 d1, .slice B2 m2 d2] 27))) hb1
      have HB_1 := Hv.below (by exact ((hv'.alloc (.cells #[.slice A0 n0 c0, .slice A1 n1 c1, .slice A2 n2 c2] 27)).alloc (.cells #[.slice B0 m0 d0, .slice B1 m1 d1, .slice B2 m2 d2] 27))) hb1
      have R0_1 := Row.below (by exact ((r0.alloc (.cells #[.slice A0 n0 c0, .slice A1 n1 c1, .slice A2 n2 c2] 27)).alloc (.cells #[.slice B0 m0 d0, .slice B1 m1 d1, .slice B2 m2 d2] 27))) hb1
      have R1_1 := Row.below (by exact ((r1.alloc (.cells #[.slice A0 n0 c0, .slice A1 n1 c1, .slice A2 n2 c2] 27)).alloc (.cells #[.slice B0 m0 d0, .slice B1 m1 d1, .slice B2 m2 d2] 27))) hb1
      have R2_1 := Row.below (by exact ((r2.alloc (.cells #[.slice A0 n0 c0, .slice A1 n1 c1, .slice A2 n2 c2] 27)).alloc (.cells #[.slice B0 m0 d0, .slice B1 m1 d1, .slice B2 m2 d2] 27))) hb1
      have S0_1 := Row.below (by exact ((s0.alloc (.cells #[.slice A0 n0 c0, .slice A1 n1 c1, .slice A2 n2 c2] 27)).alloc (.cells #[.slice B0 m0 d0, .slice B1 m1 d1, .slice B2 m2 d2] 27))) hb1
      have S1_1 := Row.below (by exact ((s1.alloc (.cells #[.slice A0 n0 c0, .slice A1 n1 c1, .slice A2 n2 c2] 27)).alloc (.cells #[.slice B0 m0 d0, .slice B1 m1 d1, .slice B2 m2 d2] 27))) hb1
      have S2_1 := Row.below (by exact ((s2.alloc (.cells #[.slice A0 n0 c0, .slice A1 n1 c1, .slice A2 n2 c2] 27)).alloc (.cells #[.slice B0 m0 d0, .slice B1 m1 d1, .slice B2 m2 d2] 27))) hb1
      have X_1 := Blk3.below (by exact ((Blk3.new w (.slice A0 n0 c0) (.slice A1 n1 c1) (.slice A2 n2 c2) 27).alloc (.cells #[.slice B0 m0 d0, .slice B1 m1 d1, .slice B2 m2 d2] 27))) hb1
      obtain ⟨cX_1_0, cX_1_1, cX_1_2, _⟩ := X_1.cells
      have lX_1 := X_1.lt
      have Y_1 := Blk3.below (by exact Y0) hb1
      obtain ⟨cY_1_0, cY_1_1, cY_1_2, _⟩ := Y_1.cells
      have lY_1 := Y_1.lt
      have Vb := specHeapValid_any _ _ _ _ HB_1
      rw [eb] at Vb
      go_wp2_with fail
      refine (Vb).mono ?_; rintro e w2 ⟨rfl, hb2⟩
      have BW2 : Below w.heap.size w w2 := BW1.trans (hb2.mono BW1.size)
      have zz2 := hb2.size
      have HA_2 := Hv.below (by exact HA_1) hb2
      have HB_2 := Hv.below (by exact HB_1) hb2
      have R0_2 := Row.below (by exact R0_1) hb2
      have R1_2 := Row.below (by exact R1_1) hb2
      have R2_2 := Row.below (by exact R2_1) hb2
      have S0_2 := Row.below (by exact S0_1) hb2
      have S1_2 := Row.below (by exact S1_1) hb2
      have S2_2 := Row.below (by exact S2_1) hb2
      have X_2 := Blk3.below (by exact X_1) hb2
      obtain ⟨cX_2_0, cX_2_1, cX_2_2, _⟩ := X_2.cells
      have lX_2 := X_2.lt
      have Y_2 := Blk3.below (by exact Y_1) hb2
      obtain ⟨cY_2_0, cY_2_1, cY_2_2, _⟩ := Y_2.cells
      have lY_2 := Y_2.lt
      have O1 := fun W lo v hW => l10Order_any W lo v a hW ea
      have O2 := fun W lo v hW => l10Order_any W lo v b hW eb
      clear Va Vb ea eb
      generalize order a = xs at O1 N0 N1 N2 N3 YS CA ola
      generalize order b = ys at O2 N0 N1 N2 N3 YS CB olb
      go_wp2_with fail
      refine (O1 _ _ _ HA_2).mono ?_; rintro e w3 ⟨ARX, kRX, rfl, RX, hb3⟩
      have BW3 : Below w.heap.size w w3 := BW2.trans (hb3.mono BW2.size)
      have zz3 := hb3.size
      have HA_3 := Hv.below (by exact HA_2) hb3
      have HB_3 := Hv.below (by exact HB_2) hb3
      have R0_3 := Row.below (by exact R0_2) hb3
      have R1_3 := Row.below (by exact R1_2) hb3
      have R2_3 := Row.below (by exact R2_2) hb3
      have S0_3 := Row.below (by exact S0_2) hb3
      have S1_3 := Row.below (by exact S1_2) hb3
      have S2_3 := Row.below (by exact S2_2) hb3
      have X_3 := Blk3.below (by exact X_2) hb3
      obtain ⟨cX_3_0, cX_3_1, cX_3_2, _⟩ := X_3.cells
      have lX_3 := X_3.lt
      have Y_3 := Blk3.below (by exact Y_2) hb3
      obtain ⟨cY_3_0, cY_3_1, cY_3_2, _⟩ := Y_3.cells
      have lY_3 := Y_3.lt
      go_wp2_with fail
      refine (O2 _ _ _ HB_3).mono ?_; rintro e w4 ⟨ARY, kRY, rfl, RY, hb4⟩
      have BW4 : Below w.heap.size w w4 := BW3.trans (hb4.mono BW3.size)
      have zz4 := hb4.size
      have HA_4 := Hv.below (by exact HA_3) hb4
      have HB_4 := Hv.below (by exact HB_3) hb4
      have R0_4 := Row.below (by exact R0_3) hb4
      have R1_4 := Row.below (by exact R1_3) hb4
      have R2_4 := Row.below (by exact R2_3) hb4
      have S0_4 := Row.below (by exact S0_3) hb4
      have S1_4 := Row.below (by exact S1_3) hb4
      have S2_4 := Row.below (by exact S2_3) hb4
      have X_4 := Blk3.below (by exact X_3) hb4
      obtain ⟨cX_4_0, cX_4_1, cX_4_2, _⟩ := X_4.cells
      have lX_4 := X_4.lt
      have Y_4 := Blk3.below (by exact Y_3) hb4
      obtain ⟨cY_4_0, cY_4_1, cY_4_2, _⟩ := Y_4.cells
      have lY_4 := Y_4.lt
      have RX_4 := Row.below (by exact RX) hb4
      have hl0 := l0.out
      have hl1 := l1.out
      have hl2 := l2.out
      have hk0 := k0.out
      have hk1 := k1.out
      have hk2 := k2.out
      obtain ⟨nx, hnx⟩ : ∃ nx, nx = xs.length := ⟨_, rfl⟩
      obtain ⟨ny, hny⟩ : ∃ ny, ny = ys.length := ⟨_, rfl⟩
      rw [← hnx] at RX_4 ola ⊢
      rw [← hny] at RY olb ⊢
      have HXL : Hid (xs.length = nx) := hnx.symm
      have HYL : Hid (ys.length = ny) := hny.symm
      have x8 : nx ≤ 8 := by omega
      have y8 : ny ≤ 8 := by omega
      have hm1n : n0 ≤ n1 := by omega
      have hm1m : m0 ≤ m1 := by omega
      have nn8 : n0 ≤ 8 ∧ n2 ≤ 3 ∧ m0 ≤ 8 ∧ m2 ≤ 3 := by omega
      by_cases hxy : nx = ny
      · subst hxy
        have hq1 : ((nx : Int) != (nx : Int)) = false := by simp
        by_cases hrt : n2 = m2
        · subst hrt
          have hq2 : ((n2 : Int) != (n2 : Int)) = false := by simp
          clear hl0 hl1 hl2 hk0 hk1 hk2 hnx hny h8 h8b ola olb N0
          go_wp2_with fail
          have h63 : nx ≤ 9223372036854775807 := by omega
          go_loopw [7] (fun i wr => ∃ k : Nat, k ≤ n2 ∧ i = .int .i64 k ∧ Hid (∀ (q : Nat) (u v : Int), q < k → a.t[q]? = some u → b.t[q]? = some v → ren (at_ xs) u = ren (at_ ys) v) ∧ Below w4.heap.size w4 wr) (fun i _ => n2 - (intOf i).toNat)
          case atStart => exact ⟨0, Nat.zero_le _, rfl, fun q u v hq => absurd hq (Nat.not_lt_zero _), Below.refl _ _⟩
          case round =>
            obtain ⟨k, hk, rfl, HI, hbr⟩ := hrel
            have BR := BW4.trans (hbr.mono BW4.size)
            have RX9 := Row.below (by exact RX_4) hbr
            have RY9 := Row.below (by exact RY) hbr
            have X9 := Blk3.below (by exact X_4) hbr
            have Y9 := Blk3.below (by exact Y_4) hbr
            have R09 := Row.below (by exact R0_4) hbr
            have R19 := Row.below (by exact R1_4) hbr
            have R29 := Row.below (by exact R2_4) hbr
            have S09 := Row.below (by exact S0_4) hbr
            have S19 := Row.below (by exact S1_4) hbr
            have S29 := Row.below (by exact S2_4) hbr
            obtain ⟨px0, px1, px2, _⟩ := X9.cells
            obtain ⟨py0, py1, py2, _⟩ := Y9.cells
            have lX9 := X9.lt
            have lY9 := Y9.lt
            by_cases hlt : k < n2
            · obtain ⟨g1, u, e1, _, _, hu, hcu, _⟩ := R29.get (k := k) (by rw [l2.out]; exact hlt)
              cases e1
              obtain ⟨g2, v, e2, _, _, hv, hcv, _⟩ := S29.get (k := k) (by rw [k2.out]; exact hlt)
              cases e2
              by_cases heq : ren (at_ xs) u = ren (at_ ys) v
              · have hne : (ren (at_ xs) u != ren (at_ ys) v) = false := by simpa using heq
                have HI2 : Hid (∀ (q : Nat) (u v : Int), q < k + 1 → a.t[q]? = some u → b.t[q]? = some v → ren (at_ xs) u = ren (at_ ys) v) := fun q u' v' hq hu' hv' => by
                  by_cases hqk : q < k
                  · exact HI.out q u' v' hqk hu' hv'
                  · obtain rfl : q = k := by omega
                    have h9 := hu.out; rw [hu'] at h9; have h8 := hv.out; rw [hv'] at h8
                    cases h9; cases h8; exact heq
                clear hu hv heq HI
                go_wp2_with fail
                go_region_held3 (fun w' => w'.cell? ⟨w.heap.size, 2, none⟩ = some (.slice (some ⟨g1, 0, none⟩) n2 c2) ∧ w'.cell? ⟨(w.heap.size + 1), 2, none⟩ = some (.slice (some ⟨g2, 0, none⟩) n2 d2) ∧ w'.cell? ⟨g1, k, none⟩ = some (.int .i64 u) ∧ w'.cell? ⟨g2, k, none⟩ = some (.int .i64 v))
                  (((try dsimp only); (repeat' apply And.intro) <;> (with_reducible (first | exact px0 | exact cellD px0 | exact px1 | exact cellD px1 | exact px2 | exact cellD px2 | exact py0 | exact cellD py0 | exact py1 | exact cellD py1 | exact py2 | exact cellD py2 | exact hcu | exact cellD hcu | exact hcv | exact cellD hcv))))
                  (first
                    | (go_at_call 45; (with_reducible refine (l10To_any _ _ _ _ _ _ (Row.drew RX9) HXL h63 u).mono ?_); rintro e w9 ⟨rfl, rfl⟩)
                    | (go_at_call 45; (with_reducible refine (l10To_any _ _ _ _ _ _ (RX9) HXL h63 u).mono ?_); rintro e w9 ⟨rfl, rfl⟩)
                    | (go_at_call 45; (with_reducible refine (l10To_any _ _ _ _ _ _ (Row.drew RY9) HYL h63 v).mono ?_); rintro e w9 ⟨rfl, rfl⟩)
                    | (go_at_call 45; (with_reducible refine (l10To_any _ _ _ _ _ _ (RY9) HYL h63 v).mono ?_); rintro e w9 ⟨rfl, rfl⟩))
                try rename_i hHeld
                try clear hHeld
                go_wp2_with fail
                go_roundw
                case rel => exact ⟨k + 1, by omega, by go_num, HI2, by first | exact hbr | exact Below.drew hbr | exact below_drewN hbr _⟩
                case measure => simp [intOf]; omega
              · have hne : (ren (at_ xs) u != ren (at_ ys) v) = true := by simpa using heq
                have hr := Lib.hid <| N1.out k u v hu.out hv.out heq
                clear hu hv heq HI N1 N2 N3 YS
                go_wp2_with fail
                go_region_held3 (fun w' => w'.cell? ⟨w.heap.size, 2, none⟩ = some (.slice (some ⟨g1, 0, none⟩) n2 c2) ∧ w'.cell? ⟨(w.heap.size + 1), 2, none⟩ = some (.slice (some ⟨g2, 0, none⟩) n2 d2) ∧ w'.cell? ⟨g1, k, none⟩ = some (.int .i64 u) ∧ w'.cell? ⟨g2, k, none⟩ = some (.int .i64 v))
                  (((try dsimp only); (repeat' apply And.intro) <;> (with_reducible (first | exact px0 | exact cellD px0 | exact px1 | exact cellD px1 | exact px2 | exact cellD px2 | exact py0 | exact cellD py0 | exact py1 | exact cellD py1 | exact py2 | exact cellD py2 | exact hcu | exact cellD hcu | exact hcv | exact cellD hcv))))
                  (first
                    | (go_at_call 45; (with_reducible refine (l10To_any _ _ _ _ _ _ (Row.drew RX9) HXL h63 u).mono ?_); rintro e w9 ⟨rfl, rfl⟩)
                    | (go_at_call 45; (with_reducible refine (l10To_any _ _ _ _ _ _ (RX9) HXL h63 u).mono ?_); rintro e w9 ⟨rfl, rfl⟩)
                    | (go_at_call 45; (with_reducible refine (l10To_any _ _ _ _ _ _ (Row.drew RY9) HYL h63 v).mono ?_); rintro e w9 ⟨rfl, rfl⟩)
                    | (go_at_call 45; (with_reducible refine (l10To_any _ _ _ _ _ _ (RY9) HYL h63 v).mono ?_); rintro e w9 ⟨rfl, rfl⟩))
                try rename_i hHeld
                try clear hHeld
                go_wp2_with fail
                go_ret
                exact ⟨ret_bool hr.out.symm, by first | exact BR | exact Below.drew BR | exact below_drewN BR _⟩
            · obtain rfl : n2 = k := by omega
              have HT : Hid (∀ (q : Nat) (u v : Int), a.t[q]? = some u → b.t[q]? = some v → ren (at_ xs) u = ren (at_ ys) v) := fun q u v hu hv => HI.out q u v (by have := (List.getElem?_eq_some_iff.1 hu).1; have := l2.out; omega) hu hv
              clear HI N1 R29 S29 hlt
              go_wp2_with fail
              rename_i wp _
              go_loopw [8] (fun i wr => ∃ k : Nat, k ≤ nx ∧ i = .int .i64 k ∧ Hid (∀ (q : Nat) (c d : Int), q < k → xs[q]? = some c → ys[q]? = some d → ren (at_ xs) (gd a.l c) = ren (at_ ys) (gd b.l d) ∧ ren (at_ xs) (gd a.r c) = ren (at_ ys) (gd b.r d)) ∧ Below w4.heap.size w4 wr) (fun i _ => nx - (intOf i).toNat)
              case atStart => exact ⟨0, Nat.zero_le _, rfl, fun q u v hq => absurd hq (Nat.not_lt_zero _), by first | exact hbr | exact Below.drew hbr⟩
              case round =>
                clear RX9 RY9 X9 Y9 R09 R19 S09 S19 px0 px1 px2 py0 py1 py2 lX9 lY9 BR hk hbr
                obtain ⟨k, hk, rfl, HI, hbr⟩ := hrel
                have BR := BW4.trans (hbr.mono BW4.size)
                have RX9 := Row.below (by exact RX_4) hbr
                have RY9 := Row.below (by exact RY) hbr
                have X9 := Blk3.below (by exact X_4) hbr
                have Y9 := Blk3.below (by exact Y_4) hbr
                have R09 := Row.below (by exact R0_4) hbr
                have R19 := Row.below (by exact R1_4) hbr
                have S09 := Row.below (by exact S0_4) hbr
                have S19 := Row.below (by exact S1_4) hbr
                obtain ⟨px0, px1, px2, _⟩ := X9.cells
                obtain ⟨py0, py1, py2, _⟩ := Y9.cells
                have lX9 := X9.lt
                have lY9 := Y9.lt
                by_cases hlt : k < nx
                · obtain ⟨gx, c, e1, _, _, hc, hcc, _⟩ := RX9.get (k := k) (by rw [HXL.out]; exact hlt)
                  cases e1
                  obtain ⟨gy, d, e2, _, _, hd, hcd, _⟩ := RY9.get (k := k) (by rw [HYL.out]; exact hlt)
                  cases e2
                  have hcb := CA.out k c hc.out
                  have hdb := CB.out k d hd.out
                  rw [l0.out] at hcb
                  rw [k0.out] at hdb
                  obtain ⟨j, rfl⟩ : ∃ j : Nat, c = j := ⟨c.toNat, by omega⟩
                  obtain ⟨i, rfl⟩ : ∃ i : Nat, d = i := ⟨d.toNat, by omega⟩
                  have hj0 : j < n0 := by omega
                  have hj1 : j < n1 := by omega
                  have hi0 : i < m0 := by omega
                  have hi1 : i < m1 := by omega
                  obtain ⟨ga, p1, e1, _, _, hp1, hc1, _⟩ := R09.get (k := j) (by rw [l0.out]; exact hj0)
                  cases e1
                  obtain ⟨gb, p2, e1, _, _, hp2, hc2, _⟩ := S09.get (k := i) (by rw [k0.out]; exact hi0)
                  cases e1
                  obtain ⟨gc, p3, e1, _, _, hp3, hc3, _⟩ := R19.get (k := j) (by rw [l1.out]; exact hj1)
                  cases e1
                  obtain ⟨gd_, p4, e1, _, _, hp4, hc4, _⟩ := S19.get (k := i) (by rw [k1.out]; exact hi1)
                  cases e1
                  have q1 := gdx_some hp1.out
                  have q2 := gdx_some hp2.out
                  have q3 := gdx_some hp3.out
                  have q4 := gdx_some hp4.out
                  by_cases heq : ren (at_ xs) p1 = ren (at_ ys) p2
                  · have hne : (ren (at_ xs) p1 != ren (at_ ys) p2) = false := by simpa using heq
                    by_cases heq2 : ren (at_ xs) p3 = ren (at_ ys) p4
                    · have hne2 : (ren (at_ xs) p3 != ren (at_ ys) p4) = false := by simpa using heq2
                      have HI2 : Hid (∀ (q : Nat) (c d : Int), q < k + 1 → xs[q]? = some c → ys[q]? = some d → ren (at_ xs) (gd a.l c) = ren (at_ ys) (gd b.l d) ∧ ren (at_ xs) (gd a.r c) = ren (at_ ys) (gd b.r d)) := fun q c' d' hq hc' hd' => by
                        by_cases hqk : q < k
                        · exact HI.out q c' d' hqk hc' hd'
                        · obtain rfl : q = k := by omega
                          have h9 := hc.out; rw [hc'] at h9; have h8 := hd.out; rw [hd'] at h8
                          cases h9; cases h8
                          rw [q1, q2, q3, q4]; exact ⟨heq, heq2⟩
                      clear hc hd hp1 hp2 hp3 hp4 q1 q2 q3 q4 heq heq2 HI
                      go_wp2_with fail
                      go_region_held3 (fun w' => w'.cell? ⟨w.heap.size, 0, none⟩ = some (.slice (some ⟨ga, 0, none⟩) n0 c0) ∧ w'.cell? ⟨w.heap.size, 1, none⟩ = some (.slice (some ⟨gc, 0, none⟩) n1 c1) ∧ w'.cell? ⟨(w.heap.size + 1), 0, none⟩ = some (.slice (some ⟨gb, 0, none⟩) m0 d0) ∧ w'.cell? ⟨(w.heap.size + 1), 1, none⟩ = some (.slice (some ⟨gd_, 0, none⟩) m1 d1) ∧ w'.cell? ⟨gx, k, none⟩ = some (.int .i64 j) ∧ w'.cell? ⟨gy, k, none⟩ = some (.int .i64 i) ∧ w'.cell? ⟨ga, j, none⟩ = some (.int .i64 p1) ∧ w'.cell? ⟨gb, i, none⟩ = some (.int .i64 p2) ∧ w'.cell? ⟨gc, j, none⟩ = some (.int .i64 p3) ∧ w'.cell? ⟨gd_, i, none⟩ = some (.int .i64 p4))
                        (((try dsimp only); (repeat' apply And.intro) <;> (with_reducible (first | exact px0 | exact cellD px0 | exact px1 | exact cellD px1 | exact px2 | exact cellD px2 | exact py0 | exact cellD py0 | exact py1 | exact cellD py1 | exact py2 | exact cellD py2 | exact hcc | exact cellD hcc | exact hcd | exact cellD hcd | exact hc1 | exact cellD hc1 | exact hc2 | exact cellD hc2 | exact hc3 | exact cellD hc3 | exact hc4 | exact cellD hc4))))
                        (first
                          | (go_at_call 45; (with_reducible refine (l10To_any _ _ _ _ _ _ (Row.drew RX9) HXL h63 p1).mono ?_); rintro e w9 ⟨rfl, rfl⟩)
                          | (go_at_call 45; (with_reducible refine (l10To_any _ _ _ _ _ _ (RX9) HXL h63 p1).mono ?_); rintro e w9 ⟨rfl, rfl⟩)
                          | (go_at_call 45; (with_reducible refine (l10To_any _ _ _ _ _ _ (Row.drew RY9) HYL h63 p2).mono ?_); rintro e w9 ⟨rfl, rfl⟩)
                          | (go_at_call 45; (with_reducible refine (l10To_any _ _ _ _ _ _ (RY9) HYL h63 p2).mono ?_); rintro e w9 ⟨rfl, rfl⟩)
                          | (go_at_call 45; (with_reducible refine (l10To_any _ _ _ _ _ _ (Row.drew RX9) HXL h63 p3).mono ?_); rintro e w9 ⟨rfl, rfl⟩)
                          | (go_at_call 45; (with_reducible refine (l10To_any _ _ _ _ _ _ (RX9) HXL h63 p3).mono ?_); rintro e w9 ⟨rfl, rfl⟩)
                          | (go_at_call 45; (with_reducible refine (l10To_any _ _ _ _ _ _ (Row.drew RY9) HYL h63 p4).mono ?_); rintro e w9 ⟨rfl, rfl⟩)
                          | (go_at_call 45; (with_reducible refine (l10To_any _ _ _ _ _ _ (RY9) HYL h63 p4).mono ?_); rintro e w9 ⟨rfl, rfl⟩))
                      try rename_i hHeld
                      try clear hHeld
                      go_wp2_with fail
                      go_roundw
                      case rel => exact ⟨k + 1, by omega, by go_num, HI2, by first | exact hbr | exact Below.drew hbr | exact below_drewN hbr _⟩
                      case measure => simp [intOf]; omega
                    · have hne2 : (ren (at_ xs) p3 != ren (at_ ys) p4) = true := by simpa using heq2
                      have hr := Lib.hid <| N3.out k _ _ hc.out hd.out (by rw [q3, q4]; exact heq2)
                      clear hc hd hp1 hp2 hp3 hp4 q1 q2 q3 q4 heq heq2 HI N2 N3 YS
                      go_wp2_with fail
                      go_region_held3 (fun w' => w'.cell? ⟨w.heap.size, 0, none⟩ = some (.slice (some ⟨ga, 0, none⟩) n0 c0) ∧ w'.cell? ⟨w.heap.size, 1, none⟩ = some (.slice (some ⟨gc, 0, none⟩) n1 c1) ∧ w'.cell? ⟨(w.heap.size + 1), 0, none⟩ = some (.slice (some ⟨gb, 0, none⟩) m0 d0) ∧ w'.cell? ⟨(w.heap.size + 1), 1, none⟩ = some (.slice (some ⟨gd_, 0, none⟩) m1 d1) ∧ w'.cell? ⟨gx, k, none⟩ = some (.int .i64 j) ∧ w'.cell? ⟨gy, k, none⟩ = some (.int .i64 i) ∧ w'.cell? ⟨ga, j, none⟩ = some (.int .i64 p1) ∧ w'.cell? ⟨gb, i, none⟩ = some (.int .i64 p2) ∧ w'.cell? ⟨gc, j, none⟩ = some (.int .i64 p3) ∧ w'.cell? ⟨gd_, i, none⟩ = some (.int .i64 p4))
                        (((try dsimp only); (repeat' apply And.intro) <;> (with_reducible (first | exact px0 | exact cellD px0 | exact px1 | exact cellD px1 | exact px2 | exact cellD px2 | exact py0 | exact cellD py0 | exact py1 | exact cellD py1 | exact py2 | exact cellD py2 | exact hcc | exact cellD hcc | exact hcd | exact cellD hcd | exact hc1 | exact cellD hc1 | exact hc2 | exact cellD hc2 | exact hc3 | exact cellD hc3 | exact hc4 | exact cellD hc4))))
                        (first
                          | (go_at_call 45; (with_reducible refine (l10To_any _ _ _ _ _ _ (Row.drew RX9) HXL h63 p1).mono ?_); rintro e w9 ⟨rfl, rfl⟩)
                          | (go_at_call 45; (with_reducible refine (l10To_any _ _ _ _ _ _ (RX9) HXL h63 p1).mono ?_); rintro e w9 ⟨rfl, rfl⟩)
                          | (go_at_call 45; (with_reducible refine (l10To_any _ _ _ _ _ _ (Row.drew RY9) HYL h63 p2).mono ?_); rintro e w9 ⟨rfl, rfl⟩)
                          | (go_at_call 45; (with_reducible refine (l10To_any _ _ _ _ _ _ (RY9) HYL h63 p2).mono ?_); rintro e w9 ⟨rfl, rfl⟩)
                          | (go_at_call 45; (with_reducible refine (l10To_any _ _ _ _ _ _ (Row.drew RX9) HXL h63 p3).mono ?_); rintro e w9 ⟨rfl, rfl⟩)
                          | (go_at_call 45; (with_reducible refine (l10To_any _ _ _ _ _ _ (RX9) HXL h63 p3).mono ?_); rintro e w9 ⟨rfl, rfl⟩)
                          | (go_at_call 45; (with_reducible refine (l10To_any _ _ _ _ _ _ (Row.drew RY9) HYL h63 p4).mono ?_); rintro e w9 ⟨rfl, rfl⟩)
                          | (go_at_call 45; (with_reducible refine (l10To_any _ _ _ _ _ _ (RY9) HYL h63 p4).mono ?_); rintro e w9 ⟨rfl, rfl⟩))
                      try rename_i hHeld
                      try clear hHeld
                      go_wp2_with fail
                      go_ret
                      exact ⟨ret_bool hr.out.symm, by first | exact BR | exact Below.drew BR | exact below_drewN BR _⟩
                  · have hne : (ren (at_ xs) p1 != ren (at_ ys) p2) = true := by simpa using heq
                    have hr := Lib.hid <| N2.out k _ _ hc.out hd.out (by rw [q1, q2]; exact heq)
                    clear hc hd hp1 hp2 hp3 hp4 q1 q2 q3 q4 heq HI N2 N3 YS
                    go_wp2_with fail
                    have SO : (fun w' : World => w'.cell? ⟨w.heap.size, 0, none⟩ = some (.slice (some ⟨ga, 0, none⟩) n0 c0) ∧ w'.cell? ⟨w.heap.size, 1, none⟩ = some (.slice (some ⟨gc, 0, none⟩) n1 c1) ∧ w'.cell? ⟨(w.heap.size + 1), 0, none⟩ = some (.slice (some ⟨gb, 0, none⟩) m0 d0) ∧ w'.cell? ⟨(w.heap.size + 1), 1, none⟩ = some (.slice (some ⟨gd_, 0, none⟩) m1 d1) ∧ w'.cell? ⟨gx, k, none⟩ = some (.int .i64 j) ∧ w'.cell? ⟨gy, k, none⟩ = some (.int .i64 i) ∧ w'.cell? ⟨ga, j, none⟩ = some (.int .i64 p1) ∧ w'.cell? ⟨gb, i, none⟩ = some (.int .i64 p2) ∧ w'.cell? ⟨gc, j, none⟩ = some (.int .i64 p3) ∧ w'.cell? ⟨gd_, i, none⟩ = some (.int .i64 p4)) wr.drew := ⟨cellD px0, cellD px1, cellD py0, cellD py1, cellD hcc, cellD hcd, cellD hc1, cellD hc2, cellD hc3, cellD hc4⟩
                    refine wp_region_held_drew (S := fun w' => w'.cell? ⟨w.heap.size, 0, none⟩ = some (.slice (some ⟨ga, 0, none⟩) n0 c0) ∧ w'.cell? ⟨w.heap.size, 1, none⟩ = some (.slice (some ⟨gc, 0, none⟩) n1 c1) ∧ w'.cell? ⟨(w.heap.size + 1), 0, none⟩ = some (.slice (some ⟨gb, 0, none⟩) m0 d0) ∧ w'.cell? ⟨(w.heap.size + 1), 1, none⟩ = some (.slice (some ⟨gd_, 0, none⟩) m1 d1) ∧ w'.cell? ⟨gx, k, none⟩ = some (.int .i64 j) ∧ w'.cell? ⟨gy, k, none⟩ = some (.int .i64 i) ∧ w'.cell? ⟨ga, j, none⟩ = some (.int .i64 p1) ∧ w'.cell? ⟨gb, i, none⟩ = some (.int .i64 p2) ∧ w'.cell? ⟨gc, j, none⟩ = some (.int .i64 p3) ∧ w'.cell? ⟨gd_, i, none⟩ = some (.int .i64 p4)) (by kernel_rfl) ?_ (fun hHeld => ?_)
                    · exact SO
                    refine wpAnyH_take (i := 0) (oi := ?oiz0) (v := ?vz0) ?hiz0 (by kernel_rfl) (by kernel_rfl) (by kernel_rfl) ?hQz0 ?hyz0 (by assumption) ?_
                    case hiz0 => simp only [List.getElem?_toArray, List.getElem?_cons_zero]; rfl
                    case hQz0 => exact fun _ _ _ h => h
                    case hyz0 => refine Or.inl ⟨by rfl, ?_⟩; intro w9 hSw; (try dsimp only at hSw); go_simp; (try with_reducible rfl)
                    try simp only [Act.put, List.setIfInBounds_toArray, List.set_cons_zero, List.set_cons_succ]
                    refine wpAnyH_take (i := 1) (oi := ?oiz1) (v := ?vz1) ?hiz1 (by kernel_rfl) (by kernel_rfl) (by kernel_rfl) ?hQz1 ?hyz1 (by assumption) ?_
                    case hiz1 => simp only [List.getElem?_toArray, List.getElem?_cons_zero, List.getElem?_cons_succ]; rfl
                    case hQz1 => exact fun _ _ _ h => h
                    case hyz1 => refine Or.inl ⟨by rfl, ?_⟩; intro w9 hSw; (try dsimp only at hSw); go_simp; (try with_reducible rfl)
                    try simp only [Act.put, List.setIfInBounds_toArray, List.set_cons_zero, List.set_cons_succ]
                    refine wpAnyH_take (i := 2) (oi := ?oiz2) (v := ?vz2) ?hiz2 (by kernel_rfl) (by kernel_rfl) (by kernel_rfl) ?hQz2 ?hyz2 (by assumption) ?_
                    case hiz2 => simp only [List.getElem?_toArray, List.getElem?_cons_zero, List.getElem?_cons_succ]; rfl
                    case hQz2 => exact fun _ _ _ h => h
                    case hyz2 => refine Or.inl ⟨by rfl, ?_⟩; intro w9 hSw; (try dsimp only at hSw); go_simp; (try with_reducible rfl)
                    try simp only [Act.put, List.setIfInBounds_toArray, List.set_cons_zero, List.set_cons_succ]
                    refine wpAnyH_take (i := 3) (oi := ?oiz3) (v := ?vz3) ?hiz3 (by kernel_rfl) (by kernel_rfl) (by kernel_rfl) ?hQz3 ?hyz3 (by assumption) ?_
                    case hiz3 => simp only [List.getElem?_toArray, List.getElem?_cons_zero, List.getElem?_cons_succ]; rfl
                    case hQz3 => exact fun _ _ _ h => h
                    case hyz3 => refine Or.inl ⟨by rfl, ?_⟩; intro w9 hSw; (try dsimp only at hSw); go_simp; (try with_reducible rfl)
                    try simp only [Act.put, List.setIfInBounds_toArray, List.set_cons_zero, List.set_cons_succ]
                    refine wpAnyH_take (i := 4) (oi := ?oiz4) (v := ?vz4) ?hiz4 (by kernel_rfl) (by kernel_rfl) (by kernel_rfl) ?hQz4 ?hyz4 (by assumption) ?_
                    case hiz4 => simp only [List.getElem?_toArray, List.getElem?_cons_zero, List.getElem?_cons_succ]; rfl
                    case hQz4 => exact fun _ _ _ h => h
                    case hyz4 => refine Or.inl ⟨by rfl, ?_⟩; intro w9 hSw; (try dsimp only at hSw); go_simp; (try with_reducible rfl)
                    try simp only [Act.put, List.setIfInBounds_toArray, List.set_cons_zero, List.set_cons_succ]
                    refine wpAnyH_take (i := 5) (oi := ?oiz5) (v := ?vz5) ?hiz5 (by kernel_rfl) (by kernel_rfl) (by kernel_rfl) ?hQz5 ?hyz5 (by assumption) ?_
                    case hiz5 => simp only [List.getElem?_toArray, List.getElem?_cons_zero, List.getElem?_cons_succ]; rfl
                    case hQz5 => exact fun _ _ _ h => h
                    case hyz5 => refine Or.inl ⟨by rfl, ?_⟩; intro w9 hSw; (try dsimp only at hSw); go_simp; (try with_reducible rfl)
                    try simp only [Act.put, List.setIfInBounds_toArray, List.set_cons_zero, List.set_cons_succ]
                    refine wpAnyH_take (i := 6) (oi := ?oiz6) (v := ?vz6) ?hiz6 (by kernel_rfl) (by kernel_rfl) (by kernel_rfl) ?hQz6 ?hyz6 (by assumption) ?_
                    case hiz6 => simp only [List.getElem?_toArray, List.getElem?_cons_zero, List.getElem?_cons_succ]; rfl
                    case hQz6 => exact fun _ _ _ h => h
                    case hyz6 => refine Or.inl ⟨by rfl, ?_⟩; intro w9 hSw; (try dsimp only at hSw); go_simp; (try with_reducible rfl)
                    try simp only [Act.put, List.setIfInBounds_toArray, List.set_cons_zero, List.set_cons_succ]
                    refine wpAnyH_take (i := 7) (oi := ?oiz7) (v := ?vz7) ?hiz7 (by kernel_rfl) (by kernel_rfl) (by kernel_rfl) ?hQz7 ?hyz7 (by assumption) ?_
                    case hiz7 => simp only [List.getElem?_toArray, List.getElem?_cons_zero, List.getElem?_cons_succ]; rfl
                    case hQz7 => exact fun _ _ _ h => h
                    case hyz7 => refine Or.inl ⟨by rfl, ?_⟩; intro w9 hSw; (try dsimp only at hSw); go_simp; (try with_reducible rfl)
                    try simp only [Act.put, List.setIfInBounds_toArray, List.set_cons_zero, List.set_cons_succ]
                    refine wpAnyH_take (i := 8) (oi := ?oiz8) (v := ?vz8) ?hiz8 (by kernel_rfl) (by kernel_rfl) (by kernel_rfl) ?hQz8 ?hyz8 (by assumption) ?_
                    case hiz8 => simp only [List.getElem?_toArray, List.getElem?_cons_zero, List.getElem?_cons_succ]; rfl
                    case hQz8 => exact fun _ _ _ h => h
                    case hyz8 => refine Or.inl ⟨by rfl, ?_⟩; intro w9 hSw; (try dsimp only at hSw); go_simp; (try with_reducible rfl)
                    try simp only [Act.put, List.setIfInBounds_toArray, List.set_cons_zero, List.set_cons_succ]
                    refine wpAnyH_take (i := 10) (oi := ?oiz10) (v := ?vz10) ?hiz10 (by kernel_rfl) (by kernel_rfl) (by kernel_rfl) ?hQz10 ?hyz10 (by assumption) ?_
                    case hiz10 => simp only [List.getElem?_toArray, List.getElem?_cons_zero, List.getElem?_cons_succ]; rfl
                    case hQz10 => exact fun _ _ _ h => h
                    case hyz10 => refine Or.inl ⟨by rfl, ?_⟩; intro w9 hSw; (try dsimp only at hSw); go_simp; (try with_reducible rfl)
                    try simp only [Act.put, List.setIfInBounds_toArray, List.set_cons_zero, List.set_cons_succ]
                    refine wpAnyH_take (i := 11) (oi := ?oiz11) (v := ?vz11) ?hiz11 (by kernel_rfl) (by kernel_rfl) (by kernel_rfl) ?hQz11 ?hyz11 (by assumption) ?_
                    case hiz11 => simp only [List.getElem?_toArray, List.getElem?_cons_zero, List.getElem?_cons_succ]; rfl
                    case hQz11 => exact fun _ _ _ h => h
                    case hyz11 => refine Or.inl ⟨by rfl, ?_⟩; intro w9 hSw; (try dsimp only at hSw); go_simp; (try with_reducible rfl)
                    try simp only [Act.put, List.setIfInBounds_toArray, List.set_cons_zero, List.set_cons_succ]
                    refine wpAnyH_take (i := 12) (oi := ?oiz12) (v := ?vz12) ?hiz12 (by kernel_rfl) (by kernel_rfl) (by kernel_rfl) ?hQz12 ?hyz12 (by assumption) ?_
                    case hiz12 => simp only [List.getElem?_toArray, List.getElem?_cons_zero, List.getElem?_cons_succ]; rfl
                    case hQz12 => exact fun _ _ _ h => h
                    case hyz12 => refine Or.inl ⟨by rfl, ?_⟩; intro w9 hSw; (try dsimp only at hSw); go_simp; (try with_reducible rfl)
                    try simp only [Act.put, List.setIfInBounds_toArray, List.set_cons_zero, List.set_cons_succ]
                    refine wpAnyH_take (i := 13) (oi := ?oiz13) (v := ?vz13) ?hiz13 (by kernel_rfl) (by kernel_rfl) (by kernel_rfl) ?hQz13 ?hyz13 (by assumption) ?_
                    case hiz13 => simp only [List.getElem?_toArray, List.getElem?_cons_zero, List.getElem?_cons_succ]; rfl
                    case hQz13 => exact fun _ _ _ h => h
                    case hyz13 => refine Or.inl ⟨by rfl, ?_⟩; intro w9 hSw; (try dsimp only at hSw); go_simp; (try with_reducible rfl)
                    try simp only [Act.put, List.setIfInBounds_toArray, List.set_cons_zero, List.set_cons_succ]
                    refine wpAnyH_take (i := 14) (oi := ?oiz14) (v := ?vz14) ?hiz14 (by kernel_rfl) (by kernel_rfl) (by kernel_rfl) ?hQz14 ?hyz14 (by assumption) ?_
                    case hiz14 => simp only [List.getElem?_toArray, List.getElem?_cons_zero, List.getElem?_cons_succ]; rfl
                    case hQz14 => exact fun _ _ _ h => h
                    case hyz14 => refine Or.inl ⟨by rfl, ?_⟩; intro w9 hSw; (try dsimp only at hSw); go_simp; (try with_reducible rfl)
                    try simp only [Act.put, List.setIfInBounds_toArray, List.set_cons_zero, List.set_cons_succ]
                    refine wpAnyH_take (i := 15) (oi := ?oiz15) (v := ?vz15) ?hiz15 (by kernel_rfl) (by kernel_rfl) (by kernel_rfl) ?hQz15 ?hyz15 (by assumption) ?_
                    case hiz15 => simp only [List.getElem?_toArray, List.getElem?_cons_zero, List.getElem?_cons_succ]; rfl
                    case hQz15 => exact fun _ _ _ h => h
                    case hyz15 => refine Or.inl ⟨by rfl, ?_⟩; intro w9 hSw; (try dsimp only at hSw); go_simp; (try with_reducible rfl)
                    try simp only [Act.put, List.setIfInBounds_toArray, List.set_cons_zero, List.set_cons_succ]
                    refine wpAnyH_take (i := 16) (oi := ?oiz16) (v := ?vz16) ?hiz16 (by kernel_rfl) (by kernel_rfl) (by kernel_rfl) ?hQz16 ?hyz16 (by assumption) ?_
                    case hiz16 => simp only [List.getElem?_toArray, List.getElem?_cons_zero, List.getElem?_cons_succ]; rfl
                    case hQz16 => exact fun _ _ _ h => h
                    case hyz16 => refine Or.inl ⟨by rfl, ?_⟩; intro w9 hSw; (try dsimp only at hSw); go_simp; (try with_reducible rfl)
                    try simp only [Act.put, List.setIfInBounds_toArray, List.set_cons_zero, List.set_cons_succ]
                    refine wpAnyH_take (i := 17) (oi := ?oiz17) (v := ?vz17) ?hiz17 (by kernel_rfl) (by kernel_rfl) (by kernel_rfl) ?hQz17 ?hyz17 (by assumption) ?_
                    case hiz17 => simp only [List.getElem?_toArray, List.getElem?_cons_zero, List.getElem?_cons_succ]; rfl
                    case hQz17 => exact fun _ _ _ h => h
                    case hyz17 => refine Or.inl ⟨by rfl, ?_⟩; intro w9 hSw; (try dsimp only at hSw); go_simp; (try with_reducible rfl)
                    try simp only [Act.put, List.setIfInBounds_toArray, List.set_cons_zero, List.set_cons_succ]
                    refine wpAnyH_take (i := 18) (oi := ?oiz18) (v := ?vz18) ?hiz18 (by kernel_rfl) (by kernel_rfl) (by kernel_rfl) ?hQz18 ?hyz18 (by assumption) ?_
                    case hiz18 => simp only [List.getElem?_toArray, List.getElem?_cons_zero, List.getElem?_cons_succ]; rfl
                    case hQz18 => exact fun _ _ _ h => h
                    case hyz18 => refine Or.inl ⟨by rfl, ?_⟩; intro w9 hSw; (try dsimp only at hSw); go_simp; (try with_reducible rfl)
                    try simp only [Act.put, List.setIfInBounds_toArray, List.set_cons_zero, List.set_cons_succ]
                    refine wpAnyH_ready (rs := [9]) (by kernel_rfl) (by simp) ?_
                    refine AllReadyH.cons (o := ?ooz9) ?hoz9 (fun K hK => ?_) AllReadyH.nil
                    case hoz9 => simp only [List.getElem?_toArray, List.getElem?_cons_zero, List.getElem?_cons_succ]; rfl
                    go_simp
                    refine (l10To_any _ _ _ _ _ _ (Row.drew RX9) HXL h63 p1).mono ?_; rintro e w9 ⟨rfl, rfl⟩
                    go_wp2_with fail
                    refine hK.out _ _ ?hSz9 (fun hHeld9 => ?_)
                    case hSz9 => exact SO
                    clear hK K
                    try simp only [Act.put, List.setIfInBounds_toArray, List.set_cons_zero, List.set_cons_succ]
                    refine wpAnyH_ready (rs := [19]) (by kernel_rfl) (by simp) ?_
                    refine AllReadyH.cons (o := ?ooz19) ?hoz19 (fun K hK => ?_) AllReadyH.nil
                    case hoz19 => simp only [List.getElem?_toArray, List.getElem?_cons_zero, List.getElem?_cons_succ]; rfl
                    go_simp
                    refine (l10To_any _ _ _ _ _ _ (Row.drew RY9) HYL h63 p2).mono ?_; rintro e w9 ⟨rfl, rfl⟩
                    go_wp2_with fail
                    refine hK.out _ _ ?hSz19 (fun hHeld19 => ?_)
                    case hSz19 => exact SO
                    clear hK K
                    try simp only [Act.put, List.setIfInBounds_toArray, List.set_cons_zero, List.set_cons_succ]
                    refine wpAnyH_take (i := 20) (oi := ?oiz20) (v := ?vz20) ?hiz20 (by kernel_rfl) (by kernel_rfl) (by kernel_rfl) ?hQz20 ?hyz20 (by assumption) ?_
                    case hiz20 => simp only [List.getElem?_toArray, List.getElem?_cons_zero, List.getElem?_cons_succ]; rfl
                    case hQz20 => exact fun _ _ _ h => h
                    case hyz20 => refine Or.inl ⟨by rfl, ?_⟩; intro w9 hSw; (try dsimp only at hSw); go_simp; (try with_reducible rfl)
                    try simp only [Act.put, List.setIfInBounds_toArray, List.set_cons_zero, List.set_cons_succ]
                    refine wpAnyH_take (i := 21) (oi := ?oiz21) (v := ?vz21) ?hiz21 (by kernel_rfl) (by kernel_rfl) (by kernel_rfl) ?hQz21 ?hyz21 (by assumption) ?_
                    case hiz21 => simp only [List.getElem?_toArray, List.getElem?_cons_zero, List.getElem?_cons_succ]; rfl
                    case hQz21 => exact fun _ _ _ h => h
                    case hyz21 => refine Or.inl ⟨by rfl, ?_⟩; intro w9 hSw; (try dsimp only at hSw); go_simp; (try with_reducible rfl)
                    try simp only [Act.put, List.setIfInBounds_toArray, List.set_cons_zero, List.set_cons_succ]
                    refine wpAnyH_take (i := 22) (oi := ?oiz22) (v := undef) ?hiz22 (by kernel_rfl) (by kernel_rfl) (by kernel_rfl) ?hQz22 ?hyz22 (by assumption) ?_
                    case hiz22 => simp only [List.getElem?_toArray, List.getElem?_cons_zero, List.getElem?_cons_succ]; rfl
                    case hQz22 => exact fun _ _ _ h => h
                    case hyz22 => exact Or.inr ⟨by rfl, rfl⟩
                    try simp only [Act.put, List.setIfInBounds_toArray, List.set_cons_zero, List.set_cons_succ]
                    refine wpAnyH_take (i := 23) (oi := ?oiz23) (v := undef) ?hiz23 (by kernel_rfl) (by kernel_rfl) (by kernel_rfl) ?hQz23 ?hyz23 (by assumption) ?_
                    case hiz23 => simp only [List.getElem?_toArray, List.getElem?_cons_zero, List.getElem?_cons_succ]; rfl
                    case hQz23 => exact fun _ _ _ h => h
                    case hyz23 => exact Or.inr ⟨by rfl, rfl⟩
                    try simp only [Act.put, List.setIfInBounds_toArray, List.set_cons_zero, List.set_cons_succ]
                    refine wpAnyH_take (i := 24) (oi := ?oiz24) (v := undef) ?hiz24 (by kernel_rfl) (by kernel_rfl) (by kernel_rfl) ?hQz24 ?hyz24 (by assumption) ?_
                    case hiz24 => simp only [List.getElem?_toArray, List.getElem?_cons_zero, List.getElem?_cons_succ]; rfl
                    case hQz24 => exact fun _ _ _ h => h
                    case hyz24 => exact Or.inr ⟨by rfl, rfl⟩
                    try simp only [Act.put, List.setIfInBounds_toArray, List.set_cons_zero, List.set_cons_succ]
                    refine wpAnyH_take (i := 25) (oi := ?oiz25) (v := undef) ?hiz25 (by kernel_rfl) (by kernel_rfl) (by kernel_rfl) ?hQz25 ?hyz25 (by assumption) ?_
                    case hiz25 => simp only [List.getElem?_toArray, List.getElem?_cons_zero, List.getElem?_cons_succ]; rfl
                    case hQz25 => exact fun _ _ _ h => h
                    case hyz25 => exact Or.inr ⟨by rfl, rfl⟩
                    try simp only [Act.put, List.setIfInBounds_toArray, List.set_cons_zero, List.set_cons_succ]
                    refine wpAnyH_take (i := 26) (oi := ?oiz26) (v := undef) ?hiz26 (by kernel_rfl) (by kernel_rfl) (by kernel_rfl) ?hQz26 ?hyz26 (by assumption) ?_
                    case hiz26 => simp only [List.getElem?_toArray, List.getElem?_cons_zero, List.getElem?_cons_succ]; rfl
                    case hQz26 => exact fun _ _ _ h => h
                    case hyz26 => exact Or.inr ⟨by rfl, rfl⟩
                    try simp only [Act.put, List.setIfInBounds_toArray, List.set_cons_zero, List.set_cons_succ]
                    refine wpAnyH_take (i := 27) (oi := ?oiz27) (v := undef) ?hiz27 (by kernel_rfl) (by kernel_rfl) (by kernel_rfl) ?hQz27 ?hyz27 (by assumption) ?_
                    case hiz27 => simp only [List.getElem?_toArray, List.getElem?_cons_zero, List.getElem?_cons_succ]; rfl
                    case hQz27 => exact fun _ _ _ h => h
                    case hyz27 => exact Or.inr ⟨by rfl, rfl⟩
                    try simp only [Act.put, List.setIfInBounds_toArray, List.set_cons_zero, List.set_cons_succ]
                    refine wpAnyH_take (i := 28) (oi := ?oiz28) (v := undef) ?hiz28 (by kernel_rfl) (by kernel_rfl) (by kernel_rfl) ?hQz28 ?hyz28 (by assumption) ?_
                    case hiz28 => simp only [List.getElem?_toArray, List.getElem?_cons_zero, List.getElem?_cons_succ]; rfl
                    case hQz28 => exact fun _ _ _ h => h
                    case hyz28 => exact Or.inr ⟨by rfl, rfl⟩
                    try simp only [Act.put, List.setIfInBounds_toArray, List.set_cons_zero, List.set_cons_succ]
                    refine wpAnyH_take (i := 29) (oi := ?oiz29) (v := undef) ?hiz29 (by kernel_rfl) (by kernel_rfl) (by kernel_rfl) ?hQz29 ?hyz29 (by assumption) ?_
                    case hiz29 => simp only [List.getElem?_toArray, List.getElem?_cons_zero, List.getElem?_cons_succ]; rfl
                    case hQz29 => exact fun _ _ _ h => h
                    case hyz29 => exact Or.inr ⟨by rfl, rfl⟩
                    try simp only [Act.put, List.setIfInBounds_toArray, List.set_cons_zero, List.set_cons_succ]
                    refine wpAnyH_take (i := 30) (oi := ?oiz30) (v := undef) ?hiz30 (by kernel_rfl) (by kernel_rfl) (by kernel_rfl) ?hQz30 ?hyz30 (by assumption) ?_
                    case hiz30 => simp only [List.getElem?_toArray, List.getElem?_cons_zero, List.getElem?_cons_succ]; rfl
                    case hQz30 => exact fun _ _ _ h => h
                    case hyz30 => exact Or.inr ⟨by rfl, rfl⟩
                    try simp only [Act.put, List.setIfInBounds_toArray, List.set_cons_zero, List.set_cons_succ]
                    refine wpAnyH_take (i := 31) (oi := ?oiz31) (v := undef) ?hiz31 (by kernel_rfl) (by kernel_rfl) (by kernel_rfl) ?hQz31 ?hyz31 (by assumption) ?_
                    case hiz31 => simp only [List.getElem?_toArray, List.getElem?_cons_zero, List.getElem?_cons_succ]; rfl
                    case hQz31 => exact fun _ _ _ h => h
                    case hyz31 => exact Or.inr ⟨by rfl, rfl⟩
                    try simp only [Act.put, List.setIfInBounds_toArray, List.set_cons_zero, List.set_cons_succ]
                    refine wpAnyH_take (i := 32) (oi := ?oiz32) (v := undef) ?hiz32 (by kernel_rfl) (by kernel_rfl) (by kernel_rfl) ?hQz32 ?hyz32 (by assumption) ?_
                    case hiz32 => simp only [List.getElem?_toArray, List.getElem?_cons_zero, List.getElem?_cons_succ]; rfl
                    case hQz32 => exact fun _ _ _ h => h
                    case hyz32 => exact Or.inr ⟨by rfl, rfl⟩
                    try simp only [Act.put, List.setIfInBounds_toArray, List.set_cons_zero, List.set_cons_succ]
                    refine wpAnyH_take (i := 33) (oi := ?oiz33) (v := undef) ?hiz33 (by kernel_rfl) (by kernel_rfl) (by kernel_rfl) ?hQz33 ?hyz33 (by assumption) ?_
                    case hiz33 => simp only [List.getElem?_toArray, List.getElem?_cons_zero, List.getElem?_cons_succ]; rfl
                    case hQz33 => exact fun _ _ _ h => h
                    case hyz33 => exact Or.inr ⟨by rfl, rfl⟩
                    try simp only [Act.put, List.setIfInBounds_toArray, List.set_cons_zero, List.set_cons_succ]
                    refine wpAnyH_take (i := 34) (oi := ?oiz34) (v := undef) ?hiz34 (by kernel_rfl) (by kernel_rfl) (by kernel_rfl) ?hQz34 ?hyz34 (by assumption) ?_
                    case hiz34 => simp only [List.getElem?_toArray, List.getElem?_cons_zero, List.getElem?_cons_succ]; rfl
                    case hQz34 => exact fun _ _ _ h => h
                    case hyz34 => exact Or.inr ⟨by rfl, rfl⟩
                    try simp only [Act.put, List.setIfInBounds_toArray, List.set_cons_zero, List.set_cons_succ]
                    refine wpAnyH_take (i := 35) (oi := ?oiz35) (v := undef) ?hiz35 (by kernel_rfl) (by kernel_rfl) (by kernel_rfl) ?hQz35 ?hyz35 (by assumption) ?_
                    case hiz35 => simp only [List.getElem?_toArray, List.getElem?_cons_zero, List.getElem?_cons_succ]; rfl
                    case hQz35 => exact fun _ _ _ h => h
                    case hyz35 => exact Or.inr ⟨by rfl, rfl⟩
                    try simp only [Act.put, List.setIfInBounds_toArray, List.set_cons_zero, List.set_cons_succ]
                    refine wpAnyH_take (i := 36) (oi := ?oiz36) (v := undef) ?hiz36 (by kernel_rfl) (by kernel_rfl) (by kernel_rfl) ?hQz36 ?hyz36 (by assumption) ?_
                    case hiz36 => simp only [List.getElem?_toArray, List.getElem?_cons_zero, List.getElem?_cons_succ]; rfl
                    case hQz36 => exact fun _ _ _ h => h
                    case hyz36 => exact Or.inr ⟨by rfl, rfl⟩
                    try simp only [Act.put, List.setIfInBounds_toArray, List.set_cons_zero, List.set_cons_succ]
                    refine wpAnyH_take (i := 37) (oi := ?oiz37) (v := undef) ?hiz37 (by kernel_rfl) (by kernel_rfl) (by kernel_rfl) ?hQz37 ?hyz37 (by assumption) ?_
                    case hiz37 => simp only [List.getElem?_toArray, List.getElem?_cons_zero, List.getElem?_cons_succ]; rfl
                    case hQz37 => exact fun _ _ _ h => h
                    case hyz37 => exact Or.inr ⟨by rfl, rfl⟩
                    try simp only [Act.put, List.setIfInBounds_toArray, List.set_cons_zero, List.set_cons_succ]
                    refine wpAnyH_take (i := 38) (oi := ?oiz38) (v := undef) ?hiz38 (by kernel_rfl) (by kernel_rfl) (by kernel_rfl) ?hQz38 ?hyz38 (by assumption) ?_
                    case hiz38 => simp only [List.getElem?_toArray, List.getElem?_cons_zero, List.getElem?_cons_succ]; rfl
                    case hQz38 => exact fun _ _ _ h => h
                    case hyz38 => exact Or.inr ⟨by rfl, rfl⟩
                    try simp only [Act.put, List.setIfInBounds_toArray, List.set_cons_zero, List.set_cons_succ]
                    refine wpAnyH_take (i := 39) (oi := ?oiz39) (v := undef) ?hiz39 (by kernel_rfl) (by kernel_rfl) (by kernel_rfl) ?hQz39 ?hyz39 (by assumption) ?_
                    case hiz39 => simp only [List.getElem?_toArray, List.getElem?_cons_zero, List.getElem?_cons_succ]; rfl
                    case hQz39 => exact fun _ _ _ h => h
                    case hyz39 => exact Or.inr ⟨by rfl, rfl⟩
                    try simp only [Act.put, List.setIfInBounds_toArray, List.set_cons_zero, List.set_cons_succ]
                    refine wpAnyH_take (i := 40) (oi := ?oiz40) (v := undef) ?hiz40 (by kernel_rfl) (by kernel_rfl) (by kernel_rfl) ?hQz40 ?hyz40 (by assumption) ?_
                    case hiz40 => simp only [List.getElem?_toArray, List.getElem?_cons_zero, List.getElem?_cons_succ]; rfl
                    case hQz40 => exact fun _ _ _ h => h
                    case hyz40 => exact Or.inr ⟨by rfl, rfl⟩
                    try simp only [Act.put, List.setIfInBounds_toArray, List.set_cons_zero, List.set_cons_succ]
                    refine wpAnyH_take (i := 41) (oi := ?oiz41) (v := undef) ?hiz41 (by kernel_rfl) (by kernel_rfl) (by kernel_rfl) ?hQz41 ?hyz41 (by assumption) ?_
                    case hiz41 => simp only [List.getElem?_toArray, List.getElem?_cons_zero, List.getElem?_cons_succ]; rfl
                    case hQz41 => exact fun _ _ _ h => h
                    case hyz41 => exact Or.inr ⟨by rfl, rfl⟩
                    try simp only [Act.put, List.setIfInBounds_toArray, List.set_cons_zero, List.set_cons_succ]
                    refine wpAnyH_take (i := 42) (oi := ?oiz42) (v := undef) ?hiz42 (by kernel_rfl) (by kernel_rfl) (by kernel_rfl) ?hQz42 ?hyz42 (by assumption) ?_
                    case hiz42 => simp only [List.getElem?_toArray, List.getElem?_cons_zero, List.getElem?_cons_succ]; rfl
                    case hQz42 => exact fun _ _ _ h => h
                    case hyz42 => exact Or.inr ⟨by rfl, rfl⟩
                    try simp only [Act.put, List.setIfInBounds_toArray, List.set_cons_zero, List.set_cons_succ]
                    refine wpAnyH_take (i := 43) (oi := ?oiz43) (v := ?vz43) ?hiz43 (by kernel_rfl) (by kernel_rfl) (by kernel_rfl) ?hQz43 ?hyz43 (by assumption) ?_
                    case hiz43 => simp only [List.getElem?_toArray, List.getElem?_cons_zero, List.getElem?_cons_succ]; rfl
                    case hQz43 => exact fun _ _ _ h => h
                    case hyz43 => refine Or.inl ⟨by rfl, ?_⟩; intro w9 hSw; (try dsimp only at hSw); go_simp; (try with_reducible rfl)
                    try simp only [Act.put, List.setIfInBounds_toArray, List.set_cons_zero, List.set_cons_succ]
                    refine wpAnyH_done (by kernel_rfl) ?_ _
                    go_wp2_with fail
                    go_ret
                    exact ⟨ret_bool hr.out.symm, by first | exact BR | exact Below.drew BR | exact below_drewN BR _⟩
                · obtain rfl : nx = k := by omega
                  have hr := Lib.hid <| YS.out (by rw [HXL.out, HYL.out]) (by rw [l2.out, k2.out]) HT.out (fun q c d hc hd => HI.out q c d (by have := (List.getElem?_eq_some_iff.1 hc).1; have := HXL.out; omega) hc hd)
                  clear HI N2 N3 YS HT
                  go_wp2_with fail
                  go_ret
                  exact ⟨ret_bool hr.out.symm, BR⟩
        · have hr := Lib.hid <| N0.out (fun h => hrt (by rw [← hl2, ← hk2]; exact h.2))
          have hq2 : ((n2 : Int) != (m2 : Int)) = true := by simp; omega
          clear N0 N1 N2 N3 YS hl0 hl1 hl2 hk0 hk1 hk2 hnx hny h8 h8b ola olb
          go_wp2_with fail
          go_ret
          exact ⟨ret_bool hr.out.symm, BW4⟩
      · have hr := Lib.hid <| N0.out (fun h => hxy (by rw [hnx, hny]; exact h.1))
        have hq1 : ((nx : Int) != (ny : Int)) = true := by simp; omega
        clear N0 N1 N2 N3 YS hl0 hl1 hl2 hk0 hk1 hk2 hnx hny h8 h8b ola olb
        go_wp2_with fail
        go_ret
        exact ⟨ret_bool hr.out.symm, BW4⟩
end Go.Proofs.Ytapkhgpifpgleaa
