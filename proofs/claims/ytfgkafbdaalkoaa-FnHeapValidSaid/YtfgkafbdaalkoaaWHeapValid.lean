/- The law FnHeapValid, walked. -/
import Derived.Test.YtfgkafbdaalkoaaDHV
import Derived.Test.YtfgkafbdaalkoaaHeap2
import Derived.Test.YtfgkafbdaalkoaaPure
import Derived.Test.YtfgkafbdaalkoaaWLaw
import Derived.Test.YtfgkafbdaalkoaaCopy2
import Derived.Test.YtfgkafbdaalkoaaWrong
namespace Go.Proofs.Ytfgkafbdaalkoaa
open Go.RowKit

theorem self_wrong {n : Nat} {tl r t : List Int} (h : tl.length = n - 1) (hn : 0 < n := by omega) : hvB ⟨(n : Int) :: tl, r, t⟩ = false := by
  unfold hvB
  have e : ((n : Int) :: tl).length = n := by rw [List.length_cons, h]; omega
  simp only [e, List.all_cons]
  have : ptB (n : Int) (n : Int) = false := by simp [ptB]
  rw [this]; simp
theorem noroot_wrong (l r : List Int) : hvB ⟨l, r, []⟩ = false := by
  unfold hvB szB; simp
theorem Row.cellsTail {w : World} {lo g n c : Nat} {xs : List Int} (h : Row w lo (.slice (some ⟨g, 0, none⟩) n c) xs) : ∀ (j : Nat) (u : Value), (xs.tail.map iv)[j]? = some u → w.cell? ((⟨g, 1, none⟩ : Addr).add j) = some u := by
  intro j u hj
  have hh := h.cellsV (j + 1) u (by rw [← hj]; cases xs <;> simp)
  have hadd : ∀ o i, (⟨g, o, none⟩ : Addr).add i = ⟨g, o + i, none⟩ := fun o i => by unfold Addr.add; split <;> simp_all
  rw [hadd] at hh ⊢
  rw [show 1 + j = 0 + (j + 1) by omega]
  exact hh
theorem one_newD {w : World} {x : Value} {t : TypeId} : ∀ j u, [x][j]? = some u → (w.alloc (.cells #[x] t)).drew.cell? ((⟨w.heap.size, 0, none⟩ : Addr).add j) = some u := one_new
theorem after_app1 {W w' : World} {v' : Value} {n m : Nat} {xs : List Int} (hown : w'.ownsRow W.heap.size 3 1 v' (1 + m) ([.int .i64 (n : Int)] ++ xs.map iv)) (hgr : W.grownBy w' none) (hn : 1 + m = ((n : Int) :: xs).length) :
    ∃ A q c, v' = .slice A q c ∧ Row w' W.heap.size (.slice A q c) ((n : Int) :: xs) ∧ Below W.heap.size W w' := by
  have hr : Row w' W.heap.size v' ((n : Int) :: xs) := Row.of_own hown (by simp) hn
  obtain ⟨A, c, rfl, _⟩ := hr.form
  exact ⟨A, _, c, rfl, hr, below_of_grown hgr⟩

set_option maxRecDepth 100000 in
set_option maxHeartbeats 2000000 in
theorem lawHeapValid_walk (w : World) (A : Option Addr) (n c : Nat) (h : Inp w A n c) :
    Calls Try.prog 4 #[.slice A n c] w (LawTrue w) := by
  by_cases hbig : 1048576 < n
  · go_enter Try.func4, Try.ntmps4
    go_wp2_with fail
    go_ret
    exact ⟨rfl, Below.refl _ _⟩
  go_enter Try.func4, Try.ntmps4
  go_wp2_with fail
  refine (drawHeapValid_any _ _ _ _ h).mono ?_; rintro e w1 ⟨v, hp, rfl, HA, hb1⟩
  have BW1 : Below w.heap.size w w1 := (Below.refl w.heap.size w).trans (hb1.mono (Below.refl w.heap.size w).size)
  have zz1 := hb1.size
  have V := fun W v hW => implHeapValid_any W w.heap.size v hp hW
  have S := fun W v hW => specHeapValid_any W w.heap.size v hp hW
  have HAo := HA
  obtain ⟨A0, n0, c0, A1, n1, c1, A2, n2, c2, rfl, ⟨r0, r1, r2⟩, ⟨l0, l1, l2⟩, _, ⟨cb0, _, _⟩, a01, a02, a12⟩ := HAo.open_
  rcases ev : hvB hp
  · rw [ev] at V S
    clear ev
    go_wp2_with fail
    refine (V _ _ (HA.alloc (.cells #[.slice A0 n0 c0, .slice A1 n1 c1, .slice A2 n2 c2] 25))).mono ?_; rintro e w2 ⟨rfl, hb2⟩
    have BW2 : Below w.heap.size w w2 := (BW1.alloc BW1.size (.cells #[.slice A0 n0 c0, .slice A1 n1 c1, .slice A2 n2 c2] 25)).trans (hb2.mono (BW1.alloc BW1.size (.cells #[.slice A0 n0 c0, .slice A1 n1 c1, .slice A2 n2 c2] 25)).size)
    have zz2 := hb2.size
    have HA_2 := Hv.below (by exact (HA.alloc (.cells #[.slice A0 n0 c0, .slice A1 n1 c1, .slice A2 n2 c2] 25))) hb2
    have X_2 := Blk3.below (by exact (Blk3.new w1 (.slice A0 n0 c0) (.slice A1 n1 c1) (.slice A2 n2 c2) 25)) hb2
    obtain ⟨cX_2_0, cX_2_1, cX_2_2, _⟩ := X_2.cells
    have lX_2 := X_2.lt
    go_wp2_with fail
    refine (S _ _ HA_2).mono ?_; rintro e w3 ⟨rfl, hb3⟩
    have BW3 : Below w.heap.size w w3 := BW2.trans (hb3.mono BW2.size)
    have zz3 := hb3.size
    have HA_3 := Hv.below (by exact HA_2) hb3
    have X_3 := Blk3.below (by exact X_2) hb3
    obtain ⟨cX_3_0, cX_3_1, cX_3_2, _⟩ := X_3.cells
    have lX_3 := X_3.lt
    go_wp2_with fail
    refine (S _ _ HA_3).mono ?_; rintro e w4 ⟨rfl, hb4⟩
    have BW4 : Below w.heap.size w w4 := BW3.trans (hb4.mono BW3.size)
    have zz4 := hb4.size
    have HA_4 := Hv.below (by exact HA_3) hb4
    have X_4 := Blk3.below (by exact X_3) hb4
    obtain ⟨cX_4_0, cX_4_1, cX_4_2, _⟩ := X_4.cells
    have lX_4 := X_4.lt
    go_wp2_with fail
    go_ret
    exact ⟨rfl, BW4⟩
  · rw [ev] at V S
    have hl := hvB_len ev
    obtain ⟨g, a, rfl, hlog, hgw, ha, hcell0, _⟩ := r0.get (k := 0) (by omega)
    have u0 : 0 < n0 ∧ n0 ≤ 8 := by have := l0.out; omega
    obtain ⟨u0a, u0b⟩ := u0
    have EV := Lib.hid ev
    clear ev hl
    go_wp2_with fail
    refine (V _ _ (HA.alloc (.cells #[.slice (some ⟨g, 0, none⟩) n0 c0, .slice A1 n1 c1, .slice A2 n2 c2] 25))).mono ?_; rintro e w2 ⟨rfl, hb2⟩
    have BW2 : Below w.heap.size w w2 := (BW1.alloc BW1.size (.cells #[.slice (some ⟨g, 0, none⟩) n0 c0, .slice A1 n1 c1, .slice A2 n2 c2] 25)).trans (hb2.mono (BW1.alloc BW1.size (.cells #[.slice (some ⟨g, 0, none⟩) n0 c0, .slice A1 n1 c1, .slice A2 n2 c2] 25)).size)
    have zz2 := hb2.size
    have HA_2 := Hv.below (by exact (HA.alloc (.cells #[.slice (some ⟨g, 0, none⟩) n0 c0, .slice A1 n1 c1, .slice A2 n2 c2] 25))) hb2
    have X_2 := Blk3.below (by exact (Blk3.new w1 (.slice (some ⟨g, 0, none⟩) n0 c0) (.slice A1 n1 c1) (.slice A2 n2 c2) 25)) hb2
    obtain ⟨cX_2_0, cX_2_1, cX_2_2, _⟩ := X_2.cells
    have lX_2 := X_2.lt
    go_wp2_with fail
    refine (S _ _ HA_2).mono ?_; rintro e w3 ⟨rfl, hb3⟩
    have BW3 : Below w.heap.size w w3 := BW2.trans (hb3.mono BW2.size)
    have zz3 := hb3.size
    have HA_3 := Hv.below (by exact HA_2) hb3
    have X_3 := Blk3.below (by exact X_2) hb3
    obtain ⟨cX_3_0, cX_3_1, cX_3_2, _⟩ := X_3.cells
    have lX_3 := X_3.lt
    clear V S
    go_wp2_with fail
    have X4 := Blk3.alloc X_3 (.cells #[.slice (some ⟨g, 0, none⟩) n0 c0, .slice A1 n1 c1, .slice A2 n2 c2] 25)
    have Y4 := Blk3.new w3 (.slice (some ⟨g, 0, none⟩) n0 c0) (.slice A1 n1 c1) (.slice A2 n2 c2) 25
    have H4 := Hv.alloc HA_3 (.cells #[.slice (some ⟨g, 0, none⟩) n0 c0, .slice A1 n1 c1, .slice A2 n2 c2] 25)
    have BW4 := BW3.alloc BW3.size (.cells #[.slice (some ⟨g, 0, none⟩) n0 c0, .slice A1 n1 c1, .slice A2 n2 c2] 25)
    have C4 := Below.alloc (Below.trans (Below.trans (Below.alloc (Below.refl w1.heap.size w1) (Nat.le_refl _) _) (hb2.mono (by simp))) (hb3.mono (by simp at zz2; omega))) (by simp at zz2; omega) (.cells #[.slice (some ⟨g, 0, none⟩) n0 c0, .slice A1 n1 c1, .slice A2 n2 c2] 25)
    generalize (w3.alloc (.cells #[.slice (some ⟨g, 0, none⟩) n0 c0, .slice A1 n1 c1, .slice A2 n2 c2] 25)) = W4 at X4 Y4 H4 BW4 C4 ⊢
    obtain ⟨x0, x1, x2, _⟩ := X4.cells
    have lx := X4.lt
    obtain ⟨y0, y1, y2, yf0, yf1, yf2⟩ := Y4.cells
    have ly := Y4.lt
    have hge : (1 : Int) ≤ (n0 : Int) := by omega
    have C3 : Below w1.heap.size w1 w3 := (((Below.refl _ _).alloc (Nat.le_refl _) _).trans (hb2.mono (by simp))).trans (hb3.mono (by simp at zz2; omega))
    have z13 := C3.size
    have z34 : w3.heap.size < W4.heap.size := ly
    have R4 := r0.below C4
    have hyv : hvB ⟨(n0 : Int) :: hp.l.tail, hp.r, hp.t⟩ = false := self_wrong (by rw [List.length_tail, l0.out])
    have hzv : hvB ⟨hp.l, hp.r, []⟩ = false := noroot_wrong _ _
    obtain ⟨i0, hi, hz0, hz1, hz2⟩ := info_parts Try.infoInt
    by_cases hn1 : n0 = 1
    · subst hn1
      have htl : hp.l.tail = [] := by rw [← List.length_eq_zero_iff, List.length_tail, l0.out]
      by_cases hc1 : c0 = 1
      · subst hc1
        go_region_law (fail)
        all_goals
          have C5 := (((C4.setCell (p := ⟨w3.heap.size, 0, none⟩) z13 (.slice (some ⟨W4.heap.size, 0, none⟩) 1 1)).alloc (by simp [World.setCell]; omega) (.cells #[.int .i64 ((1 : Nat) : Int)] 3)).drew)
          have X5 := ((X4.other (p := ⟨w3.heap.size, 0, none⟩) (by simp; omega) (.slice (some ⟨W4.heap.size, 0, none⟩) 1 1)).alloc (.cells #[.int .i64 ((1 : Nat) : Int)] 3)).drew
          have Y5 := ((Y4.set0 (.slice (some ⟨W4.heap.size, 0, none⟩) 1 1)).alloc (.cells #[.int .i64 ((1 : Nat) : Int)] 3)).drew
          have L5 : Row (((W4.setCell ⟨w3.heap.size, 0, none⟩ (.slice (some ⟨W4.heap.size, 0, none⟩) 1 1)).alloc (.cells #[.int .i64 ((1 : Nat) : Int)] 3)).drew) w1.heap.size (.slice (some ⟨W4.heap.size, 0, none⟩) 1 1) (((1 : Nat) : Int) :: hp.l.tail) := by rw [htl]; exact Row.drew (Row.lit_lo (by simp [World.setCell]) _ (by simp [World.setCell]; omega) [((1 : Nat) : Int)] (by simp))
          generalize (((W4.setCell ⟨w3.heap.size, 0, none⟩ (.slice (some ⟨W4.heap.size, 0, none⟩) 1 1)).alloc (.cells #[.int .i64 ((1 : Nat) : Int)] 3)).drew) = W5 at C5 X5 Y5 L5 ⊢
          obtain ⟨u0_, u1_, u2_, _⟩ := X5.cells
          have lx5 := X5.lt
          obtain ⟨v0_, v1_, v2_, _⟩ := Y5.cells
          have ly5 := Y5.lt
          have HY5 : Hv W5 w.heap.size (.agg #[.slice (some ⟨W4.heap.size, 0, none⟩) 1 1, .slice A1 n1 c1, .slice A2 n2 c2]) ⟨((1 : Nat) : Int) :: hp.l.tail, hp.r, hp.t⟩ := ⟨_, _, _, rfl, L5.mono BW1.size, r1.below C5, r2.below C5, (apart_new r1 L5).symm, (apart_new r2 L5).symm, a12⟩
          have V1 := implHeapValid_any _ _ _ _ ((HY5.alloc (.cells #[.slice (some ⟨g, 0, none⟩) 1 1, .slice A1 n1 c1, .slice (some ⟨W5.heap.size + 1, 0, none⟩) 0 0] 25)).alloc (.cells #[] 3))
          rw [hyv] at V1
          have Z6 := (Blk3.new W5 (.slice (some ⟨g, 0, none⟩) 1 1) (.slice A1 n1 c1) (.slice (some ⟨W5.heap.size + 1, 0, none⟩) 0 0) 25).alloc (.cells #[] 3)
          have q0 : Row ((W5.alloc (.cells #[.slice (some ⟨g, 0, none⟩) 1 1, .slice A1 n1 c1, .slice (some ⟨W5.heap.size + 1, 0, none⟩) 0 0] 25)).alloc (.cells #[] 3)) w.heap.size (.slice (some ⟨g, 0, none⟩) 1 1) hp.l := ((r0.below C5).alloc _).alloc _
          have q1 : Row ((W5.alloc (.cells #[.slice (some ⟨g, 0, none⟩) 1 1, .slice A1 n1 c1, .slice (some ⟨W5.heap.size + 1, 0, none⟩) 0 0] 25)).alloc (.cells #[] 3)) w.heap.size (.slice A1 n1 c1) hp.r := ((r1.below C5).alloc _).alloc _
          have q2 : Row ((W5.alloc (.cells #[.slice (some ⟨g, 0, none⟩) 1 1, .slice A1 n1 c1, .slice (some ⟨W5.heap.size + 1, 0, none⟩) 0 0] 25)).alloc (.cells #[] 3)) w1.heap.size (.slice (some ⟨W5.heap.size + 1, 0, none⟩) 0 0) [] := Row.lit_lo (w := W5.alloc (.cells #[.slice (some ⟨g, 0, none⟩) 1 1, .slice A1 n1 c1, .slice (some ⟨W5.heap.size + 1, 0, none⟩) 0 0] 25)) (by simp) _ (by have := C5.size; simp; omega) [] (by simp)
          have HZ6 : Hv ((W5.alloc (.cells #[.slice (some ⟨g, 0, none⟩) 1 1, .slice A1 n1 c1, .slice (some ⟨W5.heap.size + 1, 0, none⟩) 0 0] 25)).alloc (.cells #[] 3)) w.heap.size (.agg #[.slice (some ⟨g, 0, none⟩) 1 1, .slice A1 n1 c1, .slice (some ⟨W5.heap.size + 1, 0, none⟩) 0 0]) ⟨hp.l, hp.r, []⟩ := ⟨_, _, _, rfl, q0, q1, q2.mono BW1.size, a01, apart_new r0 q2, apart_new r1 q2⟩
          have BW6 := ((BW1.trans (C5.mono BW1.size)).alloc (BW1.trans (C5.mono BW1.size)).size (.cells #[.slice (some ⟨g, 0, none⟩) 1 1, .slice A1 n1 c1, .slice (some ⟨W5.heap.size + 1, 0, none⟩) 0 0] 25)).alloc (by have := (BW1.trans (C5.mono BW1.size)).size; simp; omega) (.cells #[] 3)
          clear HY5 q0 q1 q2
          go_wp2_with fail
          refine V1.mono ?_; rintro e w7 ⟨rfl, hb7⟩
          have Z7 := Blk3.below (by exact Z6) hb7
          obtain ⟨z70, z71, z72, _⟩ := Z7.cells
          have V2 := implHeapValid_any _ _ _ _ (Hv.below (by exact HZ6) hb7)
          rw [hzv] at V2
          have BW7 := BW6.trans (hb7.mono BW6.size)
          go_wp2_with fail
          refine V2.mono ?_; rintro e w8 ⟨rfl, hb8⟩
          go_wp2_with fail
          go_ret
          exact ⟨rfl, BW7.trans (hb8.mono BW7.size)⟩
      · go_region_law (fail)
        all_goals
          have C5 := (((C4.setCell (p := ⟨w3.heap.size, 0, none⟩) z13 (.slice (some ⟨W4.heap.size, 0, none⟩) 1 1)).alloc (by simp [World.setCell]; omega) (.cells #[.int .i64 ((1 : Nat) : Int)] 3)).drew)
          have X5 := ((X4.other (p := ⟨w3.heap.size, 0, none⟩) (by simp; omega) (.slice (some ⟨W4.heap.size, 0, none⟩) 1 1)).alloc (.cells #[.int .i64 ((1 : Nat) : Int)] 3)).drew
          have Y5 := ((Y4.set0 (.slice (some ⟨W4.heap.size, 0, none⟩) 1 1)).alloc (.cells #[.int .i64 ((1 : Nat) : Int)] 3)).drew
          have L5 : Row (((W4.setCell ⟨w3.heap.size, 0, none⟩ (.slice (some ⟨W4.heap.size, 0, none⟩) 1 1)).alloc (.cells #[.int .i64 ((1 : Nat) : Int)] 3)).drew) w1.heap.size (.slice (some ⟨W4.heap.size, 0, none⟩) 1 1) (((1 : Nat) : Int) :: hp.l.tail) := by rw [htl]; exact Row.drew (Row.lit_lo (by simp [World.setCell]) _ (by simp [World.setCell]; omega) [((1 : Nat) : Int)] (by simp))
          generalize (((W4.setCell ⟨w3.heap.size, 0, none⟩ (.slice (some ⟨W4.heap.size, 0, none⟩) 1 1)).alloc (.cells #[.int .i64 ((1 : Nat) : Int)] 3)).drew) = W5 at C5 X5 Y5 L5 ⊢
          obtain ⟨u0_, u1_, u2_, _⟩ := X5.cells
          have lx5 := X5.lt
          obtain ⟨v0_, v1_, v2_, _⟩ := Y5.cells
          have ly5 := Y5.lt
          have HY5 : Hv W5 w.heap.size (.agg #[.slice (some ⟨W4.heap.size, 0, none⟩) 1 1, .slice A1 n1 c1, .slice A2 n2 c2]) ⟨((1 : Nat) : Int) :: hp.l.tail, hp.r, hp.t⟩ := ⟨_, _, _, rfl, L5.mono BW1.size, r1.below C5, r2.below C5, (apart_new r1 L5).symm, (apart_new r2 L5).symm, a12⟩
          have V1 := implHeapValid_any _ _ _ _ ((HY5.alloc (.cells #[.slice (some ⟨g, 0, none⟩) 1 c0, .slice A1 n1 c1, .slice (some ⟨W5.heap.size + 1, 0, none⟩) 0 0] 25)).alloc (.cells #[] 3))
          rw [hyv] at V1
          have Z6 := (Blk3.new W5 (.slice (some ⟨g, 0, none⟩) 1 c0) (.slice A1 n1 c1) (.slice (some ⟨W5.heap.size + 1, 0, none⟩) 0 0) 25).alloc (.cells #[] 3)
          have q0 : Row ((W5.alloc (.cells #[.slice (some ⟨g, 0, none⟩) 1 c0, .slice A1 n1 c1, .slice (some ⟨W5.heap.size + 1, 0, none⟩) 0 0] 25)).alloc (.cells #[] 3)) w.heap.size (.slice (some ⟨g, 0, none⟩) 1 c0) hp.l := ((r0.below C5).alloc _).alloc _
          have q1 : Row ((W5.alloc (.cells #[.slice (some ⟨g, 0, none⟩) 1 c0, .slice A1 n1 c1, .slice (some ⟨W5.heap.size + 1, 0, none⟩) 0 0] 25)).alloc (.cells #[] 3)) w.heap.size (.slice A1 n1 c1) hp.r := ((r1.below C5).alloc _).alloc _
          have q2 : Row ((W5.alloc (.cells #[.slice (some ⟨g, 0, none⟩) 1 c0, .slice A1 n1 c1, .slice (some ⟨W5.heap.size + 1, 0, none⟩) 0 0] 25)).alloc (.cells #[] 3)) w1.heap.size (.slice (some ⟨W5.heap.size + 1, 0, none⟩) 0 0) [] := Row.lit_lo (w := W5.alloc (.cells #[.slice (some ⟨g, 0, none⟩) 1 c0, .slice A1 n1 c1, .slice (some ⟨W5.heap.size + 1, 0, none⟩) 0 0] 25)) (by simp) _ (by have := C5.size; simp; omega) [] (by simp)
          have HZ6 : Hv ((W5.alloc (.cells #[.slice (some ⟨g, 0, none⟩) 1 c0, .slice A1 n1 c1, .slice (some ⟨W5.heap.size + 1, 0, none⟩) 0 0] 25)).alloc (.cells #[] 3)) w.heap.size (.agg #[.slice (some ⟨g, 0, none⟩) 1 c0, .slice A1 n1 c1, .slice (some ⟨W5.heap.size + 1, 0, none⟩) 0 0]) ⟨hp.l, hp.r, []⟩ := ⟨_, _, _, rfl, q0, q1, q2.mono BW1.size, a01, apart_new r0 q2, apart_new r1 q2⟩
          have BW6 := ((BW1.trans (C5.mono BW1.size)).alloc (BW1.trans (C5.mono BW1.size)).size (.cells #[.slice (some ⟨g, 0, none⟩) 1 c0, .slice A1 n1 c1, .slice (some ⟨W5.heap.size + 1, 0, none⟩) 0 0] 25)).alloc (by have := (BW1.trans (C5.mono BW1.size)).size; simp; omega) (.cells #[] 3)
          clear HY5 q0 q1 q2
          go_wp2_with fail
          refine V1.mono ?_; rintro e w7 ⟨rfl, hb7⟩
          have Z7 := Blk3.below (by exact Z6) hb7
          obtain ⟨z70, z71, z72, _⟩ := Z7.cells
          have V2 := implHeapValid_any _ _ _ _ (Hv.below (by exact HZ6) hb7)
          rw [hzv] at V2
          have BW7 := BW6.trans (hb7.mono BW6.size)
          go_wp2_with fail
          refine V2.mono ?_; rintro e w8 ⟨rfl, hb8⟩
          go_wp2_with fail
          go_ret
          exact ⟨rfl, BW7.trans (hb8.mono BW7.size)⟩
    · have hc1 : ¬ c0 = 1 := by omega
      have EL : (hp.l.tail.map iv).length = (n0 - 1) * 1 := by rw [List.length_map, List.length_tail, l0.out]; omega
      have M1 : 1 + (n0 - 1) ≤ maxLen := by unfold maxLen; omega
      have LL : Hid (1 + (n0 - 1) = ((n0 : Int) :: hp.l.tail).length) := by unfold Hid; rw [List.length_cons, List.length_tail, l0.out]; omega
      go_region_law (first | (refine step_append_grows rfl (.tmp 30) (.tmp 33) 23 rfl 3 i0 (.int .i64 0) 1 8 Try.underlying23 hi hz0 hz1 hz2 rfl (by decide) _ 1 1 [.int .i64 (n0 : Int)] (by rfl) (fun e => by cases e) rfl (fun b hb => by cases hb; first | exact one_newD | exact one_new) ⟨g, 1, none⟩ (n0 - 1) _ (hp.l.tail.map iv) (by rfl) EL ?_ (ints_oneCell _ _) (by omega) (by exact M1) (by omega) ?_; (exact Row.cellsTail (lo := w.heap.size) (n := n0) (c := c0) (xs := hp.l) (by repeat (with_reducible (first | refine Row.drew ?_ | refine Row.alloc ?_ _ | exact R4)))); intro v5 w5 hown hgr; obtain ⟨D, dq, dc, rfl, L5, hb5⟩ := after_app1 hown hgr LL.out; have X5 : Blk3 w5 w1.heap.size (.slice (some ⟨g, 0, none⟩) n0 c0) (.slice A1 n1 c1) (.slice A2 n2 c2) 25 := (by repeat (with_reducible (first | exact X4 | refine Blk3.drew ?_ | refine Blk3.alloc ?_ _ | refine Blk3.below ?_ hb5))); have Y5 : Blk3 w5 w3.heap.size (.slice (some ⟨g, 0, none⟩) n0 c0) (.slice A1 n1 c1) (.slice A2 n2 c2) 25 := (by repeat (with_reducible (first | exact Y4 | refine Blk3.drew ?_ | refine Blk3.alloc ?_ _ | refine Blk3.below ?_ hb5))); have z5 := hb5.size; have C5 : Below w1.heap.size w1 w5 := Below.trans (by repeat (with_reducible (first | exact C4 | refine Below.drew ?_ | refine Below.alloc ?_ (by first | omega | (simp <;> omega)) _))) (hb5.mono (by first | omega | (simp <;> omega))); obtain ⟨p50, p51, p52, _⟩ := X5.cells; obtain ⟨q50, q51, q52, qf0, qf1, qf2⟩ := Y5.cells; have lx5 := X5.lt; have ly5 := Y5.lt))
      all_goals
        replace C5 := C5.setCell (p := ⟨w3.heap.size, 0, none⟩) z13 (.slice D dq dc)
        replace X5 := X5.other (p := ⟨w3.heap.size, 0, none⟩) (by simp; omega) (.slice D dq dc)
        replace Y5 := Y5.set0 (.slice D dq dc)
        replace L5 := (L5.mono (lo' := w1.heap.size) (by first | omega | (simp <;> omega))).other (a := ⟨w3.heap.size, 0, none⟩) (fun e => by have := (L5.lt _ e).1; simp at this; omega) (.slice D dq dc)
        clear p50 p51 p52 q50 q51 q52 qf0 qf1 qf2 lx5 ly5
        generalize (w5.setCell ⟨w3.heap.size, 0, none⟩ (.slice D dq dc)) = W5 at C5 X5 Y5 L5 ⊢
        obtain ⟨u0_, u1_, u2_, _⟩ := X5.cells
        have lx5 := X5.lt
        obtain ⟨v0_, v1_, v2_, _⟩ := Y5.cells
        have ly5 := Y5.lt
        have HY5 : Hv W5 w.heap.size (.agg #[.slice D dq dc, .slice A1 n1 c1, .slice A2 n2 c2]) ⟨((n0 : Nat) : Int) :: hp.l.tail, hp.r, hp.t⟩ := ⟨_, _, _, rfl, L5.mono BW1.size, r1.below C5, r2.below C5, (apart_new r1 L5).symm, (apart_new r2 L5).symm, a12⟩
        have V1 := implHeapValid_any _ _ _ _ ((HY5.alloc (.cells #[.slice (some ⟨g, 0, none⟩) n0 c0, .slice A1 n1 c1, .slice (some ⟨W5.heap.size + 1, 0, none⟩) 0 0] 25)).alloc (.cells #[] 3))
        rw [hyv] at V1
        have Z6 := (Blk3.new W5 (.slice (some ⟨g, 0, none⟩) n0 c0) (.slice A1 n1 c1) (.slice (some ⟨W5.heap.size + 1, 0, none⟩) 0 0) 25).alloc (.cells #[] 3)
        have q0 : Row ((W5.alloc (.cells #[.slice (some ⟨g, 0, none⟩) n0 c0, .slice A1 n1 c1, .slice (some ⟨W5.heap.size + 1, 0, none⟩) 0 0] 25)).alloc (.cells #[] 3)) w.heap.size (.slice (some ⟨g, 0, none⟩) n0 c0) hp.l := ((r0.below C5).alloc _).alloc _
        have q1 : Row ((W5.alloc (.cells #[.slice (some ⟨g, 0, none⟩) n0 c0, .slice A1 n1 c1, .slice (some ⟨W5.heap.size + 1, 0, none⟩) 0 0] 25)).alloc (.cells #[] 3)) w.heap.size (.slice A1 n1 c1) hp.r := ((r1.below C5).alloc _).alloc _
        have q2 : Row ((W5.alloc (.cells #[.slice (some ⟨g, 0, none⟩) n0 c0, .slice A1 n1 c1, .slice (some ⟨W5.heap.size + 1, 0, none⟩) 0 0] 25)).alloc (.cells #[] 3)) w1.heap.size (.slice (some ⟨W5.heap.size + 1, 0, none⟩) 0 0) [] := Row.lit_lo (w := W5.alloc (.cells #[.slice (some ⟨g, 0, none⟩) n0 c0, .slice A1 n1 c1, .slice (some ⟨W5.heap.size + 1, 0, none⟩) 0 0] 25)) (by simp) _ (by have := C5.size; simp; omega) [] (by simp)
        have HZ6 : Hv ((W5.alloc (.cells #[.slice (some ⟨g, 0, none⟩) n0 c0, .slice A1 n1 c1, .slice (some ⟨W5.heap.size + 1, 0, none⟩) 0 0] 25)).alloc (.cells #[] 3)) w.heap.size (.agg #[.slice (some ⟨g, 0, none⟩) n0 c0, .slice A1 n1 c1, .slice (some ⟨W5.heap.size + 1, 0, none⟩) 0 0]) ⟨hp.l, hp.r, []⟩ := ⟨_, _, _, rfl, q0, q1, q2.mono BW1.size, a01, apart_new r0 q2, apart_new r1 q2⟩
        have BW6 := ((BW1.trans (C5.mono BW1.size)).alloc (BW1.trans (C5.mono BW1.size)).size (.cells #[.slice (some ⟨g, 0, none⟩) n0 c0, .slice A1 n1 c1, .slice (some ⟨W5.heap.size + 1, 0, none⟩) 0 0] 25)).alloc (by have := (BW1.trans (C5.mono BW1.size)).size; simp; omega) (.cells #[] 3)
        clear HY5 q0 q1 q2
        go_wp2_with fail
        refine V1.mono ?_; rintro e w7 ⟨rfl, hb7⟩
        have Z7 := Blk3.below (by exact Z6) hb7
        obtain ⟨z70, z71, z72, _⟩ := Z7.cells
        have V2 := implHeapValid_any _ _ _ _ (Hv.below (by exact HZ6) hb7)
        rw [hzv] at V2
        have BW7 := BW6.trans (hb7.mono BW6.size)
        go_wp2_with fail
        refine V2.mono ?_; rintro e w8 ⟨rfl, hb8⟩
        go_wp2_with fail
        go_ret
        exact ⟨rfl, BW7.trans (hb8.mono BW7.size)⟩
end Go.Proofs.Ytfgkafbdaalkoaa
