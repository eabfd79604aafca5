/- The law FnStoreValid, walked. -/
import Derived.Test.YtmpcgegbfbkmnaaLawR
import Derived.Test.YtmpcgegbfbkmnaaWLaw
import Derived.Test.YtmpcgegbfbkmnaaRdL
namespace Go.Proofs.Ytmpcgegbfbkmnaa
open Go.RowKit

/-- A free cell more, a free cell less. -/
theorem valid_parts {C : Cp} (hC : stoB C = true) {y : Int} {tl : List Int} (ec : C.c = y :: tl) : stoB ⟨C.h, C.c ++ [y]⟩ = false ∧ stoB ⟨C.h, tl⟩ = true ∧ (leakL ⟨C.h, tl⟩).length = (leakL C).length + 1 := by
  obtain ⟨hv, hl, hf, hn⟩ := stoB_parts hC
  have h1 : stoB ⟨C.h, tl⟩ = true := by
    rw [ec] at hl hf hn
    rw [List.nodup_cons] at hn
    exact stoB_of hv (by simp at hl; show tl.length ≤ C.h.l.length; omega) (fun x hx => hf x (List.mem_cons_of_mem _ hx)) hn.2
  refine ⟨?_, h1, ?_⟩
  · rw [Bool.eq_false_iff]; intro h9
    obtain ⟨_, _, _, h8⟩ := stoB_parts h9
    have h7 : (C.c ++ [y]).Nodup := h8
    rw [List.nodup_append] at h7
    exact h7.2.2 y (by rw [ec]; exact List.mem_cons_self ..) y (by simp) rfl
  · have a := leak_count hC
    have b := leak_count h1
    rw [ec] at a
    simp only [List.length_cons] at a
    have b2 : ((leakL ⟨C.h, tl⟩).length : Int) + tl.length + cntB (liveL C.h) = C.h.l.length := b
    omega
theorem one_at {w : World} {g : Nat} {x : Value} (h : w.cell? ⟨g, 0, none⟩ = some x) : ∀ j u, [x][j]? = some u → w.cell? ((⟨g, 0, none⟩ : Addr).add j) = some u := fun j u hj => by
  rcases j with _ | j
  · simp at hj; subst hj; simpa [Addr.add] using h
  · simp at hj
theorem one_P2 {W Wx wa : World} {x : Value} (hb : Below Wx.heap.size Wx wa) (hx : Wx.heap = ((W.alloc (.cells #[] 3)).alloc (.cells #[x] 3)).heap) : ∀ j u, [x][j]? = some u → wa.cell? ((⟨W.heap.size + 1, 0, none⟩ : Addr).add j) = some u := by
  refine one_at ((hb.cell (p := ⟨W.heap.size + 1, 0, none⟩) (by rw [hx]; simp)).trans ?_)
  have h8 : ((W.alloc (.cells #[] 3)).alloc (.cells #[x] 3)).cell? ⟨W.heap.size + 1, 0, none⟩ = some x := by simp
  rw [← h8]; unfold World.cell?; rw [hx]
theorem one_P3 {W Wx wa : World} {x : Value} (hb : Below Wx.heap.size Wx wa) (hx : Wx.heap = ((W.alloc (.cells #[x] 3)).alloc (.cells #[] 3)).heap) : ∀ j u, [x][j]? = some u → wa.cell? ((⟨W.heap.size, 0, none⟩ : Addr).add j) = some u := by
  refine one_at ((hb.cell (p := ⟨W.heap.size, 0, none⟩) (by rw [hx]; simp; omega)).trans ?_)
  have h7 : (W.alloc (.cells #[x] 3)).cell? ⟨W.heap.size, 0, none⟩ = some x := by simp
  have h8 := (((Below.refl _ _).alloc (Nat.le_refl _) (.cells #[] 3)).cell (p := ⟨W.heap.size, 0, none⟩) (by simp)).trans h7
  rw [← h8]; unfold World.cell?; rw [hx]
theorem one_newD {w : World} {x : Value} {t : TypeId} : ∀ j u, [x][j]? = some u → (w.alloc (.cells #[x] t)).drew.cell? ((⟨w.heap.size, 0, none⟩ : Addr).add j) = some u := one_new
theorem after_liesS {w' : World} {lo g n m cap : Nat} {xs ys : List Int} (hown : w'.ownsRow lo 3 1 (.slice (some ⟨g, 0, none⟩) (n + m) cap) (n + m) (xs.map iv ++ ys.map iv)) (hn : n + m = (xs ++ ys).length) :
    Row w' lo (.slice (some ⟨g, 0, none⟩) (n + m) cap) (xs ++ ys) := Row.of_own hown (by simp) hn
theorem Blk4.setLast {w : World} {b : Nat} {x y z u : Value} {t : TypeId} (h : Blk4 w b x y z u t) (u' : Value) : Blk4 (w.setCell ⟨b, 3, none⟩ u') b x y z u' t := Blk4.set3 h u'
theorem Row.belowLoS {w w' : World} {lo : Nat} {v : Value} {xs : List Int} (h : Row w lo v xs) (hl : lo ≤ w.heap.size) (hg : w.grownBy w' v.ownBlock) : Below lo w w' :=
  (Below.refl lo w).grown hg hl (fun k hk => (h.lt k hk).1)

set_option maxRecDepth 100000 in
set_option maxHeartbeats 4000000 in
theorem lawStoreValid_walk (w : World) (A : Option Addr) (n c : Nat) (h : Inp w A n c) :
    Calls Try.prog 13 #[.slice A n c] w (LawTrue w) := by
  by_cases hbig : 1048576 < n
  · go_enter Try.func13, Try.ntmps13
    go_wp2_with fail
    go_ret
    exact ⟨rfl, Below.refl _ _⟩
  go_enter Try.func13, Try.ntmps13
  go_wp2_with fail
  refine (drawStoreValid_any _ _ _ _ h).mono ?_; rintro e w1 ⟨v, C, rfl, HA, hb1⟩
  have BW1 : Below w.heap.size w w1 := (Below.refl w.heap.size w).trans (hb1.mono (Below.refl w.heap.size w).size)
  have zz1 : w.heap.size ≤ w1.heap.size := hb1.size
  have HAo := HA
  obtain ⟨A0, n0, c0, A1, n1, c1, A2, n2, c2, A3, n3, c3, rfl, hh, ⟨r0, r1, r2, r3⟩, ⟨l0, l1, l2, l3⟩, ⟨mm0, mm1, mm2, mm3⟩, _⟩ := HAo.open_
  have V := fun W lo v hW => implStoreValid_any W lo v C hW
  have S := fun W lo v hW => specStoreValid_any W lo v C hW
  rcases ev : stoB C
  · rw [ev] at V S
    clear ev
    go_wp2_with fail
    refine (V _ _ _ (HA.alloc (.cells #[.slice A0 n0 c0, .slice A1 n1 c1, .slice A2 n2 c2, .slice A3 n3 c3] 27))).mono ?_; rintro e w2 ⟨rfl, hb2⟩
    have BW2 : Below w.heap.size w w2 := (BW1.alloc BW1.size (.cells #[.slice A0 n0 c0, .slice A1 n1 c1, .slice A2 n2 c2, .slice A3 n3 c3] 27)).trans (hb2.mono (BW1.alloc BW1.size (.cells #[.slice A0 n0 c0, .slice A1 n1 c1, .slice A2 n2 c2, .slice A3 n3 c3] 27)).size)
    have zz2 : w1.heap.size + 1 ≤ w2.heap.size := by have := hb2.size; simp at this; omega
    have HA_2 := Cv.below (by exact (HA.alloc (.cells #[.slice A0 n0 c0, .slice A1 n1 c1, .slice A2 n2 c2, .slice A3 n3 c3] 27))) hb2
    have X_2 := Blk4.below (by exact (Blk4.new w1 (.slice A0 n0 c0) (.slice A1 n1 c1) (.slice A2 n2 c2) (.slice A3 n3 c3) 27)) hb2
    obtain ⟨cX_2_0, cX_2_1, cX_2_2, cX_2_3, _⟩ := X_2.cells
    have lX_2 := X_2.lt
    go_wp2_with fail
    refine (S _ _ _ HA_2).mono ?_; rintro e w3 ⟨rfl, hb3⟩
    have BW3 : Below w.heap.size w w3 := BW2.trans (hb3.mono BW2.size)
    have zz3 : w2.heap.size ≤ w3.heap.size := hb3.size
    have HA_3 := Cv.below (by exact HA_2) hb3
    have X_3 := Blk4.below (by exact X_2) hb3
    obtain ⟨cX_3_0, cX_3_1, cX_3_2, cX_3_3, _⟩ := X_3.cells
    have lX_3 := X_3.lt
    go_wp2_with fail
    refine (S _ _ _ HA_3).mono ?_; rintro e w4 ⟨rfl, hb4⟩
    have BW4 : Below w.heap.size w w4 := BW3.trans (hb4.mono BW3.size)
    have zz4 : w3.heap.size ≤ w4.heap.size := hb4.size
    have HA_4 := Cv.below (by exact HA_3) hb4
    have X_4 := Blk4.below (by exact X_3) hb4
    obtain ⟨cX_4_0, cX_4_1, cX_4_2, cX_4_3, _⟩ := X_4.cells
    have lX_4 := X_4.lt
    go_wp2_with fail
    go_ret
    exact ⟨rfl, BW4⟩
  · rw [ev] at V S
    have hlen := l3.out
    by_cases hz : n3 = 0
    · subst hz
      clear ev
      go_wp2_with fail
      refine (V _ _ _ (HA.alloc (.cells #[.slice A0 n0 c0, .slice A1 n1 c1, .slice A2 n2 c2, .slice A3 0 c3] 27))).mono ?_; rintro e w2 ⟨rfl, hb2⟩
      have BW2 : Below w.heap.size w w2 := (BW1.alloc BW1.size (.cells #[.slice A0 n0 c0, .slice A1 n1 c1, .slice A2 n2 c2, .slice A3 0 c3] 27)).trans (hb2.mono (BW1.alloc BW1.size (.cells #[.slice A0 n0 c0, .slice A1 n1 c1, .slice A2 n2 c2, .slice A3 0 c3] 27)).size)
      have zz2 : w1.heap.size + 1 ≤ w2.heap.size := by have := hb2.size; simp at this; omega
      have HA_2 := Cv.below (by exact (HA.alloc (.cells #[.slice A0 n0 c0, .slice A1 n1 c1, .slice A2 n2 c2, .slice A3 0 c3] 27))) hb2
      have X_2 := Blk4.below (by exact (Blk4.new w1 (.slice A0 n0 c0) (.slice A1 n1 c1) (.slice A2 n2 c2) (.slice A3 0 c3) 27)) hb2
      obtain ⟨cX_2_0, cX_2_1, cX_2_2, cX_2_3, _⟩ := X_2.cells
      have lX_2 := X_2.lt
      go_wp2_with fail
      refine (S _ _ _ HA_2).mono ?_; rintro e w3 ⟨rfl, hb3⟩
      have BW3 : Below w.heap.size w w3 := BW2.trans (hb3.mono BW2.size)
      have zz3 : w2.heap.size ≤ w3.heap.size := hb3.size
      have HA_3 := Cv.below (by exact HA_2) hb3
      have X_3 := Blk4.below (by exact X_2) hb3
      obtain ⟨cX_3_0, cX_3_1, cX_3_2, cX_3_3, _⟩ := X_3.cells
      have lX_3 := X_3.lt
      go_wp2_with fail
      refine (S _ _ _ HA_3).mono ?_; rintro e w4 ⟨rfl, hb4⟩
      have BW4 : Below w.heap.size w w4 := BW3.trans (hb4.mono BW3.size)
      have zz4 : w3.heap.size ≤ w4.heap.size := hb4.size
      have HA_4 := Cv.below (by exact HA_3) hb4
      have X_4 := Blk4.below (by exact X_3) hb4
      obtain ⟨cX_4_0, cX_4_1, cX_4_2, cX_4_3, _⟩ := X_4.cells
      have lX_4 := X_4.lt
      go_wp2_with fail
      go_ret
      exact ⟨rfl, BW4⟩
    · obtain ⟨y, tl, ec⟩ : ∃ y tl, C.c = y :: tl := by
        cases e : C.c with
        | nil => rw [e] at hlen; simp at hlen; omega
        | cons y tl => exact ⟨y, tl, rfl⟩
      obtain ⟨s1, s2, s3⟩ := valid_parts ev ec
      obtain ⟨hlk, hn8⟩ := leak_bds ev
      rw [hlen] at hn8
      generalize hq : (leakL C).length = q at s3 hlk
      have hne : ((n3 : Int) == 0) = false := by simp; omega
      have hc0 : Hid (C.c[0]? = some y) := by unfold Hid; rw [ec]; rfl
      have hcd : Hid (C.c.drop 1 = tl) := by unfold Hid; rw [ec]; rfl
      have htl : Hid (tl.length = n3 - 1) := by unfold Hid; rw [← hlen, ec]; rfl
      have S1 := Lib.hid s1
      have S2 := Lib.hid s2
      have S3 := Lib.hid s3
      have HQ := Lib.hid hq
      have hlh := Lib.hid hlen
      clear ev ec s1 s2 s3 hq
      go_wp2_with fail
      refine (V _ _ _ (HA.alloc (.cells #[.slice A0 n0 c0, .slice A1 n1 c1, .slice A2 n2 c2, .slice A3 n3 c3] 27))).mono ?_; rintro e w2 ⟨rfl, hb2⟩
      have BW2 : Below w.heap.size w w2 := (BW1.alloc BW1.size (.cells #[.slice A0 n0 c0, .slice A1 n1 c1, .slice A2 n2 c2, .slice A3 n3 c3] 27)).trans (hb2.mono (BW1.alloc BW1.size (.cells #[.slice A0 n0 c0, .slice A1 n1 c1, .slice A2 n2 c2, .slice A3 n3 c3] 27)).size)
      have zz2 : w1.heap.size + 1 ≤ w2.heap.size := by have := hb2.size; simp at this; omega
      have HA_2 := Cv.below (by exact (HA.alloc (.cells #[.slice A0 n0 c0, .slice A1 n1 c1, .slice A2 n2 c2, .slice A3 n3 c3] 27))) hb2
      have X_2 := Blk4.below (by exact (Blk4.new w1 (.slice A0 n0 c0) (.slice A1 n1 c1) (.slice A2 n2 c2) (.slice A3 n3 c3) 27)) hb2
      obtain ⟨cX_2_0, cX_2_1, cX_2_2, cX_2_3, _⟩ := X_2.cells
      have lX_2 := X_2.lt
      go_wp2_with fail
      refine (S _ _ _ HA_2).mono ?_; rintro e w3 ⟨rfl, hb3⟩
      have BW3 : Below w.heap.size w w3 := BW2.trans (hb3.mono BW2.size)
      have zz3 : w2.heap.size ≤ w3.heap.size := hb3.size
      have HA_3 := Cv.below (by exact HA_2) hb3
      have X_3 := Blk4.below (by exact X_2) hb3
      obtain ⟨cX_3_0, cX_3_1, cX_3_2, cX_3_3, _⟩ := X_3.cells
      have lX_3 := X_3.lt
      clear V S
      have B3W := (Below.refl w3.heap.size w3).alloc (Nat.le_refl _) (.cells #[.slice A0 n0 c0, .slice A1 n1 c1, .slice A2 n2 c2, .slice A3 n3 c3] 27)
      go_wp2_with fail
      have HA_4s := (HA_3.alloc (.cells #[.slice A0 n0 c0, .slice A1 n1 c1, .slice A2 n2 c2, .slice A3 n3 c3] 27))
      have X_4s := (X_3.alloc (.cells #[.slice A0 n0 c0, .slice A1 n1 c1, .slice A2 n2 c2, .slice A3 n3 c3] 27))
      obtain ⟨cX_4s_0, cX_4s_1, cX_4s_2, cX_4s_3, _⟩ := X_4s.cells
      have lX_4s := X_4s.lt
      have Y_4s := (Blk4.new w3 (.slice A0 n0 c0) (.slice A1 n1 c1) (.slice A2 n2 c2) (.slice A3 n3 c3) 27)
      obtain ⟨cY_4s_0, cY_4s_1, cY_4s_2, cY_4s_3, _⟩ := Y_4s.cells
      have lY_4s := Y_4s.lt
      have BW4 := (BW3.alloc BW3.size (.cells #[.slice A0 n0 c0, .slice A1 n1 c1, .slice A2 n2 c2, .slice A3 n3 c3] 27))
      have r9 := (HA_4s).rowsS.2.2.2
      obtain ⟨gA, z, eg, _, hgA, hzz, hcz, _⟩ := r9.get (k := 0) (by rw [hlh.out]; omega)
      subst eg
      obtain rfl : z = y := by have h9 := hzz.out; rw [hc0.out] at h9; simpa using h9.symm
      have hcap := Row.cap r9
      clear hzz
      have hgA3 := ((HA_3).rowsS.2.2.2.lt gA rfl).2
      have hgY : gA ≠ w3.heap.size := by omega
      have hXY : w1.heap.size ≠ w3.heap.size := by omega
      generalize (w3.alloc (.cells #[.slice A0 n0 c0, .slice A1 n1 c1, .slice A2 n2 c2, .slice (some ⟨gA, 0, none⟩) n3 c3] 27)) = W at *
      have E3 : (C.c.map iv).length = n3 * 1 := by rw [List.length_map, hlh.out]; omega
      have L3 : Hid (0 + n3 = C.c.length) := by unfold Hid; rw [hlh.out]; omega
      have L4 : Hid (n3 + 1 = (C.c ++ [z]).length) := by unfold Hid; rw [List.length_append, hlh.out]; rfl
      have M1 : 0 + n3 ≤ maxLen := by unfold maxLen; omega
      have M2 : n3 + 1 ≤ maxLen := by unfold maxLen; omega
      have hp3 : 0 < n3 := by omega
      have h0i : (0 : Int) < (n3 : Int) := by omega
      obtain ⟨i0, hi, hz0, hz1, hz2⟩ := info_parts Try.infoInt
      obtain ⟨fx0, fx1, fx2, fx3, _⟩ := Blk4.cells X_4s
      obtain ⟨fy0, fy1, fy2, fy3, gy0, gy1, gy2, gy3⟩ := Blk4.cells Y_4s
      have lXW := Blk4.lt X_4s
      have lYW := Blk4.lt Y_4s
      go_region_held3 (fun w' => w'.cell? ⟨w1.heap.size, 0, none⟩ = some (.slice A0 n0 c0) ∧ w'.cell? ⟨w1.heap.size, 1, none⟩ = some (.slice A1 n1 c1) ∧ w'.cell? ⟨w1.heap.size, 2, none⟩ = some (.slice A2 n2 c2) ∧ w'.cell? ⟨w1.heap.size, 3, none⟩ = some (.slice (some ⟨gA, 0, none⟩) n3 c3) ∧ w'.cell? ⟨gA, 0, none⟩ = some (.int .i64 z))
        (((try dsimp only); (repeat' apply And.intro) <;> (with_reducible (first | exact cellSw xb0 hXY | exact cellSw xb1 hXY | exact cellSw xb2 hXY | exact cellSw xb3 hXY | exact cellSw hzb hgY | exact cellD (cellSw xb0 hXY) | exact cellD (cellSw xb1 hXY) | exact cellD (cellSw xb2 hXY) | exact cellD (cellSw xb3 hXY) | exact cellD (cellSw hzb hgY) | exact xb0 | exact xb1 | exact xb2 | exact xb3 | exact hzb | exact xa0 | exact xa1 | exact xa2 | exact xa3 | exact hza | exact fx0 | exact fx1 | exact fx2 | exact fx3 | exact hcz | exact cellD xb0 | exact cellD xb1 | exact cellD xb2 | exact cellD xb3 | exact cellD hzb | exact cellD xa0 | exact cellD xa1 | exact cellD xa2 | exact cellD xa3 | exact cellD hza | exact cellD fx0 | exact cellD fx1 | exact cellD fx2 | exact cellD fx3 | exact cellD hcz | exact cellA xa0 _ | exact cellA xa1 _ | exact cellA xa2 _ | exact cellA xa3 _ | exact cellA hza _ | exact cellA fx0 _ | exact cellA fx1 _ | exact cellA fx2 _ | exact cellA fx3 _ | exact cellA hcz _ | exact cellD (cellA xa0 _) | exact cellD (cellA xa1 _) | exact cellD (cellA xa2 _) | exact cellD (cellA xa3 _) | exact cellD (cellA hza _) | exact cellD (cellA fx0 _) | exact cellD (cellA fx1 _) | exact cellD (cellA fx2 _) | exact cellD (cellA fx3 _) | exact cellD (cellA hcz _) | exact cellA (cellD xa0) _ | exact cellA (cellD xa1) _ | exact cellA (cellD xa2) _ | exact cellA (cellD xa3) _ | exact cellA (cellD hza) _ | exact cellA (cellD fx0) _ | exact cellA (cellD fx1) _ | exact cellA (cellD fx2) _ | exact cellA (cellD fx3) _ | exact cellA (cellD hcz) _ | exact cellA (cellA fx0 _) _ | exact cellA (cellA fx1 _) _ | exact cellA (cellA fx2 _) _ | exact cellA (cellA fx3 _) _ | exact cellA (cellA hcz _) _ | exact cellD (cellA (cellA fx0 _) _) | exact cellD (cellA (cellA fx1 _) _) | exact cellD (cellA (cellA fx2 _) _) | exact cellD (cellA (cellA fx3 _) _) | exact cellD (cellA (cellA hcz _) _) | exact cellA (cellD (cellA fx0 _)) _ | exact cellA (cellD (cellA fx1 _)) _ | exact cellA (cellD (cellA fx2 _)) _ | exact cellA (cellD (cellA fx3 _)) _ | exact cellA (cellD (cellA hcz _)) _ | exact cellA (cellA (cellD fx0) _) _ | exact cellA (cellA (cellD fx1) _) _ | exact cellA (cellA (cellD fx2) _) _ | exact cellA (cellA (cellD fx3) _) _ | exact cellA (cellA (cellD hcz) _) _))))
        (first
          | (refine step_append_grows rfl (.tmp 33) (.tmp 35) 23 rfl 3 i0 (.int .i64 0) 1 8 Try.underlying23 hi hz0 hz1 hz2 rfl (by decide) _ 0 0 [] (by rfl) (fun _ => ⟨rfl, rfl⟩) rfl (fun _ _ j u hj => nil_get hj) ⟨gA, 0, none⟩ n3 c3 (C.c.map iv) (by rfl) E3 ?_ (ints_oneCell _ _) (by omega) (by exact M1) (by omega) ?_; (exact Row.cellsV (lo := w.heap.size) (n := n3) (c := c3) (xs := C.c) (by repeat (with_reducible (first | refine Row.drew ?_ | refine Row.alloc ?_ _ | exact r9)))); intro v0 wa hown0 hgr0; obtain ⟨A0', c0', rfl, hr0, hb9⟩ := after_append (xs := C.c) hown0 hgr0 L3.out; rw [hlh.out]; have BA : Below W.heap.size W wa := Below.trans (by repeat (with_reducible (first | exact Below.refl _ _ | refine Below.drew ?_ | refine Below.alloc ?_ (by first | omega | (simp <;> omega)) _))) (hb9.mono (by first | omega | (simp <;> omega))); have hr1 : Row wa W.heap.size (.slice A0' n3 c0') C.c := (by have h8 := hr0.mono (lo' := W.heap.size) (by first | omega | (simp <;> omega)); rw [hlh.out] at h8; exact h8); have za : W.heap.size ≤ wa.heap.size := BA.size; obtain ⟨xa0, xa1, xa2, xa3, _⟩ := (Blk4.below X_4s BA).cells; have hza := (BA.cell (p := ⟨gA, 0, none⟩) hgA).trans hcz; clear hown0 hgr0)
          | (refine step_append_lies _ rfl (.tmp 36) (.tmp 41) 23 rfl W.heap.size 3 i0 (.int .i64 0) 1 8 Try.underlying23 hi hz0 hz1 hz2 rfl (by decide) (.slice A0' n3 c0') n3 (C.c.map iv) (by rfl) (by first | exact own_of hr1 hlh.out | exact own_of (hr1.alloc _) hlh.out | exact own_of (hr1.alloc _).drew hlh.out | exact own_of hr1.drew hlh.out) _ 1 1 [.int .i64 z] (by rfl) (by rfl) (by first | exact one_newD | exact one_new | exact one_P2 (W := W) hb9 rfl | exact one_P3 (W := W) hb9 rfl) (one_cell z) (by decide) (by exact M2) (by omega) (by first | omega | (simp <;> omega)) _ rfl ?_; intro gn cap wb hown1 hgr1 _ hlb; have hr2 := after_liesS (ys := [z]) hown1 L4.out; have BB : Below W.heap.size W wb := (by first | exact BA.trans (hr1.belowLoS za hgr1) | exact (BA.alloc za _).trans ((hr1.alloc _).belowLoS (by simp <;> omega) hgr1) | exact (BA.alloc za _).drew.trans ((hr1.alloc _).drew.belowLoS (by simp <;> omega) hgr1)); have YB := Blk4.below Y_4s BB; obtain ⟨yb0, yb1, yb2, yb3, fb0, fb1, fb2, fb3⟩ := YB.cells; obtain ⟨xb0, xb1, xb2, xb3, _⟩ := (Blk4.below X_4s BB).cells; have hzb := (BB.cell (p := ⟨gA, 0, none⟩) hgA).trans hcz; clear hown1 hgr1))
      all_goals
        rename_i hHeld
        clear hHeld
        have C5 := (B3W.trans (BB.mono (by omega))).setCell (p := ⟨w3.heap.size, 3, none⟩) (Nat.le_refl _) (.slice (some ⟨gn, 0, none⟩) (n3 + 1) cap)
        have Y5 := YB.setLast (.slice (some ⟨gn, 0, none⟩) (n3 + 1) cap)
        have hr5 := hr2.other (a := ⟨w3.heap.size, 3, none⟩) (fun e => by have h9 := (hr2.lt _ e).1; simp at h9; omega) (.slice (some ⟨gn, 0, none⟩) (n3 + 1) cap)
        clear YB BA BB hr0 hr1 hr2 hb9 B3W xa0 xa1 xa2 xa3 xb0 xb1 xb2 xb3 yb0 yb1 yb2 yb3 fb0 fb1 fb2 fb3 hza hzb fx0 fx1 fx2 fx3 fy0 fy1 fy2 fy3 gy0 gy1 gy2 gy3
        generalize wb.setCell ⟨w3.heap.size, 3, none⟩ (.slice (some ⟨gn, 0, none⟩) (n3 + 1) cap) = W5 at C5 Y5 hr5 ⊢
        have X5 := Blk4.below X_3 C5
        have HA5 := Cv.below HA_3 C5
        have BW5 := BW3.trans (C5.mono BW3.size)
        have HX5 : Cw W5 0 (.agg #[.slice A0 n0 c0, .slice A1 n1 c1, .slice A2 n2 c2, .slice (some ⟨gn, 0, none⟩) (n3 + 1) cap]) ⟨C.h, C.c ++ [z]⟩ := ⟨_, _, _, _, rfl, HA5.hvS.mono (Nat.zero_le _), RdR.ofRow (hr5.mono (Nat.zero_le _)) (by omega)⟩
        have rA5 := HA5.rowsS.2.2.2
        have VX : ∀ W lo v, Cw W lo v ⟨C.h, C.c ++ [z]⟩ → Calls Try.prog 21 #[v] W (RetB W false) := fun W lo v hW => by
          have h9 := implStoreValidR_any W lo v _ hW
          rw [S1.out] at h9; exact h9
        have VY : ∀ W lo v, Cw W lo v ⟨C.h, tl⟩ → Calls Try.prog 21 #[v] W (RetB W true) := fun W lo v hW => by
          have h9 := implStoreValidR_any W lo v _ hW
          rw [S2.out] at h9; exact h9
        have GY := fun W lo v hW => leakRN_any (q + 1) W lo v ⟨C.h, tl⟩ hW S3.out
        have GS := fun W lo v hW => leakN_any q W lo v C hW HQ.out
        have hw : IntKind.i64.wrap ((q : Int) + 1) = (q : Int) + 1 := IntWalk.i64_in _ (by omega)
        have hqq : (((q + 1 : Nat) : Int) == (q : Int) + 1) = true := by simp
        have h1n : (1 : Int) ≤ (n3 : Int) := by omega
        have h1c : (n3 : Int) ≤ (c3 : Int) := by omega
        have lX5 := X5.lt
        have lY5 := Y5.lt
        obtain ⟨cX5_0, cX5_1, cX5_2, cX5_3, _⟩ := X5.cells
        obtain ⟨cY5_0, cY5_1, cY5_2, cY5_3, _⟩ := Y5.cells
        by_cases hc1 : c3 = 1
        · subst hc1
          obtain rfl : n3 = 1 := by omega
          have ht9 : (C.c.drop 1).length = 0 := by rw [hcd.out, htl.out]
          have hd9 := RdR.drop (d := 0) rA5 1 ht9 (by omega) (some ⟨gA, 0, none⟩) (fun h => by omega)
          rw [hcd.out] at hd9
          have HY5 : Cw W5 0 (.agg #[.slice A0 n0 c0, .slice A1 n1 c1, .slice A2 n2 c2, .slice (some ⟨gA, 0, none⟩) 0 0]) ⟨C.h, tl⟩ := ⟨_, _, _, _, rfl, HA5.hvS.mono (Nat.zero_le _), hd9.mono (Nat.zero_le _)⟩
          clear ht9 hd9 h1n h1c
          go_wp2_with fail
          have X5_71s := (X5.alloc (.cells #[.slice A0 n0 c0, .slice A1 n1 c1, .slice A2 n2 c2, .slice (some ⟨gA, 0, none⟩) 0 0] 27))
          obtain ⟨cX5_71s_0, cX5_71s_1, cX5_71s_2, cX5_71s_3, _⟩ := X5_71s.cells
          have lX5_71s := X5_71s.lt
          have Y5_71s := (Y5.alloc (.cells #[.slice A0 n0 c0, .slice A1 n1 c1, .slice A2 n2 c2, .slice (some ⟨gA, 0, none⟩) 0 0] 27))
          obtain ⟨cY5_71s_0, cY5_71s_1, cY5_71s_2, cY5_71s_3, _⟩ := Y5_71s.cells
          have lY5_71s := Y5_71s.lt
          have HA5_71s := (HA5.alloc (.cells #[.slice A0 n0 c0, .slice A1 n1 c1, .slice A2 n2 c2, .slice (some ⟨gA, 0, none⟩) 0 0] 27))
          have HX5_71s := (HX5.alloc (.cells #[.slice A0 n0 c0, .slice A1 n1 c1, .slice A2 n2 c2, .slice (some ⟨gA, 0, none⟩) 0 0] 27))
          have HY5_71s := (HY5.alloc (.cells #[.slice A0 n0 c0, .slice A1 n1 c1, .slice A2 n2 c2, .slice (some ⟨gA, 0, none⟩) 0 0] 27))
          have Z5_71s := (Blk4.new W5 (.slice A0 n0 c0) (.slice A1 n1 c1) (.slice A2 n2 c2) (.slice (some ⟨gA, 0, none⟩) 0 0) 27)
          obtain ⟨cZ5_71s_0, cZ5_71s_1, cZ5_71s_2, cZ5_71s_3, _⟩ := Z5_71s.cells
          have lZ5_71s := Z5_71s.lt
          have BW71 := (BW5.alloc BW5.size (.cells #[.slice A0 n0 c0, .slice A1 n1 c1, .slice A2 n2 c2, .slice (some ⟨gA, 0, none⟩) 0 0] 27))
          go_wp2_with fail
          go_region_held3 (fun w' => w'.cell? ⟨w3.heap.size, 0, none⟩ = some (.slice A0 n0 c0) ∧ w'.cell? ⟨w3.heap.size, 1, none⟩ = some (.slice A1 n1 c1) ∧ w'.cell? ⟨w3.heap.size, 2, none⟩ = some (.slice A2 n2 c2) ∧ w'.cell? ⟨w3.heap.size, 3, none⟩ = some (.slice (some ⟨gn, 0, none⟩) (1 + 1) cap) ∧ w'.cell? ⟨W5.heap.size, 0, none⟩ = some (.slice A0 n0 c0) ∧ w'.cell? ⟨W5.heap.size, 1, none⟩ = some (.slice A1 n1 c1) ∧ w'.cell? ⟨W5.heap.size, 2, none⟩ = some (.slice A2 n2 c2) ∧ w'.cell? ⟨W5.heap.size, 3, none⟩ = some (.slice (some ⟨gA, 0, none⟩) 0 0) ∧ w'.cell? ⟨w1.heap.size, 0, none⟩ = some (.slice A0 n0 c0) ∧ w'.cell? ⟨w1.heap.size, 1, none⟩ = some (.slice A1 n1 c1) ∧ w'.cell? ⟨w1.heap.size, 2, none⟩ = some (.slice A2 n2 c2) ∧ w'.cell? ⟨w1.heap.size, 3, none⟩ = some (.slice (some ⟨gA, 0, none⟩) 1 1))
            (((try dsimp only); (repeat' apply And.intro) <;> (with_reducible (first | exact cX5_75_3 | exact cX5_75_2 | exact cX5_75_1 | exact cX5_75_0 | exact cZ5_75_3 | exact cZ5_75_2 | exact cZ5_75_1 | exact cZ5_75_0 | exact cY5_75_3 | exact cY5_75_2 | exact cY5_75_1 | exact cY5_75_0 | exact cX5_74_3 | exact cX5_74_2 | exact cX5_74_1 | exact cX5_74_0 | exact cZ5_74_3 | exact cZ5_74_2 | exact cZ5_74_1 | exact cZ5_74_0 | exact cY5_74_3 | exact cY5_74_2 | exact cY5_74_1 | exact cY5_74_0 | exact cX5_73_3 | exact cX5_73_2 | exact cX5_73_1 | exact cX5_73_0 | exact cZ5_73_3 | exact cZ5_73_2 | exact cZ5_73_1 | exact cZ5_73_0 | exact cY5_73_3 | exact cY5_73_2 | exact cY5_73_1 | exact cY5_73_0 | exact cX5_72_3 | exact cX5_72_2 | exact cX5_72_1 | exact cX5_72_0 | exact cZ5_72_3 | exact cZ5_72_2 | exact cZ5_72_1 | exact cZ5_72_0 | exact cY5_72_3 | exact cY5_72_2 | exact cY5_72_1 | exact cY5_72_0 | exact cellD cX5_71s_3 | exact cellD cX5_71s_2 | exact cellD cX5_71s_1 | exact cellD cX5_71s_0 | exact cellD cZ5_71s_3 | exact cellD cZ5_71s_2 | exact cellD cZ5_71s_1 | exact cellD cZ5_71s_0 | exact cellD cY5_71s_3 | exact cellD cY5_71s_2 | exact cellD cY5_71s_1 | exact cellD cY5_71s_0 | exact cX5_71s_3 | exact cX5_71s_2 | exact cX5_71s_1 | exact cX5_71s_0 | exact cZ5_71s_3 | exact cZ5_71s_2 | exact cZ5_71s_1 | exact cZ5_71s_0 | exact cY5_71s_3 | exact cY5_71s_2 | exact cY5_71s_1 | exact cY5_71s_0))))
            (first
              | (go_at_call 21; (with_reducible refine (VX _ _ _ (HX5_71s.drew)).mono ?_); rintro e w6 ⟨rfl, hb6⟩; have BW72 : Below w.heap.size w w6 := (Below.drew BW71).trans (hb6.mono (Below.drew BW71).size); (have zz72 : W5.heap.size + 1 ≤ w6.heap.size := by have := hb6.size; simp at this; omega); have X5_72 := Blk4.below (by exact (X5_71s.drew)) hb6; obtain ⟨cX5_72_0, cX5_72_1, cX5_72_2, cX5_72_3, _⟩ := X5_72.cells; have lX5_72 := X5_72.lt; have Y5_72 := Blk4.below (by exact (Y5_71s.drew)) hb6; obtain ⟨cY5_72_0, cY5_72_1, cY5_72_2, cY5_72_3, _⟩ := Y5_72.cells; have lY5_72 := Y5_72.lt; have HA5_72 := Cv.below (by exact (HA5_71s.drew)) hb6; have Z5_72 := Blk4.below (by exact (Z5_71s.drew)) hb6; obtain ⟨cZ5_72_0, cZ5_72_1, cZ5_72_2, cZ5_72_3, _⟩ := Z5_72.cells; have lZ5_72 := Z5_72.lt; have HX5_72 := Cw.below (by exact (HX5_71s.drew)) hb6; have HY5_72 := Cw.below (by exact (HY5_71s.drew)) hb6)
              | (go_at_call 21; (with_reducible refine (VY _ _ _ HY5_72).mono ?_); rintro e w7 ⟨rfl, hb7⟩; have BW73 : Below w.heap.size w w7 := BW72.trans (hb7.mono BW72.size); have zz73 : w6.heap.size ≤ w7.heap.size := hb7.size; have X5_73 := Blk4.below (by exact X5_72) hb7; obtain ⟨cX5_73_0, cX5_73_1, cX5_73_2, cX5_73_3, _⟩ := X5_73.cells; have lX5_73 := X5_73.lt; have Y5_73 := Blk4.below (by exact Y5_72) hb7; obtain ⟨cY5_73_0, cY5_73_1, cY5_73_2, cY5_73_3, _⟩ := Y5_73.cells; have lY5_73 := Y5_73.lt; have HA5_73 := Cv.below (by exact HA5_72) hb7; have Z5_73 := Blk4.below (by exact Z5_72) hb7; obtain ⟨cZ5_73_0, cZ5_73_1, cZ5_73_2, cZ5_73_3, _⟩ := Z5_73.cells; have lZ5_73 := Z5_73.lt; have HX5_73 := Cw.below (by exact HX5_72) hb7; have HY5_73 := Cw.below (by exact HY5_72) hb7)
              | (go_at_call 22; (with_reducible refine (GY _ _ _ HY5_73).mono ?_); rintro e w8 ⟨A8, c8, rfl, hb8⟩; have BW74 : Below w.heap.size w w8 := BW73.trans (hb8.mono BW73.size); have zz74 : w7.heap.size ≤ w8.heap.size := hb8.size; have X5_74 := Blk4.below (by exact X5_73) hb8; obtain ⟨cX5_74_0, cX5_74_1, cX5_74_2, cX5_74_3, _⟩ := X5_74.cells; have lX5_74 := X5_74.lt; have Y5_74 := Blk4.below (by exact Y5_73) hb8; obtain ⟨cY5_74_0, cY5_74_1, cY5_74_2, cY5_74_3, _⟩ := Y5_74.cells; have lY5_74 := Y5_74.lt; have HA5_74 := Cv.below (by exact HA5_73) hb8; have Z5_74 := Blk4.below (by exact Z5_73) hb8; obtain ⟨cZ5_74_0, cZ5_74_1, cZ5_74_2, cZ5_74_3, _⟩ := Z5_74.cells; have lZ5_74 := Z5_74.lt; have HX5_74 := Cw.below (by exact HX5_73) hb8; have HY5_74 := Cw.below (by exact HY5_73) hb8)
              | (go_at_call 22; (with_reducible refine (GS _ _ _ HA5_74).mono ?_); rintro e w9 ⟨A9, c9, rfl, hb9⟩; have BW75 : Below w.heap.size w w9 := BW74.trans (hb9.mono BW74.size); have zz75 : w8.heap.size ≤ w9.heap.size := hb9.size; have X5_75 := Blk4.below (by exact X5_74) hb9; obtain ⟨cX5_75_0, cX5_75_1, cX5_75_2, cX5_75_3, _⟩ := X5_75.cells; have lX5_75 := X5_75.lt; have Y5_75 := Blk4.below (by exact Y5_74) hb9; obtain ⟨cY5_75_0, cY5_75_1, cY5_75_2, cY5_75_3, _⟩ := Y5_75.cells; have lY5_75 := Y5_75.lt; have HA5_75 := Cv.below (by exact HA5_74) hb9; have Z5_75 := Blk4.below (by exact Z5_74) hb9; obtain ⟨cZ5_75_0, cZ5_75_1, cZ5_75_2, cZ5_75_3, _⟩ := Z5_75.cells; have lZ5_75 := Z5_75.lt; have HX5_75 := Cw.below (by exact HX5_74) hb9; have HY5_75 := Cw.below (by exact HY5_74) hb9))
          rename_i hHeld1
          clear hHeld1
          go_wp2_with fail
          go_ret
          exact ⟨by simp, BW75⟩
        · have ht9 : (C.c.drop 1).length = n3 - 1 := by rw [hcd.out, htl.out]
          have hd9 := RdR.drop (d := c3 - 1) rA5 1 ht9 (by omega) (some ⟨gA, 1, none⟩) (fun _ => rfl)
          have hc4 : c3 - 1 ≠ 0 := by omega
          rw [hcd.out] at hd9
          have HY5 : Cw W5 0 (.agg #[.slice A0 n0 c0, .slice A1 n1 c1, .slice A2 n2 c2, .slice (some ⟨gA, 1, none⟩) (n3 - 1) (c3 - 1)]) ⟨C.h, tl⟩ := ⟨_, _, _, _, rfl, HA5.hvS.mono (Nat.zero_le _), hd9.mono (Nat.zero_le _)⟩
          clear ht9 hd9
          go_wp2_with fail
          have X5_71s := (X5.alloc (.cells #[.slice A0 n0 c0, .slice A1 n1 c1, .slice A2 n2 c2, .slice (some ⟨gA, 1, none⟩) (n3 - 1) (c3 - 1)] 27))
          obtain ⟨cX5_71s_0, cX5_71s_1, cX5_71s_2, cX5_71s_3, _⟩ := X5_71s.cells
          have lX5_71s := X5_71s.lt
          have Y5_71s := (Y5.alloc (.cells #[.slice A0 n0 c0, .slice A1 n1 c1, .slice A2 n2 c2, .slice (some ⟨gA, 1, none⟩) (n3 - 1) (c3 - 1)] 27))
          obtain ⟨cY5_71s_0, cY5_71s_1, cY5_71s_2, cY5_71s_3, _⟩ := Y5_71s.cells
          have lY5_71s := Y5_71s.lt
          have HA5_71s := (HA5.alloc (.cells #[.slice A0 n0 c0, .slice A1 n1 c1, .slice A2 n2 c2, .slice (some ⟨gA, 1, none⟩) (n3 - 1) (c3 - 1)] 27))
          have HX5_71s := (HX5.alloc (.cells #[.slice A0 n0 c0, .slice A1 n1 c1, .slice A2 n2 c2, .slice (some ⟨gA, 1, none⟩) (n3 - 1) (c3 - 1)] 27))
          have HY5_71s := (HY5.alloc (.cells #[.slice A0 n0 c0, .slice A1 n1 c1, .slice A2 n2 c2, .slice (some ⟨gA, 1, none⟩) (n3 - 1) (c3 - 1)] 27))
          have Z5_71s := (Blk4.new W5 (.slice A0 n0 c0) (.slice A1 n1 c1) (.slice A2 n2 c2) (.slice (some ⟨gA, 1, none⟩) (n3 - 1) (c3 - 1)) 27)
          obtain ⟨cZ5_71s_0, cZ5_71s_1, cZ5_71s_2, cZ5_71s_3, _⟩ := Z5_71s.cells
          have lZ5_71s := Z5_71s.lt
          have BW71 := (BW5.alloc BW5.size (.cells #[.slice A0 n0 c0, .slice A1 n1 c1, .slice A2 n2 c2, .slice (some ⟨gA, 1, none⟩) (n3 - 1) (c3 - 1)] 27))
          go_wp2_with fail
          go_region_held3 (fun w' => w'.cell? ⟨w3.heap.size, 0, none⟩ = some (.slice A0 n0 c0) ∧ w'.cell? ⟨w3.heap.size, 1, none⟩ = some (.slice A1 n1 c1) ∧ w'.cell? ⟨w3.heap.size, 2, none⟩ = some (.slice A2 n2 c2) ∧ w'.cell? ⟨w3.heap.size, 3, none⟩ = some (.slice (some ⟨gn, 0, none⟩) (n3 + 1) cap) ∧ w'.cell? ⟨W5.heap.size, 0, none⟩ = some (.slice A0 n0 c0) ∧ w'.cell? ⟨W5.heap.size, 1, none⟩ = some (.slice A1 n1 c1) ∧ w'.cell? ⟨W5.heap.size, 2, none⟩ = some (.slice A2 n2 c2) ∧ w'.cell? ⟨W5.heap.size, 3, none⟩ = some (.slice (some ⟨gA, 1, none⟩) (n3 - 1) (c3 - 1)) ∧ w'.cell? ⟨w1.heap.size, 0, none⟩ = some (.slice A0 n0 c0) ∧ w'.cell? ⟨w1.heap.size, 1, none⟩ = some (.slice A1 n1 c1) ∧ w'.cell? ⟨w1.heap.size, 2, none⟩ = some (.slice A2 n2 c2) ∧ w'.cell? ⟨w1.heap.size, 3, none⟩ = some (.slice (some ⟨gA, 0, none⟩) n3 c3))
            (((try dsimp only); (repeat' apply And.intro) <;> (with_reducible (first | exact cX5_75_3 | exact cX5_75_2 | exact cX5_75_1 | exact cX5_75_0 | exact cZ5_75_3 | exact cZ5_75_2 | exact cZ5_75_1 | exact cZ5_75_0 | exact cY5_75_3 | exact cY5_75_2 | exact cY5_75_1 | exact cY5_75_0 | exact cX5_74_3 | exact cX5_74_2 | exact cX5_74_1 | exact cX5_74_0 | exact cZ5_74_3 | exact cZ5_74_2 | exact cZ5_74_1 | exact cZ5_74_0 | exact cY5_74_3 | exact cY5_74_2 | exact cY5_74_1 | exact cY5_74_0 | exact cX5_73_3 | exact cX5_73_2 | exact cX5_73_1 | exact cX5_73_0 | exact cZ5_73_3 | exact cZ5_73_2 | exact cZ5_73_1 | exact cZ5_73_0 | exact cY5_73_3 | exact cY5_73_2 | exact cY5_73_1 | exact cY5_73_0 | exact cX5_72_3 | exact cX5_72_2 | exact cX5_72_1 | exact cX5_72_0 | exact cZ5_72_3 | exact cZ5_72_2 | exact cZ5_72_1 | exact cZ5_72_0 | exact cY5_72_3 | exact cY5_72_2 | exact cY5_72_1 | exact cY5_72_0 | exact cellD cX5_71s_3 | exact cellD cX5_71s_2 | exact cellD cX5_71s_1 | exact cellD cX5_71s_0 | exact cellD cZ5_71s_3 | exact cellD cZ5_71s_2 | exact cellD cZ5_71s_1 | exact cellD cZ5_71s_0 | exact cellD cY5_71s_3 | exact cellD cY5_71s_2 | exact cellD cY5_71s_1 | exact cellD cY5_71s_0 | exact cX5_71s_3 | exact cX5_71s_2 | exact cX5_71s_1 | exact cX5_71s_0 | exact cZ5_71s_3 | exact cZ5_71s_2 | exact cZ5_71s_1 | exact cZ5_71s_0 | exact cY5_71s_3 | exact cY5_71s_2 | exact cY5_71s_1 | exact cY5_71s_0))))
            (first
              | (go_at_call 21; (with_reducible refine (VX _ _ _ (HX5_71s.drew)).mono ?_); rintro e w6 ⟨rfl, hb6⟩; have BW72 : Below w.heap.size w w6 := (Below.drew BW71).trans (hb6.mono (Below.drew BW71).size); (have zz72 : W5.heap.size + 1 ≤ w6.heap.size := by have := hb6.size; simp at this; omega); have X5_72 := Blk4.below (by exact (X5_71s.drew)) hb6; obtain ⟨cX5_72_0, cX5_72_1, cX5_72_2, cX5_72_3, _⟩ := X5_72.cells; have lX5_72 := X5_72.lt; have Y5_72 := Blk4.below (by exact (Y5_71s.drew)) hb6; obtain ⟨cY5_72_0, cY5_72_1, cY5_72_2, cY5_72_3, _⟩ := Y5_72.cells; have lY5_72 := Y5_72.lt; have HA5_72 := Cv.below (by exact (HA5_71s.drew)) hb6; have Z5_72 := Blk4.below (by exact (Z5_71s.drew)) hb6; obtain ⟨cZ5_72_0, cZ5_72_1, cZ5_72_2, cZ5_72_3, _⟩ := Z5_72.cells; have lZ5_72 := Z5_72.lt; have HX5_72 := Cw.below (by exact (HX5_71s.drew)) hb6; have HY5_72 := Cw.below (by exact (HY5_71s.drew)) hb6)
              | (go_at_call 21; (with_reducible refine (VY _ _ _ HY5_72).mono ?_); rintro e w7 ⟨rfl, hb7⟩; have BW73 : Below w.heap.size w w7 := BW72.trans (hb7.mono BW72.size); have zz73 : w6.heap.size ≤ w7.heap.size := hb7.size; have X5_73 := Blk4.below (by exact X5_72) hb7; obtain ⟨cX5_73_0, cX5_73_1, cX5_73_2, cX5_73_3, _⟩ := X5_73.cells; have lX5_73 := X5_73.lt; have Y5_73 := Blk4.below (by exact Y5_72) hb7; obtain ⟨cY5_73_0, cY5_73_1, cY5_73_2, cY5_73_3, _⟩ := Y5_73.cells; have lY5_73 := Y5_73.lt; have HA5_73 := Cv.below (by exact HA5_72) hb7; have Z5_73 := Blk4.below (by exact Z5_72) hb7; obtain ⟨cZ5_73_0, cZ5_73_1, cZ5_73_2, cZ5_73_3, _⟩ := Z5_73.cells; have lZ5_73 := Z5_73.lt; have HX5_73 := Cw.below (by exact HX5_72) hb7; have HY5_73 := Cw.below (by exact HY5_72) hb7)
              | (go_at_call 22; (with_reducible refine (GY _ _ _ HY5_73).mono ?_); rintro e w8 ⟨A8, c8, rfl, hb8⟩; have BW74 : Below w.heap.size w w8 := BW73.trans (hb8.mono BW73.size); have zz74 : w7.heap.size ≤ w8.heap.size := hb8.size; have X5_74 := Blk4.below (by exact X5_73) hb8; obtain ⟨cX5_74_0, cX5_74_1, cX5_74_2, cX5_74_3, _⟩ := X5_74.cells; have lX5_74 := X5_74.lt; have Y5_74 := Blk4.below (by exact Y5_73) hb8; obtain ⟨cY5_74_0, cY5_74_1, cY5_74_2, cY5_74_3, _⟩ := Y5_74.cells; have lY5_74 := Y5_74.lt; have HA5_74 := Cv.below (by exact HA5_73) hb8; have Z5_74 := Blk4.below (by exact Z5_73) hb8; obtain ⟨cZ5_74_0, cZ5_74_1, cZ5_74_2, cZ5_74_3, _⟩ := Z5_74.cells; have lZ5_74 := Z5_74.lt; have HX5_74 := Cw.below (by exact HX5_73) hb8; have HY5_74 := Cw.below (by exact HY5_73) hb8)
              | (go_at_call 22; (with_reducible refine (GS _ _ _ HA5_74).mono ?_); rintro e w9 ⟨A9, c9, rfl, hb9⟩; have BW75 : Below w.heap.size w w9 := BW74.trans (hb9.mono BW74.size); have zz75 : w8.heap.size ≤ w9.heap.size := hb9.size; have X5_75 := Blk4.below (by exact X5_74) hb9; obtain ⟨cX5_75_0, cX5_75_1, cX5_75_2, cX5_75_3, _⟩ := X5_75.cells; have lX5_75 := X5_75.lt; have Y5_75 := Blk4.below (by exact Y5_74) hb9; obtain ⟨cY5_75_0, cY5_75_1, cY5_75_2, cY5_75_3, _⟩ := Y5_75.cells; have lY5_75 := Y5_75.lt; have HA5_75 := Cv.below (by exact HA5_74) hb9; have Z5_75 := Blk4.below (by exact Z5_74) hb9; obtain ⟨cZ5_75_0, cZ5_75_1, cZ5_75_2, cZ5_75_3, _⟩ := Z5_75.cells; have lZ5_75 := Z5_75.lt; have HX5_75 := Cw.below (by exact HX5_74) hb9; have HY5_75 := Cw.below (by exact HY5_74) hb9))
          rename_i hHeld1
          clear hHeld1
          go_wp2_with fail
          go_ret
          exact ⟨by simp, BW75⟩
end Go.Proofs.Ytmpcgegbfbkmnaa
