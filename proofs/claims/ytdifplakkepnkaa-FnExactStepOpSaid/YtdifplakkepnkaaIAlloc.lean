/- AllocCell of impl. -/
import Derived.Test.YtdifplakkepnkaaIStos
import Derived.Test.YtdifplakkepnkaaStoA
import Derived.Test.YtdifplakkepnkaaHpB
import Derived.OrdersHeld
import Derived.Deep.RegionHeld3
namespace Go.Proofs.Ytdifplakkepnkaa
open Go.RowKit

theorem Cv.setFarS {w : World} {lo : Nat} {v0 v1 v2 v3 : Value} {C : Cp} (h : Cv w lo (.agg #[v0, v1, v2, v3]) C) {p : Addr} (f : v0.ownBlock ≠ some p.block ∧ v1.ownBlock ≠ some p.block ∧ v2.ownBlock ≠ some p.block ∧ v3.ownBlock ≠ some p.block) (u : Value) : Cv (w.setCell p u) lo (.agg #[v0, v1, v2, v3]) C := by
  obtain ⟨_, _, _, _, e, ⟨_, _, _, e', r0, r1, r2, a⟩, r3, b0, b1, b2⟩ := h
  cases e; cases e'
  exact ⟨_, _, _, _, rfl, ⟨_, _, _, rfl, r0.other f.1 u, r1.other f.2.1 u, r2.other f.2.2.1 u, a⟩, r3.other f.2.2.2 u, b0, b1, b2⟩
theorem Cv.setBlkS {w : World} {lo b : Nat} {v0 v1 v2 v3 : Value} {C : Cp} (h : Cv w lo (.agg #[v0, v1, v2, v3]) C) (f : v0.ownBlock ≠ some b ∧ v1.ownBlock ≠ some b ∧ v2.ownBlock ≠ some b ∧ v3.ownBlock ≠ some b) (x y z u : Value) :
    Cv ((((w.setCell ⟨b, 0, none⟩ x).setCell ⟨b, 1, none⟩ y).setCell ⟨b, 2, none⟩ z).setCell ⟨b, 3, none⟩ u) lo (.agg #[v0, v1, v2, v3]) C :=
  (((h.setFarS (p := ⟨b, 0, none⟩) f x).setFarS (p := ⟨b, 1, none⟩) f y).setFarS (p := ⟨b, 2, none⟩) f z).setFarS (p := ⟨b, 3, none⟩) f u
/-- A root is put. -/
theorem Cv.putRoot {w : World} {lo g n c : Nat} {v0 v1 v3 : Value} {C : Cp} (h : Cv w lo (.agg #[v0, v1, .slice (some ⟨g, 0, none⟩) n c, v3]) C) (j : Nat) (x : Int) :
    Cv (w.setCell ⟨g, j, none⟩ (.int .i64 x)) lo (.agg #[v0, v1, .slice (some ⟨g, 0, none⟩) n c, v3]) ⟨⟨C.h.l, C.h.r, C.h.t.set j x⟩, C.c⟩ := by
  obtain ⟨_, _, _, _, e, ⟨_, _, _, e', r0, r1, r2, a01, a02, a12⟩, r3, b0, b1, b2⟩ := h
  cases e; cases e'
  exact ⟨_, _, _, _, rfl, ⟨_, _, _, rfl, r0.other (a := ⟨g, j, none⟩) (fun e => a02 g e rfl) _, r1.other (a := ⟨g, j, none⟩) (fun e => a12 g e rfl) _, r2.set_ j x, a01, a02, a12⟩, r3.other (a := ⟨g, j, none⟩) (b2 g rfl) _, b0, b1, b2⟩
theorem Cv.roots {w : World} {lo n c : Nat} {v0 v1 v3 : Value} {A : Option Addr} {C : Cp} (h : Cv w lo (.agg #[v0, v1, .slice A n c, v3]) C) : Row w lo (.slice A n c) C.h.t ∧ C.h.t.length = n := by
  obtain ⟨_, _, _, _, _, _, _, _, _, _, _, _, e, _, ⟨_, _, r, _⟩, ⟨_, _, l, _⟩, _⟩ := h.open_
  cases e; exact ⟨r, l.out⟩
theorem blk4_setAllS {w : World} {b : Nat} {x y z u : Value} {t : TypeId} (h : Blk4 w b x y z u t) (x' y' z' u' : Value) : Blk4 ((((w.setCell ⟨b, 0, none⟩ x').setCell ⟨b, 1, none⟩ y').setCell ⟨b, 2, none⟩ z').setCell ⟨b, 3, none⟩ u') b x' y' z' u' t := by
  unfold Blk4 at h ⊢; simp [World.setCell, Array.getElem?_modify, h]

set_option maxHeartbeats 400000 in
theorem copyOfIntsAt_any (w : World) (A : Option Addr) (n c : Nat) (xs : List Int) (src : 0 < xs.length → ∃ ad, A = some ad ∧ ∀ (j : Nat) (u : Int), xs[j]? = some u → w.cell? (ad.add j) = some (iv u) ∧ ad.block < w.heap.size) (hn : xs.length = n) (hm : n ≤ 1048576) :
    Calls Try.prog 110 #[.slice A n c] w (NewRow w xs) := by
  obtain ⟨i0, hi, hz0, hz1, hz2⟩ := info_parts Try.infoInt
  have hii : (Try.prog.info? 3).map (·.size) = some 1 := by rw [hi]; simp [hz1]
  go_enter Try.func110, Try.ntmps110
  go_wp2_with (at_make; refine wpList_make_full _ rfl _ _ 23 rfl w.heap.size 3 i0 (.int .i64 0) 1 Try.underlying23 hi hz0 hz1 _ _ _ _ n rfl rfl rfl rfl ?b2 ?b3 (Nat.le_refl _) ?_)
  case b2 => rw [hz2]; omega
  case b3 => unfold maxLen; omega
  intro w0 hown0 hgrow0
  rw [mc_int] at hown0
  have hrow0 : Row w0 w.heap.size (.slice (some ⟨w.heap.size, 0, none⟩) n n) (List.replicate n 0) := by unfold Row; simpa using hown0
  have hb0 : Below w.heap.size w w0 := (Below.refl _ _).grown hgrow0 (Nat.le_refl _) (fun k h => by cases h)
  have h0 : 0 < xs.length → ∃ ad, A = some ad ∧ ∀ (j : Nat) (u : Int), xs[j]? = some u → w0.cell? (ad.add j) = some (iv u) := fun hp => by
    obtain ⟨ad, e, h9⟩ := src hp
    refine ⟨ad, e, fun j u hj => ?_⟩
    obtain ⟨h1, h2⟩ := h9 j u hj
    have hbk : (ad.add j).block = ad.block := by unfold Addr.add; split <;> rfl
    exact (World.cell?_of_block (a := ad.add j) (hb0.block _ (by rw [hbk]; exact h2))).trans h1
  have hblk : ∃ cur : List Value, Hid (w0.heap[w.heap.size]? = some (.cells cur.toArray 3 (0, 0))) ∧ cur.length = n := by
    rcases hown0.2 with ⟨e, _⟩ | ⟨g, cap, cur, e, _, hg, _, _, h3, _⟩
    · cases e
    · cases e; exact ⟨cur.toList, by unfold Hid; simpa using hg, by simpa using h3⟩
  obtain ⟨cur, hcur, hcl⟩ := hblk
  clear hown0 hgrow0 hz0 hz1 hz2 hrow0
  go_wp2_with (refine wpList_copy_splice rfl _ _ 23 23 rfl 3 Try.underlying23 hii _ _ _ _ _ _ rfl rfl w.heap.size 0 cur 3 hcur.out (xs.map iv) ?d1 ?d2 ?d3 ?d4 w.heap.size w hb0 (Nat.le_refl _) ?_)
  case d1 => simp [hn]
  case d2 =>
    intro hp
    first | exact h0 (by omega) | exact ⟨rfl, h0 (by omega)⟩
  case d3 => simp; omega
  case d4 => exact ints_oneCell _ _
  intro w' hw' hb'
  have hrow' : Row w' w.heap.size (.slice (some ⟨w.heap.size, 0, none⟩) n n) xs := by
    have e : splice cur 0 (xs.map iv) = xs.map iv := by simp [splice]; omega
    have hh := hw'.out
    rw [e] at hh
    refine ⟨by simp, .inr ⟨w.heap.size, n, _, by rw [hn], Nat.le_refl _, hh, by omega, by unfold maxLen; omega, by simp [hn], by rw [Nat.mul_one]; exact List.take_of_length_le (by simp)⟩⟩
  clear hw' hcur hb0 h0
  go_wp2
  go_ret
  refine ⟨some ⟨w.heap.size, 0, none⟩, n, ?_, ?_, hb'⟩
  · rw [hn]; rfl
  · rw [hn]; exact hrow'
set_option maxRecDepth 100000 in
set_option maxHeartbeats 8000000 in
theorem implAllocCell_any (w : World) (lo : Nat) (v : Value) (C : Cp) (hv : Cv w lo v C) (k : Int) :
    Calls Try.prog 151 #[v, .int .i64 k] w (OptCI w (allocC C k) (allocX C k) (allocB C k)) := by
  have hvo := hv
  obtain ⟨A0, n0, c0, A1, n1, c1, A2, n2, c2, A3, n3, c3, rfl, hh, ⟨r0, r1, r2, r3⟩, ⟨l0, l1, l2, l3⟩, ⟨mm0, mm1, mm2, mm3⟩, _⟩ := hvo.open_
  have P := Blk4.new w (.slice A0 n0 c0) (.slice A1 n1 c1) (.slice A2 n2 c2) (.slice A3 n3 c3) 27
  have X := P.alloc (.cells #[.slice none 0 0, .slice none 0 0, .slice none 0 0, .slice none 0 0] 27)
  have Y := Blk4.new_at (w := w.alloc (.cells #[.slice A0 n0 c0, .slice A1 n1 c1, .slice A2 n2 c2, .slice A3 n3 c3] 27)) (b := w.heap.size + 1) (by simp) (.slice none 0 0) (.slice none 0 0) (.slice none 0 0) (.slice none 0 0) 27
  have VV := (hv.alloc (.cells #[.slice A0 n0 c0, .slice A1 n1 c1, .slice A2 n2 c2, .slice A3 n3 c3] 27)).alloc (.cells #[.slice none 0 0, .slice none 0 0, .slice none 0 0, .slice none 0 0] 27)
  have BB : Below w.heap.size w ((w.alloc (.cells #[.slice A0 n0 c0, .slice A1 n1 c1, .slice A2 n2 c2, .slice A3 n3 c3] 27)).alloc (.cells #[.slice none 0 0, .slice none 0 0, .slice none 0 0, .slice none 0 0] 27)) := ((Below.refl _ _).alloc (Nat.le_refl _) _).alloc (by simp) _
  have sz : ((w.alloc (.cells #[.slice A0 n0 c0, .slice A1 n1 c1, .slice A2 n2 c2, .slice A3 n3 c3] 27)).alloc (.cells #[.slice none 0 0, .slice none 0 0, .slice none 0 0, .slice none 0 0] 27)).heap.size = w.heap.size + 2 := by simp
  have R3 := (r3.alloc (.cells #[.slice A0 n0 c0, .slice A1 n1 c1, .slice A2 n2 c2, .slice A3 n3 c3] 27)).alloc (.cells #[.slice none 0 0, .slice none 0 0, .slice none 0 0, .slice none 0 0] 27)
  have HH := (hh.alloc (.cells #[.slice A0 n0 c0, .slice A1 n1 c1, .slice A2 n2 c2, .slice A3 n3 c3] 27)).alloc (.cells #[.slice none 0 0, .slice none 0 0, .slice none 0 0, .slice none 0 0] 27)
  have V := implStoreValid_any _ _ _ _ VV
  have L := hasPlace_any A2 n2 c2 k
  have l2' := l2.out
  clear hh r0 r1 r2 P hv VV
  go_enter Try.func151, Try.ntmps151
  go_wp2_with fail
  generalize (w.alloc (.cells #[.slice A0 n0 c0, .slice A1 n1 c1, .slice A2 n2 c2, .slice A3 n3 c3] 27)).alloc (.cells #[.slice none 0 0, .slice none 0 0, .slice none 0 0, .slice none 0 0] 27) = W at X Y BB sz V R3 HH ⊢
  obtain ⟨x0, x1, x2, x3, _⟩ := X.cells
  rcases ev : stoB C
  · rw [ev] at V
    have hf : Hid (allocB C k = false) := allocB_not (fun h => by rw [ev] at h; cases h.1)
    clear ev
    go_wp2_with fail
    refine V.mono ?_; rintro e w1 ⟨rfl, hb1⟩
    have hc := Lib.hid (allocC_not hf.out)
    have hx := Lib.hid (allocX_not hf.out)
    obtain ⟨y0, y1, y2, y3, f0, f1, f2, f3⟩ := (Y.below hb1).cells
    obtain ⟨hZ, hB⟩ := zero_done (w := w) (b := w.heap.size + 1) (by omega) (BB.trans (hb1.mono (by omega)))
    go_wp2_with fail
    rw [hf.out, hc.out, hx.out]
    refine bodyPost_ret (v := .tuple #[.agg #[.slice none 0 0, .slice none 0 0, .slice none 0 0, .slice none 0 0], .int .i64 0, .bool false]) ?_ rfl ⟨_, rfl, hZ, hB⟩
    simp [results, Try.results151, go_sem, y0, y1, y2, y3]
  · rw [ev] at V
    rcases ek : plB k n2
    · rw [ek] at L
      have hf : Hid (allocB C k = false) := allocB_not (fun h => by
        simp only [plB, decide_eq_false_iff_not] at ek
        exact ek (by rw [← l2']; exact h.2.1))
      clear ev ek
      go_wp2_with fail
      refine V.mono ?_; rintro e w1 ⟨rfl, hb1⟩
      obtain ⟨p0, p1, p2, p3, _⟩ := (X.below hb1).cells
      go_wp2_with fail
      refine (L _).mono ?_; rintro e w' ⟨rfl, rfl⟩
      have hc := Lib.hid (allocC_not hf.out)
      have hx := Lib.hid (allocX_not hf.out)
      obtain ⟨y0, y1, y2, y3, f0, f1, f2, f3⟩ := (Y.below hb1).cells
      obtain ⟨hZ, hB⟩ := zero_done (w := w) (b := w.heap.size + 1) (by omega) (BB.trans (hb1.mono (by omega)))
      go_wp2_with fail
      rw [hf.out, hc.out, hx.out]
      refine bodyPost_ret (v := .tuple #[.agg #[.slice none 0 0, .slice none 0 0, .slice none 0 0, .slice none 0 0], .int .i64 0, .bool false]) ?_ rfl ⟨_, rfl, hZ, hB⟩
      simp [results, Try.results151, go_sem, y0, y1, y2, y3]
    · rw [ek] at L
      obtain ⟨j, rfl, hj⟩ := plB_nat ek
      by_cases hz : n3 = 0
      · have hf : Hid (allocB C (j : Int) = false) := allocB_not (fun h => h.2.2 (List.eq_nil_of_length_eq_zero (l3.out.trans hz)))
        subst hz
        clear ev ek
        go_wp2_with fail
        refine V.mono ?_; rintro e w1 ⟨rfl, hb1⟩
        obtain ⟨p0, p1, p2, p3, _⟩ := (X.below hb1).cells
        go_wp2_with fail
        refine (L _).mono ?_; rintro e w' ⟨rfl, rfl⟩
        have hc := Lib.hid (allocC_not hf.out)
        have hx := Lib.hid (allocX_not hf.out)
        obtain ⟨y0, y1, y2, y3, f0, f1, f2, f3⟩ := (Y.below hb1).cells
        obtain ⟨hZ, hB⟩ := zero_done (w := w) (b := w.heap.size + 1) (by omega) (BB.trans (hb1.mono (by omega)))
        go_wp2_with fail
        rw [hf.out, hc.out, hx.out]
        refine bodyPost_ret (v := .tuple #[.agg #[.slice none 0 0, .slice none 0 0, .slice none 0 0, .slice none 0 0], .int .i64 0, .bool false]) ?_ rfl ⟨_, rfl, hZ, hB⟩
        simp [results, Try.results151, go_sem, y0, y1, y2, y3]
      · have hk : allocB C (j : Int) = true := allocB_iff.2 ⟨ev, ⟨by omega, by omega⟩, fun e => hz (by rw [← l3.out, e]; rfl)⟩
        have hf := Lib.hid hk
        obtain ⟨hvh, hle, _, _⟩ := stoB_parts ev
        have h8 := hvB_len hvh
        have e3h := l3
        obtain ⟨gf, x, rfl, _, _, hx0, _, _⟩ := r3.get (k := 0) (by rw [l3.out]; omega)
        have hgx : C.c.getD 0 0 = x := by simp [List.getD, hx0.out]
        have hX : Hid (allocX C (j : Int) = x) := by unfold Hid allocX; rw [if_pos hk, hgx]
        have hC : Hid (allocC C (j : Int) = ⟨⟨C.h.l, C.h.r, C.h.t.set j x⟩, C.c.tail⟩) := by unfold Hid allocC; rw [if_pos hk, hgx]; simp
        have hcap := r3.cap
        have u38 : n3 ≤ 8 := by have := l3.out; omega
        have cp1 : (n3 : Int) ≤ (c3 : Int) := by omega
        have cp2 : (1 : Int) ≤ (n3 : Int) := by omega
        have cp3 : (1 : Int) ≤ (c3 : Int) := by omega
        have hjj : (j : Int) < (n2 : Int) := by omega
        have hzn : ((n3 : Int) == 0) = false := by simp; omega
        have hxx : Hid (C.c[0]? = some x) := hx0
        clear hk hvh hgx ev hx0 ek r3 hcap
        go_wp2_with fail
        refine V.mono ?_; rintro e w2 ⟨rfl, hb1⟩
        have X2 := X.below hb1
        have Y2 := Y.below hb1
        have H2 := HH.below hb1
        have F2 := R3.below hb1
        have B2 := BB.trans (hb1.mono (by omega))
        have z2 : w.heap.size + 2 ≤ w2.heap.size := by have := hb1.size; omega
        clear V X Y HH R3 BB hb1 x0 x1 x2 x3
        obtain ⟨x0, x1, x2, x3, _⟩ := X2.cells
        go_wp2_with fail
        refine (L _).mono ?_; rintro e w' ⟨rfl, rfl⟩
        obtain ⟨_, x', ef, _, _, hx1, hcf, _⟩ := F2.get (k := 0) (by rw [l3.out]; omega)
        cases ef
        obtain rfl : x = x' := by
          have h9 := hx1.out
          have h8 := hxx.out
          rw [h8] at h9; cases h9; rfl
        have hsrc : ∀ W, Below w2.heap.size w2 W → 0 < C.c.tail.length → ∃ ad, (some ⟨gf, 1, none⟩ : Option Addr) = some ad ∧ ∀ (j : Nat) (u : Int), C.c.tail[j]? = some u → W.cell? (ad.add j) = some (iv u) ∧ ad.block < W.heap.size := fun W hW _ => by
          refine ⟨_, rfl, fun i u hi => ⟨Row.cellsTail4 (lo := lo) (n := n3) (c := c3) (xs := C.c) (F2.below hW) i (iv u) (by rw [List.getElem?_map, hi]; rfl), ?_⟩⟩
          have h1 := (F2.lt gf rfl).2
          have h2 := hW.size
          show gf < W.heap.size
          omega
        have hn2 : w2.heap.size ≠ w.heap.size := by omega
        clear hx1 hxx
        by_cases hc1 : c3 = 1
        · subst hc1
          obtain rfl : n3 = 1 := by omega
          have htl : C.c.tail = [] := List.eq_nil_of_length_eq_zero (by rw [List.length_tail, l3.out])
          have hsrc2 : ∀ W A, Below w2.heap.size w2 W → 0 < C.c.tail.length → ∃ ad, (A : Option Addr) = some ad ∧ ∀ (j : Nat) (u : Int), C.c.tail[j]? = some u → W.cell? (ad.add j) = some (iv u) ∧ ad.block < W.heap.size := fun W A _ h => by rw [htl] at h; simp at h
          clear htl
          go_wp2_with fail
          go_region_held3 (fun w' => w'.cell? ⟨w.heap.size, 0, none⟩ = some (.slice A0 n0 c0) ∧ w'.cell? ⟨w.heap.size, 1, none⟩ = some (.slice A1 n1 c1) ∧ w'.cell? ⟨w.heap.size, 2, none⟩ = some (.slice A2 n2 c2) ∧ w'.cell? ⟨w.heap.size, 3, none⟩ = some (.slice (some ⟨gf, 0, none⟩) 1 1))
            (((try dsimp only); (repeat' apply And.intro) <;> (with_reducible (first | exact cellF4 s0 hn2 _ _ _ _ | exact cellF4 s1 hn2 _ _ _ _ | exact cellF4 s2 hn2 _ _ _ _ | exact cellF4 s3 hn2 _ _ _ _ | exact cellF4 s0 hn3 _ _ _ _ | exact cellF4 s1 hn3 _ _ _ _ | exact cellF4 s2 hn3 _ _ _ _ | exact cellF4 s3 hn3 _ _ _ _ | exact cellD (cellA s0 _) | exact cellD (cellA s1 _) | exact cellD (cellA s2 _) | exact cellD (cellA s3 _) | exact cellA s0 _ | exact cellA s1 _ | exact cellA s2 _ | exact cellA s3 _ | exact s0 | exact s1 | exact s2 | exact s3 | exact cellD s0 | exact cellD s1 | exact cellD s2 | exact cellD s3 | exact cellD (cellA p0 _) | exact cellD (cellA p1 _) | exact cellD (cellA p2 _) | exact cellD (cellA p3 _) | exact cellA p0 _ | exact cellA p1 _ | exact cellA p2 _ | exact cellA p3 _ | exact p0 | exact p1 | exact p2 | exact p3 | exact cellD p0 | exact cellD p1 | exact cellD p2 | exact cellD p3 | exact cellD (cellA x0 _) | exact cellD (cellA x1 _) | exact cellD (cellA x2 _) | exact cellD (cellA x3 _) | exact cellA (cellD x0) _ | exact cellA (cellD x1) _ | exact cellA (cellD x2) _ | exact cellA (cellD x3) _ | exact cellD x0 | exact cellD x1 | exact cellD x2 | exact cellD x3 | exact x0 | exact x1 | exact x2 | exact x3)) <;> done))
            (first
              | (go_at_call 109; (with_reducible refine (copyOfHeap_any w2.drew lo _ C.h H2.drew (by omega) (by omega) (by omega)).mono ?_); rintro e w3 ⟨vv, rfl, HN0, hb0⟩; (have HN : Hv w3 w2.heap.size vv C.h := HN0.mono (by exact Nat.le_refl _)); (have hb3 : Below w2.heap.size w2 w3 := (Below.refl w2.heap.size w2).drew.trans (hb0.mono (Nat.le_refl _))); (have hn3 : w3.heap.size ≠ w.heap.size := (by have := hb3.size; omega)); (obtain ⟨p0, p1, p2, p3, _⟩ := (X2.below hb3).cells); (have hNo := HN); (obtain ⟨B0, u0, e0, B1, u1, e1, B2_, u2, e2, rfl, _⟩ := hNo.open_))
              | (go_at_call 109; (with_reducible refine (copyOfHeap_any (w2.alloc (.cells #[.slice none 0 0, .slice none 0 0, .slice none 0 0, .slice none 0 0] 27)).drew lo _ C.h (H2.alloc _).drew (by omega) (by omega) (by omega)).mono ?_); rintro e w3 ⟨vv, rfl, HN0, hb0⟩; (have HN : Hv w3 (w2.heap.size + 1) vv C.h := HN0.mono (by simp [World.drew])); (have hb3 : Below w2.heap.size w2 w3 := (((Below.refl w2.heap.size w2).alloc (Nat.le_refl _) (.cells #[.slice none 0 0, .slice none 0 0, .slice none 0 0, .slice none 0 0] 27)).drew).trans (hb0.mono (by simp [World.drew]))); (have hn3 : w3.heap.size ≠ w.heap.size := (by have := hb3.size; omega)); (have ZA := Blk4.below (w := (w2.alloc (.cells #[.slice none 0 0, .slice none 0 0, .slice none 0 0, .slice none 0 0] 27)).drew) (w' := w3) (b := w2.heap.size) (by exact Blk4.new w2 (.slice none 0 0) (.slice none 0 0) (.slice none 0 0) (.slice none 0 0) 27) hb0); (obtain ⟨k0, k1, k2, k3, j0, j1, j2, j3⟩ := ZA.cells); (obtain ⟨p0, p1, p2, p3, _⟩ := (X2.below hb3).cells); (have hNo := HN); (obtain ⟨B0, u0, e0, B1, u1, e1, B2_, u2, e2, rfl, _⟩ := hNo.open_))
              | (go_at_call 110; (with_reducible refine (copyOfIntsAt_any w3 _ _ _ C.c.tail (hsrc2 _ _ hb3) (by rw [List.length_tail]; first | omega | (have := e3h.out; omega)) (by first | omega | (have := e3h.out; omega))).mono ?_); rintro e w4 ⟨T0, ct, rfl, r3n0, hb40⟩; (generalize hnt : C.c.tail.length = nt at r3n0); (have HNT := Lib.hid hnt); clear hnt; (have r3n : Row w4 w3.heap.size (.slice T0 nt ct) C.c.tail := r3n0); (have hb4 : Below w3.heap.size w3 w4 := hb40); (have ZA4 := ZA.below hb4); (obtain ⟨k0, k1, k2, k3, j0, j1, j2, j3⟩ := ZA4.cells); (have X4 := (X2.below hb3).below hb4); (obtain ⟨s0, s1, s2, s3, _⟩ := X4.cells))
              | (go_at_call 110; (with_reducible refine (copyOfIntsAt_any w3 _ _ _ C.c.tail (hsrc2 _ _ hb3) (by rw [List.length_tail]; first | omega | (have := e3h.out; omega)) (by first | omega | (have := e3h.out; omega))).mono ?_); rintro e w4 ⟨T0, ct, rfl, r3n0, hb40⟩; (generalize hnt : C.c.tail.length = nt at r3n0); (have HNT := Lib.hid hnt); clear hnt; (have r3n : Row w4 w3.heap.size (.slice T0 nt ct) C.c.tail := r3n0); (have hb4 : Below w3.heap.size w3 w4 := hb40); (have X4 := (X2.below hb3).below hb4); (obtain ⟨s0, s1, s2, s3, _⟩ := X4.cells))
              | (go_at_call 110; (with_reducible refine (copyOfIntsAt_any (w3.alloc (.cells #[.slice none 0 0, .slice none 0 0, .slice none 0 0, .slice none 0 0] 27)) _ _ _ C.c.tail (hsrc2 _ _ (hb3.alloc hb3.size (.cells #[.slice none 0 0, .slice none 0 0, .slice none 0 0, .slice none 0 0] 27))) (by rw [List.length_tail]; first | omega | (have := e3h.out; omega)) (by first | omega | (have := e3h.out; omega))).mono ?_); rintro e w4 ⟨T0, ct, rfl, r3n0, hb40⟩; (generalize hnt : C.c.tail.length = nt at r3n0); (have HNT := Lib.hid hnt); clear hnt; (have r3n : Row w4 w3.heap.size (.slice T0 nt ct) C.c.tail := r3n0.mono (by simp)); (have hb4 : Below w3.heap.size w3 w4 := ((Below.refl w3.heap.size w3).alloc (Nat.le_refl _) (.cells #[.slice none 0 0, .slice none 0 0, .slice none 0 0, .slice none 0 0] 27)).trans (hb40.mono (by simp))); (have ZB := Blk4.below (w := w3.alloc (.cells #[.slice none 0 0, .slice none 0 0, .slice none 0 0, .slice none 0 0] 27)) (w' := w4) (b := w3.heap.size) (by exact Blk4.new w3 (.slice none 0 0) (.slice none 0 0) (.slice none 0 0) (.slice none 0 0) 27) hb40); (obtain ⟨k0, k1, k2, k3, j0, j1, j2, j3⟩ := ZB.cells); (have X4 := (X2.below hb3).below hb4); (obtain ⟨s0, s1, s2, s3, _⟩ := X4.cells)))
          · have z3 := hb3.size
            have z4 := hb4.size
            have HN4 := (HN.mono (lo' := w2.heap.size) (by omega)).below hb4
            obtain ⟨_, _, _, _, _, _, _, _, _, evv, ⟨q0, q1, q2⟩, ⟨t0, t1, t2⟩, _, _, _⟩ := HN4.open_
            cases evv
            obtain ⟨gr, rfl, hlg, hg, _⟩ := q2.at_ (k := j) (by omega)
            obtain ⟨_, _, _, evv, G0, G1, G2, _⟩ := HN
            cases evv
            have grl := G2.lt gr rfl
            have ap : ∀ (v : Value) (xs : List Int), Row w3 w2.heap.size v xs → Apart v (.slice T0 nt ct) := fun v xs r b e e' => by
              have h1 := (r.lt b e).2
              have h2 := (r3n.lt b e').1
              omega
            have C4 : Cv w4 w2.heap.size (.agg #[.slice B0 u0 e0, .slice B1 u1 e1, .slice (some ⟨gr, 0, none⟩) u2 e2, .slice T0 nt ct]) ⟨C.h, C.c.tail⟩ := ⟨_, _, _, _, rfl, HN4, r3n.mono (by omega), ap _ _ (G0.mono (by omega)), ap _ _ (G1.mono (by omega)), ap _ _ (G2.mono (by omega))⟩
            have Y4 := (Y2.below hb3).below hb4
            have B4 := (B2.trans (hb3.mono (by omega))).trans (hb4.mono (by omega))
            have nZ : w4.heap.size ≠ gr := by omega
            have C5 := C4.alloc (.cells #[.slice B0 u0 e0, .slice B1 u1 e1, .slice (some ⟨gr, 0, none⟩) u2 e2, .slice T0 nt ct] 27)
            have Z5 := Blk4.new_at (w := w4) (b := w4.heap.size) rfl (.slice B0 u0 e0) (.slice B1 u1 e1) (.slice (some ⟨gr, 0, none⟩) u2 e2) (.slice T0 nt ct) 27
            have Y5 := Y4.alloc (.cells #[.slice B0 u0 e0, .slice B1 u1 e1, .slice (some ⟨gr, 0, none⟩) u2 e2, .slice T0 nt ct] 27)
            have B5 := B4.alloc (by omega) (.cells #[.slice B0 u0 e0, .slice B1 u1 e1, .slice (some ⟨gr, 0, none⟩) u2 e2, .slice T0 nt ct] 27)
            have hn5 : w.heap.size + 1 < w2.heap.size := by omega
            clear Y4 B4 C4 HN4 G0 G1 G2 r3n q0 q1 q2 s0 s1 s2 s3 p0 p1 p2 p3 x0 x1 x2 x3
            generalize w4.alloc (.cells #[.slice B0 u0 e0, .slice B1 u1 e1, .slice (some ⟨gr, 0, none⟩) u2 e2, .slice T0 nt ct] 27) = w5 at C5 Z5 Y5 B5 ⊢
            obtain ⟨Q2, t2'⟩ := C5.roots
            have t2q : C.h.t.length = u2 := t2'
            have hjt : j < C.h.t.length := by omega
            obtain ⟨_, u, eu, _, _, _, hcj, hfj⟩ := Q2.get (k := j) hjt
            cases eu
            have hj2 : (j : Int) < (u2 : Int) := by omega
            have nY : w.heap.size + 1 ≠ gr := by omega
            have C6 := C5.putRoot j x
            have Z6 := Z5.other (p := ⟨gr, j, none⟩) nZ (.int .i64 x)
            have Y6 := Y5.other (p := ⟨gr, j, none⟩) nY (.int .i64 x)
            have B6 := B5.setCell (p := ⟨gr, j, none⟩) (by simp; omega) (.int .i64 x)
            obtain ⟨v0, v1, v2, v3, _⟩ := Z5.cells
            obtain ⟨v0', v1', v2', v3', _⟩ := Z6.cells
            obtain ⟨y0, y1, y2, y3, f0, f1, f2, f3⟩ := Y6.cells
            have CF := ((((C6.set_low (p := ⟨w.heap.size + 1, 0, none⟩) hn5 (.slice B0 u0 e0)).set_low (p := ⟨w.heap.size + 1, 1, none⟩) hn5 (.slice B1 u1 e1)).set_low (p := ⟨w.heap.size + 1, 2, none⟩) hn5 (.slice (some ⟨gr, 0, none⟩) u2 e2)).set_low (p := ⟨w.heap.size + 1, 3, none⟩) hn5 (.slice T0 nt ct)).mono (lo' := w.heap.size) (by omega)
            have BF := ((((B6.setCell (p := ⟨w.heap.size + 1, 0, none⟩) (by simp) (.slice B0 u0 e0)).setCell (p := ⟨w.heap.size + 1, 1, none⟩) (by simp) (.slice B1 u1 e1)).setCell (p := ⟨w.heap.size + 1, 2, none⟩) (by simp) (.slice (some ⟨gr, 0, none⟩) u2 e2)).setCell (p := ⟨w.heap.size + 1, 3, none⟩) (by simp) (.slice T0 nt ct))
            clear C5 Z5 Y5 B5 C6 Z6 B6 Q2 t2' t2 t2q hjt
            go_wp2_with fail
            rw [hf.out, hX.out, hC.out]
            refine bodyPost_ret (v := .tuple #[.agg #[.slice B0 u0 e0, .slice B1 u1 e1, .slice (some ⟨gr, 0, none⟩) u2 e2, .slice T0 nt ct], .int .i64 x, .bool true]) ?_ rfl ⟨_, rfl, CF, BF⟩
            simp [results, Try.results151, go_sem, y0, y1, y2, y3]
          · have z3 := hb3.size
            have z4 := hb4.size
            have HN4 := (HN.mono (lo' := w2.heap.size) (by omega)).below hb4
            obtain ⟨_, _, _, _, _, _, _, _, _, evv, ⟨q0, q1, q2⟩, ⟨t0, t1, t2⟩, _, _, _⟩ := HN4.open_
            cases evv
            obtain ⟨gr, rfl, hlg, hg, _⟩ := q2.at_ (k := j) (by omega)
            obtain ⟨_, _, _, evv, G0, G1, G2, _⟩ := HN
            cases evv
            have grl := G2.lt gr rfl
            have ap : ∀ (v : Value) (xs : List Int), Row w3 w2.heap.size v xs → Apart v (.slice T0 nt ct) := fun v xs r b e e' => by
              have h1 := (r.lt b e).2
              have h2 := (r3n.lt b e').1
              omega
            have C4 : Cv w4 w2.heap.size (.agg #[.slice B0 u0 e0, .slice B1 u1 e1, .slice (some ⟨gr, 0, none⟩) u2 e2, .slice T0 nt ct]) ⟨C.h, C.c.tail⟩ := ⟨_, _, _, _, rfl, HN4, r3n.mono (by omega), ap _ _ (G0.mono (by omega)), ap _ _ (G1.mono (by omega)), ap _ _ (G2.mono (by omega))⟩
            have Y4 := (Y2.below hb3).below hb4
            have B4 := (B2.trans (hb3.mono (by omega))).trans (hb4.mono (by omega))
            have nZ : w3.heap.size ≠ gr := by omega
            have nY5 : w.heap.size + 1 ≠ w3.heap.size := by omega
            have C5 := C4.setBlkS (b := w3.heap.size) ⟨fun e => by have := (G0.lt _ e).2; omega, fun e => by have := (G1.lt _ e).2; omega, fun e => by have := (G2.lt _ e).2; omega, fun e => by have := (r3n0.lt _ e).1; simp at this; omega⟩ (.slice B0 u0 e0) (.slice B1 u1 e1) (.slice (some ⟨gr, 0, none⟩) u2 e2) (.slice T0 nt ct)
            have Z5 := blk4_setAllS ZB (.slice B0 u0 e0) (.slice B1 u1 e1) (.slice (some ⟨gr, 0, none⟩) u2 e2) (.slice T0 nt ct)
            have Y5 := ((((Y4.other (p := ⟨w3.heap.size, 0, none⟩) nY5 (.slice B0 u0 e0)).other (p := ⟨w3.heap.size, 1, none⟩) nY5 (.slice B1 u1 e1)).other (p := ⟨w3.heap.size, 2, none⟩) nY5 (.slice (some ⟨gr, 0, none⟩) u2 e2)).other (p := ⟨w3.heap.size, 3, none⟩) nY5 (.slice T0 nt ct))
            have B5 := ((((B4.setCell (p := ⟨w3.heap.size, 0, none⟩) (by simp; omega) (.slice B0 u0 e0)).setCell (p := ⟨w3.heap.size, 1, none⟩) (by simp; omega) (.slice B1 u1 e1)).setCell (p := ⟨w3.heap.size, 2, none⟩) (by simp; omega) (.slice (some ⟨gr, 0, none⟩) u2 e2)).setCell (p := ⟨w3.heap.size, 3, none⟩) (by simp; omega) (.slice T0 nt ct))
            have hn5 : w.heap.size + 1 < w2.heap.size := by omega
            clear Y4 B4 C4 HN4 G0 G1 G2 r3n q0 q1 q2 s0 s1 s2 s3 p0 p1 p2 p3 x0 x1 x2 x3
            generalize ((((w4.setCell ⟨w3.heap.size, 0, none⟩ (.slice B0 u0 e0)).setCell ⟨w3.heap.size, 1, none⟩ (.slice B1 u1 e1)).setCell ⟨w3.heap.size, 2, none⟩ (.slice (some ⟨gr, 0, none⟩) u2 e2)).setCell ⟨w3.heap.size, 3, none⟩ (.slice T0 nt ct)) = w5 at C5 Z5 Y5 B5 ⊢
            obtain ⟨Q2, t2'⟩ := C5.roots
            have t2q : C.h.t.length = u2 := t2'
            have hjt : j < C.h.t.length := by omega
            obtain ⟨_, u, eu, _, _, _, hcj, hfj⟩ := Q2.get (k := j) hjt
            cases eu
            have hj2 : (j : Int) < (u2 : Int) := by omega
            have nY : w.heap.size + 1 ≠ gr := by omega
            have C6 := C5.putRoot j x
            have Z6 := Z5.other (p := ⟨gr, j, none⟩) nZ (.int .i64 x)
            have Y6 := Y5.other (p := ⟨gr, j, none⟩) nY (.int .i64 x)
            have B6 := B5.setCell (p := ⟨gr, j, none⟩) (by simp; omega) (.int .i64 x)
            obtain ⟨v0, v1, v2, v3, _⟩ := Z5.cells
            obtain ⟨v0', v1', v2', v3', _⟩ := Z6.cells
            obtain ⟨y0, y1, y2, y3, f0, f1, f2, f3⟩ := Y6.cells
            have CF := ((((C6.set_low (p := ⟨w.heap.size + 1, 0, none⟩) hn5 (.slice B0 u0 e0)).set_low (p := ⟨w.heap.size + 1, 1, none⟩) hn5 (.slice B1 u1 e1)).set_low (p := ⟨w.heap.size + 1, 2, none⟩) hn5 (.slice (some ⟨gr, 0, none⟩) u2 e2)).set_low (p := ⟨w.heap.size + 1, 3, none⟩) hn5 (.slice T0 nt ct)).mono (lo' := w.heap.size) (by omega)
            have BF := ((((B6.setCell (p := ⟨w.heap.size + 1, 0, none⟩) (by simp) (.slice B0 u0 e0)).setCell (p := ⟨w.heap.size + 1, 1, none⟩) (by simp) (.slice B1 u1 e1)).setCell (p := ⟨w.heap.size + 1, 2, none⟩) (by simp) (.slice (some ⟨gr, 0, none⟩) u2 e2)).setCell (p := ⟨w.heap.size + 1, 3, none⟩) (by simp) (.slice T0 nt ct))
            clear C5 Z5 Y5 B5 C6 Z6 B6 Q2 t2' t2 t2q hjt
            go_wp2_with fail
            rw [hf.out, hX.out, hC.out]
            refine bodyPost_ret (v := .tuple #[.agg #[.slice B0 u0 e0, .slice B1 u1 e1, .slice (some ⟨gr, 0, none⟩) u2 e2, .slice T0 nt ct], .int .i64 x, .bool true]) ?_ rfl ⟨_, rfl, CF, BF⟩
            simp [results, Try.results151, go_sem, y0, y1, y2, y3]
          · have z3 := hb3.size
            have z4 := hb4.size
            have HN4 := (HN.mono (lo' := w2.heap.size) (by omega)).below hb4
            obtain ⟨_, _, _, _, _, _, _, _, _, evv, ⟨q0, q1, q2⟩, ⟨t0, t1, t2⟩, _, _, _⟩ := HN4.open_
            cases evv
            obtain ⟨gr, rfl, hlg, hg, _⟩ := q2.at_ (k := j) (by omega)
            obtain ⟨_, _, _, evv, G0, G1, G2, _⟩ := HN
            cases evv
            have grl := G2.lt gr rfl
            have ap : ∀ (v : Value) (xs : List Int), Row w3 w2.heap.size v xs → Apart v (.slice T0 nt ct) := fun v xs r b e e' => by
              have h1 := (r.lt b e).2
              have h2 := (r3n.lt b e').1
              omega
            have C4 : Cv w4 w2.heap.size (.agg #[.slice B0 u0 e0, .slice B1 u1 e1, .slice (some ⟨gr, 0, none⟩) u2 e2, .slice T0 nt ct]) ⟨C.h, C.c.tail⟩ := ⟨_, _, _, _, rfl, HN4, r3n.mono (by omega), ap _ _ (G0.mono (by omega)), ap _ _ (G1.mono (by omega)), ap _ _ (G2.mono (by omega))⟩
            have Y4 := (Y2.below hb3).below hb4
            have B4 := (B2.trans (hb3.mono (by omega))).trans (hb4.mono (by omega))
            have zA := ZA.lt
            have nZ : w2.heap.size ≠ gr := by omega
            have nY5 : w.heap.size + 1 ≠ w2.heap.size := by omega
            have C5 := C4.setBlkS (b := w2.heap.size) ⟨fun e => by have := (G0.lt _ e).1; omega, fun e => by have := (G1.lt _ e).1; omega, fun e => by have := (G2.lt _ e).1; omega, fun e => by have := (r3n.lt _ e).1; omega⟩ (.slice B0 u0 e0) (.slice B1 u1 e1) (.slice (some ⟨gr, 0, none⟩) u2 e2) (.slice T0 nt ct)
            have Z5 := blk4_setAllS ZA4 (.slice B0 u0 e0) (.slice B1 u1 e1) (.slice (some ⟨gr, 0, none⟩) u2 e2) (.slice T0 nt ct)
            have Y5 := ((((Y4.other (p := ⟨w2.heap.size, 0, none⟩) nY5 (.slice B0 u0 e0)).other (p := ⟨w2.heap.size, 1, none⟩) nY5 (.slice B1 u1 e1)).other (p := ⟨w2.heap.size, 2, none⟩) nY5 (.slice (some ⟨gr, 0, none⟩) u2 e2)).other (p := ⟨w2.heap.size, 3, none⟩) nY5 (.slice T0 nt ct))
            have B5 := ((((B4.setCell (p := ⟨w2.heap.size, 0, none⟩) (by simp; omega) (.slice B0 u0 e0)).setCell (p := ⟨w2.heap.size, 1, none⟩) (by simp; omega) (.slice B1 u1 e1)).setCell (p := ⟨w2.heap.size, 2, none⟩) (by simp; omega) (.slice (some ⟨gr, 0, none⟩) u2 e2)).setCell (p := ⟨w2.heap.size, 3, none⟩) (by simp; omega) (.slice T0 nt ct))
            have hn5 : w.heap.size + 1 < w2.heap.size := by omega
            clear Y4 B4 C4 HN4 G0 G1 G2 r3n q0 q1 q2 s0 s1 s2 s3 p0 p1 p2 p3 x0 x1 x2 x3
            generalize ((((w4.setCell ⟨w2.heap.size, 0, none⟩ (.slice B0 u0 e0)).setCell ⟨w2.heap.size, 1, none⟩ (.slice B1 u1 e1)).setCell ⟨w2.heap.size, 2, none⟩ (.slice (some ⟨gr, 0, none⟩) u2 e2)).setCell ⟨w2.heap.size, 3, none⟩ (.slice T0 nt ct)) = w5 at C5 Z5 Y5 B5 ⊢
            obtain ⟨Q2, t2'⟩ := C5.roots
            have t2q : C.h.t.length = u2 := t2'
            have hjt : j < C.h.t.length := by omega
            obtain ⟨_, u, eu, _, _, _, hcj, hfj⟩ := Q2.get (k := j) hjt
            cases eu
            have hj2 : (j : Int) < (u2 : Int) := by omega
            have nY : w.heap.size + 1 ≠ gr := by omega
            have C6 := C5.putRoot j x
            have Z6 := Z5.other (p := ⟨gr, j, none⟩) nZ (.int .i64 x)
            have Y6 := Y5.other (p := ⟨gr, j, none⟩) nY (.int .i64 x)
            have B6 := B5.setCell (p := ⟨gr, j, none⟩) (by simp; omega) (.int .i64 x)
            obtain ⟨v0, v1, v2, v3, _⟩ := Z5.cells
            obtain ⟨v0', v1', v2', v3', _⟩ := Z6.cells
            obtain ⟨y0, y1, y2, y3, f0, f1, f2, f3⟩ := Y6.cells
            have CF := ((((C6.set_low (p := ⟨w.heap.size + 1, 0, none⟩) hn5 (.slice B0 u0 e0)).set_low (p := ⟨w.heap.size + 1, 1, none⟩) hn5 (.slice B1 u1 e1)).set_low (p := ⟨w.heap.size + 1, 2, none⟩) hn5 (.slice (some ⟨gr, 0, none⟩) u2 e2)).set_low (p := ⟨w.heap.size + 1, 3, none⟩) hn5 (.slice T0 nt ct)).mono (lo' := w.heap.size) (by omega)
            have BF := ((((B6.setCell (p := ⟨w.heap.size + 1, 0, none⟩) (by simp) (.slice B0 u0 e0)).setCell (p := ⟨w.heap.size + 1, 1, none⟩) (by simp) (.slice B1 u1 e1)).setCell (p := ⟨w.heap.size + 1, 2, none⟩) (by simp) (.slice (some ⟨gr, 0, none⟩) u2 e2)).setCell (p := ⟨w.heap.size + 1, 3, none⟩) (by simp) (.slice T0 nt ct))
            clear C5 Z5 Y5 B5 C6 Z6 B6 Q2 t2' t2 t2q hjt
            go_wp2_with fail
            rw [hf.out, hX.out, hC.out]
            refine bodyPost_ret (v := .tuple #[.agg #[.slice B0 u0 e0, .slice B1 u1 e1, .slice (some ⟨gr, 0, none⟩) u2 e2, .slice T0 nt ct], .int .i64 x, .bool true]) ?_ rfl ⟨_, rfl, CF, BF⟩
            simp [results, Try.results151, go_sem, y0, y1, y2, y3]
        · have hc3 : ((c3 : Int) - 1 == 0) = false := by simp; omega
          have hc4 : c3 - 1 ≠ 0 := by omega
          go_wp2_with fail
          go_region_held3 (fun w' => w'.cell? ⟨w.heap.size, 0, none⟩ = some (.slice A0 n0 c0) ∧ w'.cell? ⟨w.heap.size, 1, none⟩ = some (.slice A1 n1 c1) ∧ w'.cell? ⟨w.heap.size, 2, none⟩ = some (.slice A2 n2 c2) ∧ w'.cell? ⟨w.heap.size, 3, none⟩ = some (.slice (some ⟨gf, 0, none⟩) n3 c3))
            (((try dsimp only); (repeat' apply And.intro) <;> (with_reducible (first | exact cellF4 s0 hn2 _ _ _ _ | exact cellF4 s1 hn2 _ _ _ _ | exact cellF4 s2 hn2 _ _ _ _ | exact cellF4 s3 hn2 _ _ _ _ | exact cellF4 s0 hn3 _ _ _ _ | exact cellF4 s1 hn3 _ _ _ _ | exact cellF4 s2 hn3 _ _ _ _ | exact cellF4 s3 hn3 _ _ _ _ | exact cellD (cellA s0 _) | exact cellD (cellA s1 _) | exact cellD (cellA s2 _) | exact cellD (cellA s3 _) | exact cellA s0 _ | exact cellA s1 _ | exact cellA s2 _ | exact cellA s3 _ | exact s0 | exact s1 | exact s2 | exact s3 | exact cellD s0 | exact cellD s1 | exact cellD s2 | exact cellD s3 | exact cellD (cellA p0 _) | exact cellD (cellA p1 _) | exact cellD (cellA p2 _) | exact cellD (cellA p3 _) | exact cellA p0 _ | exact cellA p1 _ | exact cellA p2 _ | exact cellA p3 _ | exact p0 | exact p1 | exact p2 | exact p3 | exact cellD p0 | exact cellD p1 | exact cellD p2 | exact cellD p3 | exact cellD (cellA x0 _) | exact cellD (cellA x1 _) | exact cellD (cellA x2 _) | exact cellD (cellA x3 _) | exact cellA (cellD x0) _ | exact cellA (cellD x1) _ | exact cellA (cellD x2) _ | exact cellA (cellD x3) _ | exact cellD x0 | exact cellD x1 | exact cellD x2 | exact cellD x3 | exact x0 | exact x1 | exact x2 | exact x3)) <;> done))
            (first
              | (go_at_call 109; (with_reducible refine (copyOfHeap_any w2.drew lo _ C.h H2.drew (by omega) (by omega) (by omega)).mono ?_); rintro e w3 ⟨vv, rfl, HN0, hb0⟩; (have HN : Hv w3 w2.heap.size vv C.h := HN0.mono (by exact Nat.le_refl _)); (have hb3 : Below w2.heap.size w2 w3 := (Below.refl w2.heap.size w2).drew.trans (hb0.mono (Nat.le_refl _))); (have hn3 : w3.heap.size ≠ w.heap.size := (by have := hb3.size; omega)); (obtain ⟨p0, p1, p2, p3, _⟩ := (X2.below hb3).cells); (have hNo := HN); (obtain ⟨B0, u0, e0, B1, u1, e1, B2_, u2, e2, rfl, _⟩ := hNo.open_))
              | (go_at_call 109; (with_reducible refine (copyOfHeap_any (w2.alloc (.cells #[.slice none 0 0, .slice none 0 0, .slice none 0 0, .slice none 0 0] 27)).drew lo _ C.h (H2.alloc _).drew (by omega) (by omega) (by omega)).mono ?_); rintro e w3 ⟨vv, rfl, HN0, hb0⟩; (have HN : Hv w3 (w2.heap.size + 1) vv C.h := HN0.mono (by simp [World.drew])); (have hb3 : Below w2.heap.size w2 w3 := (((Below.refl w2.heap.size w2).alloc (Nat.le_refl _) (.cells #[.slice none 0 0, .slice none 0 0, .slice none 0 0, .slice none 0 0] 27)).drew).trans (hb0.mono (by simp [World.drew]))); (have hn3 : w3.heap.size ≠ w.heap.size := (by have := hb3.size; omega)); (have ZA := Blk4.below (w := (w2.alloc (.cells #[.slice none 0 0, .slice none 0 0, .slice none 0 0, .slice none 0 0] 27)).drew) (w' := w3) (b := w2.heap.size) (by exact Blk4.new w2 (.slice none 0 0) (.slice none 0 0) (.slice none 0 0) (.slice none 0 0) 27) hb0); (obtain ⟨k0, k1, k2, k3, j0, j1, j2, j3⟩ := ZA.cells); (obtain ⟨p0, p1, p2, p3, _⟩ := (X2.below hb3).cells); (have hNo := HN); (obtain ⟨B0, u0, e0, B1, u1, e1, B2_, u2, e2, rfl, _⟩ := hNo.open_))
              | (go_at_call 110; (with_reducible refine (copyOfIntsAt_any w3 _ _ _ C.c.tail (hsrc _ hb3) (by rw [List.length_tail]; first | omega | (have := e3h.out; omega)) (by first | omega | (have := e3h.out; omega))).mono ?_); rintro e w4 ⟨T0, ct, rfl, r3n0, hb40⟩; (generalize hnt : C.c.tail.length = nt at r3n0); (have HNT := Lib.hid hnt); clear hnt; (have r3n : Row w4 w3.heap.size (.slice T0 nt ct) C.c.tail := r3n0); (have hb4 : Below w3.heap.size w3 w4 := hb40); (have ZA4 := ZA.below hb4); (obtain ⟨k0, k1, k2, k3, j0, j1, j2, j3⟩ := ZA4.cells); (have X4 := (X2.below hb3).below hb4); (obtain ⟨s0, s1, s2, s3, _⟩ := X4.cells))
              | (go_at_call 110; (with_reducible refine (copyOfIntsAt_any w3 _ _ _ C.c.tail (hsrc _ hb3) (by rw [List.length_tail]; first | omega | (have := e3h.out; omega)) (by first | omega | (have := e3h.out; omega))).mono ?_); rintro e w4 ⟨T0, ct, rfl, r3n0, hb40⟩; (generalize hnt : C.c.tail.length = nt at r3n0); (have HNT := Lib.hid hnt); clear hnt; (have r3n : Row w4 w3.heap.size (.slice T0 nt ct) C.c.tail := r3n0); (have hb4 : Below w3.heap.size w3 w4 := hb40); (have X4 := (X2.below hb3).below hb4); (obtain ⟨s0, s1, s2, s3, _⟩ := X4.cells))
              | (go_at_call 110; (with_reducible refine (copyOfIntsAt_any (w3.alloc (.cells #[.slice none 0 0, .slice none 0 0, .slice none 0 0, .slice none 0 0] 27)) _ _ _ C.c.tail (hsrc _ (hb3.alloc hb3.size (.cells #[.slice none 0 0, .slice none 0 0, .slice none 0 0, .slice none 0 0] 27))) (by rw [List.length_tail]; first | omega | (have := e3h.out; omega)) (by first | omega | (have := e3h.out; omega))).mono ?_); rintro e w4 ⟨T0, ct, rfl, r3n0, hb40⟩; (generalize hnt : C.c.tail.length = nt at r3n0); (have HNT := Lib.hid hnt); clear hnt; (have r3n : Row w4 w3.heap.size (.slice T0 nt ct) C.c.tail := r3n0.mono (by simp)); (have hb4 : Below w3.heap.size w3 w4 := ((Below.refl w3.heap.size w3).alloc (Nat.le_refl _) (.cells #[.slice none 0 0, .slice none 0 0, .slice none 0 0, .slice none 0 0] 27)).trans (hb40.mono (by simp))); (have ZB := Blk4.below (w := w3.alloc (.cells #[.slice none 0 0, .slice none 0 0, .slice none 0 0, .slice none 0 0] 27)) (w' := w4) (b := w3.heap.size) (by exact Blk4.new w3 (.slice none 0 0) (.slice none 0 0) (.slice none 0 0) (.slice none 0 0) 27) hb40); (obtain ⟨k0, k1, k2, k3, j0, j1, j2, j3⟩ := ZB.cells); (have X4 := (X2.below hb3).below hb4); (obtain ⟨s0, s1, s2, s3, _⟩ := X4.cells)))
          · have z3 := hb3.size
            have z4 := hb4.size
            have HN4 := (HN.mono (lo' := w2.heap.size) (by omega)).below hb4
            obtain ⟨_, _, _, _, _, _, _, _, _, evv, ⟨q0, q1, q2⟩, ⟨t0, t1, t2⟩, _, _, _⟩ := HN4.open_
            cases evv
            obtain ⟨gr, rfl, hlg, hg, _⟩ := q2.at_ (k := j) (by omega)
            obtain ⟨_, _, _, evv, G0, G1, G2, _⟩ := HN
            cases evv
            have grl := G2.lt gr rfl
            have ap : ∀ (v : Value) (xs : List Int), Row w3 w2.heap.size v xs → Apart v (.slice T0 nt ct) := fun v xs r b e e' => by
              have h1 := (r.lt b e).2
              have h2 := (r3n.lt b e').1
              omega
            have C4 : Cv w4 w2.heap.size (.agg #[.slice B0 u0 e0, .slice B1 u1 e1, .slice (some ⟨gr, 0, none⟩) u2 e2, .slice T0 nt ct]) ⟨C.h, C.c.tail⟩ := ⟨_, _, _, _, rfl, HN4, r3n.mono (by omega), ap _ _ (G0.mono (by omega)), ap _ _ (G1.mono (by omega)), ap _ _ (G2.mono (by omega))⟩
            have Y4 := (Y2.below hb3).below hb4
            have B4 := (B2.trans (hb3.mono (by omega))).trans (hb4.mono (by omega))
            have nZ : w4.heap.size ≠ gr := by omega
            have C5 := C4.alloc (.cells #[.slice B0 u0 e0, .slice B1 u1 e1, .slice (some ⟨gr, 0, none⟩) u2 e2, .slice T0 nt ct] 27)
            have Z5 := Blk4.new_at (w := w4) (b := w4.heap.size) rfl (.slice B0 u0 e0) (.slice B1 u1 e1) (.slice (some ⟨gr, 0, none⟩) u2 e2) (.slice T0 nt ct) 27
            have Y5 := Y4.alloc (.cells #[.slice B0 u0 e0, .slice B1 u1 e1, .slice (some ⟨gr, 0, none⟩) u2 e2, .slice T0 nt ct] 27)
            have B5 := B4.alloc (by omega) (.cells #[.slice B0 u0 e0, .slice B1 u1 e1, .slice (some ⟨gr, 0, none⟩) u2 e2, .slice T0 nt ct] 27)
            have hn5 : w.heap.size + 1 < w2.heap.size := by omega
            clear Y4 B4 C4 HN4 G0 G1 G2 r3n q0 q1 q2 s0 s1 s2 s3 p0 p1 p2 p3 x0 x1 x2 x3
            generalize w4.alloc (.cells #[.slice B0 u0 e0, .slice B1 u1 e1, .slice (some ⟨gr, 0, none⟩) u2 e2, .slice T0 nt ct] 27) = w5 at C5 Z5 Y5 B5 ⊢
            obtain ⟨Q2, t2'⟩ := C5.roots
            have t2q : C.h.t.length = u2 := t2'
            have hjt : j < C.h.t.length := by omega
            obtain ⟨_, u, eu, _, _, _, hcj, hfj⟩ := Q2.get (k := j) hjt
            cases eu
            have hj2 : (j : Int) < (u2 : Int) := by omega
            have nY : w.heap.size + 1 ≠ gr := by omega
            have C6 := C5.putRoot j x
            have Z6 := Z5.other (p := ⟨gr, j, none⟩) nZ (.int .i64 x)
            have Y6 := Y5.other (p := ⟨gr, j, none⟩) nY (.int .i64 x)
            have B6 := B5.setCell (p := ⟨gr, j, none⟩) (by simp; omega) (.int .i64 x)
            obtain ⟨v0, v1, v2, v3, _⟩ := Z5.cells
            obtain ⟨v0', v1', v2', v3', _⟩ := Z6.cells
            obtain ⟨y0, y1, y2, y3, f0, f1, f2, f3⟩ := Y6.cells
            have CF := ((((C6.set_low (p := ⟨w.heap.size + 1, 0, none⟩) hn5 (.slice B0 u0 e0)).set_low (p := ⟨w.heap.size + 1, 1, none⟩) hn5 (.slice B1 u1 e1)).set_low (p := ⟨w.heap.size + 1, 2, none⟩) hn5 (.slice (some ⟨gr, 0, none⟩) u2 e2)).set_low (p := ⟨w.heap.size + 1, 3, none⟩) hn5 (.slice T0 nt ct)).mono (lo' := w.heap.size) (by omega)
            have BF := ((((B6.setCell (p := ⟨w.heap.size + 1, 0, none⟩) (by simp) (.slice B0 u0 e0)).setCell (p := ⟨w.heap.size + 1, 1, none⟩) (by simp) (.slice B1 u1 e1)).setCell (p := ⟨w.heap.size + 1, 2, none⟩) (by simp) (.slice (some ⟨gr, 0, none⟩) u2 e2)).setCell (p := ⟨w.heap.size + 1, 3, none⟩) (by simp) (.slice T0 nt ct))
            clear C5 Z5 Y5 B5 C6 Z6 B6 Q2 t2' t2 t2q hjt
            go_wp2_with fail
            rw [hf.out, hX.out, hC.out]
            refine bodyPost_ret (v := .tuple #[.agg #[.slice B0 u0 e0, .slice B1 u1 e1, .slice (some ⟨gr, 0, none⟩) u2 e2, .slice T0 nt ct], .int .i64 x, .bool true]) ?_ rfl ⟨_, rfl, CF, BF⟩
            simp [results, Try.results151, go_sem, y0, y1, y2, y3]
          · have z3 := hb3.size
            have z4 := hb4.size
            have HN4 := (HN.mono (lo' := w2.heap.size) (by omega)).below hb4
            obtain ⟨_, _, _, _, _, _, _, _, _, evv, ⟨q0, q1, q2⟩, ⟨t0, t1, t2⟩, _, _, _⟩ := HN4.open_
            cases evv
            obtain ⟨gr, rfl, hlg, hg, _⟩ := q2.at_ (k := j) (by omega)
            obtain ⟨_, _, _, evv, G0, G1, G2, _⟩ := HN
            cases evv
            have grl := G2.lt gr rfl
            have ap : ∀ (v : Value) (xs : List Int), Row w3 w2.heap.size v xs → Apart v (.slice T0 nt ct) := fun v xs r b e e' => by
              have h1 := (r.lt b e).2
              have h2 := (r3n.lt b e').1
              omega
            have C4 : Cv w4 w2.heap.size (.agg #[.slice B0 u0 e0, .slice B1 u1 e1, .slice (some ⟨gr, 0, none⟩) u2 e2, .slice T0 nt ct]) ⟨C.h, C.c.tail⟩ := ⟨_, _, _, _, rfl, HN4, r3n.mono (by omega), ap _ _ (G0.mono (by omega)), ap _ _ (G1.mono (by omega)), ap _ _ (G2.mono (by omega))⟩
            have Y4 := (Y2.below hb3).below hb4
            have B4 := (B2.trans (hb3.mono (by omega))).trans (hb4.mono (by omega))
            have nZ : w3.heap.size ≠ gr := by omega
            have nY5 : w.heap.size + 1 ≠ w3.heap.size := by omega
            have C5 := C4.setBlkS (b := w3.heap.size) ⟨fun e => by have := (G0.lt _ e).2; omega, fun e => by have := (G1.lt _ e).2; omega, fun e => by have := (G2.lt _ e).2; omega, fun e => by have := (r3n0.lt _ e).1; simp at this; omega⟩ (.slice B0 u0 e0) (.slice B1 u1 e1) (.slice (some ⟨gr, 0, none⟩) u2 e2) (.slice T0 nt ct)
            have Z5 := blk4_setAllS ZB (.slice B0 u0 e0) (.slice B1 u1 e1) (.slice (some ⟨gr, 0, none⟩) u2 e2) (.slice T0 nt ct)
            have Y5 := ((((Y4.other (p := ⟨w3.heap.size, 0, none⟩) nY5 (.slice B0 u0 e0)).other (p := ⟨w3.heap.size, 1, none⟩) nY5 (.slice B1 u1 e1)).other (p := ⟨w3.heap.size, 2, none⟩) nY5 (.slice (some ⟨gr, 0, none⟩) u2 e2)).other (p := ⟨w3.heap.size, 3, none⟩) nY5 (.slice T0 nt ct))
            have B5 := ((((B4.setCell (p := ⟨w3.heap.size, 0, none⟩) (by simp; omega) (.slice B0 u0 e0)).setCell (p := ⟨w3.heap.size, 1, none⟩) (by simp; omega) (.slice B1 u1 e1)).setCell (p := ⟨w3.heap.size, 2, none⟩) (by simp; omega) (.slice (some ⟨gr, 0, none⟩) u2 e2)).setCell (p := ⟨w3.heap.size, 3, none⟩) (by simp; omega) (.slice T0 nt ct))
            have hn5 : w.heap.size + 1 < w2.heap.size := by omega
            clear Y4 B4 C4 HN4 G0 G1 G2 r3n q0 q1 q2 s0 s1 s2 s3 p0 p1 p2 p3 x0 x1 x2 x3
            generalize ((((w4.setCell ⟨w3.heap.size, 0, none⟩ (.slice B0 u0 e0)).setCell ⟨w3.heap.size, 1, none⟩ (.slice B1 u1 e1)).setCell ⟨w3.heap.size, 2, none⟩ (.slice (some ⟨gr, 0, none⟩) u2 e2)).setCell ⟨w3.heap.size, 3, none⟩ (.slice T0 nt ct)) = w5 at C5 Z5 Y5 B5 ⊢
            obtain ⟨Q2, t2'⟩ := C5.roots
            have t2q : C.h.t.length = u2 := t2'
            have hjt : j < C.h.t.length := by omega
            obtain ⟨_, u, eu, _, _, _, hcj, hfj⟩ := Q2.get (k := j) hjt
            cases eu
            have hj2 : (j : Int) < (u2 : Int) := by omega
            have nY : w.heap.size + 1 ≠ gr := by omega
            have C6 := C5.putRoot j x
            have Z6 := Z5.other (p := ⟨gr, j, none⟩) nZ (.int .i64 x)
            have Y6 := Y5.other (p := ⟨gr, j, none⟩) nY (.int .i64 x)
            have B6 := B5.setCell (p := ⟨gr, j, none⟩) (by simp; omega) (.int .i64 x)
            obtain ⟨v0, v1, v2, v3, _⟩ := Z5.cells
            obtain ⟨v0', v1', v2', v3', _⟩ := Z6.cells
            obtain ⟨y0, y1, y2, y3, f0, f1, f2, f3⟩ := Y6.cells
            have CF := ((((C6.set_low (p := ⟨w.heap.size + 1, 0, none⟩) hn5 (.slice B0 u0 e0)).set_low (p := ⟨w.heap.size + 1, 1, none⟩) hn5 (.slice B1 u1 e1)).set_low (p := ⟨w.heap.size + 1, 2, none⟩) hn5 (.slice (some ⟨gr, 0, none⟩) u2 e2)).set_low (p := ⟨w.heap.size + 1, 3, none⟩) hn5 (.slice T0 nt ct)).mono (lo' := w.heap.size) (by omega)
            have BF := ((((B6.setCell (p := ⟨w.heap.size + 1, 0, none⟩) (by simp) (.slice B0 u0 e0)).setCell (p := ⟨w.heap.size + 1, 1, none⟩) (by simp) (.slice B1 u1 e1)).setCell (p := ⟨w.heap.size + 1, 2, none⟩) (by simp) (.slice (some ⟨gr, 0, none⟩) u2 e2)).setCell (p := ⟨w.heap.size + 1, 3, none⟩) (by simp) (.slice T0 nt ct))
            clear C5 Z5 Y5 B5 C6 Z6 B6 Q2 t2' t2 t2q hjt
            go_wp2_with fail
            rw [hf.out, hX.out, hC.out]
            refine bodyPost_ret (v := .tuple #[.agg #[.slice B0 u0 e0, .slice B1 u1 e1, .slice (some ⟨gr, 0, none⟩) u2 e2, .slice T0 nt ct], .int .i64 x, .bool true]) ?_ rfl ⟨_, rfl, CF, BF⟩
            simp [results, Try.results151, go_sem, y0, y1, y2, y3]
          · have z3 := hb3.size
            have z4 := hb4.size
            have HN4 := (HN.mono (lo' := w2.heap.size) (by omega)).below hb4
            obtain ⟨_, _, _, _, _, _, _, _, _, evv, ⟨q0, q1, q2⟩, ⟨t0, t1, t2⟩, _, _, _⟩ := HN4.open_
            cases evv
            obtain ⟨gr, rfl, hlg, hg, _⟩ := q2.at_ (k := j) (by omega)
            obtain ⟨_, _, _, evv, G0, G1, G2, _⟩ := HN
            cases evv
            have grl := G2.lt gr rfl
            have ap : ∀ (v : Value) (xs : List Int), Row w3 w2.heap.size v xs → Apart v (.slice T0 nt ct) := fun v xs r b e e' => by
              have h1 := (r.lt b e).2
              have h2 := (r3n.lt b e').1
              omega
            have C4 : Cv w4 w2.heap.size (.agg #[.slice B0 u0 e0, .slice B1 u1 e1, .slice (some ⟨gr, 0, none⟩) u2 e2, .slice T0 nt ct]) ⟨C.h, C.c.tail⟩ := ⟨_, _, _, _, rfl, HN4, r3n.mono (by omega), ap _ _ (G0.mono (by omega)), ap _ _ (G1.mono (by omega)), ap _ _ (G2.mono (by omega))⟩
            have Y4 := (Y2.below hb3).below hb4
            have B4 := (B2.trans (hb3.mono (by omega))).trans (hb4.mono (by omega))
            have zA := ZA.lt
            have nZ : w2.heap.size ≠ gr := by omega
            have nY5 : w.heap.size + 1 ≠ w2.heap.size := by omega
            have C5 := C4.setBlkS (b := w2.heap.size) ⟨fun e => by have := (G0.lt _ e).1; omega, fun e => by have := (G1.lt _ e).1; omega, fun e => by have := (G2.lt _ e).1; omega, fun e => by have := (r3n.lt _ e).1; omega⟩ (.slice B0 u0 e0) (.slice B1 u1 e1) (.slice (some ⟨gr, 0, none⟩) u2 e2) (.slice T0 nt ct)
            have Z5 := blk4_setAllS ZA4 (.slice B0 u0 e0) (.slice B1 u1 e1) (.slice (some ⟨gr, 0, none⟩) u2 e2) (.slice T0 nt ct)
            have Y5 := ((((Y4.other (p := ⟨w2.heap.size, 0, none⟩) nY5 (.slice B0 u0 e0)).other (p := ⟨w2.heap.size, 1, none⟩) nY5 (.slice B1 u1 e1)).other (p := ⟨w2.heap.size, 2, none⟩) nY5 (.slice (some ⟨gr, 0, none⟩) u2 e2)).other (p := ⟨w2.heap.size, 3, none⟩) nY5 (.slice T0 nt ct))
            have B5 := ((((B4.setCell (p := ⟨w2.heap.size, 0, none⟩) (by simp; omega) (.slice B0 u0 e0)).setCell (p := ⟨w2.heap.size, 1, none⟩) (by simp; omega) (.slice B1 u1 e1)).setCell (p := ⟨w2.heap.size, 2, none⟩) (by simp; omega) (.slice (some ⟨gr, 0, none⟩) u2 e2)).setCell (p := ⟨w2.heap.size, 3, none⟩) (by simp; omega) (.slice T0 nt ct))
            have hn5 : w.heap.size + 1 < w2.heap.size := by omega
            clear Y4 B4 C4 HN4 G0 G1 G2 r3n q0 q1 q2 s0 s1 s2 s3 p0 p1 p2 p3 x0 x1 x2 x3
            generalize ((((w4.setCell ⟨w2.heap.size, 0, none⟩ (.slice B0 u0 e0)).setCell ⟨w2.heap.size, 1, none⟩ (.slice B1 u1 e1)).setCell ⟨w2.heap.size, 2, none⟩ (.slice (some ⟨gr, 0, none⟩) u2 e2)).setCell ⟨w2.heap.size, 3, none⟩ (.slice T0 nt ct)) = w5 at C5 Z5 Y5 B5 ⊢
            obtain ⟨Q2, t2'⟩ := C5.roots
            have t2q : C.h.t.length = u2 := t2'
            have hjt : j < C.h.t.length := by omega
            obtain ⟨_, u, eu, _, _, _, hcj, hfj⟩ := Q2.get (k := j) hjt
            cases eu
            have hj2 : (j : Int) < (u2 : Int) := by omega
            have nY : w.heap.size + 1 ≠ gr := by omega
            have C6 := C5.putRoot j x
            have Z6 := Z5.other (p := ⟨gr, j, none⟩) nZ (.int .i64 x)
            have Y6 := Y5.other (p := ⟨gr, j, none⟩) nY (.int .i64 x)
            have B6 := B5.setCell (p := ⟨gr, j, none⟩) (by simp; omega) (.int .i64 x)
            obtain ⟨v0, v1, v2, v3, _⟩ := Z5.cells
            obtain ⟨v0', v1', v2', v3', _⟩ := Z6.cells
            obtain ⟨y0, y1, y2, y3, f0, f1, f2, f3⟩ := Y6.cells
            have CF := ((((C6.set_low (p := ⟨w.heap.size + 1, 0, none⟩) hn5 (.slice B0 u0 e0)).set_low (p := ⟨w.heap.size + 1, 1, none⟩) hn5 (.slice B1 u1 e1)).set_low (p := ⟨w.heap.size + 1, 2, none⟩) hn5 (.slice (some ⟨gr, 0, none⟩) u2 e2)).set_low (p := ⟨w.heap.size + 1, 3, none⟩) hn5 (.slice T0 nt ct)).mono (lo' := w.heap.size) (by omega)
            have BF := ((((B6.setCell (p := ⟨w.heap.size + 1, 0, none⟩) (by simp) (.slice B0 u0 e0)).setCell (p := ⟨w.heap.size + 1, 1, none⟩) (by simp) (.slice B1 u1 e1)).setCell (p := ⟨w.heap.size + 1, 2, none⟩) (by simp) (.slice (some ⟨gr, 0, none⟩) u2 e2)).setCell (p := ⟨w.heap.size + 1, 3, none⟩) (by simp) (.slice T0 nt ct))
            clear C5 Z5 Y5 B5 C6 Z6 B6 Q2 t2' t2 t2q hjt
            go_wp2_with fail
            rw [hf.out, hX.out, hC.out]
            refine bodyPost_ret (v := .tuple #[.agg #[.slice B0 u0 e0, .slice B1 u1 e1, .slice (some ⟨gr, 0, none⟩) u2 e2, .slice T0 nt ct], .int .i64 x, .bool true]) ?_ rfl ⟨_, rfl, CF, BF⟩
            simp [results, Try.results151, go_sem, y0, y1, y2, y3]
end Go.Proofs.Ytdifplakkepnkaa
