import Derived.Test.YteogflkahoanlaaStos
import Derived.Test.YteogflkahoanlaaLives
import Derived.Test.YteogflkahoanlaaStoA
/- LeakedOf of spec. -/
namespace Go.Proofs.Yteogflkahoanlaa
open Go.RowKit

def leakF (c : List Int) (x : Int) : Bool := !decide (x ∈ c)
def leakN (gs c : List Int) (k : Nat) : List Int := (gs.take k).filter (leakF c)
/-- The leaked cells of a store. -/
def leakL (C : Cp) : List Int := if stoB C = true then leakN (garb C.h) C.c (garb C.h).length else []
theorem leakN_in {gs c : List Int} {k : Nat} {x : Int} (hx : gs[k]? = some x) (h : x ∈ c) : leakN gs c (k + 1) = leakN gs c k := by
  unfold leakN; rw [List.take_add_one, hx, Option.toList_some, List.filter_append]; simp [leakF, h]
theorem leakN_not {gs c : List Int} {k : Nat} {x : Int} (hx : gs[k]? = some x) (h : x ∉ c) : leakN gs c (k + 1) = leakN gs c k ++ [x] := by
  unfold leakN; rw [List.take_add_one, hx, Option.toList_some, List.filter_append]; simp [leakF, h]
theorem leakN_len (gs c : List Int) (k : Nat) : (leakN gs c k).length ≤ k := by
  unfold leakN; exact Nat.le_trans (List.length_filter_le _ _) (by rw [List.length_take]; omega)

theorem Blk4.kept_own {w w' : World} {b : Nat} {x y z u : Value} {t : TypeId} {row : Option Nat} (h : Blk4 w b x y z u t) (hg : w.grownBy w' row) (hb : some b ≠ row) : Blk4 w' b x y z u t := (hg.block b h.lt hb).trans h

set_option maxRecDepth 100000 in
set_option maxHeartbeats 3000000 in
theorem specLeaked_any (w : World) (lo : Nat) (v : Value) (C : Cp) (hv : Cv w lo v C) : Calls Try.prog 55 #[v] w (NewRow w (leakL C)) := by
  obtain ⟨i0, hi, hz0, hz1, hz2⟩ := info_parts Try.infoInt
  have hvo := hv
  obtain ⟨A0, n0, c0, A1, n1, c1, A2, n2, c2, A3, n3, c3, rfl, hh, ⟨r0, r1, r2, r3⟩, ⟨l0, l1, l2, l3⟩, ⟨m0, m1, m2, m3⟩, _⟩ := hvo.open_
  have X := (Blk4.new w (.slice A0 n0 c0) (.slice A1 n1 c1) (.slice A2 n2 c2) (.slice A3 n3 c3) 27).alloc (.cells #[] 3)
  have VV := (hv.alloc (.cells #[.slice A0 n0 c0, .slice A1 n1 c1, .slice A2 n2 c2, .slice A3 n3 c3] 27)).alloc (.cells #[] 3)
  have HH := (hh.alloc (.cells #[.slice A0 n0 c0, .slice A1 n1 c1, .slice A2 n2 c2, .slice A3 n3 c3] 27)).alloc (.cells #[] 3)
  have R3 := (r3.alloc (.cells #[.slice A0 n0 c0, .slice A1 n1 c1, .slice A2 n2 c2, .slice A3 n3 c3] 27)).alloc (.cells #[] 3)
  have R0 : Row ((w.alloc (.cells #[.slice A0 n0 c0, .slice A1 n1 c1, .slice A2 n2 c2, .slice A3 n3 c3] 27)).alloc (.cells #[] 3)) (w.heap.size + 1) (.slice (some ⟨w.heap.size + 1, 0, none⟩) 0 0) [] := by
    have h9 := Row.empty (w.alloc (.cells #[.slice A0 n0 c0, .slice A1 n1 c1, .slice A2 n2 c2, .slice A3 n3 c3] 27)) (w.heap.size + 1) (by simp)
    simpa using h9
  have V := specStoreValid_any _ _ _ _ VV
  have fin : Below w.heap.size w ((w.alloc (.cells #[.slice A0 n0 c0, .slice A1 n1 c1, .slice A2 n2 c2, .slice A3 n3 c3] 27)).alloc (.cells #[] 3)) := ((Below.refl _ _).alloc (Nat.le_refl _) _).alloc (by simp) _
  have HF := Lib.hid (fun b hb => (r3.lt b hb).2 : ∀ b, (Value.slice A3 n3 c3).ownBlock = some b → b < w.heap.size)
  clear hv hh r0 r1 r2 r3 VV
  rcases ev : stoB C
  · rw [ev] at V
    have hf : leakL C = [] := by unfold leakL; rw [ev]; simp
    rw [hf]
    clear hf ev
    go_enter Try.func55, Try.ntmps55
    go_wp2_with fail
    refine V.mono ?_; rintro e w1 ⟨rfl, hb1⟩
    have R1 := Row.below (by exact R0) hb1
    go_wp2_with fail
    go_ret
    exact ⟨_, _, rfl, R1.mono (by omega), fin.trans (hb1.mono fin.size)⟩
  · rw [ev] at V
    have hf : leakL C = leakN (garb C.h) C.c (garb C.h).length := by unfold leakL; rw [if_pos ev]
    rw [hf]
    have hbd := garb_len C.h
    clear hf ev
    have G := fun W h9 => specGarb_any W lo (.agg #[.slice A0 n0 c0, .slice A1 n1 c1, .slice A2 n2 c2]) C.h h9
    generalize garb C.h = gs at G hbd ⊢
    go_enter Try.func55, Try.ntmps55
    go_wp2_with fail
    refine V.mono ?_; rintro e w1 ⟨rfl, hb1⟩
    have X1 := Blk4.below (by exact X) hb1
    have H1 := Hv.below (by exact HH) hb1
    have F1 := Row.below (by exact R3) hb1
    have R1 := Row.below (by exact R0) hb1
    have B1 := fin.trans (hb1.mono fin.size)
    have z1 : w.heap.size + 2 ≤ w1.heap.size := by have := hb1.size; simp at this; omega
    obtain ⟨x0, x1, x2, x3, _⟩ := X1.cells
    clear V X HH R3 R0 fin hb1
    go_wp2_with fail
    refine (G _ H1).mono ?_; rintro e w2 ⟨A, cc, rfl, hr, hb2⟩
    have X2 := X1.below hb2
    have F2 := F1.below hb2
    have R2 := R1.below hb2
    have B2 := B1.trans (hb2.mono B1.size)
    have z2 := hb2.size
    have hap : ∀ b, (Value.slice A gs.length cc).ownBlock = some b → (.slice (some ⟨w.heap.size + 1, 0, none⟩) 0 0 : Value).ownBlock ≠ some b := fun b hb e => by
      have h9 := (hr.lt b hb).1
      have h8 := Option.some.inj e
      simp at h8
      omega
    generalize hn : gs.length = n at hr hbd hap ⊢
    have HN := Lib.hid hn
    clear hn G X1 F1 R1 B1 H1 x0 x1 x2 x3 hb2
    have HR := Lib.hid (fun b hb => (hr.lt b hb).2 : ∀ b, (Value.slice A n cc).ownBlock = some b → b < w2.heap.size)
    go_wp2_with fail
    go_loopw [3, 5] (fun v i wr => ∃ (k : Nat) (A' : Option Addr) (c' : Nat), k ≤ n ∧ i = .int .i64 k ∧ v = .slice A' (leakN gs C.c k).length c' ∧ Row wr (w.heap.size + 1) (.slice A' (leakN gs C.c k).length c') (leakN gs C.c k) ∧ Row wr 0 (.slice A n cc) gs ∧ Blk4 wr w.heap.size (.slice A0 n0 c0) (.slice A1 n1 c1) (.slice A2 n2 c2) (.slice A3 n3 c3) 27 ∧ Row wr lo (.slice A3 n3 c3) C.c ∧ Below w.heap.size w wr ∧ w2.heap.size ≤ wr.heap.size ∧ Hid (∀ b, (Value.slice A n cc).ownBlock = some b → (Value.slice A' (leakN gs C.c k).length c').ownBlock ≠ some b) ∧ Hid (∀ b, (Value.slice A3 n3 c3).ownBlock = some b → b < w.heap.size)) (fun _ i _ => n - (intOf i).toNat)
    case atStart => exact ⟨0, _, _, Nat.zero_le _, rfl, rfl, R2, hr.mono (by omega), X2, F2, B2, Nat.le_refl _, hap, HF⟩
    case round =>
      obtain ⟨k, A', c', hk, rfl, rfl, hrow, hr', X, F, hB, hz, hap', _⟩ := hrel
      by_cases hlt : k < n
      · obtain ⟨g, y, rfl, _, _, hy, hcell, _⟩ := hr'.get (k := k) (by have := HN.out; omega)
        have hb : (k : Int) < (n : Int) := by omega
        obtain ⟨cX0, cX1, cX2, cX3, _⟩ := X.cells
        have hsl := leakN_len gs C.c k
        by_cases hm : y ∈ C.c
        · have HS := Lib.hid (leakN_in hy.out hm)
          have I := fun W h9 => l4At_in W lo A3 n3 c3 C.c h9 l3 m3 y hm
          clear hy hm
          go_wp2_with fail
          go_region_held3 (fun w' => w'.cell? ⟨w.heap.size, 3, none⟩ = some (.slice A3 n3 c3) ∧ w'.cell? ⟨g, k, none⟩ = some (.int .i64 y))
            (((try dsimp only); (repeat' apply And.intro) <;> (with_reducible (first | exact cellD cX3 | exact cellD hcell | exact cY3 | exact hcell3))))
            ((go_at_call 79; (with_reducible refine (I _ (Row.drew F)).mono ?_); rintro e w3 ⟨⟨j, rfl⟩, nq, hw3'⟩; (have hw3 := Lib.hid hw3'); (clear hw3'); (have X3 : Blk4 w3 w.heap.size (.slice A0 n0 c0) (.slice A1 n1 c1) (.slice A2 n2 c2) (.slice A3 n3 c3) 27 := (by rw [hw3.out]; exact X)); (obtain ⟨_, _, _, cY3, _⟩ := X3.cells); (have hcell3 : w3.cell? ⟨g, k, none⟩ = some (.int .i64 y) := (by rw [hw3.out]; exact hcell))))
          have F3 : Row w3 lo (.slice A3 n3 c3) C.c := by rw [hw3.out]; exact F
          have hrow3 : Row w3 (w.heap.size + 1) (.slice A' (leakN gs C.c k).length c') (leakN gs C.c k) := by rw [hw3.out]; exact hrow
          have hr3 : Row w3 0 (.slice (some ⟨g, 0, none⟩) n cc) gs := by rw [hw3.out]; exact hr'
          have hB3 : Below w.heap.size w w3 := by rw [hw3.out]; exact below_drewN (Below.drew hB) _
          have hz3 : w2.heap.size ≤ w3.heap.size := by rw [hw3.out]; exact hz
          clear hw3 X F hrow hr' hB hz cX0 cX1 cX2 cX3 hcell
          go_wp2_with fail
          go_roundw
          case rel => exact ⟨k + 1, A', c', by omega, by go_num, by rw [HS.out], by rw [HS.out]; exact hrow3, hr3, X3, F3, hB3, hz3, by rw [HS.out]; exact hap', HF⟩
          case measure => simp [intOf]; omega
        · have HS := Lib.hid (leakN_not hy.out hm)
          have I := fun W h9 => l4At_not W lo A3 n3 c3 C.c h9 l3 m3 y hm
          clear hy hm
          go_wp2_with fail
          go_region_held3 (fun w' => w'.cell? ⟨w.heap.size, 3, none⟩ = some (.slice A3 n3 c3) ∧ w'.cell? ⟨g, k, none⟩ = some (.int .i64 y))
            (((try dsimp only); (repeat' apply And.intro) <;> (with_reducible (first | exact cellD cX3 | exact cellD hcell | exact cY3 | exact hcell3))))
            ((go_at_call 79; (with_reducible refine (I _ (Row.drew F)).mono ?_); rintro e w3 ⟨rfl, nq, hw3'⟩; (have hw3 := Lib.hid hw3'); (clear hw3'); (have X3 : Blk4 w3 w.heap.size (.slice A0 n0 c0) (.slice A1 n1 c1) (.slice A2 n2 c2) (.slice A3 n3 c3) 27 := (by rw [hw3.out]; exact X)); (obtain ⟨_, _, _, cY3, _⟩ := X3.cells); (have hcell3 : w3.cell? ⟨g, k, none⟩ = some (.int .i64 y) := (by rw [hw3.out]; exact hcell))))
          have F3 : Row w3 lo (.slice A3 n3 c3) C.c := by rw [hw3.out]; exact F
          have hrow3 : Row w3 (w.heap.size + 1) (.slice A' (leakN gs C.c k).length c') (leakN gs C.c k) := by rw [hw3.out]; exact hrow
          have hr3 : Row w3 0 (.slice (some ⟨g, 0, none⟩) n cc) gs := by rw [hw3.out]; exact hr'
          have hB3 : Below w.heap.size w w3 := by rw [hw3.out]; exact below_drewN (Below.drew hB) _
          have hz3 : w2.heap.size ≤ w3.heap.size := by rw [hw3.out]; exact hz
          clear hw3 X F hrow hr' hB hz cX0 cX1 cX2 cX3 hcell
          have hown : w3.ownsRow (w.heap.size + 1) 3 1 (.slice A' (leakN gs C.c k).length c') (leakN gs C.c k).length ((leakN gs C.c k).map iv) := hrow3
          generalize hsn : leakN gs C.c k = sn at *
          have HSN := Lib.hid hsn
          clear hsn hrow3
          have hsz := hB3.size
          go_wp2_with (at_builtin; refine wpList_append_own_at _ rfl _ _ 23 rfl (w.heap.size + 1) 3 i0 (.int .i64 0) 1 8 Try.underlying23 hi hz0 hz1 hz2 rfl (by decide) _ _ _ rfl (hown.alloc _) ⟨w3.heap.size, 0, none⟩ 1 1 [.int .i64 y] rfl rfl ?ap1 ?ap2 ?ap3 ?ap4 ?ap5 ?_)
          try case ap1 => exact one_new
          try case ap2 => first | rfl | (intro u hu; simp at hu; subst hu; rfl)
          try case ap3 => unfold maxLen; omega
          try case ap4 => omega
          try case ap5 => first | omega | (simp; omega)
          intro v' w4 hown' hgrow hnil hloc
          have hrow' : Row w4 (w.heap.size + 1) v' (leakN gs C.c (k + 1)) := by rw [HS.out]; exact Row.of_own hown' (by simp) (by simp)
          have hB' := (hB3.alloc hsz (.cells #[.int .i64 y] 3)).grown hgrow (by simp; omega) (fun j hj => by have := (hown.lt j hj).1; omega)
          have hr4 := Row.kept (hr3.alloc (.cells #[.int .i64 y] 3)) hgrow (.inr fun e => hap'.out g rfl e.symm)
          have F4 := Row.kept (F3.alloc (.cells #[.int .i64 y] 3)) hgrow (by
            rcases hq : (Value.slice A3 n3 c3).ownBlock with _ | b
            · exact .inl rfl
            · refine .inr fun e => ?_
              have h1 := HF.out b hq
              have h2 := (hown.lt b e.symm).1
              omega)
          have X4 := Blk4.kept_own (X3.alloc (.cells #[.int .i64 y] 3)) hgrow (fun e => by have := (hown.lt _ e.symm).1; omega)
          have hz4 : w2.heap.size ≤ w4.heap.size := by have := hgrow.size; simp at this; omega
          obtain ⟨A4, c4, hv', _⟩ := hrow'.form
          subst hv'
          have hap4 : Hid (∀ b, (Value.slice (some ⟨g, 0, none⟩) n cc).ownBlock = some b → (Value.slice A4 (leakN gs C.c (k + 1)).length c4).ownBlock ≠ some b) := fun b hb e => by
            have h8 := HR.out b hb
            rcases hloc with h9 | h9
            · rw [h9] at e; exact hap'.out b hb e
            · rw [h9] at e; simp at e; omega
          clear hown hown' hgrow hloc hnil
          go_wp2
          go_roundw
          case rel => exact ⟨k + 1, A4, c4, by omega, by go_num, rfl, hrow', hr4, X4, F4, hB', hz4, hap4, HF⟩
          case measure => simp [intOf]; omega
      · obtain rfl : k = n := by omega
        go_wp2_with fail
        go_ret
        exact ⟨A', c', by simp [HN.out], by rw [HN.out]; exact hrow.mono (by omega), hB⟩
end Go.Proofs.Yteogflkahoanlaa

/- l4Clear of spec. -/
namespace Go.Proofs.Yteogflkahoanlaa
open Go.RowKit

def clrF (cs : List Int) (i : Nat) (x : Int) : Int := if x ∈ cs ∨ (i : Int) ∈ cs then -1 else x
/-- The first k pointers of a row are cleared. -/
def clrN (l cs : List Int) (k : Nat) : List Int := l.mapIdx fun i x => if i < k then clrF cs i x else x
theorem clrN_len (l cs : List Int) (k : Nat) : (clrN l cs k).length = l.length := by unfold clrN; simp
theorem clrN_at (l cs : List Int) (k i : Nat) : (clrN l cs k)[i]? = l[i]?.map fun x => if i < k then clrF cs i x else x := by unfold clrN; simp
theorem clrN_zero (l cs : List Int) : clrN l cs 0 = l := by
  apply List.ext_getElem?; intro i; rw [clrN_at]; simp
theorem clrN_get (l cs : List Int) (k : Nat) : (clrN l cs k)[k]? = l[k]? := by rw [clrN_at]; simp
theorem clrN_hit {l cs : List Int} {k : Nat} {x : Int} (hx : l[k]? = some x) (h : x ∈ cs ∨ (k : Int) ∈ cs) : clrN l cs (k + 1) = (clrN l cs k).set k (-1) := by
  apply List.ext_getElem?; intro i
  rw [List.getElem?_set, clrN_at, clrN_at, clrN_len]
  obtain ⟨hk, _⟩ := List.getElem?_eq_some_iff.1 hx
  by_cases e : k = i
  · subst e
    rw [if_pos rfl, if_pos hk, hx]
    simp [clrF, h]
  · rw [if_neg e]
    congr 1; funext y
    by_cases h9 : i < k
    · rw [if_pos h9, if_pos (by omega)]
    · rw [if_neg h9, if_neg (by omega)]
theorem clrN_miss {l cs : List Int} {k : Nat} {x : Int} (hx : l[k]? = some x) (h : ¬ (x ∈ cs ∨ (k : Int) ∈ cs)) : clrN l cs (k + 1) = clrN l cs k := by
  apply List.ext_getElem?; intro i
  rw [clrN_at, clrN_at]
  by_cases e : i = k
  · subst e
    rw [hx]; simp [clrF, h]
  · congr 1; funext y
    by_cases h9 : i < k
    · rw [if_pos h9, if_pos (by omega)]
    · rw [if_neg h9, if_neg (by omega)]
def clearC (C : Cp) (cs : List Int) : Cp := ⟨⟨clrN C.h.l cs C.h.l.length, clrN C.h.r cs C.h.l.length, C.h.t⟩, C.c ++ cs⟩

end Go.Proofs.Yteogflkahoanlaa

