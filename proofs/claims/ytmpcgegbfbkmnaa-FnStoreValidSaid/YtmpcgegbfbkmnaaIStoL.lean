/- LeakedOf and IsFree of impl. -/
import Derived.Test.YtmpcgegbfbkmnaaIStos
import Derived.Test.YtmpcgegbfbkmnaaStoKs
namespace Go.Proofs.Ytmpcgegbfbkmnaa
open Go.RowKit

set_option maxRecDepth 100000 in
set_option maxHeartbeats 4000000 in
theorem implLeaked_any (w : World) (lo : Nat) (v : Value) (C : Cp) (hv : Cv w lo v C) : Calls Try.prog 22 #[v] w (NewRow w (leakL C)) := by
  obtain ⟨i0, hi, hz0, hz1, hz2⟩ := info_parts Try.infoInt
  have hvo := hv
  obtain ⟨A0, n0, c0, A1, n1, c1, A2, n2, c2, A3, n3, c3, rfl, hh, ⟨r0, r1, r2, r3⟩, ⟨l0, l1, l2, l3⟩, ⟨mm0, mm1, mm2, mm3⟩, _⟩ := hvo.open_
  have X0 := Blk4.new w (.slice A0 n0 c0) (.slice A1 n1 c1) (.slice A2 n2 c2) (.slice A3 n3 c3) 27
  have fin : Below w.heap.size w (w.alloc (.cells #[.slice A0 n0 c0, .slice A1 n1 c1, .slice A2 n2 c2, .slice A3 n3 c3] 27)) := (Below.refl _ _).alloc (Nat.le_refl _) _
  have VV := hv.alloc (.cells #[.slice A0 n0 c0, .slice A1 n1 c1, .slice A2 n2 c2, .slice A3 n3 c3] 27)
  have HH := hh.alloc (.cells #[.slice A0 n0 c0, .slice A1 n1 c1, .slice A2 n2 c2, .slice A3 n3 c3] 27)
  have S0 := r0.alloc (.cells #[.slice A0 n0 c0, .slice A1 n1 c1, .slice A2 n2 c2, .slice A3 n3 c3] 27)
  have S1 := r1.alloc (.cells #[.slice A0 n0 c0, .slice A1 n1 c1, .slice A2 n2 c2, .slice A3 n3 c3] 27)
  have S2 := r2.alloc (.cells #[.slice A0 n0 c0, .slice A1 n1 c1, .slice A2 n2 c2, .slice A3 n3 c3] 27)
  have S3 := r3.alloc (.cells #[.slice A0 n0 c0, .slice A1 n1 c1, .slice A2 n2 c2, .slice A3 n3 c3] 27)
  have HF := Lib.hid (fun b hb => (r3.lt b hb).2 : ∀ b, (Value.slice A3 n3 c3).ownBlock = some b → b < w.heap.size)
  have V := implStoreValid_any _ _ _ _ VV
  clear hv hh r0 r1 r2 r3 S0 S1 S2 VV
  rcases ev : stoB C
  · rw [ev] at V
    have hf : leakL C = [] := by unfold leakL; rw [ev]; simp
    rw [hf]
    clear hf ev
    go_enter Try.func22, Try.ntmps22
    go_wp2_with fail
    refine V.mono ?_; rintro e w1 ⟨rfl, hb1⟩
    go_wp2_with fail
    go_ret
    exact ⟨_, _, rfl, Row.nil _ _, fin.trans (hb1.mono fin.size)⟩
  · rw [ev] at V
    have hf : leakL C = leakN (garb C.h) C.c (garb C.h).length := by unfold leakL; rw [if_pos ev]
    rw [hf]
    have hbd := garb_len C.h
    clear hf ev
    have G := fun W h9 => implGarb_any W lo (.agg #[.slice A0 n0 c0, .slice A1 n1 c1, .slice A2 n2 c2]) C.h h9
    generalize garb C.h = gs at G hbd ⊢
    go_enter Try.func22, Try.ntmps22
    go_wp2_with fail
    refine V.mono ?_; rintro e w1 ⟨rfl, hb1⟩
    have X1 := Blk4.below (by exact X0) hb1
    have H1 := Hv.below (by exact HH) hb1
    have F1 := Row.below (by exact S3) hb1
    have B1 := fin.trans (hb1.mono fin.size)
    have z1 : w.heap.size + 1 ≤ w1.heap.size := by have := hb1.size; simp at this; omega
    obtain ⟨x0, x1, x2, x3, _⟩ := X1.cells
    clear V X0 HH S3 fin hb1
    go_wp2_with fail
    refine (G _ H1).mono ?_; rintro e w2 ⟨A, cc, rfl, hr, hb2⟩
    have X2 := X1.below hb2
    have F2 := F1.below hb2
    have B2 := B1.trans (hb2.mono B1.size)
    have z2 := hb2.size
    generalize hn : gs.length = n at hr hbd ⊢
    have HN := Lib.hid hn
    clear hn G X1 F1 B1 H1 x0 x1 x2 x3 hb2
    have HR := Lib.hid (fun b hb => (hr.lt b hb).2 : ∀ b, (Value.slice A n cc).ownBlock = some b → b < w2.heap.size)
    go_wp2_with fail
    go_loopw [3, 5, 13] (fun v _ i wr => ∃ (k : Nat) (A' : Option Addr) (c' : Nat), k ≤ n ∧ i = .int .i64 k ∧ v = .slice A' (leakN gs C.c k).length c' ∧ Row wr (w2.heap.size) (.slice A' (leakN gs C.c k).length c') (leakN gs C.c k) ∧ Row wr 0 (.slice A n cc) gs ∧ Blk4 wr w.heap.size (.slice A0 n0 c0) (.slice A1 n1 c1) (.slice A2 n2 c2) (.slice A3 n3 c3) 27 ∧ Row wr lo (.slice A3 n3 c3) C.c ∧ Below w.heap.size w wr ∧ w2.heap.size ≤ wr.heap.size) (fun _ _ i _ => n - (intOf i).toNat)
    case atStart => exact ⟨0, none, 0, Nat.zero_le _, rfl, rfl, Row.nil _ _, hr.mono (by omega), X2, F2, B2, Nat.le_refl _⟩
    case round =>
      obtain ⟨k, A', c', hk, rfl, rfl, hrow, hr', X, F, hB, hz⟩ := hrel
      by_cases hlt : k < n
      · obtain ⟨g, y, rfl, _, _, hy, hcell, _⟩ := hr'.get (k := k) (by have := HN.out; omega)
        have hb : (k : Int) < (n : Int) := by omega
        obtain ⟨cX0, cX1, cX2, cX3, _⟩ := X.cells
        have hsl := leakN_len gs C.c k
        have I := slicesContains_any wr lo A3 n3 c3 C.c F l3.out mm3 y
        by_cases hm : y ∈ C.c
        · have HS := Lib.hid (leakN_in hy.out hm)
          rw [show decide (y ∈ C.c) = true by simp [hm]] at I
          clear hy hm
          go_wp2_with fail
          refine I.mono ?_; rintro e w3 ⟨rfl, rfl⟩
          go_wp2_with fail
          go_roundw
          case rel => exact ⟨k + 1, A', c', by omega, by go_num, by rw [HS.out], by rw [HS.out]; exact hrow, hr', X, F, hB, hz⟩
          case measure => simp [intOf]; omega
        · have HS := Lib.hid (leakN_not hy.out hm)
          rw [show decide (y ∈ C.c) = false by simp [hm]] at I
          clear hy hm
          go_wp2_with fail
          refine I.mono ?_; rintro e w3 ⟨rfl, rfl⟩
          have hown : wr.ownsRow w2.heap.size 3 1 (.slice A' (leakN gs C.c k).length c') (leakN gs C.c k).length ((leakN gs C.c k).map iv) := hrow
          generalize hsn : leakN gs C.c k = sn at *
          have HSN := Lib.hid hsn
          clear hsn hrow I
          have hsz := hB.size
          go_wp2_with (at_builtin; refine wpList_append_own_at _ rfl _ _ 23 rfl w2.heap.size 3 i0 (.int .i64 0) 1 8 Try.underlying23 hi hz0 hz1 hz2 rfl (by decide) _ _ _ rfl (hown.alloc _) ⟨wr.heap.size, 0, none⟩ 1 1 [.int .i64 y] rfl rfl ?ap1 ?ap2 ?ap3 ?ap4 ?ap5 ?_)
          try case ap1 => exact one_new
          try case ap2 => first | rfl | (intro u hu; simp at hu; subst hu; rfl)
          try case ap3 => unfold maxLen; omega
          try case ap4 => omega
          try case ap5 => first | omega | (simp; omega)
          intro v' w4 hown' hgrow hnil hloc
          have hrow' : Row w4 w2.heap.size v' (leakN gs C.c (k + 1)) := by rw [HS.out]; exact Row.of_own hown' (by simp) (by simp)
          have hB' := (hB.alloc hsz (.cells #[.int .i64 y] 3)).grown hgrow (by simp; omega) (fun j hj => by have := (hown.lt j hj).1; omega)
          have hr4 := Row.kept (hr'.alloc (.cells #[.int .i64 y] 3)) hgrow (.inr fun e => by
            have h1 := (hown.lt g e.symm).1
            have h2 := HR.out g rfl
            omega)
          have F4 := Row.kept (F.alloc (.cells #[.int .i64 y] 3)) hgrow (by
            rcases hq : (Value.slice A3 n3 c3).ownBlock with _ | b
            · exact .inl rfl
            · refine .inr fun e => ?_
              have h1 := HF.out b hq
              have h2 := (hown.lt b e.symm).1
              omega)
          have X4 := Blk4.kept_own (X.alloc (.cells #[.int .i64 y] 3)) hgrow (fun e => by have := (hown.lt _ e.symm).1; omega)
          have hz4 : w2.heap.size ≤ w4.heap.size := by have := hgrow.size; simp at this; omega
          obtain ⟨A4, c4, hv', _⟩ := hrow'.form
          subst hv'
          clear hown hown' hgrow hloc hnil
          go_wp2
          go_roundw
          case rel => exact ⟨k + 1, A4, c4, by omega, by go_num, rfl, hrow', hr4, X4, F4, hB', hz4⟩
          case measure => simp [intOf]; omega
      · obtain rfl : k = n := by omega
        go_wp2_with fail
        go_ret
        exact ⟨A', c', by simp [HN.out], by rw [HN.out]; exact hrow.mono (by omega), hB⟩

set_option maxRecDepth 100000 in
set_option maxHeartbeats 4000000 in
theorem implIsFree_any (w : World) (lo : Nat) (v : Value) (C : Cp) (hv : Cv w lo v C) (x : Int) : Calls Try.prog 20 #[v, .int .i64 x] w (RetB w (isFreeB C x)) := by
  have hvo := hv
  obtain ⟨A0, n0, c0, A1, n1, c1, A2, n2, c2, A3, n3, c3, rfl, hh, ⟨r0, r1, r2, r3⟩, ⟨l0, l1, l2, l3⟩, ⟨mm0, mm1, mm2, mm3⟩, _⟩ := hvo.open_
  have X0 := Blk4.new w (.slice A0 n0 c0) (.slice A1 n1 c1) (.slice A2 n2 c2) (.slice A3 n3 c3) 27
  have fin : Below w.heap.size w (w.alloc (.cells #[.slice A0 n0 c0, .slice A1 n1 c1, .slice A2 n2 c2, .slice A3 n3 c3] 27)) := (Below.refl _ _).alloc (Nat.le_refl _) _
  have VV := hv.alloc (.cells #[.slice A0 n0 c0, .slice A1 n1 c1, .slice A2 n2 c2, .slice A3 n3 c3] 27)
  have HH := hh.alloc (.cells #[.slice A0 n0 c0, .slice A1 n1 c1, .slice A2 n2 c2, .slice A3 n3 c3] 27)
  have S0 := r0.alloc (.cells #[.slice A0 n0 c0, .slice A1 n1 c1, .slice A2 n2 c2, .slice A3 n3 c3] 27)
  have S1 := r1.alloc (.cells #[.slice A0 n0 c0, .slice A1 n1 c1, .slice A2 n2 c2, .slice A3 n3 c3] 27)
  have S2 := r2.alloc (.cells #[.slice A0 n0 c0, .slice A1 n1 c1, .slice A2 n2 c2, .slice A3 n3 c3] 27)
  have S3 := r3.alloc (.cells #[.slice A0 n0 c0, .slice A1 n1 c1, .slice A2 n2 c2, .slice A3 n3 c3] 27)
  have V := implStoreValid_any _ _ _ _ VV
  clear hv hh r0 r1 r2 r3 S0 S1 S2 VV HH
  rcases ev : stoB C
  · rw [ev] at V
    have hf : Hid (isFreeB C x = false) := by unfold Hid isFreeB; rw [ev]; rfl
    clear ev
    go_enter Try.func20, Try.ntmps20
    go_wp2_with fail
    refine V.mono ?_; rintro e w1 ⟨rfl, hb1⟩
    have B1 := fin.trans (hb1.mono fin.size)
    go_wp2_with fail
    go_ret
    exact ⟨ret_bool hf.out.symm, B1⟩
  · rw [ev] at V
    have hf : Hid (isFreeB C x = decide (x ∈ C.c)) := by unfold Hid isFreeB; rw [ev]; rfl
    clear ev
    go_enter Try.func20, Try.ntmps20
    go_wp2_with fail
    refine V.mono ?_; rintro e w1 ⟨rfl, hb1⟩
    have B1 := fin.trans (hb1.mono fin.size)
    obtain ⟨x0, x1, x2, x3, _⟩ := (Blk4.below (by exact X0) hb1).cells
    have I := slicesContains_any w1 lo A3 n3 c3 C.c (Row.below (by exact S3) hb1) l3.out mm3 x
    generalize decide (x ∈ C.c) = q at I hf
    clear V X0 S3 fin hb1
    go_wp2_with fail
    refine I.mono ?_; rintro e w3 ⟨rfl, rfl⟩
    go_wp2_with fail
    go_ret
    exact ⟨ret_bool hf.out.symm, B1⟩
end Go.Proofs.Ytmpcgegbfbkmnaa
