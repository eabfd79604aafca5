/- The law FnStoreText, walked. -/
import Derived.Test.YtkonlhmmkcpgnaaDoorCaseS
import Derived.Test.YtkonlhmmkcpgnaaDoorFmtS
import Derived.Test.YtkonlhmmkcpgnaaDoorSFmtS
import Derived.Test.YtkonlhmmkcpgnaaDoorWLaw
namespace Go.Proofs.YtkonlhmmkcpgnaaDoor
open Go.RowKit

theorem Blk4.drew {w : World} {b : Nat} {x y z q : Value} {t : TypeId} (h : Blk4 w b x y z q t) : Blk4 w.drew b x y z q t := h
theorem Cv.hvS2 {w : World} {lo : Nat} {v0 v1 v2 v3 : Value} {C : Cp} (h : Cv w lo (.agg #[v0, v1, v2, v3]) C) : Hv w lo (.agg #[v0, v1, v2]) C.h := by
  obtain ⟨_, _, _, _, e, hh, _⟩ := h
  cases e; exact hh
theorem size_mk (t : List UInt8) : (ByteArray.mk t.toArray).size = t.length := by simp [ByteArray.size]

set_option maxRecDepth 100000 in
set_option maxHeartbeats 4000000 in
theorem lawStoreText_walk (w : World) (A : Option Addr) (n c : Nat) (h : Inp w A n c) :
    Calls Tryd.prog 5 #[.slice A n c] w (LawTrue w) := by
  by_cases hbig : 1048576 < n
  · go_enter Tryd.func5, Tryd.ntmps5
    go_wp2_with fail
    go_ret
    exact ⟨rfl, Below.refl _ _⟩
  go_enter Tryd.func5, Tryd.ntmps5
  go_wp2_with fail
  refine (drawFormatStore_any _ _ _ _ h).mono ?_; rintro e w1 ⟨v, C, rfl, HA, hb1⟩
  have BW1 : Below w.heap.size w w1 := (Below.refl w.heap.size w).trans (hb1.mono (Below.refl w.heap.size w).size)
  have zz1 : w.heap.size ≤ w1.heap.size := hb1.size
  have HAo := HA
  obtain ⟨A0, n0, c0, A1, n1, c1, A2, n2, c2, A3, n3, c3, rfl, hh, ⟨r0, r1, r2, r3⟩, ⟨l0, l1, l2, l3⟩, ⟨mm0, mm1, mm2, mm3⟩, _⟩ := HAo.open_
  have I := fun W lo v hW => implFmtS_any W lo v C hW
  have S := fun W lo v hW => specFmtS_any W lo v C hW
  rcases ev : stoB C
  · have hf : fmtS C = [] := by unfold fmtS; rw [ev]; simp
    rw [hf] at I S
    clear ev hf
    go_wp2_with fail
    refine (I _ _ _ (HA.alloc (.cells #[.slice A0 n0 c0, .slice A1 n1 c1, .slice A2 n2 c2, .slice A3 n3 c3] 27))).mono ?_; rintro e w2 ⟨rfl, hb2⟩
    have BW2 : Below w.heap.size w w2 := (BW1.alloc BW1.size (.cells #[.slice A0 n0 c0, .slice A1 n1 c1, .slice A2 n2 c2, .slice A3 n3 c3] 27)).trans (hb2.mono (BW1.alloc BW1.size (.cells #[.slice A0 n0 c0, .slice A1 n1 c1, .slice A2 n2 c2, .slice A3 n3 c3] 27)).size)
    have zz2 : w1.heap.size + 1 ≤ w2.heap.size := by have := hb2.size; simp at this; omega
    have HA_2 := Cv.below (by exact (HA.alloc (.cells #[.slice A0 n0 c0, .slice A1 n1 c1, .slice A2 n2 c2, .slice A3 n3 c3] 27))) hb2
    have X_2 := Blk4.below (by exact (Blk4.new w1 (.slice A0 n0 c0) (.slice A1 n1 c1) (.slice A2 n2 c2) (.slice A3 n3 c3) 27)) hb2
    obtain ⟨cX_2_0, cX_2_1, cX_2_2, cX_2_3, _⟩ := X_2.cells
    have lX_2 := X_2.lt
    go_wp2_with fail
    refine (S _ _ _ HA_2).mono ?_; rintro e w3 ⟨rfl, hb3⟩
    have BW3 : Below w.heap.size w w3 := BW2.trans (hb3.mono BW2.size)
    have zz3 : w2.heap.size ≤ w3.heap.size := hb3.size
    have HA_3 := Cv.below (by exact HA_2) hb3
    have X_3 := Blk4.below (by exact X_2) hb3
    obtain ⟨cX_3_0, cX_3_1, cX_3_2, cX_3_3, _⟩ := X_3.cells
    have lX_3 := X_3.lt
    go_wp2_with fail
    refine (S _ _ _ HA_3).mono ?_; rintro e w4 ⟨rfl, hb4⟩
    have BW4 : Below w.heap.size w w4 := BW3.trans (hb4.mono BW3.size)
    have zz4 : w3.heap.size ≤ w4.heap.size := hb4.size
    have HA_4 := Cv.below (by exact HA_3) hb4
    have X_4 := Blk4.below (by exact X_3) hb4
    obtain ⟨cX_4_0, cX_4_1, cX_4_2, cX_4_3, _⟩ := X_4.cells
    have lX_4 := X_4.lt
    go_wp2_with fail
    go_ret
    exact ⟨rfl, BW4⟩
  · have hlen := l3.out
    have hf : fmtS C = fmtL C.h ++ [32, 102, 114, 101, 101] ++ freeT C.c n3 := by unfold fmtS; rw [if_pos ev, hlen]
    obtain ⟨hvh, _⟩ := stoB_parts ev
    have hl40 := fmtL_le hvh
    obtain ⟨hle, hrg⟩ := sto_range ev
    rw [hlen] at hle
    by_cases hz : n3 = 0
    · subst hz
      have hf2 : fmtS C = (fmtL C.h ++ [32]) ++ [102, 114, 101, 101] := by rw [hf]; simp [freeT, rootsT]
      rw [hf2] at I S
      obtain ⟨m, hm⟩ : ∃ m, (fmtL C.h ++ [32]).length = m := ⟨_, rfl⟩
      have hmb : m ≤ 41 := by simp at hm; omega
      generalize fmtL C.h ++ [32] = a at I S hm
      have hsz : (ByteArray.mk (a ++ [102, 114, 101, 101]).toArray).size = m + 4 := by rw [size_mk, List.length_append, hm]; rfl
      have hne : (a ++ [102, 114, 101, 101]).isEmpty = false := by simp
      have hext : (ByteArray.mk (a ++ [102, 114, 101, 101]).toArray).extract m (m + 4) = ⟨#[102, 114, 101, 101]⟩ := by
        subst hm
        apply ByteArray.ext
        simp [ByteArray.data_extract]
      generalize a ++ [102, 114, 101, 101] = s at I S hsz hne hext
      clear hf hf2 hm hl40 hvh ev hrg
      go_wp2_with fail
      refine (I _ _ _ (HA.alloc (.cells #[.slice A0 n0 c0, .slice A1 n1 c1, .slice A2 n2 c2, .slice A3 0 c3] 27))).mono ?_; rintro e w2 ⟨rfl, hb2⟩
      have BW2 : Below w.heap.size w w2 := (BW1.alloc BW1.size (.cells #[.slice A0 n0 c0, .slice A1 n1 c1, .slice A2 n2 c2, .slice A3 0 c3] 27)).trans (hb2.mono (BW1.alloc BW1.size (.cells #[.slice A0 n0 c0, .slice A1 n1 c1, .slice A2 n2 c2, .slice A3 0 c3] 27)).size)
      have zz2 : w1.heap.size + 1 ≤ w2.heap.size := by have := hb2.size; simp at this; omega
      have HA_2 := Cv.below (by exact (HA.alloc (.cells #[.slice A0 n0 c0, .slice A1 n1 c1, .slice A2 n2 c2, .slice A3 0 c3] 27))) hb2
      have X_2 := Blk4.below (by exact (Blk4.new w1 (.slice A0 n0 c0) (.slice A1 n1 c1) (.slice A2 n2 c2) (.slice A3 0 c3) 27)) hb2
      obtain ⟨cX_2_0, cX_2_1, cX_2_2, cX_2_3, _⟩ := X_2.cells
      have lX_2 := X_2.lt
      go_wp2_with fail
      refine (S _ _ _ HA_2).mono ?_; rintro e w3 ⟨rfl, hb3⟩
      have BW3 : Below w.heap.size w w3 := BW2.trans (hb3.mono BW2.size)
      have zz3 : w2.heap.size ≤ w3.heap.size := hb3.size
      have HA_3 := Cv.below (by exact HA_2) hb3
      have X_3 := Blk4.below (by exact X_2) hb3
      obtain ⟨cX_3_0, cX_3_1, cX_3_2, cX_3_3, _⟩ := X_3.cells
      have lX_3 := X_3.lt
      go_wp2_with fail
      go_ret
      exact ⟨by simp, BW3⟩
    · obtain ⟨k, rfl⟩ : ∃ k, n3 = k + 1 := ⟨n3 - 1, by omega⟩
      obtain ⟨y, hy⟩ : ∃ y, C.c[k]? = some y := ⟨_, List.getElem?_eq_getElem (by omega)⟩
      obtain ⟨y0, y8⟩ := hrg y (List.mem_of_getElem? hy)
      have hl := ltr_num y0 (by omega)
      have hf2 : fmtS C = (fmtL C.h ++ [32, 102, 114, 101, 101] ++ freeT C.c k ++ [32]) ++ [ltr y] := by rw [hf, freeT_succ hy]; simp
      rw [hf2] at I S
      obtain ⟨m, hm⟩ : ∃ m, (fmtL C.h ++ [32, 102, 114, 101, 101] ++ freeT C.c k ++ [32]).length = m := ⟨_, rfl⟩
      have hmb : m ≤ 70 := by rw [List.length_append, List.length_append, List.length_append, freeT_len] at hm; simp at hm; omega
      generalize fmtL C.h ++ [32, 102, 114, 101, 101] ++ freeT C.c k ++ [32] = a at I S hm
      have hsz : (ByteArray.mk (a ++ [ltr y]).toArray).size = m + 1 := by rw [size_mk, List.length_append, hm]; rfl
      have hne : (a ++ [ltr y]).isEmpty = false := by simp
      have hml : m < (ByteArray.mk (a ++ [ltr y]).toArray).size := by omega
      have hat : (ByteArray.mk (a ++ [ltr y]).toArray)[m]'hml = ltr y := by
        subst hm
        show (a ++ [ltr y]).toArray[a.length]'_ = _
        simp
      generalize a ++ [ltr y] = s at I S hsz hne hml hat
      have HY := Lib.hid hy
      have hkk : (k : Int) < ((k + 1 : Nat) : Int) := by omega
      clear hf hf2 hm hl40 hvh ev hrg hy
      go_wp2_with fail
      refine (I _ _ _ (HA.alloc (.cells #[.slice A0 n0 c0, .slice A1 n1 c1, .slice A2 n2 c2, .slice A3 (k + 1) c3] 27))).mono ?_; rintro e w2 ⟨rfl, hb2⟩
      have BW2 : Below w.heap.size w w2 := (BW1.alloc BW1.size (.cells #[.slice A0 n0 c0, .slice A1 n1 c1, .slice A2 n2 c2, .slice A3 (k + 1) c3] 27)).trans (hb2.mono (BW1.alloc BW1.size (.cells #[.slice A0 n0 c0, .slice A1 n1 c1, .slice A2 n2 c2, .slice A3 (k + 1) c3] 27)).size)
      have zz2 : w1.heap.size + 1 ≤ w2.heap.size := by have := hb2.size; simp at this; omega
      have HA_2 := Cv.below (by exact (HA.alloc (.cells #[.slice A0 n0 c0, .slice A1 n1 c1, .slice A2 n2 c2, .slice A3 (k + 1) c3] 27))) hb2
      have X_2 := Blk4.below (by exact (Blk4.new w1 (.slice A0 n0 c0) (.slice A1 n1 c1) (.slice A2 n2 c2) (.slice A3 (k + 1) c3) 27)) hb2
      obtain ⟨cX_2_0, cX_2_1, cX_2_2, cX_2_3, _⟩ := X_2.cells
      have lX_2 := X_2.lt
      go_wp2_with fail
      refine (S _ _ _ HA_2).mono ?_; rintro e w3 ⟨rfl, hb3⟩
      have BW3 : Below w.heap.size w w3 := BW2.trans (hb3.mono BW2.size)
      have zz3 : w2.heap.size ≤ w3.heap.size := hb3.size
      have HA_3 := Cv.below (by exact HA_2) hb3
      have X_3 := Blk4.below (by exact X_2) hb3
      obtain ⟨cX_3_0, cX_3_1, cX_3_2, cX_3_3, _⟩ := X_3.cells
      have lX_3 := X_3.lt
      have r9 := (HA_3).rowsS.2.2.2
      obtain ⟨g, z, eg, _, hgl, hzz, hcz, _⟩ := r9.get (k := k) (by omega)
      subst eg
      obtain rfl : z = y := by have h9 := hzz.out; rw [HY.out] at h9; simpa using h9.symm
      clear hzz r9
      have hwm : IntKind.i64.wrap (((m + 1 : Nat) : Int) - 1) = (m : Int) := by rw [IntWalk.i64_in _ (by omega)]; omega
      have hwm2 : IntKind.i64.wrap (m : Int) = (m : Int) := IntWalk.i64_in _ (by omega)
      have hwk : IntKind.i64.wrap (((k + 1 : Nat) : Int) - 1) = (k : Int) := by rw [IntWalk.i64_in _ (by omega)]; omega
      have hwk2 : IntKind.i64.wrap (k : Int) = (k : Int) := IntWalk.i64_in _ (by omega)
      have hwz : IntKind.i64.wrap z = z := IntWalk.i64_in _ (by omega)
      have hu8 : IntKind.u8.wrap z = z := by rw [IntKind.wrap_u8]; omega
      have hu9 : IntKind.u8.wrap (((ltr z).toNat : Int) - 48) = z := by rw [hl, IntKind.wrap_u8]; omega
      have hmi : (m : Int) < ((m + 1 : Nat) : Int) := by omega
      go_wp2_with fail
      go_quiet (fail)
      go_wp2_with fail
      go_ret
      exact ⟨by simp; omega, below_drewN BW3 _⟩
end Go.Proofs.YtkonlhmmkcpgnaaDoor
