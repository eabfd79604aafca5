/- The law FnFormatStore, walked. -/
import Derived.Test.YtkonlhmmkcpgnaaDoorCaseS
import Derived.Test.YtkonlhmmkcpgnaaDoorFmtS
import Derived.Test.YtkonlhmmkcpgnaaDoorSFmtS
import Derived.Test.YtkonlhmmkcpgnaaDoorWLaw
namespace Go.Proofs.YtkonlhmmkcpgnaaDoor
open Go.RowKit

theorem Blk4.drew {w : World} {b : Nat} {x y z q : Value} {t : TypeId} (h : Blk4 w b x y z q t) : Blk4 w.drew b x y z q t := h
theorem Cv.hvS2 {w : World} {lo : Nat} {v0 v1 v2 v3 : Value} {C : Cp} (h : Cv w lo (.agg #[v0, v1, v2, v3]) C) : Hv w lo (.agg #[v0, v1, v2]) C.h := by
  obtain ⟨_, _, _, _, e, hh, _⟩ := h
  cases e; exact hh
theorem size_mk (t : List UInt8) : (ByteArray.mk t.toArray).size = t.length := by simp [ByteArray.size]

set_option maxRecDepth 100000 in
set_option maxHeartbeats 4000000 in
theorem lawFormatStore_walk (w : World) (A : Option Addr) (n c : Nat) (h : Inp w A n c) :
    Calls Tryd.prog 4 #[.slice A n c] w (LawTrue w) := by
  by_cases hbig : 1048576 < n
  · go_enter Tryd.func4, Tryd.ntmps4
    go_wp2_with fail
    go_ret
    exact ⟨rfl, Below.refl _ _⟩
  go_enter Tryd.func4, Tryd.ntmps4
  go_wp2_with fail
  refine (drawFormatStore_any _ _ _ _ h).mono ?_; rintro e w1 ⟨v, C, rfl, HA, hb1⟩
  have BW1 : Below w.heap.size w w1 := (Below.refl w.heap.size w).trans (hb1.mono (Below.refl w.heap.size w).size)
  have zz1 : w.heap.size ≤ w1.heap.size := hb1.size
  have HAo := HA
  obtain ⟨A0, n0, c0, A1, n1, c1, A2, n2, c2, A3, n3, c3, rfl, hh, ⟨r0, r1, r2, r3⟩, ⟨l0, l1, l2, l3⟩, ⟨mm0, mm1, mm2, mm3⟩, _⟩ := HAo.open_
  have I := fun W lo v hW => implFmtS_any W lo v C hW
  have S := fun W lo v hW => specFmtS_any W lo v C hW
  have V := fun W lo v hW => implStoreValid_any W lo v C hW
  have SV := fun W lo v hW => specStoreValid_any W lo v C hW
  rcases ev : stoB C
  · have hf : fmtS C = [] := by unfold fmtS; rw [ev]; simp
    rw [hf] at I S
    rw [ev] at V SV
    clear ev hf
    go_wp2_with fail
    refine (I _ _ _ (HA.alloc (.cells #[.slice A0 n0 c0, .slice A1 n1 c1, .slice A2 n2 c2, .slice A3 n3 c3] 27))).mono ?_; rintro e w2 ⟨rfl, hb2⟩
    have BW2 : Below w.heap.size w w2 := (BW1.alloc BW1.size (.cells #[.slice A0 n0 c0, .slice A1 n1 c1, .slice A2 n2 c2, .slice A3 n3 c3] 27)).trans (hb2.mono (BW1.alloc BW1.size (.cells #[.slice A0 n0 c0, .slice A1 n1 c1, .slice A2 n2 c2, .slice A3 n3 c3] 27)).size)
    have zz2 : w1.heap.size + 1 ≤ w2.heap.size := by have := hb2.size; simp at this; omega
    have HA_2 := Cv.below (by exact (HA.alloc (.cells #[.slice A0 n0 c0, .slice A1 n1 c1, .slice A2 n2 c2, .slice A3 n3 c3] 27))) hb2
    have X_2 := Blk4.below (by exact (Blk4.new w1 (.slice A0 n0 c0) (.slice A1 n1 c1) (.slice A2 n2 c2) (.slice A3 n3 c3) 27)) hb2
    obtain ⟨cX_2_0, cX_2_1, cX_2_2, cX_2_3, _⟩ := X_2.cells
    have lX_2 := X_2.lt
    go_wp2_with fail
    go_region_held3 (fun w' => w'.cell? ⟨w1.heap.size, 0, none⟩ = some (.slice A0 n0 c0) ∧ w'.cell? ⟨w1.heap.size, 1, none⟩ = some (.slice A1 n1 c1) ∧ w'.cell? ⟨w1.heap.size, 2, none⟩ = some (.slice A2 n2 c2) ∧ w'.cell? ⟨w1.heap.size, 3, none⟩ = some (.slice A3 n3 c3))
      (((try dsimp only); (repeat' apply And.intro) <;> (with_reducible (first | exact cX_6_3 | exact cX_6_2 | exact cX_6_1 | exact cX_6_0 | exact cX_5_3 | exact cX_5_2 | exact cX_5_1 | exact cX_5_0 | exact cX_4_3 | exact cX_4_2 | exact cX_4_1 | exact cX_4_0 | exact cX_3_3 | exact cX_3_2 | exact cX_3_1 | exact cX_3_0 | exact cellD cX_2_3 | exact cellD cX_2_2 | exact cellD cX_2_1 | exact cellD cX_2_0 | exact cX_2_3 | exact cX_2_2 | exact cX_2_1 | exact cX_2_0))))
      (first
        | (go_at_call 12; (with_reducible refine (S _ _ _ (HA_2.drew)).mono ?_); rintro e w3 ⟨rfl, hb3⟩; have BW3 : Below w.heap.size w w3 := (Below.drew BW2).trans (hb3.mono (Below.drew BW2).size); have zz3 : w2.heap.size ≤ w3.heap.size := hb3.size; have HA_3 := Cv.below (by exact (HA_2.drew)) hb3; have X_3 := Blk4.below (by exact (X_2.drew)) hb3; obtain ⟨cX_3_0, cX_3_1, cX_3_2, cX_3_3, _⟩ := X_3.cells; have lX_3 := X_3.lt)
        | (go_at_call 13; (with_reducible refine (V _ _ _ HA_3).mono ?_); rintro e w4 ⟨rfl, hb4⟩; have BW4 : Below w.heap.size w w4 := BW3.trans (hb4.mono BW3.size); have zz4 : w3.heap.size ≤ w4.heap.size := hb4.size; have HA_4 := Cv.below (by exact HA_3) hb4; have X_4 := Blk4.below (by exact X_3) hb4; obtain ⟨cX_4_0, cX_4_1, cX_4_2, cX_4_3, _⟩ := X_4.cells; have lX_4 := X_4.lt)
        | (go_at_call 13; (with_reducible refine (V _ _ _ HA_4).mono ?_); rintro e w5 ⟨rfl, hb5⟩; have BW5 : Below w.heap.size w w5 := BW4.trans (hb5.mono BW4.size); have zz5 : w4.heap.size ≤ w5.heap.size := hb5.size; have HA_5 := Cv.below (by exact HA_4) hb5; have X_5 := Blk4.below (by exact X_4) hb5; obtain ⟨cX_5_0, cX_5_1, cX_5_2, cX_5_3, _⟩ := X_5.cells; have lX_5 := X_5.lt)
        | (go_at_call 14; (with_reducible refine (SV _ _ _ HA_5).mono ?_); rintro e w6 ⟨rfl, hb6⟩; have BW6 : Below w.heap.size w w6 := BW5.trans (hb6.mono BW5.size); have zz6 : w5.heap.size ≤ w6.heap.size := hb6.size; have HA_6 := Cv.below (by exact HA_5) hb6; have X_6 := Blk4.below (by exact X_5) hb6; obtain ⟨cX_6_0, cX_6_1, cX_6_2, cX_6_3, _⟩ := X_6.cells; have lX_6 := X_6.lt))
    rename_i hHeld1
    clear hHeld1
    go_wp2_with fail
    go_region_held3 (fun w' => w'.cell? ⟨w1.heap.size, 0, none⟩ = some (.slice A0 n0 c0) ∧ w'.cell? ⟨w1.heap.size, 1, none⟩ = some (.slice A1 n1 c1) ∧ w'.cell? ⟨w1.heap.size, 2, none⟩ = some (.slice A2 n2 c2) ∧ w'.cell? ⟨w1.heap.size, 3, none⟩ = some (.slice A3 n3 c3))
      (((try dsimp only); (repeat' apply And.intro) <;> (with_reducible (first | exact cX_10_3 | exact cX_10_2 | exact cX_10_1 | exact cX_10_0 | exact cX_9_3 | exact cX_9_2 | exact cX_9_1 | exact cX_9_0 | exact cX_8_3 | exact cX_8_2 | exact cX_8_1 | exact cX_8_0 | exact cX_7_3 | exact cX_7_2 | exact cX_7_1 | exact cX_7_0 | exact cellD cX_6_3 | exact cellD cX_6_2 | exact cellD cX_6_1 | exact cellD cX_6_0 | exact cX_6_3 | exact cX_6_2 | exact cX_6_1 | exact cX_6_0))))
      (first
        | (go_at_call 12; (with_reducible refine (S _ _ _ (HA_6.drew)).mono ?_); rintro e w7 ⟨rfl, hb7⟩; have BW7 : Below w.heap.size w w7 := (Below.drew BW6).trans (hb7.mono (Below.drew BW6).size); have zz7 : w6.heap.size ≤ w7.heap.size := hb7.size; have HA_7 := Cv.below (by exact (HA_6.drew)) hb7; have X_7 := Blk4.below (by exact (X_6.drew)) hb7; obtain ⟨cX_7_0, cX_7_1, cX_7_2, cX_7_3, _⟩ := X_7.cells; have lX_7 := X_7.lt)
        | (go_at_call 13; (with_reducible refine (V _ _ _ HA_7).mono ?_); rintro e w8 ⟨rfl, hb8⟩; have BW8 : Below w.heap.size w w8 := BW7.trans (hb8.mono BW7.size); have zz8 : w7.heap.size ≤ w8.heap.size := hb8.size; have HA_8 := Cv.below (by exact HA_7) hb8; have X_8 := Blk4.below (by exact X_7) hb8; obtain ⟨cX_8_0, cX_8_1, cX_8_2, cX_8_3, _⟩ := X_8.cells; have lX_8 := X_8.lt)
        | (go_at_call 13; (with_reducible refine (V _ _ _ HA_8).mono ?_); rintro e w9 ⟨rfl, hb9⟩; have BW9 : Below w.heap.size w w9 := BW8.trans (hb9.mono BW8.size); have zz9 : w8.heap.size ≤ w9.heap.size := hb9.size; have HA_9 := Cv.below (by exact HA_8) hb9; have X_9 := Blk4.below (by exact X_8) hb9; obtain ⟨cX_9_0, cX_9_1, cX_9_2, cX_9_3, _⟩ := X_9.cells; have lX_9 := X_9.lt)
        | (go_at_call 14; (with_reducible refine (SV _ _ _ HA_9).mono ?_); rintro e w10 ⟨rfl, hb10⟩; have BW10 : Below w.heap.size w w10 := BW9.trans (hb10.mono BW9.size); have zz10 : w9.heap.size ≤ w10.heap.size := hb10.size; have HA_10 := Cv.below (by exact HA_9) hb10; have X_10 := Blk4.below (by exact X_9) hb10; obtain ⟨cX_10_0, cX_10_1, cX_10_2, cX_10_3, _⟩ := X_10.cells; have lX_10 := X_10.lt))
    rename_i hHeld2
    clear hHeld2
    go_wp2_with fail
    go_ret
    exact ⟨by simp, BW10⟩
  · have hlen := l3.out
    have hf : fmtS C = fmtL C.h ++ ([32, 102, 114, 101, 101] ++ freeT C.c n3) := by unfold fmtS; rw [if_pos ev, hlen, List.append_assoc]
    obtain ⟨hvh, _⟩ := stoB_parts ev
    have hl40 := fmtL_le hvh
    obtain ⟨hle, _⟩ := sto_range ev
    rw [hlen] at hle
    have FH := fun W lo v hW => implFmt_any W lo v C.h hW
    rw [hf] at I S
    rw [ev] at V SV
    generalize fmtL C.h = ft at I S FH hl40
    have hb5 : ([32, 102, 114, 101, 101] ++ freeT C.c n3).length = 5 + 2 * n3 := by rw [List.length_append, freeT_len]; rfl
    have hne : (ft ++ ([32, 102, 114, 101, 101] ++ freeT C.c n3)).isEmpty = false := by simp
    have hap : ∀ (x y : List UInt8), (ByteArray.mk (x ++ y).toArray).extract 0 x.length = ⟨x.toArray⟩ := fun x y => by
      apply ByteArray.ext
      simp [ByteArray.data_extract]
    have hext := hap ft ([32, 102, 114, 101, 101] ++ freeT C.c n3)
    obtain ⟨m, hm⟩ : ∃ m, ft.length = m := ⟨_, rfl⟩
    have hsz : (ByteArray.mk (ft ++ ([32, 102, 114, 101, 101] ++ freeT C.c n3)).toArray).size = m + (5 + 2 * n3) := by rw [size_mk, List.length_append, hm, hb5]
    have hsf : (ByteArray.mk ft.toArray).size = m := by rw [size_mk, hm]
    rw [hm] at hext hl40
    generalize ft ++ ([32, 102, 114, 101, 101] ++ freeT C.c n3) = s at I S hsz hne hext
    have h0m : (0 : Int) ≤ (m : Int) := by omega
    have hms : (m : Int) ≤ ((m + (5 + 2 * n3) : Nat) : Int) := by omega
    clear hap hf hb5 hm hvh ev
    go_wp2_with fail
    refine (I _ _ _ (HA.alloc (.cells #[.slice A0 n0 c0, .slice A1 n1 c1, .slice A2 n2 c2, .slice A3 n3 c3] 27))).mono ?_; rintro e w2 ⟨rfl, hb2⟩
    have BW2 : Below w.heap.size w w2 := (BW1.alloc BW1.size (.cells #[.slice A0 n0 c0, .slice A1 n1 c1, .slice A2 n2 c2, .slice A3 n3 c3] 27)).trans (hb2.mono (BW1.alloc BW1.size (.cells #[.slice A0 n0 c0, .slice A1 n1 c1, .slice A2 n2 c2, .slice A3 n3 c3] 27)).size)
    have zz2 : w1.heap.size + 1 ≤ w2.heap.size := by have := hb2.size; simp at this; omega
    have HA_2 := Cv.below (by exact (HA.alloc (.cells #[.slice A0 n0 c0, .slice A1 n1 c1, .slice A2 n2 c2, .slice A3 n3 c3] 27))) hb2
    have X_2 := Blk4.below (by exact (Blk4.new w1 (.slice A0 n0 c0) (.slice A1 n1 c1) (.slice A2 n2 c2) (.slice A3 n3 c3) 27)) hb2
    obtain ⟨cX_2_0, cX_2_1, cX_2_2, cX_2_3, _⟩ := X_2.cells
    have lX_2 := X_2.lt
    go_wp2_with fail
    go_region_held3 (fun w' => w'.cell? ⟨w1.heap.size, 0, none⟩ = some (.slice A0 n0 c0) ∧ w'.cell? ⟨w1.heap.size, 1, none⟩ = some (.slice A1 n1 c1) ∧ w'.cell? ⟨w1.heap.size, 2, none⟩ = some (.slice A2 n2 c2) ∧ w'.cell? ⟨w1.heap.size, 3, none⟩ = some (.slice A3 n3 c3))
      (((try dsimp only); (repeat' apply And.intro) <;> (with_reducible (first | exact cX_6_3 | exact cX_6_2 | exact cX_6_1 | exact cX_6_0 | exact cX_5_3 | exact cX_5_2 | exact cX_5_1 | exact cX_5_0 | exact cX_4_3 | exact cX_4_2 | exact cX_4_1 | exact cX_4_0 | exact cX_3_3 | exact cX_3_2 | exact cX_3_1 | exact cX_3_0 | exact cellD cX_2_3 | exact cellD cX_2_2 | exact cellD cX_2_1 | exact cellD cX_2_0 | exact cX_2_3 | exact cX_2_2 | exact cX_2_1 | exact cX_2_0))))
      (first
        | (go_at_call 12; (with_reducible refine (S _ _ _ (HA_2.drew)).mono ?_); rintro e w3 ⟨rfl, hb3⟩; have BW3 : Below w.heap.size w w3 := (Below.drew BW2).trans (hb3.mono (Below.drew BW2).size); have zz3 : w2.heap.size ≤ w3.heap.size := hb3.size; have HA_3 := Cv.below (by exact (HA_2.drew)) hb3; have X_3 := Blk4.below (by exact (X_2.drew)) hb3; obtain ⟨cX_3_0, cX_3_1, cX_3_2, cX_3_3, _⟩ := X_3.cells; have lX_3 := X_3.lt)
        | (go_at_call 13; (with_reducible refine (V _ _ _ HA_3).mono ?_); rintro e w4 ⟨rfl, hb4⟩; have BW4 : Below w.heap.size w w4 := BW3.trans (hb4.mono BW3.size); have zz4 : w3.heap.size ≤ w4.heap.size := hb4.size; have HA_4 := Cv.below (by exact HA_3) hb4; have X_4 := Blk4.below (by exact X_3) hb4; obtain ⟨cX_4_0, cX_4_1, cX_4_2, cX_4_3, _⟩ := X_4.cells; have lX_4 := X_4.lt)
        | (go_at_call 13; (with_reducible refine (V _ _ _ HA_4).mono ?_); rintro e w5 ⟨rfl, hb5⟩; have BW5 : Below w.heap.size w w5 := BW4.trans (hb5.mono BW4.size); have zz5 : w4.heap.size ≤ w5.heap.size := hb5.size; have HA_5 := Cv.below (by exact HA_4) hb5; have X_5 := Blk4.below (by exact X_4) hb5; obtain ⟨cX_5_0, cX_5_1, cX_5_2, cX_5_3, _⟩ := X_5.cells; have lX_5 := X_5.lt)
        | (go_at_call 14; (with_reducible refine (SV _ _ _ HA_5).mono ?_); rintro e w6 ⟨rfl, hb6⟩; have BW6 : Below w.heap.size w w6 := BW5.trans (hb6.mono BW5.size); have zz6 : w5.heap.size ≤ w6.heap.size := hb6.size; have HA_6 := Cv.below (by exact HA_5) hb6; have X_6 := Blk4.below (by exact X_5) hb6; obtain ⟨cX_6_0, cX_6_1, cX_6_2, cX_6_3, _⟩ := X_6.cells; have lX_6 := X_6.lt))
    rename_i hHeld1
    clear hHeld1
    go_wp2_with fail
    refine (FH _ _ _ (HA_6).hvS2).mono ?_; rintro e w7 ⟨rfl, hb7⟩
    have BW7 : Below w.heap.size w w7 := BW6.trans (hb7.mono BW6.size)
    have zz7 : w6.heap.size ≤ w7.heap.size := hb7.size
    have HA_7 := Cv.below (by exact HA_6) hb7
    have X_7 := Blk4.below (by exact X_6) hb7
    obtain ⟨cX_7_0, cX_7_1, cX_7_2, cX_7_3, _⟩ := X_7.cells
    have lX_7 := X_7.lt
    go_wp2_with fail
    go_ret
    exact ⟨by simp; omega, BW7⟩
end Go.Proofs.YtkonlhmmkcpgnaaDoor
