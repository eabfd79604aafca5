/- GarbageOf of both. -/
import Derived.Test.YthagchhegljphaaLive
namespace Go.Proofs.Ythagchhegljphaa
open Go.RowKit

def garbN (xs : List Bool) (k : Nat) : List Int := ((List.range k).filter (fun i => xs.getD i true == false)).map fun i : Nat => (i : Int)
def garb (h : Hp) : List Int := garbN (liveL h) (liveL h).length
theorem garbN_succ (xs : List Bool) (k : Nat) : garbN xs (k + 1) = if xs.getD k true = false then garbN xs k ++ [(k : Int)] else garbN xs k := by
  unfold garbN
  rw [List.range_succ, List.filter_append]
  by_cases hp : xs.getD k true = false
  · rw [if_pos hp]; simp only [List.filter_cons, hp]; simp
  · rw [if_neg hp]
    have hp2 : xs.getD k true = true := by simpa using hp
    simp only [List.filter_cons, hp2]; simp
theorem garbN_len (xs : List Bool) (k : Nat) : (garbN xs k).length ≤ k := by
  unfold garbN; rw [List.length_map]; exact Nat.le_trans (List.length_filter_le _ _) (by simp)
theorem garb_len (h : Hp) : (garb h).length ≤ 8 := Nat.le_trans (garbN_len _ _) (liveL_bd h)

set_option maxHeartbeats 2000000 in
theorem implGarb_any (w : World) (lo : Nat) (v : Value) (h : Hp) (hv : Hv w lo v h) : Calls Try.prog 13 #[v] w (NewRow w (garb h)) := by
  obtain ⟨i0, hi, hz0, hz1, hz2⟩ := info_parts Try.infoInt
  obtain ⟨A0, n0, c0, A1, n1, c1, A2, n2, c2, rfl, _⟩ := hv.open_
  have C := implReach_any _ _ _ _ (hv.alloc (.cells #[.slice A0 n0 c0, .slice A1 n1 c1, .slice A2 n2 c2] 25))
  have fin : Below w.heap.size w (w.alloc (.cells #[.slice A0 n0 c0, .slice A1 n1 c1, .slice A2 n2 c2] 25)) := (Below.refl _ _).alloc (Nat.le_refl _) _
  have hbd := liveL_bd h
  have hg : garb h = garbN (liveL h) (liveL h).length := rfl
  rw [hg]
  generalize liveL h = xs at C hbd
  go_enter Try.func13, Try.ntmps13
  go_wp2_with fail
  refine C.mono ?_; rintro e w2 ⟨A, cc, rfl, hr, hb2⟩
  have B2 : Below w.heap.size w w2 := fin.trans (hb2.mono (by simp <;> omega))
  have z2 : w.heap.size + 1 ≤ w2.heap.size := by have := hb2.size; simp at this; omega
  have R2 : Row w2 (w.heap.size + 1) (.slice none 0 0) [] := Row.nil _ _
  have hap : ∀ b, (Value.slice A xs.length cc).ownBlock = some b → (.slice none 0 0 : Value).ownBlock ≠ some b := fun b hb e => by
    have h9 := (hr.lt b hb).1
    simp [Value.ownBlock] at e h9
    try omega
  generalize hn : xs.length = n at hr hbd hap ⊢
  have HN := Lib.hid hn
  clear hn C
  have HR := Lib.hid (fun b hb => (hr.lt b hb).2 : ∀ b, (Value.slice A n cc).ownBlock = some b → b < w2.heap.size)
  go_wp2_with fail
  go_loopw [3, 9] (fun v i wr => ∃ (k : Nat) (A' : Option Addr) (c' : Nat), k ≤ n ∧ i = .int .i64 k ∧ v = .slice A' (garbN xs k).length c' ∧ Row wr (w.heap.size + 1) (.slice A' (garbN xs k).length c') (garbN xs k) ∧ RowB wr 0 (.slice A n cc) xs ∧ Below w.heap.size w wr ∧ w2.heap.size ≤ wr.heap.size ∧ Hid (∀ b, (Value.slice A n cc).ownBlock = some b → (Value.slice A' (garbN xs k).length c').ownBlock ≠ some b)) (fun _ i _ => n - (intOf i).toNat)
  case atStart => exact ⟨0, _, _, Nat.zero_le _, rfl, rfl, R2, hr.mono (by omega), B2, Nat.le_refl _, hap⟩
  case round =>
    obtain ⟨k, A', c', hk, rfl, rfl, hrow, hr', hB, hz, hap'⟩ := hrel
    by_cases hlt : k < n
    · obtain ⟨g, x, rfl, _, _, hx, hcell, _⟩ := hr'.get (k := k) (by have := HN.out; omega)
      have hS := garbN_succ xs k
      have hsl := garbN_len xs k
      have hxx : xs.getD k true = x := by simp [List.getD, hx.out]
      rw [hxx] at hS
      clear hx hxx
      cases x
      · rw [if_pos rfl] at hS
        have HS := Lib.hid hS
        clear hS
        have hown : wr.ownsRow (w.heap.size + 1) 3 1 (.slice A' (garbN xs k).length c') (garbN xs k).length ((garbN xs k).map iv) := hrow
        generalize hsn : garbN xs k = sn at *
        have HSN := Lib.hid hsn
        clear hsn hrow
        have hsz := hB.size
        go_wp2_with (at_builtin; refine wpList_append_own_at _ rfl _ _ 23 rfl (w.heap.size + 1) 3 i0 (.int .i64 0) 1 8 Try.underlying23 hi hz0 hz1 hz2 rfl (by decide) _ _ _ rfl (hown.alloc _) ⟨wr.heap.size, 0, none⟩ 1 1 [.int .i64 k] rfl rfl ?ap1 ?ap2 ?ap3 ?ap4 ?ap5 ?_)
        try case ap1 => exact one_new
        try case ap2 => first | rfl | (intro u hu; simp at hu; subst hu; rfl)
        try case ap3 => unfold maxLen; omega
        try case ap4 => omega
        try case ap5 => first | omega | (simp; omega)
        intro v' w4 hown' hgrow hnil hloc
        have hrow' : Row w4 (w.heap.size + 1) v' (garbN xs (k + 1)) := by rw [HS.out]; exact Row.of_own hown' (by simp) (by simp)
        have hB' := (hB.alloc hsz _).grown hgrow (by simp; omega) (fun j hj => by have := (hown.lt j hj).1; omega)
        have hr4 := RowB.kept (hr'.alloc (.cells #[.int .i64 (k : Int)] 3)) hgrow (.inr fun e => hap'.out g rfl e.symm)
        have hz4 : w2.heap.size ≤ w4.heap.size := by have := hgrow.size; simp at this; omega
        obtain ⟨A4, c4, hv', _⟩ := hrow'.form
        subst hv'
        have hap4 : Hid (∀ b, (Value.slice (some ⟨g, 0, none⟩) n cc).ownBlock = some b → (Value.slice A4 (garbN xs (k + 1)).length c4).ownBlock ≠ some b) := fun b hb e => by
          have h8 := HR.out b hb
          rcases hloc with h9 | h9
          · rw [h9] at e; exact hap'.out b hb e
          · rw [h9] at e; simp at e; omega
        clear hown hown' hgrow hloc hnil
        go_wp2
        go_roundw
        case rel => exact ⟨k + 1, A4, c4, by omega, by go_num, rfl, hrow', hr4, hB', hz4, hap4⟩
        case measure => simp [intOf]; omega
      · rw [if_neg (by simp)] at hS
        have HS := Lib.hid hS
        clear hS
        go_wp2_with fail
        go_roundw
        case rel => exact ⟨k + 1, A', c', by omega, by go_num, by rw [HS.out], by rw [HS.out]; exact hrow, hr', hB, hz, by rw [HS.out]; exact hap'⟩
        case measure => simp [intOf]; omega
    · obtain rfl : k = n := by omega
      go_wp2_with fail
      go_ret
      exact ⟨A', c', by simp [HN.out], by rw [HN.out]; exact hrow.mono (by omega), hB⟩

set_option maxHeartbeats 2000000 in
theorem specGarb_any (w : World) (lo : Nat) (v : Value) (h : Hp) (hv : Hv w lo v h) : Calls Try.prog 15 #[v] w (NewRow w (garb h)) := by
  obtain ⟨i0, hi, hz0, hz1, hz2⟩ := info_parts Try.infoInt
  obtain ⟨A0, n0, c0, A1, n1, c1, A2, n2, c2, rfl, _⟩ := hv.open_
  have R0 : Row ((w.alloc (.cells #[.slice A0 n0 c0, .slice A1 n1 c1, .slice A2 n2 c2] 25)).alloc (.cells #[] 3)) (w.heap.size + 1) (.slice (some ⟨w.heap.size + 1, 0, none⟩) 0 0) [] := Row.lit_lo (w := w.alloc (.cells #[.slice A0 n0 c0, .slice A1 n1 c1, .slice A2 n2 c2] 25)) (by simp) (w.heap.size + 1) (by simp) [] (by simp)
  have C := specReach_any _ _ _ _ ((hv.alloc (.cells #[.slice A0 n0 c0, .slice A1 n1 c1, .slice A2 n2 c2] 25)).alloc (.cells #[] 3))
  have fin : Below w.heap.size w ((w.alloc (.cells #[.slice A0 n0 c0, .slice A1 n1 c1, .slice A2 n2 c2] 25)).alloc (.cells #[] 3)) := ((Below.refl _ _).alloc (Nat.le_refl _) _).alloc (by simp) _
  have hbd := liveL_bd h
  have hg : garb h = garbN (liveL h) (liveL h).length := rfl
  rw [hg]
  generalize liveL h = xs at C hbd
  go_enter Try.func15, Try.ntmps15
  go_wp2_with fail
  refine C.mono ?_; rintro e w2 ⟨A, cc, rfl, hr, hb2⟩
  have B2 : Below w.heap.size w w2 := fin.trans (hb2.mono (by simp <;> omega))
  have z2 : w.heap.size + 1 ≤ w2.heap.size := by have := hb2.size; simp at this; omega
  have R2 : Row w2 (w.heap.size + 1) (.slice (some ⟨w.heap.size + 1, 0, none⟩) 0 0) [] := Row.below (by exact R0) hb2
  have hap : ∀ b, (Value.slice A xs.length cc).ownBlock = some b → (.slice (some ⟨w.heap.size + 1, 0, none⟩) 0 0 : Value).ownBlock ≠ some b := fun b hb e => by
    have h9 := (hr.lt b hb).1
    simp [Value.ownBlock] at e h9
    try omega
  generalize hn : xs.length = n at hr hbd hap ⊢
  have HN := Lib.hid hn
  clear hn C
  have HR := Lib.hid (fun b hb => (hr.lt b hb).2 : ∀ b, (Value.slice A n cc).ownBlock = some b → b < w2.heap.size)
  go_wp2_with fail
  go_loopw [3, 5] (fun v i wr => ∃ (k : Nat) (A' : Option Addr) (c' : Nat), k ≤ n ∧ i = .int .i64 k ∧ v = .slice A' (garbN xs k).length c' ∧ Row wr (w.heap.size + 1) (.slice A' (garbN xs k).length c') (garbN xs k) ∧ RowB wr 0 (.slice A n cc) xs ∧ Below w.heap.size w wr ∧ w2.heap.size ≤ wr.heap.size ∧ Hid (∀ b, (Value.slice A n cc).ownBlock = some b → (Value.slice A' (garbN xs k).length c').ownBlock ≠ some b)) (fun _ i _ => n - (intOf i).toNat)
  case atStart => exact ⟨0, _, _, Nat.zero_le _, rfl, rfl, R2, hr.mono (by omega), B2, Nat.le_refl _, hap⟩
  case round =>
    obtain ⟨k, A', c', hk, rfl, rfl, hrow, hr', hB, hz, hap'⟩ := hrel
    by_cases hlt : k < n
    · obtain ⟨g, x, rfl, _, _, hx, hcell, _⟩ := hr'.get (k := k) (by have := HN.out; omega)
      have hS := garbN_succ xs k
      have hsl := garbN_len xs k
      have hxx : xs.getD k true = x := by simp [List.getD, hx.out]
      rw [hxx] at hS
      clear hx hxx
      cases x
      · rw [if_pos rfl] at hS
        have HS := Lib.hid hS
        clear hS
        have hown : wr.ownsRow (w.heap.size + 1) 3 1 (.slice A' (garbN xs k).length c') (garbN xs k).length ((garbN xs k).map iv) := hrow
        generalize hsn : garbN xs k = sn at *
        have HSN := Lib.hid hsn
        clear hsn hrow
        have hsz := hB.size
        go_wp2_with (at_builtin; refine wpList_append_own_at _ rfl _ _ 23 rfl (w.heap.size + 1) 3 i0 (.int .i64 0) 1 8 Try.underlying23 hi hz0 hz1 hz2 rfl (by decide) _ _ _ rfl (hown.alloc _) ⟨wr.heap.size, 0, none⟩ 1 1 [.int .i64 k] rfl rfl ?ap1 ?ap2 ?ap3 ?ap4 ?ap5 ?_)
        try case ap1 => exact one_new
        try case ap2 => first | rfl | (intro u hu; simp at hu; subst hu; rfl)
        try case ap3 => unfold maxLen; omega
        try case ap4 => omega
        try case ap5 => first | omega | (simp; omega)
        intro v' w4 hown' hgrow hnil hloc
        have hrow' : Row w4 (w.heap.size + 1) v' (garbN xs (k + 1)) := by rw [HS.out]; exact Row.of_own hown' (by simp) (by simp)
        have hB' := (hB.alloc hsz _).grown hgrow (by simp; omega) (fun j hj => by have := (hown.lt j hj).1; omega)
        have hr4 := RowB.kept (hr'.alloc (.cells #[.int .i64 (k : Int)] 3)) hgrow (.inr fun e => hap'.out g rfl e.symm)
        have hz4 : w2.heap.size ≤ w4.heap.size := by have := hgrow.size; simp at this; omega
        obtain ⟨A4, c4, hv', _⟩ := hrow'.form
        subst hv'
        have hap4 : Hid (∀ b, (Value.slice (some ⟨g, 0, none⟩) n cc).ownBlock = some b → (Value.slice A4 (garbN xs (k + 1)).length c4).ownBlock ≠ some b) := fun b hb e => by
          have h8 := HR.out b hb
          rcases hloc with h9 | h9
          · rw [h9] at e; exact hap'.out b hb e
          · rw [h9] at e; simp at e; omega
        clear hown hown' hgrow hloc hnil
        go_wp2
        go_roundw
        case rel => exact ⟨k + 1, A4, c4, by omega, by go_num, rfl, hrow', hr4, hB', hz4, hap4⟩
        case measure => simp [intOf]; omega
      · rw [if_neg (by simp)] at hS
        have HS := Lib.hid hS
        clear hS
        go_wp2_with fail
        go_roundw
        case rel => exact ⟨k + 1, A', c', by omega, by go_num, by rw [HS.out], by rw [HS.out]; exact hrow, hr', hB, hz, by rw [HS.out]; exact hap'⟩
        case measure => simp [intOf]; omega
    · obtain rfl : k = n := by omega
      go_wp2_with fail
      go_ret
      exact ⟨A', c', by simp [HN.out], by rw [HN.out]; exact hrow.mono (by omega), hB⟩
end Go.Proofs.Ythagchhegljphaa
