/- FormatHeap of spec. -/
import Derived.Test.YtkonlhmmkcpgnaaDoorFmt
namespace Go.Proofs.YtkonlhmmkcpgnaaDoor
open Go.RowKit

set_option maxRecDepth 100000 in
set_option maxHeartbeats 1000000 in
theorem dec_any (w : World) (x : Int) (h0 : 0 ≤ x) (h9 : x ≤ 9) :
    Calls Tryd.prog 33 #[.int .i64 x] w fun e w' => e = .returned (.string ⟨#[ltr x]⟩) ∧ Below w.heap.size w w' := by
  have hl := ltr_num h0 h9
  go_enter Tryd.func33, Tryd.ntmps33
  go_wp2_with fail
  go_loopw [0, 3] (fun n s wr => n = .int .i64 x ∧ s = .string ⟨#[]⟩ ∧ wr = w) (fun _ _ _ => 0)
  case atStart => exact ⟨rfl, rfl, rfl⟩
  case round =>
    obtain ⟨rfl, rfl, rfl⟩ := hrel
    have hcv : (convert 22 9 (.slice (some ⟨wr.heap.size, 0, none⟩) 1 1)).run Tryd.prog (wr.alloc (.cells #[.int .u8 (48 + x)] 5)) = .ok (.string ⟨#[ltr x]⟩) (wr.alloc (.cells #[.int .u8 (48 + x)] 5)) := by
      have h9 := run_convert_bytes_back (P := Tryd.prog) (wr.alloc (.cells #[.int .u8 (48 + x)] 5)) 22 9 5 ⟨wr.heap.size, 0, none⟩ 1 [ltr x] Tryd.underlying22 Tryd.underlying5 Tryd.underlying9 (fun j hj => by
        obtain rfl : j = 0 := by simpa using hj
        simp [Addr.add, hl])
      simpa using h9
    have hsz : (ByteArray.mk #[ltr x]).size = 1 := rfl
    clear hl
    go_wp2_with fail
    go_ret
    exact ⟨rfl, (Below.refl _ _).alloc (Nat.le_refl _) _⟩
set_option maxRecDepth 100000 in
theorem sign_any (w : World) (x : Int) (h1 : -1 ≤ x) (h9 : x ≤ 9) :
    Calls Tryd.prog 55 #[.int .i64 x] w fun e w' => e = .returned (.string ⟨#[ltr x]⟩) ∧ Below w.heap.size w w' := by
  by_cases hx : x = -1
  · subst hx
    go_enter Tryd.func55, Tryd.ntmps55
    go_wp2_with fail
    go_ret
    exact ⟨rfl, Below.refl _ _⟩
  · have hx2 : (x == -1) = false := by simpa using hx
    have D := dec_any w x (by omega) h9
    go_enter Tryd.func55, Tryd.ntmps55
    go_wp2_with fail
    refine D.mono ?_; rintro e w1 ⟨rfl, hb1⟩
    go_wp2_with fail
    go_ret
    exact ⟨rfl, hb1⟩
theorem add_lists (a b : List UInt8) (B : Array UInt8) (hB : B = b.toArray) (hl : a.length + b.length ≤ 1000) (w : World) : (Op.stringOp .add ⟨a.toArray⟩ ⟨B⟩).run Tryd.prog w = .ok (.string ⟨(a ++ b).toArray⟩) w := by
  subst hB
  rw [run_string_add_sum w _ _ (by simp [ByteArray.size]; omega), ByteArray.mk_append_mk]

set_option maxRecDepth 100000 in
set_option maxHeartbeats 2000000 in
theorem specFmt_any (w : World) (lo : Nat) (v : Value) (h : Hp) (hv : Hv w lo v h) :
    Calls Tryd.prog 32 #[v] w fun e w' => e = .returned (.string ⟨(fmtL h).toArray⟩) ∧ Below w.heap.size w w' := by
  obtain ⟨A0, n0, c0, A1, n1, c1, A2, n2, c2, rfl, ⟨h0, h1, h2⟩, ⟨l0, l1, l2⟩, _⟩ := hv.open_
  have X0 := Blk3.new w (.slice A0 n0 c0) (.slice A1 n1 c1) (.slice A2 n2 c2) 25
  have V := specHeapValid_any _ _ _ _ (hv.alloc (.cells #[.slice A0 n0 c0, .slice A1 n1 c1, .slice A2 n2 c2] 25))
  have fin : Below w.heap.size w (w.alloc (.cells #[.slice A0 n0 c0, .slice A1 n1 c1, .slice A2 n2 c2] 25)) := (Below.refl _ _).alloc (Nat.le_refl _) _
  rcases ev : hvB h
  · have hf : Hid (fmtL h = []) := by unfold Hid fmtL; rw [ev]; simp
    rw [ev] at V
    clear ev
    go_enter Tryd.func32, Tryd.ntmps32
    go_wp2_with fail
    refine V.mono ?_; rintro e w1 ⟨rfl, hb1⟩
    go_wp2_with fail
    go_ret
    exact ⟨by rw [hf.out]; rfl, fin.trans (hb1.mono (by simp))⟩
  · have hf : Hid (fmtL h = cellsT h n0 ++ [47] ++ rootsT h n2) := by unfold Hid fmtL fmtV; rw [if_pos ev, l0.out, l2.out]
    have hl := hvB_len ev
    obtain ⟨⟨hrl, _⟩, hp0, hp1, hp2⟩ := hvB_parts ev
    have hb0 : Hid (∀ x ∈ h.l, -1 ≤ x ∧ x ≤ 8) := fun x hx => by
      rw [List.all_eq_true] at hp0; have := hp0 x hx; simp only [ptB, decide_eq_true_eq] at this; omega
    have hb1' : Hid (∀ x ∈ h.r, -1 ≤ x ∧ x ≤ 8) := fun x hx => by
      rw [List.all_eq_true] at hp1; have := hp1 x hx; simp only [ptB, decide_eq_true_eq] at this; omega
    have hb2' : Hid (∀ x ∈ h.t, -1 ≤ x ∧ x ≤ 8) := fun x hx => by
      rw [List.all_eq_true] at hp2; have := hp2 x hx; simp only [ptB, decide_eq_true_eq] at this; omega
    have u0 : n0 ≤ 8 ∧ n2 ≤ 3 := by have := l0.out; have := l2.out; omega
    obtain ⟨u0a, u0b⟩ := u0
    have u1 : n1 = n0 := by rw [← l1.out, ← l0.out]; exact hrl
    subst u1
    rw [ev] at V
    clear ev hl hp0 hp1 hp2 hrl
    go_enter Tryd.func32, Tryd.ntmps32
    go_wp2_with fail
    refine V.mono ?_; rintro e w1 ⟨rfl, hb1⟩
    have X1 := Blk3.below (by exact X0) hb1
    have B1 : Below w.heap.size w w1 := fin.trans (hb1.mono (by simp))
    obtain ⟨p0, p1, p2, _⟩ := X1.cells
    clear V
    go_wp2_with fail
    go_loopw [3, 4] (fun s i wr => ∃ k : Nat, k ≤ n1 ∧ i = .int .i64 k ∧ s = .string ⟨(cellsT h k).toArray⟩ ∧ Blk3 wr w.heap.size (.slice A0 n1 c0) (.slice A1 n1 c1) (.slice A2 n2 c2) 25 ∧ Below w.heap.size w wr) (fun _ i _ => n1 - (intOf i).toNat)
    case atStart => exact ⟨0, Nat.zero_le _, rfl, rfl, X1, B1⟩
    case round =>
      obtain ⟨k, hk, rfl, rfl, X, hW⟩ := hrel
      have hcl := cellsT_len h k
      obtain ⟨q0, q1, q2, _⟩ := X.cells
      have lX := X.lt
      by_cases hlt : k < n1
      · obtain ⟨g0, x, rfl, _, hg0, hx, hcx, _⟩ := (h0.below hW).get (k := k) (by rw [l0.out]; exact hlt)
        obtain ⟨g1, y, rfl, _, hg1, hy, hcy, _⟩ := (h1.below hW).get (k := k) (by rw [l1.out]; exact hlt)
        obtain ⟨x1, x2⟩ := hb0.out x (List.mem_of_getElem? hx.out)
        obtain ⟨y1, y2⟩ := hb1'.out y (List.mem_of_getElem? hy.out)
        have HS := Lib.hid (cellsT_succ hx.out hy.out)
        have hA1 := add_lists (cellsT h k) [ltr x] #[ltr x] rfl (by rw [hcl]; simp; omega)
        have hA2 := add_lists (cellsT h k ++ [ltr x]) [ltr y] #[ltr y] rfl (by rw [List.length_append, hcl]; simp; omega)
        have hA3 := add_lists (cellsT h k ++ [ltr x] ++ [ltr y]) [32] #[32] rfl (by rw [List.length_append, List.length_append, hcl]; simp; omega)
        have e3 : (cellsT h k ++ [ltr x] ++ [ltr y] ++ [32]) = cellsT h (k + 1) := by rw [HS.out]; simp
        rw [e3] at hA3
        have h9 : x ≤ 9 ∧ y ≤ 9 := by omega
        generalize hs3 : cellsT h (k + 1) = s3 at hA3
        have HS3 := Lib.hid hs3
        have hdr : wr.drew.heap.size = wr.heap.size := rfl
        generalize cellsT h k ++ [ltr x] ++ [ltr y] = s2 at hA2 hA3
        generalize cellsT h k ++ [ltr x] = s1 at hA1 hA2
        clear hx hy hcl e3 hs3
        go_wp2_with fail
        have cX_0 := q0
        have cX_1 := q1
        have cX_2 := q2
        go_region_held3 (fun w' => w'.cell? ⟨w.heap.size, 0, none⟩ = some (.slice (some ⟨g0, 0, none⟩) n1 c0) ∧ w'.cell? ⟨w.heap.size, 1, none⟩ = some (.slice (some ⟨g1, 0, none⟩) n1 c1) ∧ w'.cell? ⟨w.heap.size, 2, none⟩ = some (.slice A2 n2 c2) ∧ w'.cell? ⟨g0, k, none⟩ = some (.int .i64 x) ∧ w'.cell? ⟨g1, k, none⟩ = some (.int .i64 y))
          (((try dsimp only); (repeat' apply And.intro) <;> (with_reducible (first | exact hcy_wa_wb | exact hcx_wa_wb | exact cX_2_2 | exact cX_2_1 | exact cX_2_0 | exact hcy_wa | exact hcx_wa | exact cX_1_2 | exact cX_1_1 | exact cX_1_0 | exact cellD hcy | exact cellD hcx | exact cellD cX_2 | exact cellD cX_1 | exact cellD cX_0 | exact hcy | exact hcx | exact cX_2 | exact cX_1 | exact cX_0))))
          (first
            | (go_at_call 55; (with_reducible refine (sign_any wr.drew x x1 h9.1).mono ?_); rintro e wa ⟨rfl, ha⟩; have BW1 : Below w.heap.size w wa := (Below.drew hW).trans (ha.mono (Below.drew hW).size); have zz1 := ha.size; have X_1 := Blk3.below (by exact (X.drew)) ha; obtain ⟨cX_1_0, cX_1_1, cX_1_2, _⟩ := X_1.cells; have lX_1 := X_1.lt; have hcx_wa : wa.cell? ⟨g0, k, none⟩ = some (.int .i64 x) := (ha.cell (p := ⟨g0, k, none⟩) (by simp <;> omega)).trans (by exact hcx); have hcy_wa : wa.cell? ⟨g1, k, none⟩ = some (.int .i64 y) := (ha.cell (p := ⟨g1, k, none⟩) (by simp <;> omega)).trans (by exact hcy))
            | (go_at_call 55; (with_reducible refine (sign_any wa y y1 h9.2).mono ?_); rintro e wb ⟨rfl, hb⟩; have BW2 : Below w.heap.size w wb := BW1.trans (hb.mono BW1.size); have zz2 := hb.size; have X_2 := Blk3.below (by exact X_1) hb; obtain ⟨cX_2_0, cX_2_1, cX_2_2, _⟩ := X_2.cells; have lX_2 := X_2.lt; have hcx_wa_wb : wb.cell? ⟨g0, k, none⟩ = some (.int .i64 x) := (hb.cell (p := ⟨g0, k, none⟩) (by simp <;> omega)).trans (by exact hcx_wa); have hcy_wa_wb : wb.cell? ⟨g1, k, none⟩ = some (.int .i64 y) := (hb.cell (p := ⟨g1, k, none⟩) (by simp <;> omega)).trans (by exact hcy_wa)))
        rename_i hHeld1
        clear hHeld1
        go_wp2_with fail
        go_roundw
        case rel => exact ⟨k + 1, by omega, by go_num, by rw [HS3.out], X_2, BW2⟩
        case measure => simp [intOf]; omega
      · obtain rfl : k = n1 := by omega
        have hA1 := add_lists (cellsT h k) [47] #[47] rfl (by rw [hcl]; simp; omega)
        have hE : cellsT h k ++ [47] ++ rootsT h 0 = cellsT h k ++ [47] := by simp [rootsT]
        rw [← hE] at hA1
        generalize hs1 : cellsT h k ++ [47] ++ rootsT h 0 = s1 at hA1
        have HS1 := Lib.hid hs1
        clear hE hs1
        go_wp2_with fail
        go_loopw [3, 5] (fun s i wr => ∃ m : Nat, m ≤ n2 ∧ i = .int .i64 m ∧ s = .string ⟨(cellsT h k ++ [47] ++ rootsT h m).toArray⟩ ∧ Blk3 wr w.heap.size (.slice A0 k c0) (.slice A1 k c1) (.slice A2 n2 c2) 25 ∧ Below w.heap.size w wr) (fun _ i _ => n2 - (intOf i).toNat)
        case atStart => exact ⟨0, Nat.zero_le _, rfl, by rw [HS1.out], X, hW⟩
        case round =>
          clear X q0 q1 q2 lX hW
          obtain ⟨m, hm, rfl, rfl, X, hW⟩ := hrel
          have hrl := rootsT_len h m
          obtain ⟨q0, q1, q2, _⟩ := X.cells
          have lX := X.lt
          by_cases hlt : m < n2
          · obtain ⟨g2, x, rfl, _, hg2, hx, hcx, _⟩ := (h2.below hW).get (k := m) (by rw [l2.out]; exact hlt)
            obtain ⟨x1, x2⟩ := hb2'.out x (List.mem_of_getElem? hx.out)
            have h9 : x ≤ 9 := by omega
            have HS := Lib.hid (rootsT_succ hx.out)
            have hA1 := add_lists (cellsT h k ++ [47] ++ rootsT h m) [32] #[32] rfl (by rw [List.length_append, List.length_append, hcl, hrl]; simp; omega)
            have hA2 := add_lists (cellsT h k ++ [47] ++ rootsT h m ++ [32]) [ltr x] #[ltr x] rfl (by rw [List.length_append, List.length_append, List.length_append, hcl, hrl]; simp; omega)
            have e3 : (cellsT h k ++ [47] ++ rootsT h m ++ [32] ++ [ltr x]) = cellsT h k ++ [47] ++ rootsT h (m + 1) := by rw [HS.out]; simp
            rw [e3] at hA2
            generalize hs3 : cellsT h k ++ [47] ++ rootsT h (m + 1) = s3 at hA2
            have HS3 := Lib.hid hs3
            generalize cellsT h k ++ [47] ++ rootsT h m ++ [32] = s2 at hA1 hA2
            generalize hs0 : cellsT h k ++ [47] ++ rootsT h m = s0 at hA1 ⊢
            have hdr : wr.drew.heap.size = wr.heap.size := rfl
            clear hx hcl hrl e3 hs3 hs0
            go_wp2_with fail
            refine (sign_any wr x x1 h9).mono ?_; rintro e wa ⟨rfl, ha⟩
            have BW3 : Below w.heap.size w wa := hW.trans (ha.mono hW.size)
            have zz3 := ha.size
            have X_3 := Blk3.below (by exact X) ha
            obtain ⟨cX_3_0, cX_3_1, cX_3_2, _⟩ := X_3.cells
            have lX_3 := X_3.lt
            go_wp2_with fail
            go_roundw
            case rel => exact ⟨m + 1, by omega, by go_num, by rw [HS3.out], X_3, BW3⟩
            case measure => simp [intOf]; omega
          · obtain rfl : m = n2 := by omega
            clear hcl hrl hA1
            go_wp2_with fail
            go_ret
            exact ⟨by rw [hf.out]; rfl, hW⟩
end Go.Proofs.YtkonlhmmkcpgnaaDoor
