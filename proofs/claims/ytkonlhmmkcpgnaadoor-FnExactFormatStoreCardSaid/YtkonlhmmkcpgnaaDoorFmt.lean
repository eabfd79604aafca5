/- FormatHeap of impl: the text of a heap. -/
import Derived.Test.YtkonlhmmkcpgnaaDoorBld
import Derived.Test.YtkonlhmmkcpgnaaDoorHeap2
import Derived.Test.YtkonlhmmkcpgnaaDoorPure
import Derived.Test.YtkonlhmmkcpgnaaDoorLives
namespace Go.Proofs.YtkonlhmmkcpgnaaDoor
open Go.RowKit

/-- The letter of a pointer. -/
def ltr (x : Int) : UInt8 := if x = -1 then 45 else UInt8.ofNat (48 + x.toNat)
theorem ltr_none : ltr (-1) = 45 := rfl
theorem ltr_num {x : Int} (h0 : 0 ≤ x) (h9 : x ≤ 9) : ((ltr x).toNat : Int) = 48 + x := by
  have h1 : x ≠ -1 := by omega
  unfold ltr
  rw [if_neg h1, UInt8.toNat_ofNat']
  have : (48 + x.toNat) % 2 ^ 8 = 48 + x.toNat := Nat.mod_eq_of_lt (by omega)
  rw [this]; omega
/-- The text of the first k cells, of the first k roots. -/
def cellsT (h : Hp) (k : Nat) : List UInt8 := (List.range k).flatMap fun i => [ltr (h.l.getD i 0), ltr (h.r.getD i 0), 32]
def rootsT (h : Hp) (k : Nat) : List UInt8 := (List.range k).flatMap fun i => [32, ltr (h.t.getD i 0)]
/-- The text of a heap. -/
def fmtV (h : Hp) : List UInt8 := cellsT h h.l.length ++ [47] ++ rootsT h h.t.length
def fmtL (h : Hp) : List UInt8 := if hvB h = true then fmtV h else []
theorem cellsT_succ {h : Hp} {k : Nat} {x y : Int} (hx : h.l[k]? = some x) (hy : h.r[k]? = some y) : cellsT h (k + 1) = cellsT h k ++ [ltr x, ltr y, 32] := by
  unfold cellsT
  rw [List.range_succ, List.flatMap_append]
  simp [List.getD, hx, hy]
theorem rootsT_succ {h : Hp} {k : Nat} {x : Int} (hx : h.t[k]? = some x) : rootsT h (k + 1) = rootsT h k ++ [32, ltr x] := by
  unfold rootsT
  rw [List.range_succ, List.flatMap_append]
  simp [List.getD, hx]
theorem cellsT_len (h : Hp) (k : Nat) : (cellsT h k).length = 3 * k := by
  unfold cellsT
  induction k with
  | zero => rfl
  | succ k ih => rw [List.range_succ, List.flatMap_append, List.length_append, ih]; simp; omega
theorem rootsT_len (h : Hp) (k : Nat) : (rootsT h k).length = 2 * k := by
  unfold rootsT
  induction k with
  | zero => rfl
  | succ k ih => rw [List.range_succ, List.flatMap_append, List.length_append, ih]; simp; omega
theorem fmtV_len (h : Hp) : (fmtV h).length = 3 * h.l.length + 2 * h.t.length + 1 := by
  unfold fmtV
  rw [List.length_append, List.length_append, cellsT_len, rootsT_len]; simp; omega
theorem byteCells_snoc (l : List UInt8) (b : UInt8) : Lib.byteCells l ++ [.int .u8 b.toNat] = Lib.byteCells (l ++ [b]) := by simp [Lib.byteCells]

set_option maxRecDepth 100000 in
theorem letter_any (w : World) (x : Int) (h1 : -1 ≤ x) (h2 : x ≤ 9) :
    Calls Tryd.prog 40 #[.int .i64 x] w fun e w' => e = .returned (.int .u8 (ltr x).toNat) ∧ w' = w := by
  by_cases hx : x = -1
  · subst hx
    go_enter Tryd.func40, Tryd.ntmps40
    go_wp2_with fail
    go_ret
    exact ⟨rfl, rfl⟩
  · have hl := ltr_num (x := x) (by omega) h2
    have hx2 : (x == -1) = false := by simpa using hx
    go_enter Tryd.func40, Tryd.ntmps40
    go_wp2_with fail
    go_ret
    exact ⟨by rw [hl]; rfl, rfl⟩

set_option maxRecDepth 100000 in
set_option maxHeartbeats 2000000 in
theorem implFmt_any (w : World) (lo : Nat) (v : Value) (h : Hp) (hv : Hv w lo v h) :
    Calls Tryd.prog 15 #[v] w fun e w' => e = .returned (.string ⟨(fmtL h).toArray⟩) ∧ Below w.heap.size w w' := by
  obtain ⟨A0, n0, c0, A1, n1, c1, A2, n2, c2, rfl, ⟨h0, h1, h2⟩, ⟨l0, l1, l2⟩, _⟩ := hv.open_
  have X0 := Blk3.new w (.slice A0 n0 c0) (.slice A1 n1 c1) (.slice A2 n2 c2) 25
  have V := implHeapValid_any _ _ _ _ (hv.alloc (.cells #[.slice A0 n0 c0, .slice A1 n1 c1, .slice A2 n2 c2] 25))
  have fin : Below w.heap.size w (w.alloc (.cells #[.slice A0 n0 c0, .slice A1 n1 c1, .slice A2 n2 c2] 25)) := (Below.refl _ _).alloc (Nat.le_refl _) _
  rcases ev : hvB h
  · have hf : Hid (fmtL h = []) := by unfold Hid fmtL; rw [ev]; simp
    rw [ev] at V
    clear ev
    go_enter Tryd.func15, Tryd.ntmps15
    go_wp2_with fail
    refine V.mono ?_; rintro e w1 ⟨rfl, hb1⟩
    go_wp2_with fail
    go_ret
    exact ⟨by rw [hf.out]; rfl, fin.trans (hb1.mono (by simp))⟩
  · have hf : Hid (fmtL h = cellsT h n0 ++ [47] ++ rootsT h n2) := by unfold Hid fmtL fmtV; rw [if_pos ev, l0.out, l2.out]
    have hl := hvB_len ev
    obtain ⟨⟨hrl, _⟩, hp0, hp1, hp2⟩ := hvB_parts ev
    have hb0 : Hid (∀ x ∈ h.l, -1 ≤ x ∧ x ≤ 8) := fun x hx => by
      rw [List.all_eq_true] at hp0; have := hp0 x hx; simp only [ptB, decide_eq_true_eq] at this; omega
    have hb1' : Hid (∀ x ∈ h.r, -1 ≤ x ∧ x ≤ 8) := fun x hx => by
      rw [List.all_eq_true] at hp1; have := hp1 x hx; simp only [ptB, decide_eq_true_eq] at this; omega
    have hb2' : Hid (∀ x ∈ h.t, -1 ≤ x ∧ x ≤ 8) := fun x hx => by
      rw [List.all_eq_true] at hp2; have := hp2 x hx; simp only [ptB, decide_eq_true_eq] at this; omega
    have u0 : n0 ≤ 8 ∧ n2 ≤ 3 := by have := l0.out; have := l2.out; omega
    obtain ⟨u0a, u0b⟩ := u0
    have u1 : n1 = n0 := by rw [← l1.out, ← l0.out]; exact hrl
    subst u1
    rw [ev] at V
    clear ev hl hp0 hp1 hp2 hrl
    go_enter Tryd.func15, Tryd.ntmps15
    go_wp2_with fail
    refine V.mono ?_; rintro e w1 ⟨rfl, hb1⟩
    have X1 := Blk3.below (by exact X0) hb1
    have R0 := Row.below (by exact h0.alloc (.cells #[.slice A0 n1 c0, .slice A1 n1 c1, .slice A2 n2 c2] 25)) hb1
    have R1 := Row.below (by exact h1.alloc (.cells #[.slice A0 n1 c0, .slice A1 n1 c1, .slice A2 n2 c2] 25)) hb1
    have R2 := Row.below (by exact h2.alloc (.cells #[.slice A0 n1 c0, .slice A1 n1 c1, .slice A2 n2 c2] 25)) hb1
    have B1 : Below w.heap.size w w1 := fin.trans (hb1.mono (by simp))
    have hN : Bld w1.heap.size w1.heap.size [] (w1.alloc (.cells #[.pointer none, .slice none 0 0] 51)) := Lib.fresh_isBuilder _ _ w1
    have z1 : w.heap.size < w1.heap.size := by have := hb1.size; simp at this; omega
    obtain ⟨p0, p1, p2, _⟩ := X1.cells
    clear V h0 h1 h2
    go_wp2_with fail
    go_loopw [4, 13] (fun _ i wr => ∃ k : Nat, k ≤ n1 ∧ i = .int .i64 k ∧ Bld w1.heap.size w1.heap.size (Lib.byteCells (cellsT h k)) wr ∧ Below w1.heap.size w1 wr) (fun _ i _ => n1 - (intOf i).toNat)
    case atStart => exact ⟨0, Nat.zero_le _, rfl, hN, (Below.refl _ _).alloc (Nat.le_refl _) _⟩
    case round =>
      obtain ⟨k, hk, rfl, HB, hW⟩ := hrel
      have hcl := cellsT_len h k
      by_cases hlt : k < n1
      · obtain ⟨g0, x, rfl, _, hg0, hx, hcx, _⟩ := (R0.below hW).get (k := k) (by rw [l0.out]; exact hlt)
        obtain ⟨g1, y, rfl, _, hg1, hy, hcy1, _⟩ := R1.get (k := k) (by rw [l1.out]; exact hlt)
        have hcy := (hW.cell (p := ⟨g1, k, none⟩) hg1).trans hcy1
        obtain ⟨x1, x2⟩ := hb0.out x (List.mem_of_getElem? hx.out)
        obtain ⟨y1, y2⟩ := hb1'.out y (List.mem_of_getElem? hy.out)
        have HS := Lib.hid (cellsT_succ hx.out hy.out)
        obtain ⟨q0, q1, q2, _⟩ := (X1.below hW).cells
        have LX := letter_any wr x x1 (by omega)
        have W1 := writeByte_any _ _ _ (ltr x).toNat wr HB (by rw [Lib.byteCells_length, hcl]; omega) hW.size
        rw [byteCells_snoc] at W1
        clear hx hy hcl HB
        go_wp2_with fail
        refine LX.mono ?_; rintro e w2 ⟨rfl, rfl⟩
        go_wp2_with fail
        refine W1.mono ?_; rintro e w3 ⟨rfl, HB3, hb3⟩
        have hW3 := hW.trans hb3
        obtain ⟨q0, q1, q2, _⟩ := (X1.below hW3).cells
        have hcy3 := (hb3.cell (p := ⟨g1, k, none⟩) hg1).trans hcy
        have LY := letter_any w3 y y1 (by omega)
        have W2 := writeByte_any _ _ _ (ltr y).toNat w3 HB3 (by rw [Lib.byteCells_length]; have := cellsT_len h k; simp; omega) hW3.size
        rw [byteCells_snoc] at W2
        clear HB3 W1
        go_wp2_with fail
        refine LY.mono ?_; rintro e w4 ⟨rfl, rfl⟩
        go_wp2_with fail
        refine W2.mono ?_; rintro e w5 ⟨rfl, HB5, hb5⟩
        have hW5 := hW3.trans hb5
        have W3 := writeByte_any _ _ _ (32 : UInt8).toNat w5 HB5 (by rw [Lib.byteCells_length]; have := cellsT_len h k; simp; omega) hW5.size
        rw [byteCells_snoc] at W3
        have e3 : (cellsT h k ++ [ltr x] ++ [ltr y] ++ [32]) = cellsT h (k + 1) := by rw [HS.out]; simp
        rw [e3] at W3
        clear HB5 W2 e3
        go_wp2_with fail
        refine W3.mono ?_; rintro e w6 ⟨rfl, HB6, hb6⟩
        go_wp2_with fail
        go_roundw
        case rel => exact ⟨k + 1, by omega, by go_num, HB6, hW5.trans hb6⟩
        case measure => simp [intOf]; omega
      · obtain rfl : k = n1 := by omega
        obtain ⟨q0, q1, q2, _⟩ := (X1.below hW).cells
        have W1 := writeByte_any _ _ _ (47 : UInt8).toNat wr HB (by rw [Lib.byteCells_length, hcl]; omega) hW.size
        rw [byteCells_snoc] at W1
        clear HB
        go_wp2_with fail
        refine W1.mono ?_; rintro e w3 ⟨rfl, HB3, hb3⟩
        have hW3 := hW.trans hb3
        obtain ⟨q0, q1, q2, _⟩ := (X1.below hW3).cells
        clear W1
        go_wp2_with fail
        have hE : cellsT h k ++ [47] ++ rootsT h 0 = cellsT h k ++ [47] := by simp [rootsT]
        rw [← hE] at HB3
        clear hE
        go_loopw [6, 36] (fun _ i wr => ∃ m : Nat, m ≤ n2 ∧ i = .int .i64 m ∧ Bld w1.heap.size w1.heap.size (Lib.byteCells (cellsT h k ++ [47] ++ rootsT h m)) wr ∧ Below w1.heap.size w1 wr) (fun _ i _ => n2 - (intOf i).toNat)
        case atStart => exact ⟨0, Nat.zero_le _, rfl, HB3, hW3⟩
        case round =>
          clear HB3
          obtain ⟨m, hm, rfl, HB, hW⟩ := hrel
          have hrl := rootsT_len h m
          by_cases hlt : m < n2
          · obtain ⟨g0, x, rfl, _, hg0, hx, hcx, _⟩ := (R2.below hW).get (k := m) (by rw [l2.out]; exact hlt)
            obtain ⟨x1, x2⟩ := hb2'.out x (List.mem_of_getElem? hx.out)
            have HS := Lib.hid (rootsT_succ hx.out)
            have W1 := writeByte_any _ _ _ (32 : UInt8).toNat wr HB (by rw [Lib.byteCells_length, List.length_append, List.length_append, hcl, hrl]; simp; omega) hW.size
            rw [byteCells_snoc] at W1
            clear hx HB
            go_wp2_with fail
            refine W1.mono ?_; rintro e w4 ⟨rfl, HB4, hb4⟩
            have hW4 := hW.trans hb4
            have LX := letter_any w4 x x1 (by omega)
            have W2 := writeByte_any _ _ _ (ltr x).toNat w4 HB4 (by rw [Lib.byteCells_length, List.length_append, List.length_append, List.length_append, hcl, hrl]; simp; omega) hW4.size
            rw [byteCells_snoc] at W2
            have e3 : (cellsT h k ++ [47] ++ rootsT h m ++ [32] ++ [ltr x]) = cellsT h k ++ [47] ++ rootsT h (m + 1) := by rw [HS.out]; simp
            rw [e3] at W2
            clear HB4 W1 e3
            go_wp2_with fail
            refine LX.mono ?_; rintro e w5 ⟨rfl, rfl⟩
            go_wp2_with fail
            refine W2.mono ?_; rintro e w6 ⟨rfl, HB6, hb6⟩
            go_wp2_with fail
            go_roundw
            case rel => exact ⟨m + 1, by omega, by go_num, HB6, hW4.trans hb6⟩
            case measure => simp [intOf]; omega
          · obtain rfl : m = n2 := by omega
            rw [← hf.out] at HB
            have S := string_any _ _ _ wr HB hW.size
            clear HB hf
            go_wp2_with fail
            refine S.mono ?_; rintro e w4 ⟨rfl, hb4⟩
            go_wp2_with fail
            go_ret
            exact ⟨rfl, B1.trans ((hW.trans hb4).mono B1.size)⟩
end Go.Proofs.YtkonlhmmkcpgnaaDoor
