/- The draw of OpValid. -/
import Derived.Test.YtlabljanddjleaaDrawO
import Derived.Test.YtlabljanddjleaaOpen
import Derived.Test.YtlabljanddjleaaSDoH
import Derived.Test.YtlabljanddjleaaCopys
import Derived.Test.YtlabljanddjleaaDraws
namespace Go.Proofs.Ytlabljanddjleaa
open Go.RowKit

/-- An operation and a number come back, and nothing that was there has turned. -/
def DrawnOI (w : World) (e : Ending) (w' : World) : Prop := ∃ (o : Opv) (x : Int), e = .returned (.tuple #[opV o, .int .i64 x]) ∧ (0 ≤ x ∧ x ≤ 5) ∧ Below w.heap.size w w'
theorem cellF3 {w : World} {a : Addr} {u : Value} {b : Nat} (h : w.cell? a = some u) (hne : a.block ≠ b) (v0 v1 v2 : Value) : (((w.setCell ⟨b, 0, none⟩ v0).setCell ⟨b, 1, none⟩ v1).setCell ⟨b, 2, none⟩ v2).cell? a = some u :=
  cellSo (cellSo (cellSo h (p := ⟨b, 0, none⟩) hne) (p := ⟨b, 1, none⟩) hne) (p := ⟨b, 2, none⟩) hne
theorem lit5V (w : World) (a b c d e : Int) : Row (w.alloc (.cells #[.int .i64 a, .int .i64 b, .int .i64 c, .int .i64 d, .int .i64 e] 3)).drew 0 (.slice (some ⟨w.heap.size, 0, none⟩) 5 5) [a, b, c, d, e] := Row.lit_at rfl [a, b, c, d, e] (by simp)

set_option maxRecDepth 100000 in
set_option maxHeartbeats 8000000 in
theorem drawOpValid_any (w : World) (A : Option Addr) (n c : Nat) (h : Inp w A n c) :
    Calls Try.prog 26 #[.slice A n c] w (DrawnOI w) := by
  have h0 := inp_alloc h (.cells #[.int .i64 0, .int .i64 0, .int .i64 0] 25)
  have Y0 := Blk3.new w (.int .i64 0) (.int .i64 0) (.int .i64 0) 25
  have B0 : Below w.heap.size w (w.alloc (.cells #[.int .i64 0, .int .i64 0, .int .i64 0] 25)) := (Below.refl _ _).alloc (Nat.le_refl _) _
  have s0 : w.heap.size + 1 ≤ (w.alloc (.cells #[.int .i64 0, .int .i64 0, .int .i64 0] 25)).heap.size := by simp
  go_enter Try.func26, Try.ntmps26
  go_wp2_with fail
  generalize w.alloc (.cells #[.int .i64 0, .int .i64 0, .int .i64 0] 25) = W at h0 Y0 B0 s0 ⊢
  refine (l13Open_any _ _ _ _ h0).mono ?_; rintro e w1 ⟨rb, A1, n1, c1, rfl, hR1, hb1⟩
  have hB := hR1.2.2.1
  have z1 := hb1.size
  have hl1 := hR1.lt
  have Y1 := Y0.below hb1
  have B1 := B0.trans (hb1.mono (by omega))
  clear h0 Y0 B0 hb1 h
  go_wp2_with fail
  refine (l5Op_any _ _ _ _ _ _ _ hR1 (by omega)).mono ?_; rintro e w2 ⟨o, p2, rfl, ho, hR2, hp2, hg2⟩
  have z2 := hg2.size
  obtain ⟨k, a, q⟩ := o
  have Y2 := (Y1.kept hg2 (by omega)).alloc (.cells #[.int .i64 k, .int .i64 a, .int .i64 q] 25)
  have B2 := (B1.trans (below_row hg2 (by omega) (by omega))).alloc (by omega) (.cells #[.int .i64 k, .int .i64 a, .int .i64 q] 25)
  have T2 := Blk3.new w2 (.int .i64 k) (.int .i64 a) (.int .i64 q) 25
  have R2 := hR2.alloc (.cells #[.int .i64 k, .int .i64 a, .int .i64 q] 25)
  have hlr := hR2.lt
  have s2 : w2.heap.size + 1 ≤ (w2.alloc (.cells #[.int .i64 k, .int .i64 a, .int .i64 q] 25)).heap.size := by simp
  clear hR1 hR2 hg2 ho Y1 B1
  go_wp2_with fail
  generalize w2.alloc (.cells #[.int .i64 k, .int .i64 a, .int .i64 q] 25) = W2 at Y2 B2 T2 R2 s2 ⊢
  refine (pick_any _ _ _ _ _ _ _ R2 6 (by omega) (by omega) (by omega)).mono ?_; rintro e w3 ⟨x, rfl, hx, R3, hO3⟩
  have z3 := hO3.1.size
  have Y3 := Y2.kept hO3.1 (by omega)
  have T3 := T2.kept hO3.1 (by omega)
  have B3 := B2.trans (below_row hO3.1 (by omega) (by omega))
  have s3 : w2.heap.size + 1 ≤ w3.heap.size := by omega
  clear Y2 T2 B2 R2 hO3
  have hx4 : x = 0 ∨ x = 1 ∨ x = 2 ∨ 3 ≤ x := by omega
  rcases hx4 with rfl | rfl | rfl | hx4
  · go_wp2_with fail
    refine (num_any _ _ _ _ _ _ _ (R3.alloc _) (by omega) _ _ _ [0, 8, 1] 0 (Row.lit_at (by first | rfl | omega) [0, 8, 1] (by decide)) rfl (by decide) (by decide) (by omega)).mono ?_
    rintro e w4 ⟨y, _, rfl, R4, hO4⟩
    have z4 := hO4.1.size
    have hsz : w3.heap.size + 1 ≤ w4.heap.size := by simpa using z4
    have Y4 := (Y3.alloc (.cells #[.int .i64 0, .int .i64 8, .int .i64 1] 3)).kept hO4.1 (by omega)
    have T4 := (T3.alloc (.cells #[.int .i64 0, .int .i64 8, .int .i64 1] 3)).kept hO4.1 (by omega)
    have B4 := (B3.alloc (by omega) (.cells #[.int .i64 0, .int .i64 8, .int .i64 1] 3)).trans (below_row hO4.1 (by omega) (by simp; omega))
    have Y5 := Y4.other (p := ⟨w2.heap.size, 0, none⟩) (by show w.heap.size ≠ w2.heap.size; omega) (.int .i64 y)
    have T5 := T4.set0 (.int .i64 y)
    have B5 := B4.setCell (p := ⟨w2.heap.size, 0, none⟩) (by show w.heap.size ≤ w2.heap.size; omega) (.int .i64 y)
    have R5 := R4.other (a := ⟨w2.heap.size, 0, none⟩) (by show rb ≠ w2.heap.size; omega) (by show W.heap.size ≤ w2.heap.size; omega) (.int .i64 y)
    obtain ⟨t0, t1, t2, tf0, tf1, tf2⟩ := T4.cells
    have s5 : w2.heap.size + 1 ≤ (w4.setCell ⟨w2.heap.size, 0, none⟩ (.int .i64 y)).heap.size := by simp [World.setCell]; omega
    clear Y3 T3 B3 R3 Y4 T4 B4 R4 hO4 z4
    go_wp2_with fail
    generalize w4.setCell ⟨w2.heap.size, 0, none⟩ (.int .i64 y) = W5 at Y5 T5 B5 R5 s5 ⊢
    clear t0 t1 t2 tf0 tf1 tf2
    obtain ⟨t0, t1, t2, _⟩ := T5.cells
    have hLIT := lit5V W5 2 3 1 0 5
    have RL := (R5.alloc (.cells #[.int .i64 2, .int .i64 3, .int .i64 1, .int .i64 0, .int .i64 5] 3)).drew
    have hrl5 : W5.heap.size ≠ rb := by have := R5.lt; omega
    have hwv : w2.heap.size ≠ w.heap.size := by omega
    go_region_held3 (fun w' => w'.cell? ⟨w2.heap.size, 0, none⟩ = some (.int .i64 y) ∧ w'.cell? ⟨w2.heap.size, 1, none⟩ = some (.int .i64 a) ∧ w'.cell? ⟨w2.heap.size, 2, none⟩ = some (.int .i64 q))
      (((try dsimp only); (repeat' apply And.intro) <;> (with_reducible (first | exact cellF3 p0 hwv _ _ _ | exact cellF3 p1 hwv _ _ _ | exact cellF3 p2 hwv _ _ _ | exact p0 | exact p1 | exact p2 | exact cellD (cellA t0 _) | exact cellD (cellA t1 _) | exact cellD (cellA t2 _) | exact cellA (cellD t0) _ | exact cellA (cellD t1) _ | exact cellA (cellD t2) _ | exact cellD t0 | exact cellD t1 | exact cellD t2 | exact t0 | exact t1 | exact t2))))
      ((go_at_call 54; (with_reducible refine (num_any (W5.alloc (.cells #[.int .i64 2, .int .i64 3, .int .i64 1, .int .i64 0, .int .i64 5] 3)).drew _ _ _ _ _ _ RL (by omega) _ _ _ [2, 3, 1, 0, 5] 0 hLIT rfl (by decide) (by decide) hrl5).mono ?_); rintro e w9 ⟨y9, hy9, rfl, R9, hO9⟩; (have T9 := Blk3.kept ((T5.alloc (.cells #[.int .i64 2, .int .i64 3, .int .i64 1, .int .i64 0, .int .i64 5] 3)).drew) hO9.1 (by omega)); (have Y9 := Blk3.kept ((Y5.alloc (.cells #[.int .i64 2, .int .i64 3, .int .i64 1, .int .i64 0, .int .i64 5] 3)).drew) hO9.1 (by omega)); (obtain ⟨p0, p1, p2, _⟩ := T9.cells); (obtain ⟨y0, y1, y2, yf0, yf1, yf2⟩ := Y9.cells)))
    rename_i hHeld
    clear hHeld
    have B9 : Below w.heap.size w w9 := (B5.alloc (by omega) (.cells #[.int .i64 2, .int .i64 3, .int .i64 1, .int .i64 0, .int .i64 5] 3)).drew.trans (below_row hO9.1 (by omega) (by show w.heap.size ≤ (W5.alloc _).heap.size; simp; omega))
    have hy : 0 ≤ y9 ∧ y9 ≤ 5 := by simp only [List.mem_cons, List.not_mem_nil, or_false] at hy9; omega
    obtain ⟨e0, e1, e2⟩ := cells3 (.int .i64 y) (.int .i64 a) (.int .i64 q) y0 y1 y2
    have BF := ((B9.setCell (p := ⟨w.heap.size, 0, none⟩) (Nat.le_refl _) (.int .i64 y)).setCell (p := ⟨w.heap.size, 1, none⟩) (Nat.le_refl _) (.int .i64 a)).setCell (p := ⟨w.heap.size, 2, none⟩) (Nat.le_refl _) (.int .i64 q)
    clear hy9 t0 t1 t2 p0 p1 p2 T5 T9 Y5 Y9 B5 B9 R5 R9 RL hLIT
    go_wp2_with fail
    refine bodyPost_ret (v := .tuple #[.agg #[.int .i64 y, .int .i64 a, .int .i64 q], .int .i64 y9]) ?_ rfl ⟨⟨y, a, q⟩, y9, rfl, hy, BF⟩
    simp [results, Try.results26, go_sem, e0, e1, e2]
  · go_wp2_with fail
    refine (num_any _ _ _ _ _ _ _ (R3.alloc _) (by omega) _ _ _ [-1, 3] 0 (Row.lit_at (by first | rfl | omega) [-1, 3] (by decide)) rfl (by decide) (by decide) (by omega)).mono ?_
    rintro e w4 ⟨y, _, rfl, R4, hO4⟩
    have z4 := hO4.1.size
    have hsz : w3.heap.size + 1 ≤ w4.heap.size := by simpa using z4
    have Y4 := (Y3.alloc (.cells #[.int .i64 (-1), .int .i64 3] 3)).kept hO4.1 (by omega)
    have T4 := (T3.alloc (.cells #[.int .i64 (-1), .int .i64 3] 3)).kept hO4.1 (by omega)
    have B4 := (B3.alloc (by omega) (.cells #[.int .i64 (-1), .int .i64 3] 3)).trans (below_row hO4.1 (by omega) (by simp; omega))
    have Y5 := Y4.other (p := ⟨w2.heap.size, 1, none⟩) (by show w.heap.size ≠ w2.heap.size; omega) (.int .i64 y)
    have T5 := T4.set1 (.int .i64 y)
    have B5 := B4.setCell (p := ⟨w2.heap.size, 1, none⟩) (by show w.heap.size ≤ w2.heap.size; omega) (.int .i64 y)
    have R5 := R4.other (a := ⟨w2.heap.size, 1, none⟩) (by show rb ≠ w2.heap.size; omega) (by show W.heap.size ≤ w2.heap.size; omega) (.int .i64 y)
    obtain ⟨t0, t1, t2, tf0, tf1, tf2⟩ := T4.cells
    have s5 : w2.heap.size + 1 ≤ (w4.setCell ⟨w2.heap.size, 1, none⟩ (.int .i64 y)).heap.size := by simp [World.setCell]; omega
    clear Y3 T3 B3 R3 Y4 T4 B4 R4 hO4 z4
    go_wp2_with fail
    generalize w4.setCell ⟨w2.heap.size, 1, none⟩ (.int .i64 y) = W5 at Y5 T5 B5 R5 s5 ⊢
    clear t0 t1 t2 tf0 tf1 tf2
    obtain ⟨t0, t1, t2, _⟩ := T5.cells
    have hLIT := lit5V W5 2 3 1 0 5
    have RL := (R5.alloc (.cells #[.int .i64 2, .int .i64 3, .int .i64 1, .int .i64 0, .int .i64 5] 3)).drew
    have hrl5 : W5.heap.size ≠ rb := by have := R5.lt; omega
    have hwv : w2.heap.size ≠ w.heap.size := by omega
    go_region_held3 (fun w' => w'.cell? ⟨w2.heap.size, 0, none⟩ = some (.int .i64 k) ∧ w'.cell? ⟨w2.heap.size, 1, none⟩ = some (.int .i64 y) ∧ w'.cell? ⟨w2.heap.size, 2, none⟩ = some (.int .i64 q))
      (((try dsimp only); (repeat' apply And.intro) <;> (with_reducible (first | exact cellF3 p0 hwv _ _ _ | exact cellF3 p1 hwv _ _ _ | exact cellF3 p2 hwv _ _ _ | exact p0 | exact p1 | exact p2 | exact cellD (cellA t0 _) | exact cellD (cellA t1 _) | exact cellD (cellA t2 _) | exact cellA (cellD t0) _ | exact cellA (cellD t1) _ | exact cellA (cellD t2) _ | exact cellD t0 | exact cellD t1 | exact cellD t2 | exact t0 | exact t1 | exact t2))))
      ((go_at_call 54; (with_reducible refine (num_any (W5.alloc (.cells #[.int .i64 2, .int .i64 3, .int .i64 1, .int .i64 0, .int .i64 5] 3)).drew _ _ _ _ _ _ RL (by omega) _ _ _ [2, 3, 1, 0, 5] 0 hLIT rfl (by decide) (by decide) hrl5).mono ?_); rintro e w9 ⟨y9, hy9, rfl, R9, hO9⟩; (have T9 := Blk3.kept ((T5.alloc (.cells #[.int .i64 2, .int .i64 3, .int .i64 1, .int .i64 0, .int .i64 5] 3)).drew) hO9.1 (by omega)); (have Y9 := Blk3.kept ((Y5.alloc (.cells #[.int .i64 2, .int .i64 3, .int .i64 1, .int .i64 0, .int .i64 5] 3)).drew) hO9.1 (by omega)); (obtain ⟨p0, p1, p2, _⟩ := T9.cells); (obtain ⟨y0, y1, y2, yf0, yf1, yf2⟩ := Y9.cells)))
    rename_i hHeld
    clear hHeld
    have B9 : Below w.heap.size w w9 := (B5.alloc (by omega) (.cells #[.int .i64 2, .int .i64 3, .int .i64 1, .int .i64 0, .int .i64 5] 3)).drew.trans (below_row hO9.1 (by omega) (by show w.heap.size ≤ (W5.alloc _).heap.size; simp; omega))
    have hy : 0 ≤ y9 ∧ y9 ≤ 5 := by simp only [List.mem_cons, List.not_mem_nil, or_false] at hy9; omega
    obtain ⟨e0, e1, e2⟩ := cells3 (.int .i64 k) (.int .i64 y) (.int .i64 q) y0 y1 y2
    have BF := ((B9.setCell (p := ⟨w.heap.size, 0, none⟩) (Nat.le_refl _) (.int .i64 k)).setCell (p := ⟨w.heap.size, 1, none⟩) (Nat.le_refl _) (.int .i64 y)).setCell (p := ⟨w.heap.size, 2, none⟩) (Nat.le_refl _) (.int .i64 q)
    clear hy9 t0 t1 t2 p0 p1 p2 T5 T9 Y5 Y9 B5 B9 R5 R9 RL hLIT
    go_wp2_with fail
    refine bodyPost_ret (v := .tuple #[.agg #[.int .i64 k, .int .i64 y, .int .i64 q], .int .i64 y9]) ?_ rfl ⟨⟨k, y, q⟩, y9, rfl, hy, BF⟩
    simp [results, Try.results26, go_sem, e0, e1, e2]
  · go_wp2_with fail
    refine (num_any _ _ _ _ _ _ _ (R3.alloc _) (by omega) _ _ _ [-1, 3, 1] 0 (Row.lit_at (by first | rfl | omega) [-1, 3, 1] (by decide)) rfl (by decide) (by decide) (by omega)).mono ?_
    rintro e w4 ⟨y, _, rfl, R4, hO4⟩
    have z4 := hO4.1.size
    have hsz : w3.heap.size + 1 ≤ w4.heap.size := by simpa using z4
    have Y4 := (Y3.alloc (.cells #[.int .i64 (-1), .int .i64 3, .int .i64 1] 3)).kept hO4.1 (by omega)
    have T4 := (T3.alloc (.cells #[.int .i64 (-1), .int .i64 3, .int .i64 1] 3)).kept hO4.1 (by omega)
    have B4 := (B3.alloc (by omega) (.cells #[.int .i64 (-1), .int .i64 3, .int .i64 1] 3)).trans (below_row hO4.1 (by omega) (by simp; omega))
    have Y5 := Y4.other (p := ⟨w2.heap.size, 2, none⟩) (by show w.heap.size ≠ w2.heap.size; omega) (.int .i64 y)
    have T5 := T4.set2 (.int .i64 y)
    have B5 := B4.setCell (p := ⟨w2.heap.size, 2, none⟩) (by show w.heap.size ≤ w2.heap.size; omega) (.int .i64 y)
    have R5 := R4.other (a := ⟨w2.heap.size, 2, none⟩) (by show rb ≠ w2.heap.size; omega) (by show W.heap.size ≤ w2.heap.size; omega) (.int .i64 y)
    obtain ⟨t0, t1, t2, tf0, tf1, tf2⟩ := T4.cells
    have s5 : w2.heap.size + 1 ≤ (w4.setCell ⟨w2.heap.size, 2, none⟩ (.int .i64 y)).heap.size := by simp [World.setCell]; omega
    clear Y3 T3 B3 R3 Y4 T4 B4 R4 hO4 z4
    go_wp2_with fail
    generalize w4.setCell ⟨w2.heap.size, 2, none⟩ (.int .i64 y) = W5 at Y5 T5 B5 R5 s5 ⊢
    clear t0 t1 t2 tf0 tf1 tf2
    obtain ⟨t0, t1, t2, _⟩ := T5.cells
    have hLIT := lit5V W5 2 3 1 0 5
    have RL := (R5.alloc (.cells #[.int .i64 2, .int .i64 3, .int .i64 1, .int .i64 0, .int .i64 5] 3)).drew
    have hrl5 : W5.heap.size ≠ rb := by have := R5.lt; omega
    have hwv : w2.heap.size ≠ w.heap.size := by omega
    go_region_held3 (fun w' => w'.cell? ⟨w2.heap.size, 0, none⟩ = some (.int .i64 k) ∧ w'.cell? ⟨w2.heap.size, 1, none⟩ = some (.int .i64 a) ∧ w'.cell? ⟨w2.heap.size, 2, none⟩ = some (.int .i64 y))
      (((try dsimp only); (repeat' apply And.intro) <;> (with_reducible (first | exact cellF3 p0 hwv _ _ _ | exact cellF3 p1 hwv _ _ _ | exact cellF3 p2 hwv _ _ _ | exact p0 | exact p1 | exact p2 | exact cellD (cellA t0 _) | exact cellD (cellA t1 _) | exact cellD (cellA t2 _) | exact cellA (cellD t0) _ | exact cellA (cellD t1) _ | exact cellA (cellD t2) _ | exact cellD t0 | exact cellD t1 | exact cellD t2 | exact t0 | exact t1 | exact t2))))
      ((go_at_call 54; (with_reducible refine (num_any (W5.alloc (.cells #[.int .i64 2, .int .i64 3, .int .i64 1, .int .i64 0, .int .i64 5] 3)).drew _ _ _ _ _ _ RL (by omega) _ _ _ [2, 3, 1, 0, 5] 0 hLIT rfl (by decide) (by decide) hrl5).mono ?_); rintro e w9 ⟨y9, hy9, rfl, R9, hO9⟩; (have T9 := Blk3.kept ((T5.alloc (.cells #[.int .i64 2, .int .i64 3, .int .i64 1, .int .i64 0, .int .i64 5] 3)).drew) hO9.1 (by omega)); (have Y9 := Blk3.kept ((Y5.alloc (.cells #[.int .i64 2, .int .i64 3, .int .i64 1, .int .i64 0, .int .i64 5] 3)).drew) hO9.1 (by omega)); (obtain ⟨p0, p1, p2, _⟩ := T9.cells); (obtain ⟨y0, y1, y2, yf0, yf1, yf2⟩ := Y9.cells)))
    rename_i hHeld
    clear hHeld
    have B9 : Below w.heap.size w w9 := (B5.alloc (by omega) (.cells #[.int .i64 2, .int .i64 3, .int .i64 1, .int .i64 0, .int .i64 5] 3)).drew.trans (below_row hO9.1 (by omega) (by show w.heap.size ≤ (W5.alloc _).heap.size; simp; omega))
    have hy : 0 ≤ y9 ∧ y9 ≤ 5 := by simp only [List.mem_cons, List.not_mem_nil, or_false] at hy9; omega
    obtain ⟨e0, e1, e2⟩ := cells3 (.int .i64 k) (.int .i64 a) (.int .i64 y) y0 y1 y2
    have BF := ((B9.setCell (p := ⟨w.heap.size, 0, none⟩) (Nat.le_refl _) (.int .i64 k)).setCell (p := ⟨w.heap.size, 1, none⟩) (Nat.le_refl _) (.int .i64 a)).setCell (p := ⟨w.heap.size, 2, none⟩) (Nat.le_refl _) (.int .i64 y)
    clear hy9 t0 t1 t2 p0 p1 p2 T5 T9 Y5 Y9 B5 B9 R5 R9 RL hLIT
    go_wp2_with fail
    refine bodyPost_ret (v := .tuple #[.agg #[.int .i64 k, .int .i64 a, .int .i64 y], .int .i64 y9]) ?_ rfl ⟨⟨k, a, y⟩, y9, rfl, hy, BF⟩
    simp [results, Try.results26, go_sem, e0, e1, e2]
  · have x0 : ((x : Int) == 0) = false := by rw [beq_eq_false_iff_ne]; omega
    have x1 : ((x : Int) == 1) = false := by rw [beq_eq_false_iff_ne]; omega
    have x2 : ((x : Int) == 2) = false := by rw [beq_eq_false_iff_ne]; omega
    go_wp2_with fail
    have Y5 := Y3
    have T5 := T3
    have B5 := B3
    have R5 := R3
    have s5 := s3
    clear Y3 T3 B3 R3 s3
    generalize w3 = W5 at Y5 T5 B5 R5 s5 ⊢
    obtain ⟨t0, t1, t2, _⟩ := T5.cells
    have hLIT := lit5V W5 2 3 1 0 5
    have RL := (R5.alloc (.cells #[.int .i64 2, .int .i64 3, .int .i64 1, .int .i64 0, .int .i64 5] 3)).drew
    have hrl5 : W5.heap.size ≠ rb := by have := R5.lt; omega
    have hwv : w2.heap.size ≠ w.heap.size := by omega
    go_region_held3 (fun w' => w'.cell? ⟨w2.heap.size, 0, none⟩ = some (.int .i64 k) ∧ w'.cell? ⟨w2.heap.size, 1, none⟩ = some (.int .i64 a) ∧ w'.cell? ⟨w2.heap.size, 2, none⟩ = some (.int .i64 q))
      (((try dsimp only); (repeat' apply And.intro) <;> (with_reducible (first | exact cellF3 p0 hwv _ _ _ | exact cellF3 p1 hwv _ _ _ | exact cellF3 p2 hwv _ _ _ | exact p0 | exact p1 | exact p2 | exact cellD (cellA t0 _) | exact cellD (cellA t1 _) | exact cellD (cellA t2 _) | exact cellA (cellD t0) _ | exact cellA (cellD t1) _ | exact cellA (cellD t2) _ | exact cellD t0 | exact cellD t1 | exact cellD t2 | exact t0 | exact t1 | exact t2))))
      ((go_at_call 54; (with_reducible refine (num_any (W5.alloc (.cells #[.int .i64 2, .int .i64 3, .int .i64 1, .int .i64 0, .int .i64 5] 3)).drew _ _ _ _ _ _ RL (by omega) _ _ _ [2, 3, 1, 0, 5] 0 hLIT rfl (by decide) (by decide) hrl5).mono ?_); rintro e w9 ⟨y9, hy9, rfl, R9, hO9⟩; (have T9 := Blk3.kept ((T5.alloc (.cells #[.int .i64 2, .int .i64 3, .int .i64 1, .int .i64 0, .int .i64 5] 3)).drew) hO9.1 (by omega)); (have Y9 := Blk3.kept ((Y5.alloc (.cells #[.int .i64 2, .int .i64 3, .int .i64 1, .int .i64 0, .int .i64 5] 3)).drew) hO9.1 (by omega)); (obtain ⟨p0, p1, p2, _⟩ := T9.cells); (obtain ⟨y0, y1, y2, yf0, yf1, yf2⟩ := Y9.cells)))
    rename_i hHeld
    clear hHeld
    have B9 : Below w.heap.size w w9 := (B5.alloc (by omega) (.cells #[.int .i64 2, .int .i64 3, .int .i64 1, .int .i64 0, .int .i64 5] 3)).drew.trans (below_row hO9.1 (by omega) (by show w.heap.size ≤ (W5.alloc _).heap.size; simp; omega))
    have hy : 0 ≤ y9 ∧ y9 ≤ 5 := by simp only [List.mem_cons, List.not_mem_nil, or_false] at hy9; omega
    obtain ⟨e0, e1, e2⟩ := cells3 (.int .i64 k) (.int .i64 a) (.int .i64 q) y0 y1 y2
    have BF := ((B9.setCell (p := ⟨w.heap.size, 0, none⟩) (Nat.le_refl _) (.int .i64 k)).setCell (p := ⟨w.heap.size, 1, none⟩) (Nat.le_refl _) (.int .i64 a)).setCell (p := ⟨w.heap.size, 2, none⟩) (Nat.le_refl _) (.int .i64 q)
    clear hy9 t0 t1 t2 p0 p1 p2 T5 T9 Y5 Y9 B5 B9 R5 R9 RL hLIT
    go_wp2_with fail
    refine bodyPost_ret (v := .tuple #[.agg #[.int .i64 k, .int .i64 a, .int .i64 q], .int .i64 y9]) ?_ rfl ⟨⟨k, a, q⟩, y9, rfl, hy, BF⟩
    simp [results, Try.results26, go_sem, e0, e1, e2]
end Go.Proofs.Ytlabljanddjleaa
