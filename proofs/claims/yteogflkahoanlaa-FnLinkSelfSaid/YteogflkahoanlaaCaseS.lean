/- spec.l4Case and the draws of chapter 4: stores, whatever they are. -/
import Derived.Test.YteogflkahoanlaaDrawss
import Derived.Test.YteogflkahoanlaaDraws
import Derived.Test.YteogflkahoanlaaStoKs
namespace Go.Proofs.Yteogflkahoanlaa
open Go.RowKit

/-- A store comes back, and nothing that was there has turned. -/
def DrawnS (w : World) (e : Ending) (w' : World) : Prop := ∃ v C, e = .returned v ∧ Cv w' w.heap.size v C ∧ Below w.heap.size w w'
/-- .. and a number. -/
def DrawnSI (w : World) (e : Ending) (w' : World) : Prop := ∃ v C x, e = .returned (.tuple #[v, .int .i64 x]) ∧ Cv w' w.heap.size v C ∧ Below w.heap.size w w'
/-- A store is laid into the result's block. -/
theorem laidS {w w3 : World} {b : Nat} {v0 v1 v2 v3 : Value} {C : Cp} (hb : w.heap.size ≤ b) (hc : Cv w3 (b + 1) (.agg #[v0, v1, v2, v3]) C) (hB : Below w.heap.size w w3) :
    Cv ((((w3.setCell ⟨b, 0, none⟩ v0).setCell ⟨b, 1, none⟩ v1).setCell ⟨b, 2, none⟩ v2).setCell ⟨b, 3, none⟩ v3) w.heap.size (.agg #[v0, v1, v2, v3]) C ∧ Below w.heap.size w ((((w3.setCell ⟨b, 0, none⟩ v0).setCell ⟨b, 1, none⟩ v1).setCell ⟨b, 2, none⟩ v2).setCell ⟨b, 3, none⟩ v3) := by
  have lt : b < b + 1 := by omega
  exact ⟨((((hc.set_low (p := ⟨b, 0, none⟩) lt _).set_low (p := ⟨b, 1, none⟩) lt _).set_low (p := ⟨b, 2, none⟩) lt _).set_low (p := ⟨b, 3, none⟩) lt _).mono (by omega), (((hB.setCell hb _).setCell hb _).setCell hb _).setCell hb _⟩

set_option maxRecDepth 100000 in
set_option maxHeartbeats 4000000 in
theorem l4Case_any (w : World) (A : Option Addr) (n c : Nat) (h : Inp w A n c) :
    Calls Try.prog 82 #[.slice A n c] w (DrawnSI w) := by
  have h0 := inp_alloc h (.cells #[.slice none 0 0, .slice none 0 0, .slice none 0 0, .slice none 0 0] 27)
  have Y0 := Blk4.new w (.slice none 0 0) (.slice none 0 0) (.slice none 0 0) (.slice none 0 0) 27
  have B0 : Below w.heap.size w (w.alloc (.cells #[.slice none 0 0, .slice none 0 0, .slice none 0 0, .slice none 0 0] 27)) := (Below.refl _ _).alloc (Nat.le_refl _) _
  have s0 : (w.alloc (.cells #[.slice none 0 0, .slice none 0 0, .slice none 0 0, .slice none 0 0] 27)).heap.size = w.heap.size + 1 := by simp
  go_enter Try.func82, Try.ntmps82
  go_wp2_with fail
  generalize w.alloc (.cells #[.slice none 0 0, .slice none 0 0, .slice none 0 0, .slice none 0 0] 27) = W at h0 Y0 B0 s0 ⊢
  refine (l13Open_any _ _ _ _ h0).mono ?_; rintro e w1 ⟨rb, A1, n1, c1, rfl, hR1, hb1⟩
  have hB := hR1.2.2.1
  have z1 := hb1.size
  have hl1 := hR1.lt
  go_wp2_with fail
  refine (l4Draw_any _ _ _ _ _ _ _ hR1 (by omega)).mono ?_; rintro e w2 ⟨v2, C2, p2, rfl, hv2, hC2, hR2, hp2, hg2⟩
  have z2 := hg2.size
  go_wp2_with fail
  refine (l4Wrong_any 8 (by omega) _ _ _ _ _ _ _ hR2 (by omega) _ _ _ hv2 (szS_valid hC2)).mono ?_; rintro e w3 ⟨v3, C3, p3, rfl, hv3, hz3, hR3, hp3, hg3⟩
  have z3 := hg3.size
  have hvo := hv3
  obtain ⟨A0, n0, k0, A1, n1, k1, A2, n2, k2, A3, n3, k3, rfl, _⟩ := hvo.open_
  have X4 := Blk4.new_at (w := w3) (b := w3.heap.size) rfl (.slice A0 n0 k0) (.slice A1 n1 k1) (.slice A2 n2 k2) (.slice A3 n3 k3) 27
  have Y4 := (((Y0.below hb1).kept hg2 (by omega)).kept hg3 (by omega)).alloc (.cells #[.slice A0 n0 k0, .slice A1 n1 k1, .slice A2 n2 k2, .slice A3 n3 k3] 27)
  have B4 := (((B0.trans (hb1.mono (by omega))).trans (below_row hg2 (by omega) (by omega))).trans (below_row hg3 (by omega) (by omega))).alloc (by omega) (.cells #[.slice A0 n0 k0, .slice A1 n1 k1, .slice A2 n2 k2, .slice A3 n3 k3] 27)
  have H4 := hv3.alloc (.cells #[.slice A0 n0 k0, .slice A1 n1 k1, .slice A2 n2 k2, .slice A3 n3 k3] 27)
  have R4 := hR3.alloc (.cells #[.slice A0 n0 k0, .slice A1 n1 k1, .slice A2 n2 k2, .slice A3 n3 k3] 27)
  have z4 : (w3.alloc (.cells #[.slice A0 n0 k0, .slice A1 n1 k1, .slice A2 n2 k2, .slice A3 n3 k3] 27)).heap.size = w3.heap.size + 1 := by simp
  clear hv2 hv3 hvo hR1 hR2 hR3 h0 Y0 B0 hb1 hg2 hg3 h
  go_wp2_with fail
  refine (num_any _ _ _ _ _ _ _ (R4.alloc _) (by omega) _ _ _ [0, 1, 2, 3, 8, -1] 0 (Row.lit_at (by simp) [0, 1, 2, 3, 8, -1] (by decide)) rfl (by decide) (by decide) (by omega)).mono ?_
  rintro e w5 ⟨x, hx, rfl, hR5, hO5⟩
  have X5 := (X4.alloc (.cells #[.int .i64 0, .int .i64 1, .int .i64 2, .int .i64 3, .int .i64 8, .int .i64 (-1)] 3)).kept hO5.1 (by omega)
  have Y5 := (Y4.alloc (.cells #[.int .i64 0, .int .i64 1, .int .i64 2, .int .i64 3, .int .i64 8, .int .i64 (-1)] 3)).kept hO5.1 (by omega)
  have H5 := (H4.alloc (.cells #[.int .i64 0, .int .i64 1, .int .i64 2, .int .i64 3, .int .i64 8, .int .i64 (-1)] 3)).kept_low hO5.1 (by omega)
  have B5 := (B4.alloc (by rw [z4]; omega) (.cells #[.int .i64 0, .int .i64 1, .int .i64 2, .int .i64 3, .int .i64 8, .int .i64 (-1)] 3)).trans (below_row hO5.1 (by omega) (by simp; omega))
  have z5 : w3.heap.size + 2 ≤ w5.heap.size := by have := hO5.2; simp at this; omega
  have L := specLeaked_any w5 _ _ C3 H5
  obtain ⟨x0, x1, x2, x3, _⟩ := X5.cells
  clear X4 Y4 H4 R4 B4 hx hO5 z4
  go_wp2_with fail
  refine L.mono ?_; rintro e w6 ⟨G, q, rfl, hr6, hb6⟩
  have X6 := X5.below hb6
  have Y6 := Y5.below hb6
  have H6 := H5.below hb6
  have B6 := B5.trans (hb6.mono (by omega))
  have R6 := hR5.below hb6
  have z6 := hb6.size
  have hlb := Lib.hid (fun b hb => (hr6.lt b hb).1 : ∀ b, (Value.slice G (leakL C3).length q).ownBlock = some b → w5.heap.size ≤ b)
  have hlk : (leakL C3).length ≤ 8 := by
    unfold leakL; split
    · exact Nat.le_trans (leakN_len _ _ _) (garb_len C3.h)
    · simp
  generalize leakL C3 = gs at hr6 hlk hlb ⊢
  generalize hgn : gs.length = gn at hr6 hlk hlb ⊢
  have HG := Lib.hid hgn
  clear hgn L x0 x1 x2 x3 X5 Y5 H5 B5 hR5 hb6
  by_cases g0 : gn = 0
  · subst g0
    clear hr6
    obtain ⟨x0, x1, x2, x3, _⟩ := X6.cells
    obtain ⟨y0, y1, y2, y3, i0, i1, i2, i3⟩ := Y6.cells
    obtain ⟨hH, hBf⟩ := laidS (w := w) (b := w.heap.size) (Nat.le_refl _) (H6.mono (by omega)) B6
    go_wp2_with fail
    refine bodyPost_ret (v := .tuple #[.agg #[.slice A0 n0 k0, .slice A1 n1 k1, .slice A2 n2 k2, .slice A3 n3 k3], .int .i64 x]) ?_ rfl ⟨_, C3, _, rfl, hH, hBf⟩
    simp [results, Try.results82, go_sem, y0, y1, y2, y3]
  · have g1 : (0 : Int) < (gn : Int) := by omega
    go_wp2_with fail
    refine (pick_any _ _ _ _ _ _ _ R6 2 (by omega) (by omega) (by omega)).mono ?_; rintro e w7 ⟨y, rfl, hy, hR7, hO7⟩
    have X7 := X6.kept hO7.1 (by omega)
    have Y7 := Y6.kept hO7.1 (by omega)
    have H7 := H6.kept_low hO7.1 (by omega)
    have B7 := B6.trans (below_row hO7.1 (by omega) (by omega))
    have r7 := hr6.kept hO7.1 (.inr fun e => by have := hlb.out rb e; omega)
    have z7 := hO7.2
    clear X6 Y6 H6 B6 R6 hr6 hO7
    by_cases y0 : y = 0
    · subst y0
      have g2 : 1 ≤ (gn : Int) := by omega
      go_wp2_with fail
      refine (pick_any _ _ _ _ _ _ _ hR7 (gn : Int) g2 (by omega) (by omega)).mono ?_; rintro e w8 ⟨y, rfl, hy, hR8, hO8⟩
      have X8 := X7.kept hO8.1 (by omega)
      have Y8 := Y7.kept hO8.1 (by omega)
      have H8 := H7.kept_low hO8.1 (by omega)
      have B8 := B7.trans (below_row hO8.1 (by omega) (by omega))
      have r8 := r7.kept hO8.1 (.inr fun e => by have := hlb.out rb e; omega)
      have hyg : (y : Int) < (gn : Int) := by omega
      obtain ⟨gg, z, rfl, _, _, _, hcz, _⟩ := r8.get (k := y) (by rw [HG.out]; omega)
      clear X7 Y7 H7 B7 hR7 r7 hO8 r8
      obtain ⟨x0, x1, x2, x3, _⟩ := X8.cells
      obtain ⟨y0, y1, y2, y3, i0, i1, i2, i3⟩ := Y8.cells
      obtain ⟨hH, hBf⟩ := laidS (w := w) (b := w.heap.size) (Nat.le_refl _) (H8.mono (by omega)) B8
      go_wp2_with fail
      refine bodyPost_ret (v := .tuple #[.agg #[.slice A0 n0 k0, .slice A1 n1 k1, .slice A2 n2 k2, .slice A3 n3 k3], .int .i64 z]) ?_ rfl ⟨_, C3, _, rfl, hH, hBf⟩
      simp [results, Try.results82, go_sem, y0, y1, y2, y3]
    · obtain rfl : y = 1 := by omega
      clear r7
      obtain ⟨x0, x1, x2, x3, _⟩ := X7.cells
      obtain ⟨y0, y1, y2, y3, i0, i1, i2, i3⟩ := Y7.cells
      obtain ⟨hH, hBf⟩ := laidS (w := w) (b := w.heap.size) (Nat.le_refl _) (H7.mono (by omega)) B7
      go_wp2_with fail
      refine bodyPost_ret (v := .tuple #[.agg #[.slice A0 n0 k0, .slice A1 n1 k1, .slice A2 n2 k2, .slice A3 n3 k3], .int .i64 x]) ?_ rfl ⟨_, C3, _, rfl, hH, hBf⟩
      simp [results, Try.results82, go_sem, y0, y1, y2, y3]

set_option maxHeartbeats 1000000 in
theorem drawCollectStore_any (w : World) (A : Option Addr) (n c : Nat) (h : Inp w A n c) :
    Calls Try.prog 58 #[.slice A n c] w (DrawnS w) := by
  have h0 := inp_alloc h (.cells #[.slice none 0 0, .slice none 0 0, .slice none 0 0, .slice none 0 0] 27)
  have Y0 := Blk4.new w (.slice none 0 0) (.slice none 0 0) (.slice none 0 0) (.slice none 0 0) 27
  have B0 : Below w.heap.size w (w.alloc (.cells #[.slice none 0 0, .slice none 0 0, .slice none 0 0, .slice none 0 0] 27)) := (Below.refl _ _).alloc (Nat.le_refl _) _
  have s0 : (w.alloc (.cells #[.slice none 0 0, .slice none 0 0, .slice none 0 0, .slice none 0 0] 27)).heap.size = w.heap.size + 1 := by simp
  go_enter Try.func58, Try.ntmps58
  go_wp2_with fail
  generalize w.alloc (.cells #[.slice none 0 0, .slice none 0 0, .slice none 0 0, .slice none 0 0] 27) = W at h0 Y0 B0 s0 ⊢
  refine (l4Case_any _ _ _ _ h0).mono ?_; rintro e w1 ⟨v3, C3, x, rfl, hv3, hb1⟩
  have z1 := hb1.size
  obtain ⟨A0, n0, k0, A1, n1, k1, A2, n2, k2, A3, n3, k3, rfl, _⟩ := hv3.open_
  have B3 := (B0.trans (hb1.mono (by omega))).alloc (by omega) (.cells #[.slice A0 n0 k0, .slice A1 n1 k1, .slice A2 n2 k2, .slice A3 n3 k3] 27)
  obtain ⟨hH, hBf⟩ := laidS (w := w) (b := w.heap.size) (Nat.le_refl _) ((hv3.mono (by omega)).alloc (.cells #[.slice A0 n0 k0, .slice A1 n1 k1, .slice A2 n2 k2, .slice A3 n3 k3] 27)) B3
  obtain ⟨y0, y1, y2, y3, i0, i1, i2, i3⟩ := ((Y0.below hb1).alloc (.cells #[.slice A0 n0 k0, .slice A1 n1 k1, .slice A2 n2 k2, .slice A3 n3 k3] 27)).cells
  clear hv3 Y0 B3
  go_wp2_with fail
  refine bodyPost_ret (v := .agg #[.slice A0 n0 k0, .slice A1 n1 k1, .slice A2 n2 k2, .slice A3 n3 k3]) ?_ rfl ⟨_, C3, rfl, hH, hBf⟩
  simp [results, Try.results58, go_sem, y0, y1, y2, y3]

end Go.Proofs.Yteogflkahoanlaa
