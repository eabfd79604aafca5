/- The draw of RunOps. -/
import Derived.Test.YtdifplakkepnkaaDrawOs
import Derived.Test.YtdifplakkepnkaaCaseS
import Derived.Test.YtdifplakkepnkaaSDoH
namespace Go.Proofs.Ytdifplakkepnkaa
open Go.RowKit

/-- A store and a program come back, and nothing that was there has turned. -/
def DrawnSOs (w : World) (e : Ending) (w' : World) : Prop := ∃ (v : Value) (C : Cp) (os : List Opv) (A' : Option Addr) (c' : Nat), e = .returned (.tuple #[v, .slice A' os.length c']) ∧ Cv w' w.heap.size v C ∧ ORow w' w.heap.size (.slice A' os.length c') os ∧ (os.length ≤ 9 ∧ ∀ o ∈ os, opB o 3 = true) ∧ Below w.heap.size w w'

set_option maxRecDepth 100000 in
set_option maxHeartbeats 4000000 in
theorem drawRunOps_any (w : World) (A : Option Addr) (n c : Nat) (h : Inp w A n c) :
    Calls Try.prog 32 #[.slice A n c] w (DrawnSOs w) := by
  have h0 := inp_alloc h (.cells #[.slice none 0 0, .slice none 0 0, .slice none 0 0, .slice none 0 0] 27)
  have Y0 := Blk4.new w (.slice none 0 0) (.slice none 0 0) (.slice none 0 0) (.slice none 0 0) 27
  have B0 : Below w.heap.size w (w.alloc (.cells #[.slice none 0 0, .slice none 0 0, .slice none 0 0, .slice none 0 0] 27)) := (Below.refl _ _).alloc (Nat.le_refl _) _
  have s0 : w.heap.size + 1 ≤ (w.alloc (.cells #[.slice none 0 0, .slice none 0 0, .slice none 0 0, .slice none 0 0] 27)).heap.size := by simp
  go_enter Try.func32, Try.ntmps32
  go_wp2_with fail
  generalize w.alloc (.cells #[.slice none 0 0, .slice none 0 0, .slice none 0 0, .slice none 0 0] 27) = W at h0 Y0 B0 s0 ⊢
  refine (l13Open_any _ _ _ _ h0).mono ?_; rintro e w1 ⟨rb, A1, n1, c1, rfl, hR1, hb1⟩
  have hB := hR1.2.2.1
  have z1 := hb1.size
  have hl1 := hR1.lt
  go_wp2_with fail
  refine (l4Draw_any _ _ _ _ _ _ _ hR1 (by omega)).mono ?_; rintro e w2 ⟨v2, C2, p2, rfl, hv2, hC2, hR2, hp2, hg2⟩
  have z2 := hg2.size
  go_wp2_with fail
  refine (l4Wrong_any 8 (by omega) _ _ _ _ _ _ _ hR2 (by omega) _ _ _ hv2 (szS_valid hC2)).mono ?_; rintro e w3 ⟨v3, C3, p3, rfl, hv3, hz3, hR3, hp3, hg3⟩
  have z3 := hg3.size
  go_wp2_with fail
  refine (l5Ops_any _ _ _ _ _ _ _ hR3 (by omega)).mono ?_; rintro e w4 ⟨os, A', c', rfl, U4, hos, _, hg4⟩
  have z4 := hg4.size
  have Y4 := (((Y0.below hb1).kept hg2 (by omega)).kept hg3 (by omega)).kept hg4 (by omega)
  have B4 := (((B0.trans (hb1.mono (by omega))).trans (below_row hg2 (by omega) (by omega))).trans (below_row hg3 (by omega) (by omega))).trans (below_row hg4 (by omega) (by omega))
  have H4 : Cv w4 (w.heap.size + 1) v3 C3 := (hv3.kept_low hg4 (by omega)).mono (by omega)
  have U5 := U4.mono (lo' := w.heap.size + 1) (by omega)
  have hvo := H4
  obtain ⟨A0, n0, k0, A1', n1', k1, A2, n2, k2, A3, n3, k3, rfl, _⟩ := hvo.open_
  clear hv2 hv3 hvo hR1 hR2 hR3 h0 Y0 B0 hb1 hg2 hg3 hg4 h U4
  obtain ⟨y0, y1, y2, y3, f0, f1, f2, f3⟩ := Y4.cells
  obtain ⟨e0, e1, e2, e3⟩ := cells4 (.slice A0 n0 k0) (.slice A1' n1' k1) (.slice A2 n2 k2) (.slice A3 n3 k3) y0 y1 y2 y3
  have H5 := (H4.set4O (H4.ownLt w.heap.size (.inl (by omega))) (.slice A0 n0 k0) (.slice A1' n1' k1) (.slice A2 n2 k2) (.slice A3 n3 k3)).mono (lo' := w.heap.size) (by omega)
  have B5 := below_set4 B4 (Nat.le_refl _) (.slice A0 n0 k0) (.slice A1' n1' k1) (.slice A2 n2 k2) (.slice A3 n3 k3)
  have U6 : ORow ((((w4.setCell ⟨w.heap.size, 0, none⟩ (.slice A0 n0 k0)).setCell ⟨w.heap.size, 1, none⟩ (.slice A1' n1' k1)).setCell ⟨w.heap.size, 2, none⟩ (.slice A2 n2 k2)).setCell ⟨w.heap.size, 3, none⟩ (.slice A3 n3 k3)) w.heap.size (.slice A' os.length c') os := by
    have f : ∀ i : Nat, (Value.slice A' os.length c').ownBlock ≠ some (⟨w.heap.size, i, none⟩ : Addr).block := fun i e => by have := (U5.lt _ e).1; simp at this; omega
    have U7 := U5.mono (lo' := w.heap.size) (by omega)
    unfold ORow at *
    exact ownsRow_setCell_other (ownsRow_setCell_other (ownsRow_setCell_other (ownsRow_setCell_other U7 (f 0) _) (f 1) _) (f 2) _) (f 3) _
  clear Y4 B4 H4 U5
  generalize hn : os.length = n9 at U6 hos ⊢
  go_wp2_with fail
  refine bodyPost_ret (v := .tuple #[.agg #[.slice A0 n0 k0, .slice A1' n1' k1, .slice A2 n2 k2, .slice A3 n3 k3], .slice A' n9 c']) ?_ rfl ⟨_, C3, os, A', c', by rw [hn], H5, by rw [hn]; exact U6, by rw [hn]; exact hos, B5⟩
  simp [results, Try.results32, go_sem, e0, e1, e2, e3]
end Go.Proofs.Ytdifplakkepnkaa
