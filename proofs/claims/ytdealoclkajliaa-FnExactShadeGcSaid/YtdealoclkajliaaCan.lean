/- canPut, l1Cell. -/
import Derived.Test.YtdealoclkajliaaHeap2
import Derived.Test.YtdealoclkajliaaNew
import Derived.Test.YtdealoclkajliaaCopys
namespace Go.Proofs.Ytdealoclkajliaa
open Go.RowKit

set_option maxHeartbeats 1000000 in
theorem l1Cell_any (w : World) (lo : Nat) (v : Value) (h : Hp) (hv : Hv w lo v h) (x : Int) :
    Calls Try.prog 62 #[v, .int .i64 x] w (RetB w (hvB h && plB x h.l.length)) := by
  obtain ⟨A0, n0, c0, A1, n1, c1, A2, n2, c2, rfl, ⟨h0, h1, h2⟩, ⟨l0, l1, l2⟩, _⟩ := hv.open_
  have X0 := Blk3.new w (.slice A0 n0 c0) (.slice A1 n1 c1) (.slice A2 n2 c2) 32
  have V := specHeapValid_any _ _ _ _ (hv.alloc (.cells #[.slice A0 n0 c0, .slice A1 n1 c1, .slice A2 n2 c2] 32))
  have fin : Below w.heap.size w (w.alloc (.cells #[.slice A0 n0 c0, .slice A1 n1 c1, .slice A2 n2 c2] 32)) := (Below.refl _ _).alloc (Nat.le_refl _) _
  have hdef : Hid ((hvB h && plB x h.l.length) = (hvB h && plB x n0)) := by unfold Hid; rw [l0.out]
  rcases ev : hvB h
  · rw [ev] at V
    have hf : Hid ((false && plB x h.l.length) = false) := by unfold Hid; simp
    clear ev hdef
    go_enter Try.func62, Try.ntmps62
    go_wp2_with fail
    refine V.mono ?_; rintro e w1 ⟨rfl, hb1⟩
    go_wp2_with fail
    go_ret
    exact ⟨ret_bool hf.out.symm, fin.trans (hb1.mono (by simp))⟩
  · rw [ev] at V hdef
    clear ev
    by_cases g1 : 0 ≤ x
    · by_cases g2 : x < n0
      · have hf : Hid ((true && plB x h.l.length) = true) := by unfold Hid; rw [hdef.out]; simp [plB, g1, g2]
        clear hdef
        go_enter Try.func62, Try.ntmps62
        go_wp2_with fail
        refine V.mono ?_; rintro e w1 ⟨rfl, hb1⟩
        obtain ⟨p0, p1, p2, _⟩ := (Blk3.below (by exact X0) hb1).cells
        go_wp2_with fail
        go_ret
        exact ⟨ret_bool hf.out.symm, fin.trans (hb1.mono (by simp))⟩
      · have hf : Hid ((true && plB x h.l.length) = false) := by unfold Hid; rw [hdef.out]; simp [plB, g1, g2]
        have g2' : decide (x < (n0 : Int)) = false := by simp; omega
        clear hdef
        go_enter Try.func62, Try.ntmps62
        go_wp2_with fail
        refine V.mono ?_; rintro e w1 ⟨rfl, hb1⟩
        obtain ⟨p0, p1, p2, _⟩ := (Blk3.below (by exact X0) hb1).cells
        go_wp2_with fail
        go_ret
        exact ⟨ret_bool hf.out.symm, fin.trans (hb1.mono (by simp))⟩
    · have hf : Hid ((true && plB x h.l.length) = false) := by unfold Hid; rw [hdef.out]; simp [plB, g1]
      clear hdef
      go_enter Try.func62, Try.ntmps62
      go_wp2_with fail
      refine V.mono ?_; rintro e w1 ⟨rfl, hb1⟩
      go_wp2_with fail
      go_ret
      exact ⟨ret_bool hf.out.symm, fin.trans (hb1.mono (by simp))⟩
end Go.Proofs.Ytdealoclkajliaa
