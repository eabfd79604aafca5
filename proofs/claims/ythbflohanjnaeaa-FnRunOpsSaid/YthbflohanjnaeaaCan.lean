/- canPut, l1Cell. -/
import Derived.Test.YthbflohanjnaeaaHeap2
import Derived.Test.YthbflohanjnaeaaNew
import Derived.Test.YthbflohanjnaeaaCopys
namespace Go.Proofs.Ythbflohanjnaeaa
open Go.RowKit

set_option maxHeartbeats 1000000 in
theorem canPut_any (w : World) (lo : Nat) (v : Value) (h : Hp) (hv : Hv w lo v h) (A : Option Addr) (n c : Nat) (x y : Int) :
    Calls Try.prog 50 #[v, .slice A n c, .int .i64 x, .int .i64 y] w (RetB w (hvB h && plB x n && ptB y h.l.length)) := by
  obtain ⟨A0, n0, c0, A1, n1, c1, A2, n2, c2, rfl, ⟨h0, h1, h2⟩, ⟨l0, l1, l2⟩, _⟩ := hv.open_
  have X0 := Blk3.new w (.slice A0 n0 c0) (.slice A1 n1 c1) (.slice A2 n2 c2) 25
  have V := implHeapValid_any _ _ _ _ (hv.alloc (.cells #[.slice A0 n0 c0, .slice A1 n1 c1, .slice A2 n2 c2] 25))
  have fin : Below w.heap.size w (w.alloc (.cells #[.slice A0 n0 c0, .slice A1 n1 c1, .slice A2 n2 c2] 25)) := (Below.refl _ _).alloc (Nat.le_refl _) _
  have PL := hasPlace_any A n c x
  have PV := pointerValid_any y n0 (by omega)
  have hdef : Hid ((hvB h && plB x n && ptB y h.l.length) = (hvB h && plB x n && ptB y n0)) := by unfold Hid; rw [l0.out]
  rcases ev : hvB h
  · rw [ev] at V
    have hf : Hid ((false && plB x n && ptB y h.l.length) = false) := by unfold Hid; simp
    clear ev hdef
    go_enter Try.func50, Try.ntmps50
    go_wp2_with fail
    refine V.mono ?_; rintro e w1 ⟨rfl, hb1⟩
    go_wp2_with fail
    go_ret
    exact ⟨ret_bool hf.out.symm, fin.trans (hb1.mono (by simp))⟩
  · rw [ev] at V hdef
    rcases ep : plB x n
    · rw [ep] at PL
      have hf : Hid ((true && false && ptB y h.l.length) = false) := by unfold Hid; simp
      clear ev ep hdef
      go_enter Try.func50, Try.ntmps50
      go_wp2_with fail
      refine V.mono ?_; rintro e w1 ⟨rfl, hb1⟩
      go_wp2_with fail
      refine (PL _).mono ?_; rintro e w' ⟨rfl, rfl⟩
      go_wp2_with fail
      go_ret
      exact ⟨ret_bool hf.out.symm, fin.trans (hb1.mono (by simp))⟩
    · rw [ep] at PL hdef
      have hf : Hid ((true && true && ptB y h.l.length) = ptB y n0) := by unfold Hid; rw [hdef.out]; simp
      clear ev ep hdef
      go_enter Try.func50, Try.ntmps50
      go_wp2_with fail
      refine V.mono ?_; rintro e w1 ⟨rfl, hb1⟩
      obtain ⟨p0, p1, p2, _⟩ := (Blk3.below (by exact X0) hb1).cells
      go_wp2_with fail
      refine (PL _).mono ?_; rintro e w' ⟨rfl, rfl⟩
      go_wp2_with fail
      refine (PV _).mono ?_; rintro e w' ⟨rfl, rfl⟩
      go_wp2_with fail
      go_ret
      exact ⟨ret_bool hf.out.symm, fin.trans (hb1.mono (by simp))⟩

end Go.Proofs.Ythbflohanjnaeaa
