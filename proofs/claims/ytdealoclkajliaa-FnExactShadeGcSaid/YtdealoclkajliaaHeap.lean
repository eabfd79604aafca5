/- Heaps by value: valid, same, copied. -/
import Derived.Test.YtdealoclkajliaaMake
import Derived.Deep.RegionWith
import Derived.Deep.RegionHeld3
namespace Go.Proofs.Ytdealoclkajliaa
open Go.RowKit

def hvB (h : Hp) : Bool := decide (h.r.length = h.l.length) && szB h.l.length h.t.length && h.l.all (ptB · h.l.length) && h.r.all (ptB · h.l.length) && h.t.all (ptB · h.l.length)

/-- A Bool comes back, and nothing that was there has turned. -/
def RetB (w : World) (b : Bool) (e : Ending) (w' : World) : Prop := e = .returned (.bool b) ∧ Below w.heap.size w w'

set_option maxHeartbeats 400000 in
theorem implHeapValid_any (w : World) (lo : Nat) (v : Value) (h : Hp) (hv : Hv w lo v h) : Calls Try.prog 70 #[v] w (RetB w (hvB h)) := by
  obtain ⟨A0, n0, c0, A1, n1, c1, A2, n2, c2, rfl, ⟨h0, h1, h2⟩, ⟨l0, l1, l2⟩, ⟨m0, m1, m2⟩, _⟩ := hv.open_
  have k0 := h0.alloc (.cells #[.slice A0 n0 c0, .slice A1 n1 c1, .slice A2 n2 c2] 32)
  have k1 := h1.alloc (.cells #[.slice A0 n0 c0, .slice A1 n1 c1, .slice A2 n2 c2] 32)
  have k2 := h2.alloc (.cells #[.slice A0 n0 c0, .slice A1 n1 c1, .slice A2 n2 c2] 32)
  have hdef : Hid (hvB h = (decide (n1 = n0) && szB n0 n2 && h.l.all (ptB · n0) && h.r.all (ptB · n0) && h.t.all (ptB · n0))) := by
    unfold Hid hvB; rw [l0.out, l1.out, l2.out]
  have P0 := pointersValid_any _ _ _ _ _ _ k0 l0.out m0 (n0 : Int) (by omega)
  have P1 := pointersValid_any _ _ _ _ _ _ k1 l1.out m1 (n0 : Int) (by omega)
  have P2 := pointersValid_any _ _ _ _ _ _ k2 l2.out m2 (n0 : Int) (by omega)
  have S := sizesValid_any (n0 : Int) (n2 : Int)
  have fin : Below w.heap.size w (w.alloc (.cells #[.slice A0 n0 c0, .slice A1 n1 c1, .slice A2 n2 c2] 32)) := (Below.refl _ _).alloc (Nat.le_refl _) _
  clear k0 k1 k2 h0 h1 h2
  by_cases e1 : n1 = n0
  · subst e1
    have e1' : ((n1 : Int) != (n1 : Int)) = false := by simp
    rcases es : szB n1 n2
    · rw [es] at S hdef
      have hf : Hid (hvB h = false) := by unfold Hid; rw [hdef.out]; simp
      clear P0 P1 P2 es hdef
      go_enter Try.func70, Try.ntmps70
      go_wp2_with (go_at_call 85; refine (S _).mono ?_; rintro e w' ⟨rfl, rfl⟩)
      go_ret
      exact ⟨ret_bool hf.out.symm, fin⟩
    · rw [es] at S hdef
      rcases ea : h.l.all (ptB · n1)
      · rw [ea] at P0 hdef
        have hf : Hid (hvB h = false) := by unfold Hid; rw [hdef.out]; simp
        clear P1 P2 es hdef ea
        go_enter Try.func70, Try.ntmps70
        go_wp2_with (first | (go_at_call 85; refine (S _).mono ?_; rintro e w' ⟨rfl, rfl⟩) | (go_at_call 86; refine P0.mono ?_; rintro e w' ⟨rfl, rfl⟩))
        go_ret
        exact ⟨ret_bool hf.out.symm, fin⟩
      · rw [ea] at P0 hdef
        rcases eb : h.r.all (ptB · n1)
        · rw [eb] at P1 hdef
          have hf : Hid (hvB h = false) := by unfold Hid; rw [hdef.out]; simp
          clear P2 es hdef ea eb
          go_enter Try.func70, Try.ntmps70
          go_wp2_with fail
          refine (S _).mono ?_; rintro e w' ⟨rfl, rfl⟩
          go_wp2_with fail
          refine P0.mono ?_; rintro e w' ⟨rfl, rfl⟩
          go_wp2_with fail
          refine P1.mono ?_; rintro e w' ⟨rfl, rfl⟩
          go_wp2_with fail
          go_ret
          exact ⟨ret_bool hf.out.symm, fin⟩
        · rw [eb] at P1 hdef
          have hf : Hid (hvB h = h.t.all (ptB · n1)) := by unfold Hid; rw [hdef.out]; simp
          clear es hdef ea eb
          go_enter Try.func70, Try.ntmps70
          go_wp2_with fail
          refine (S _).mono ?_; rintro e w' ⟨rfl, rfl⟩
          go_wp2_with fail
          refine P0.mono ?_; rintro e w' ⟨rfl, rfl⟩
          go_wp2_with fail
          refine P1.mono ?_; rintro e w' ⟨rfl, rfl⟩
          go_wp2_with fail
          refine P2.mono ?_; rintro e w' ⟨rfl, rfl⟩
          go_wp2_with fail
          go_ret
          exact ⟨ret_bool hf.out.symm, fin⟩
  · have e1' : ((n1 : Int) != (n0 : Int)) = true := by simp; omega
    have hf : Hid (hvB h = false) := by unfold Hid; rw [hdef.out]; simp [e1]
    clear P0 P1 P2 S hdef
    go_enter Try.func70, Try.ntmps70
    go_wp2_with fail
    go_ret
    exact ⟨ret_bool hf.out.symm, fin⟩
end Go.Proofs.Ytdealoclkajliaa
