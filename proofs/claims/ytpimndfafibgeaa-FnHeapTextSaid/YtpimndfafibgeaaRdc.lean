/- impl.heapReader: cells and roots. -/
import Derived.Test.YtpimndfafibgeaaRdl
namespace Go.Proofs.Ytpimndfafibgeaa
open Go.RowKit

/-- A cell's text comes next. -/
def cellAt (s : ByteArray) (a : Nat) (x y : Int) : Prop := rdP s a = some x ∧ rdP s (a + 1) = some y ∧ nextB s (a + 2) 32 = true
def CellRd (w : World) (b : Nat) (s : ByteArray) (σ : RdS) (e : Ending) (w' : World) : Prop :=
  Below b w w' ∧ ((∃ x y, cellAt s σ.a x y ∧ e = .returned (.bool true) ∧ RB w' b 8 s { σ with a := σ.a + 3, ls := σ.ls ++ [x], rs := σ.rs ++ [y], ps := y :: x :: σ.ps }) ∨
    ((∀ x y, ¬ cellAt s σ.a x y) ∧ e = .returned (.bool false) ∧ ∃ σ' : RdS, RB w' b 8 s σ' ∧ σ'.n = σ.n))

theorem ptrV_form (b : Nat) (x : Int) : ∃ p, ptrV b x = .pointer p := by
  unfold ptrV
  split
  · exact ⟨none, rfl⟩
  · exact ⟨_, rfl⟩

set_option maxRecDepth 100000 in
set_option maxHeartbeats 1000000 in
theorem readCell_any (w : World) (b : Nat) (s : ByteArray) (hs : s.size ≤ 1048576) (σ : RdS) (h : RB w b 8 s σ) (k : Nat) (hk : k < 8) (hl : σ.ls.length = k) (hr : σ.rs.length = k) :
    Calls Try.prog 54 #[.pointer (some ⟨b, 0, none⟩), .pointer (some ⟨b, 2 + k * 3, none⟩)] w (CellRd w b s σ) := by
  have P1 := readPtr_any w b s hs σ h
  have HL := Lib.hid hl
  have HR := Lib.hid hr
  clear hl hr h
  go_enter Try.func54, Try.ntmps54
  go_wp2_with fail
  refine P1.mono ?_; rintro e w1 ⟨hb1, ⟨x, hx, rfl, h1⟩ | ⟨hx, rfl, h1⟩⟩
  · obtain ⟨px, hpx⟩ := ptrV_form b x
    obtain ⟨q1, f1⟩ := h1.get (o := 2 + k * 3 + 1) (by omega) (slot_left k hk)
    have h2 := h1.setLeft hk HL.out x
    rw [hpx] at h2 ⊢
    have hb2 := hb1.setCell (p := ⟨b, 2 + k * 3 + 1, none⟩) (Nat.le_refl b) (.pointer px)
    have P2 := readPtr_any _ b s hs _ h2
    have HX := Lib.hid hx
    clear h1 P1 h2 hpx hx
    go_wp2_with fail
    refine P2.mono ?_; rintro e w3 ⟨hb3, ⟨y, hy, rfl, h3⟩ | ⟨hy, rfl, h3⟩⟩
    · obtain ⟨py, hpy⟩ := ptrV_form b y
      obtain ⟨q3, f3⟩ := h3.get (o := 2 + k * 3 + 2) (by omega) (slot_right k hk)
      have h4 := h3.setRight hk HR.out y
      rw [hpy] at h4 ⊢
      have hb4 := (hb2.trans hb3).setCell (p := ⟨b, 2 + k * 3 + 2, none⟩) (Nat.le_refl b) (.pointer py)
      have HY := Lib.hid hy
      rcases hn : nextB s (σ.a + 2) 32
      · have L := letterMiss_any _ b s _ h4 32 hn
        have HN := Lib.hid hn
        clear h3 P2 h4 hpy hy hn
        go_wp2_with fail
        refine L.mono ?_; rintro e w5 ⟨rfl, h5, hb5⟩
        go_wp2_with fail
        go_ret
        exact ⟨hb4.trans hb5, .inr ⟨fun x' y' hc => (by have := hc.2.2; rw [HN.out] at this; cases this), rfl, _, h5, rfl⟩⟩
      · have L := letterHit_any _ b s hs _ h4 32 hn
        have HN := Lib.hid hn
        clear h3 P2 h4 hpy hy hn
        go_wp2_with fail
        refine L.mono ?_; rintro e w5 ⟨rfl, h5, hb5⟩
        go_wp2_with fail
        go_ret
        exact ⟨hb4.trans hb5, .inl ⟨x, y, ⟨HX.out, HY.out, HN.out⟩, rfl, h5⟩⟩
    · obtain ⟨q3, f3⟩ := h3.get (o := 2 + k * 3 + 2) (by omega) (slot_right k hk)
      have h4 := h3.setRight hk HR.out (-1)
      rw [show ptrV b (-1) = .pointer none from rfl] at h4
      have hb4 := (hb2.trans hb3).setCell (p := ⟨b, 2 + k * 3 + 2, none⟩) (Nat.le_refl b) (.pointer none)
      have HY := Lib.hid hy
      clear h3 P2 hy
      go_wp2_with fail
      go_ret
      exact ⟨hb4, .inr ⟨fun x' y' hc => (by have := hc.2.1; rw [HY.out] at this; cases this), rfl, _, h4, rfl⟩⟩
  · obtain ⟨q1, f1⟩ := h1.get (o := 2 + k * 3 + 1) (by omega) (slot_left k hk)
    have h2 := h1.setLeft hk HL.out (-1)
    rw [show ptrV b (-1) = .pointer none from rfl] at h2
    have hb2 := hb1.setCell (p := ⟨b, 2 + k * 3 + 1, none⟩) (Nat.le_refl b) (.pointer none)
    have P2 := readPtr_any _ b s hs _ h2
    have HX := Lib.hid hx
    clear h1 P1 h2 hx
    go_wp2_with fail
    refine P2.mono ?_; rintro e w3 ⟨hb3, ⟨y, hy, rfl, h3⟩ | ⟨hy, rfl, h3⟩⟩
    · obtain ⟨py, hpy⟩ := ptrV_form b y
      obtain ⟨q3, f3⟩ := h3.get (o := 2 + k * 3 + 2) (by omega) (slot_right k hk)
      have h4 := h3.setRight hk HR.out y
      rw [hpy] at h4 ⊢
      have hb4 := (hb2.trans hb3).setCell (p := ⟨b, 2 + k * 3 + 2, none⟩) (Nat.le_refl b) (.pointer py)
      clear h3 P2 hpy hy
      go_wp2_with fail
      go_ret
      exact ⟨hb4, .inr ⟨fun x' y' hc => (by have := hc.1; rw [HX.out] at this; cases this), rfl, _, h4, rfl⟩⟩
    · obtain ⟨q3, f3⟩ := h3.get (o := 2 + k * 3 + 2) (by omega) (slot_right k hk)
      have h4 := h3.setRight hk HR.out (-1)
      rw [show ptrV b (-1) = .pointer none from rfl] at h4
      have hb4 := (hb2.trans hb3).setCell (p := ⟨b, 2 + k * 3 + 2, none⟩) (Nat.le_refl b) (.pointer none)
      clear h3 P2 hy
      go_wp2_with fail
      go_ret
      exact ⟨hb4, .inr ⟨fun x' y' hc => (by have := hc.1; rw [HX.out] at this; cases this), rfl, _, h4, rfl⟩⟩
theorem cellAt_eq {s : ByteArray} {a : Nat} {x y x' y' : Int} (h : cellAt s a x y) (h' : cellAt s a x' y') : x' = x ∧ y' = y := by
  have h1 := h.1.symm.trans h'.1
  have h2 := h.2.1.symm.trans h'.2.1
  simp at h1 h2
  exact ⟨h1.symm, h2.symm⟩
theorem cellHit_any (w : World) (b : Nat) (s : ByteArray) (hs : s.size ≤ 1048576) (σ : RdS) (h : RB w b 8 s σ) (k : Nat) (hk : k < 8) (hl : σ.ls.length = k) (hr : σ.rs.length = k) (x y : Int) (hc : cellAt s σ.a x y) :
    Calls Try.prog 54 #[.pointer (some ⟨b, 0, none⟩), .pointer (some ⟨b, 2 + k * 3, none⟩)] w fun e w' => e = .returned (.bool true) ∧ RB w' b 8 s { σ with a := σ.a + 3, ls := σ.ls ++ [x], rs := σ.rs ++ [y], ps := y :: x :: σ.ps } ∧ Below b w w' :=
  (readCell_any w b s hs σ h k hk hl hr).mono fun e w' hR => by
    obtain ⟨hb, ⟨x', y', hc', he, h'⟩ | ⟨hn, _⟩⟩ := hR
    · obtain ⟨rfl, rfl⟩ := cellAt_eq hc hc'
      exact ⟨he, h', hb⟩
    · exact absurd hc (hn x y)
theorem cellMiss_any (w : World) (b : Nat) (s : ByteArray) (hs : s.size ≤ 1048576) (σ : RdS) (h : RB w b 8 s σ) (k : Nat) (hk : k < 8) (hl : σ.ls.length = k) (hr : σ.rs.length = k) (hc : ∀ x y, ¬ cellAt s σ.a x y) :
    Calls Try.prog 54 #[.pointer (some ⟨b, 0, none⟩), .pointer (some ⟨b, 2 + k * 3, none⟩)] w fun e w' => e = .returned (.bool false) ∧ (∃ σ' : RdS, RB w' b 8 s σ' ∧ σ'.n = σ.n) ∧ Below b w w' :=
  (readCell_any w b s hs σ h k hk hl hr).mono fun e w' hR => by
    obtain ⟨hb, ⟨x', y', hc', _, _⟩ | ⟨_, he, h'⟩⟩ := hR
    · exact absurd hc' (hc x' y')
    · exact ⟨he, h', hb⟩
end Go.Proofs.Ytpimndfafibgeaa
