/- impl.heapReader: rows of roots. -/
import Derived.Test.YtpimndfafibgeaaRds
namespace Go.Proofs.Ytpimndfafibgeaa
open Go.RowKit

/-- A root's text comes next. -/
def rootAt (s : ByteArray) (p : Nat) (t : Int) : Prop := nextB s p 32 = true ∧ rdP s (p + 1) = some t
structure RootsOk (s : ByteArray) (A : Nat) (σ0 : RdS) (i : Nat) (σ : RdS) : Prop where
  i3 : i ≤ 3
  a : σ.a = A + 2 * i
  m : σ.m = i
  n : σ.n = σ0.n
  ls : σ.ls = σ0.ls
  rs : σ.rs = σ0.rs
  tl : σ.ts.length = i
  at_ : ∀ j, j < i → ∃ t, σ.ts[j]? = some t ∧ rootAt s (A + 2 * j) t
  ps : ∀ y, y ∈ σ.ps ↔ y ∈ σ0.ps ∨ y ∈ σ.ts
theorem roots_zero {s : ByteArray} {σ0 : RdS} (hm : σ0.m = 0) (ht : σ0.ts = []) : RootsOk s σ0.a σ0 0 σ0 :=
  ⟨by omega, by omega, hm, rfl, rfl, rfl, by rw [ht]; rfl, fun j hj => by omega, fun y => by rw [ht]; simp⟩
theorem roots_step {s : ByteArray} {A : Nat} {σ0 σ : RdS} {i : Nat} (h : RootsOk s A σ0 i σ) (hi : i < 3) {t : Int} (ht : rootAt s σ.a t) :
    RootsOk s A σ0 (i + 1) { σ with a := σ.a + 1 + 1, m := σ.m + 1, ts := σ.ts ++ [t], ps := t :: σ.ps } := by
  refine ⟨by omega, by have := h.a; simp only; omega, by have := h.m; simp only; omega, h.n, h.ls, h.rs, by simp [h.tl], fun j hj => ?_, fun y => ?_⟩
  · rcases Nat.lt_succ_iff_lt_or_eq.1 hj with h9 | rfl
    · obtain ⟨t', e1, e2⟩ := h.at_ j h9
      exact ⟨t', by rw [List.getElem?_append_left (by rw [h.tl]; exact h9)]; exact e1, e2⟩
    · refine ⟨t, ?_, by rw [← h.a]; exact ht⟩
      rw [List.getElem?_append_right (by rw [h.tl]; omega), h.tl]; simp
  · have := h.ps y
    simp only [List.mem_cons, List.mem_append, List.not_mem_nil, or_false, this]
    constructor
    · rintro (h9 | h9 | h9) <;> simp [h9]
    · rintro (h9 | h9 | h9) <;> simp [h9]
def RootsRd (w : World) (b : Nat) (s : ByteArray) (σ0 : RdS) (e : Ending) (w' : World) : Prop :=
  Below b w w' ∧ ((∃ i σ, RootsOk s σ0.a σ0 i σ ∧ s.size ≤ σ.a ∧ e = .returned (.bool true) ∧ RB w' b 8 s σ) ∨
    ((∃ i σ, RootsOk s σ0.a σ0 i σ ∧ σ.a < s.size ∧ (i = 3 ∨ ∀ t, ¬ rootAt s σ.a t)) ∧ e = .returned (.bool false)))
theorem ptrHit_any (w : World) (b : Nat) (s : ByteArray) (hs : s.size ≤ 1048576) (σ : RdS) (h : RB w b 8 s σ) (x : Int) (hx : rdP s σ.a = some x) :
    Calls Try.prog 55 #[.pointer (some ⟨b, 0, none⟩)] w fun e w' => (∃ p, ptrV b x = .pointer p ∧ e = .returned (.tuple #[.pointer p, .bool true])) ∧ RB w' b 8 s { σ with a := σ.a + 1, ps := x :: σ.ps } ∧ Below b w w' :=
  (readPtr_any w b s hs σ h).mono fun e w' hR => by
    obtain ⟨hb, ⟨x', hx', he, h'⟩ | ⟨hn, _⟩⟩ := hR
    · obtain rfl : x' = x := by rw [hx] at hx'; simpa using hx'.symm
      obtain ⟨p, hp⟩ := ptrV_form b x'
      exact ⟨⟨p, hp, by rw [he, hp]⟩, h', hb⟩
    · rw [hx] at hn; cases hn
theorem ptrMiss_any (w : World) (b : Nat) (s : ByteArray) (hs : s.size ≤ 1048576) (σ : RdS) (h : RB w b 8 s σ) (hx : rdP s σ.a = none) :
    Calls Try.prog 55 #[.pointer (some ⟨b, 0, none⟩)] w fun e w' => e = .returned (.tuple #[.pointer none, .bool false]) ∧ RB w' b 8 s σ ∧ Below b w w' :=
  (readPtr_any w b s hs σ h).mono fun e w' hR => by
    obtain ⟨hb, ⟨x', hx', _, _⟩ | ⟨_, he, h'⟩⟩ := hR
    · rw [hx] at hx'; cases hx'
    · exact ⟨he, h', hb⟩

set_option maxRecDepth 100000 in
set_option maxHeartbeats 1000000 in
theorem readRoots_any (w : World) (b : Nat) (s : ByteArray) (hs : s.size ≤ 1048576) (σ0 : RdS) (hm0 : σ0.m = 0) (ht0 : σ0.ts = []) (h : RB w b 8 s σ0) :
    Calls Try.prog 31 #[.pointer (some ⟨b, 0, none⟩)] w (RootsRd w b s σ0) := by
  have st := Lib.hid (roots_zero (s := s) hm0 ht0)
  clear hm0 ht0
  go_enter Try.func31, Try.ntmps31
  go_wp2_with fail
  go_loopg [2, 3, 4] 3 (fun g _ _ _ wr => ∃ (i : Nat) (σ : RdS), Hid (g + i = 3) ∧ Hid (RootsOk s σ0.a σ0 i σ) ∧ RB wr b 8 s σ ∧ Below b w wr)
  case atStart => exact ⟨0, σ0, rfl, st, h, Below.refl b w⟩
  case round =>
    clear h st
    obtain ⟨i, σ, hg, hO, hR, hB⟩ := hrel
    obtain ⟨q0, _⟩ := hR.get (o := 0) (t := .text) (by omega) rfl
    obtain ⟨q1, f1⟩ := hR.get (o := 1) (t := .pos) (by omega) rfl
    obtain ⟨q2, f2⟩ := hR.get (o := 38) (t := .rooted) (by omega) rfl
    have hm := hO.out.m
    simp only [slotV, hm] at q0 q1 q2
    have hi3 := hO.out.i3
    have HM := Lib.hid hm
    clear hm
    by_cases hlt : σ.a < s.size
    · have hlt2 : (σ.a : Int) < (s.size : Int) := by omega
      by_cases hi : i < 3
      · have hi0 : ((i : Int) == 3) = false := by simp; omega
        rcases hnx : nextB s σ.a 32
        · have L := fun W (h2 : RB W b 8 s σ) => letterMiss_any W b s σ h2 32 hnx
          have hno : Hid (∀ t, ¬ rootAt s σ.a t) := fun t h9 => by have := h9.1; rw [hnx] at this; cases this
          clear hnx
          go_wp2_with fail
          go_quiet (fail)
          have hRq := hR.drewN nq
          have hBq := below_drewN hB nq
          generalize wr.drewN nq = W at hRq hBq ⊢
          clear q0 q1 q2 hR hB
          obtain ⟨q2, f2⟩ := hRq.get (o := 38) (t := .rooted) (by omega) rfl
          simp only [slotV, HM.out] at q2
          have L2 := L W hRq
          clear L hRq
          go_wp2_with fail
          refine L2.mono ?_; rintro e w3 ⟨rfl, h3, hb3⟩
          go_wp2_with fail
          go_ret
          exact ⟨hBq.trans hb3, .inr ⟨⟨i, σ, hO.out, hlt, .inr hno.out⟩, rfl⟩⟩
        · have L := fun W (h2 : RB W b 8 s σ) => letterHit_any W b s hs σ h2 32 hnx
          have HNX := Lib.hid hnx
          clear hnx
          rcases hrp : rdP s (σ.a + 1) with _ | t
          · have P := fun W (h2 : RB W b 8 s { σ with a := σ.a + 1 }) => ptrMiss_any W b s hs { σ with a := σ.a + 1 } h2 hrp
            have hno : Hid (∀ t, ¬ rootAt s σ.a t) := fun t h9 => by have := h9.2; rw [hrp] at this; cases this
            clear hrp
            go_wp2_with fail
            go_quiet (fail)
            have hRq := hR.drewN nq
            have hBq := below_drewN hB nq
            generalize wr.drewN nq = W at hRq hBq ⊢
            clear q0 q1 q2 hR hB
            obtain ⟨q2, f2⟩ := hRq.get (o := 38) (t := .rooted) (by omega) rfl
            simp only [slotV, HM.out] at q2
            have L2 := L W hRq
            clear L hRq
            go_wp2_with fail
            refine L2.mono ?_; rintro e w3 ⟨rfl, h3, hb3⟩
            have P2 := P w3 h3
            clear P h3 L2
            go_wp2_with fail
            refine P2.mono ?_; rintro e w4 ⟨rfl, h4, hb4⟩
            go_wp2_with fail
            go_ret
            exact ⟨(hBq.trans hb3).trans hb4, .inr ⟨⟨i, σ, hO.out, hlt, .inr hno.out⟩, rfl⟩⟩
          · have P := fun W (h2 : RB W b 8 s { σ with a := σ.a + 1 }) => ptrHit_any W b s hs { σ with a := σ.a + 1 } h2 t hrp
            have hst := Lib.hid (roots_step hO.out hi (t := t) ⟨HNX.out, hrp⟩)
            have htl := hO.out.tl
            have HTL := Lib.hid htl
            clear hrp htl
            go_wp2_with fail
            go_quiet (fail)
            have hRq := hR.drewN nq
            have hBq := below_drewN hB nq
            generalize wr.drewN nq = W at hRq hBq ⊢
            clear q0 q1 q2 hR hB
            obtain ⟨q2, f2⟩ := hRq.get (o := 38) (t := .rooted) (by omega) rfl
            simp only [slotV, HM.out] at q2
            have L2 := L W hRq
            clear L hRq
            go_wp2_with fail
            refine L2.mono ?_; rintro e w3 ⟨rfl, h3, hb3⟩
            have P2 := P w3 h3
            clear P h3 L2
            go_wp2_with fail
            refine P2.mono ?_; rintro e w4 ⟨⟨pt, hpt, rfl⟩, h4', hb4⟩
            obtain ⟨q5', _⟩ := h4'.get (o := 38) (t := .rooted) (by omega) rfl
            simp only [slotV, HM.out] at q5'
            have hi3' : (i : Int) < 3 := by omega
            obtain ⟨q6, f6⟩ := h4'.get (o := 35 + i) (by omega) (slot_root i hi)
            have h5' := h4'.setRoot hi HTL.out t
            rw [hpt] at h5'
            obtain ⟨q7', f7'⟩ := h5'.get (o := 38) (t := .rooted) (by omega) rfl
            simp only [slotV, HM.out] at q7'
            have h5 : RB (w4.setCell ⟨b, 35 + i, none⟩ (.pointer pt)).drew b 8 s _ := h5'
            have h6 := h5.setRooted
            obtain ⟨q7, f7⟩ := h5.get (o := 38) (t := .rooted) (by omega) rfl
            simp only [slotV, HM.out] at q7
            simp only [HM.out] at h6
            have hB6 := (((hBq.trans hb3).trans hb4).setCell (p := ⟨b, 35 + i, none⟩) (Nat.le_refl b) (.pointer pt)).drew.setCell (p := ⟨b, 38, none⟩) (Nat.le_refl b) (.int .i64 ((i : Int) + 1))
            clear h4' h5 h5' hpt P2
            go_wp2_with fail
            go_region_held3 (fun w' => w'.cell? ⟨b, 38, none⟩ = some (.int .i64 (i : Int)))
              (((try dsimp only) <;> (with_reducible (first | exact q5' | exact cellD q5' | exact q7' | exact cellD q7' | exact q7))))
              (fail)
            rename_i hHeld
            clear hHeld
            go_wp2_with fail
            go_roundg (gk - 1)
            case rel => exact ⟨i + 1, _, by have := hg.out; unfold Hid; omega, hst, by rw [HM.out]; exact h6, hB6⟩
            case measure => have := hg.out; omega
      · obtain rfl : i = 3 := by omega
        go_wp2_with fail
        go_quiet (fail)
        go_wp2_with fail
        go_ret
        exact ⟨below_drewN hB _, .inr ⟨⟨3, σ, hO.out, hlt, .inl rfl⟩, rfl⟩⟩
    · have hle2 : (s.size : Int) ≤ (σ.a : Int) := by omega
      go_wp2_with fail
      go_quiet (fail)
      go_wp2_with fail
      go_ret
      exact ⟨below_drewN hB _, .inl ⟨i, σ, hO.out, by omega, rfl, hR.drewN _⟩⟩
end Go.Proofs.Ytpimndfafibgeaa
