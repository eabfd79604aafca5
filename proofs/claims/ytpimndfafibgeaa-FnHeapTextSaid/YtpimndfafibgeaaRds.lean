/- impl.heapReader: rows of cells, rows of roots. -/
import Derived.Test.YtpimndfafibgeaaRdc
import Derived.Deep.LoopGhost
import Derived.Deep.RegionHeld3
import Derived.Test.YtpimndfafibgeaaCopy2
namespace Go.Proofs.Ytpimndfafibgeaa
open Go.RowKit

/-- What has been read when k cells are behind. -/
structure CellsOk (s : ByteArray) (k : Nat) (σ : RdS) : Prop where
  k8 : k ≤ 8
  a : σ.a = 3 * k
  n : σ.n = k
  m : σ.m = 0
  ll : σ.ls.length = k
  rl : σ.rs.length = k
  ts : σ.ts = []
  at_ : ∀ j, j < k → ∃ x y, σ.ls[j]? = some x ∧ σ.rs[j]? = some y ∧ cellAt s (3 * j) x y
  ps : ∀ y, y ∈ σ.ps ↔ y ∈ σ.ls ∨ y ∈ σ.rs
theorem cells_zero (s : ByteArray) : CellsOk s 0 RdS.zero := ⟨by omega, rfl, rfl, rfl, rfl, rfl, rfl, fun j hj => by omega, by simp [RdS.zero]⟩
theorem cells_step {s : ByteArray} {k : Nat} {σ : RdS} (h : CellsOk s k σ) (hk : k < 8) {x y : Int} (hc : cellAt s σ.a x y) :
    CellsOk s (k + 1) { σ with a := σ.a + 3, n := σ.n + 1, ls := σ.ls ++ [x], rs := σ.rs ++ [y], ps := y :: x :: σ.ps } := by
  refine ⟨by omega, by have := h.a; simp only; omega, by have := h.n; simp only; omega, h.m, by simp [h.ll], by simp [h.rl], h.ts, fun j hj => ?_, fun z => ?_⟩
  · rcases Nat.lt_succ_iff_lt_or_eq.1 hj with h9 | rfl
    · obtain ⟨x', y', e1, e2, e3⟩ := h.at_ j h9
      exact ⟨x', y', by rw [List.getElem?_append_left (by rw [h.ll]; exact h9)]; exact e1, by rw [List.getElem?_append_left (by rw [h.rl]; exact h9)]; exact e2, e3⟩
    · refine ⟨x, y, ?_, ?_, by rw [← h.a]; exact hc⟩
      · rw [List.getElem?_append_right (by rw [h.ll]; omega), h.ll]; simp
      · rw [List.getElem?_append_right (by rw [h.rl]; omega), h.rl]; simp
  · have := h.ps z
    simp only [List.mem_cons, List.mem_append, List.not_mem_nil, or_false, this]
    constructor
    · rintro (h9 | h9 | h9 | h9) <;> simp [h9]
    · rintro ((h9 | h9) | (h9 | h9)) <;> simp [h9]
def CellsRd (w : World) (b : Nat) (s : ByteArray) (e : Ending) (w' : World) : Prop :=
  Below b w w' ∧ ((∃ k σ, CellsOk s k σ ∧ nextB s (3 * k) 47 = true ∧ e = .returned (.bool true) ∧ RB w' b 8 s { σ with a := σ.a + 1 }) ∨
    ((∃ k σ, CellsOk s k σ ∧ nextB s (3 * k) 47 = false ∧ (k = 8 ∨ ∀ x y, ¬ cellAt s (3 * k) x y)) ∧ e = .returned (.bool false)))

set_option maxRecDepth 100000 in
set_option maxHeartbeats 1000000 in
theorem readCells_any (w : World) (b : Nat) (s : ByteArray) (hs : s.size ≤ 1048576) (h : RB w b 8 s RdS.zero) :
    Calls Try.prog 30 #[.pointer (some ⟨b, 0, none⟩)] w (CellsRd w b s) := by
  go_enter Try.func30, Try.ntmps30
  go_wp2_with fail
  go_loopg [2] 8 (fun g _ wr => ∃ (k : Nat) (σ : RdS), Hid (g + k = 8) ∧ Hid (CellsOk s k σ) ∧ RB wr b 8 s σ ∧ Below b w wr)
  case atStart => exact ⟨0, RdS.zero, rfl, cells_zero s, h, Below.refl b w⟩
  case round =>
    obtain ⟨k, σ, hg, hO, hR, hB⟩ := hrel
    have hk8 := hO.out.k8
    have ha := hO.out.a
    have hn := hO.out.n
    have HA := Lib.hid ha
    rcases hsl : nextB s (3 * k) 47
    · have L := letterMiss_any wr b s σ hR 47 (by rw [ha]; exact hsl)
      have HSL := Lib.hid hsl
      by_cases hlt : k < 8
      · by_cases hcx : ∃ x y, cellAt s σ.a x y
        · obtain ⟨x, y, hc⟩ := hcx
          have hst := Lib.hid (cells_step hO.out hlt hc)
          have CR := fun W (h2 : RB W b 8 s σ) => cellHit_any W b s hs σ h2 k hlt hO.out.ll hO.out.rl x y hc
          have HN := Lib.hid hn
          clear hsl hR ha hn hk8 hc
          go_wp2_with fail
          refine L.mono ?_; rintro e w2 ⟨rfl, h2, hb2⟩
          have hB2 := hB.trans hb2
          obtain ⟨q, f⟩ := h2.get (o := 34) (t := .cells) (by omega) rfl
          simp only [slotV, HN.out] at q
          have C2 := CR w2.drew h2
          have hne : ((k : Int) == 8) = false := by simp; omega
          have hk0 : (k : Int) < 8 := by omega
          clear h2 L CR
          go_wp2_with fail
          go_region_held3 (fun w' => w'.cell? ⟨b, 34, none⟩ = some (.int .i64 (k : Int)))
            (((try dsimp only) <;> (with_reducible (first | exact q3 | exact q | exact cellD q))))
            ((go_at_call 54; (with_reducible refine C2.mono ?_); rintro e w3 ⟨rfl, h3, hb3⟩; (obtain ⟨q3, f3⟩ := h3.get (o := 34) (t := .cells) (by omega) rfl); (simp only [slotV, HN.out] at q3)))
          rename_i hHeld
          clear hHeld
          have h4 := h3.setCells
          simp only [HN.out] at h4
          have hB4 := (hB2.drew.trans hb3).setCell (p := ⟨b, 34, none⟩) (Nat.le_refl b) (.int .i64 ((k : Int) + 1))
          clear h3 C2
          go_wp2_with fail
          go_roundg (gk - 1)
          case rel => exact ⟨k + 1, _, by have := hg.out; unfold Hid; omega, hst, by rw [HN.out]; exact h4, hB4⟩
          case measure => have := hg.out; omega
        · have hno : ∀ x y, ¬ cellAt s σ.a x y := fun x y h9 => hcx ⟨x, y, h9⟩
          have CR := fun W (h2 : RB W b 8 s σ) => cellMiss_any W b s hs σ h2 k hlt hO.out.ll hO.out.rl hno
          have HNO := Lib.hid hno
          have HN := Lib.hid hn
          clear hsl hR ha hn hk8 hno hcx
          go_wp2_with fail
          refine L.mono ?_; rintro e w2 ⟨rfl, h2, hb2⟩
          have hB2 := hB.trans hb2
          obtain ⟨q, f⟩ := h2.get (o := 34) (t := .cells) (by omega) rfl
          simp only [slotV, HN.out] at q
          have C2 := CR w2.drew h2
          have hne : ((k : Int) == 8) = false := by simp; omega
          have hk0 : (k : Int) < 8 := by omega
          clear h2 L CR
          go_wp2_with fail
          go_region_held3 (fun w' => w'.cell? ⟨b, 34, none⟩ = some (.int .i64 (k : Int)))
            (((try dsimp only) <;> (with_reducible (first | exact q3 | exact q | exact cellD q))))
            ((go_at_call 54; (with_reducible refine C2.mono ?_); rintro e w3 ⟨rfl, ⟨σ3, h3, hn3⟩, hb3⟩; (obtain ⟨q3, f3⟩ := h3.get (o := 34) (t := .cells) (by omega) rfl); (simp only [slotV, hn3, HN.out] at q3)))
          rename_i hHeld
          clear hHeld hn3
          go_wp2_with fail
          go_ret
          exact ⟨hB2.drew.trans hb3, .inr ⟨⟨k, σ, hO.out, HSL.out, .inr (by rw [← HA.out]; exact HNO.out)⟩, rfl⟩⟩
      · obtain rfl : k = 8 := by omega
        have HN := Lib.hid hn
        clear hsl hR ha hn
        go_wp2_with fail
        refine L.mono ?_; rintro e w2 ⟨rfl, h2, hb2⟩
        have hB2 := hB.trans hb2
        obtain ⟨q, f⟩ := h2.get (o := 34) (t := .cells) (by omega) rfl
        simp only [slotV, HN.out] at q
        go_wp2_with fail
        go_quiet (fail)
        go_wp2_with fail
        go_ret
        exact ⟨below_drewN hB2 _, .inr ⟨⟨8, σ, hO.out, HSL.out, .inl rfl⟩, rfl⟩⟩
    · have L := letterHit_any wr b s hs σ hR 47 (by rw [ha]; exact hsl)
      have HSL := Lib.hid hsl
      clear hsl hR ha hn
      go_wp2_with fail
      refine L.mono ?_; rintro e w2 ⟨rfl, h2, hb2⟩
      go_wp2_with fail
      go_ret
      exact ⟨hB.trans hb2, .inl ⟨k, σ, hO.out, HSL.out, rfl, h2⟩⟩
end Go.Proofs.Ytpimndfafibgeaa
