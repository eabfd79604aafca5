/- impl.heapReader: letters and pointers. -/
import Derived.Test.YtpimndfafibgeaaRdr
namespace Go.Proofs.Ytpimndfafibgeaa
open Go.RowKit

/-- Whether the letter comes next. -/
def nextB (s : ByteArray) (a : Nat) (c : UInt8) : Bool := s.data[a]? == some c
theorem nextB_hit {s : ByteArray} {a : Nat} {c : UInt8} (h : nextB s a c = true) : ∃ hlt : a < s.size, s[a] = c := by
  unfold nextB at h
  rw [beq_iff_eq] at h
  obtain ⟨h1, h2⟩ := Array.getElem?_eq_some_iff.1 h
  exact ⟨h1, h2⟩
theorem nextB_miss {s : ByteArray} {a : Nat} {c : UInt8} (h : nextB s a c = false) (hlt : a < s.size) : s[a] ≠ c := by
  intro e
  unfold nextB at h
  have h1 : s.data[a]? = some c := by rw [Array.getElem?_eq_getElem hlt]; exact congrArg some e
  rw [h1] at h
  simp at h

set_option maxRecDepth 100000 in
theorem letterHit_any (w : World) (b : Nat) (s : ByteArray) (hs : s.size ≤ 1048576) (σ : RdS) (h : RB w b 8 s σ) (c : UInt8) (hn : nextB s σ.a c = true) :
    Calls Try.prog 53 #[.pointer (some ⟨b, 0, none⟩), .int .u8 c.toNat] w fun e w' => e = .returned (.bool true) ∧ RB w' b 8 s { σ with a := σ.a + 1 } ∧ Below b w w' := by
  obtain ⟨q0, _⟩ := h.get (o := 0) (t := .text) (by omega) rfl
  obtain ⟨q1, f1⟩ := h.get (o := 1) (t := .pos) (by omega) rfl
  simp only [slotV] at q0 q1
  obtain ⟨hlt, rfl⟩ := nextB_hit hn
  have hset := fun k => (h.drewN k).setPos
  have hbel : ∀ k v, Below b w ((w.drewN k).setCell ⟨b, 1, none⟩ v) := fun k v => (below_drewN (Below.refl b w) k).setCell (Nat.le_refl b) v
  have hlt2 : (σ.a : Int) < (s.size : Int) := by omega
  clear h hn
  go_enter Try.func53, Try.ntmps53
  go_wp2_with fail
  go_quiet (fail)
  go_wp2_with fail
  go_ret
  exact ⟨rfl, hset _, hbel _ _⟩
set_option maxRecDepth 100000 in
theorem letterMiss_any (w : World) (b : Nat) (s : ByteArray) (σ : RdS) (h : RB w b 8 s σ) (c : UInt8) (hn : nextB s σ.a c = false) :
    Calls Try.prog 53 #[.pointer (some ⟨b, 0, none⟩), .int .u8 c.toNat] w fun e w' => e = .returned (.bool false) ∧ RB w' b 8 s σ ∧ Below b w w' := by
  obtain ⟨q0, _⟩ := h.get (o := 0) (t := .text) (by omega) rfl
  obtain ⟨q1, f1⟩ := h.get (o := 1) (t := .pos) (by omega) rfl
  simp only [slotV] at q0 q1
  have hset := fun k => h.drewN k
  have hbel : ∀ k, Below b w (w.drewN k) := fun k => below_drewN (Below.refl b w) k
  by_cases hlt : σ.a < s.size
  · have hne : ((s[σ.a].toNat : Int) != (c.toNat : Int)) = true := by
      have := nextB_miss hn hlt
      simp only [bne_iff_ne, ne_eq]
      intro e
      exact this (UInt8.toNat_inj.1 (by omega))
    have hlt2 : (σ.a : Int) < (s.size : Int) := by omega
    clear h hn
    go_enter Try.func53, Try.ntmps53
    go_wp2_with fail
    go_quiet (fail)
    go_wp2_with fail
    go_ret
    exact ⟨rfl, hset _, hbel _⟩
  · have hlt2 : (s.size : Int) ≤ (σ.a : Int) := by omega
    clear h hn
    go_enter Try.func53, Try.ntmps53
    go_wp2_with fail
    go_quiet (fail)
    go_wp2_with fail
    go_ret
    exact ⟨rfl, hset _, hbel _⟩
/-- The pointer that comes next. -/
def rdP (s : ByteArray) (a : Nat) : Option Int := if nextB s a 45 = true then some (-1) else ((List.range 8).find? (fun k : Nat => nextB s a (ltr (k : Int)))).map (fun k => (k : Int))
/-- What readPointer leaves. -/
def PtrRd (w : World) (b : Nat) (s : ByteArray) (σ : RdS) (e : Ending) (w' : World) : Prop :=
  Below b w w' ∧ ((∃ x, rdP s σ.a = some x ∧ e = .returned (.tuple #[ptrV b x, .bool true]) ∧ RB w' b 8 s { σ with a := σ.a + 1, ps := x :: σ.ps }) ∨
    (rdP s σ.a = none ∧ e = .returned (.tuple #[.pointer none, .bool false]) ∧ RB w' b 8 s σ))

set_option maxRecDepth 100000 in
set_option maxHeartbeats 1000000 in
theorem readPtr_any (w : World) (b : Nat) (s : ByteArray) (hs : s.size ≤ 1048576) (σ : RdS) (h : RB w b 8 s σ) :
    Calls Try.prog 55 #[.pointer (some ⟨b, 0, none⟩)] w (PtrRd w b s σ) := by
  rcases hn : nextB s σ.a 45
  · have L := letterMiss_any w b s σ h 45 hn
    have HN := Lib.hid hn
    clear hn h
    go_enter Try.func55, Try.ntmps55
    go_wp2_with fail
    refine L.mono ?_; rintro e w1 ⟨rfl, h1, hb1⟩
    clear L
    go_wp2_with fail
    go_loopw [4, 7] (fun _ i wr => ∃ k : Nat, k ≤ 8 ∧ i = .int .i64 k ∧ Hid (∀ j : Nat, j < k → nextB s σ.a (ltr (j : Int)) = false) ∧ RB wr b 8 s σ ∧ Below b w wr) (fun _ i _ => 8 - (intOf i).toNat)
    case atStart => exact ⟨0, Nat.zero_le _, rfl, fun j hj => absurd hj (by omega), h1, hb1⟩
    case round =>
      obtain ⟨k, hk, rfl, hm, hR, hB⟩ := hrel
      by_cases hlt : k < 8
      · have LT := letter_any wr (k : Int) (by omega) (by omega)
        rcases hn : nextB s σ.a (ltr (k : Int))
        · have L := letterMiss_any wr b s σ hR _ hn
          have hm' : Hid (∀ j : Nat, j < k + 1 → nextB s σ.a (ltr (j : Int)) = false) := by
            intro j hj
            rcases Nat.lt_succ_iff_lt_or_eq.1 hj with h9 | rfl
            · exact hm.out j h9
            · exact hn
          clear hn hR hm
          go_wp2_with fail
          refine LT.mono ?_; rintro e w2 ⟨rfl, rfl⟩
          go_wp2_with fail
          refine L.mono ?_; rintro e w3 ⟨rfl, h3, hb3⟩
          go_wp2_with fail
          go_roundw
          case rel => exact ⟨k + 1, by omega, by go_num, hm', h3, hB.trans hb3⟩
          case measure => simp [intOf]; omega
        · have L := letterHit_any wr b s hs σ hR _ hn
          have hp : Hid (rdP s σ.a = some (k : Int)) := by
            unfold Hid rdP
            rw [if_neg (by rw [HN.out]; simp)]
            have : (List.range 8).find? (fun k : Nat => nextB s σ.a (ltr (k : Int))) = some k := by
              rw [List.find?_range_eq_some]
              exact ⟨hn, List.mem_range.2 hlt, fun j hj => by rw [hm.out j hj]; rfl⟩
            rw [this]; rfl
          clear hn hR hm
          go_wp2_with fail
          refine LT.mono ?_; rintro e w2 ⟨rfl, rfl⟩
          go_wp2_with fail
          refine L.mono ?_; rintro e w3 ⟨rfl, h3, hb3⟩
          obtain ⟨q, f⟩ := h3.get (o := 26 + k) (by omega) (slot_flag k hlt)
          have h4 := h3.setFlag hlt
          have hb4 := (hB.trans hb3).setCell (p := ⟨b, 26 + k, none⟩) (Nat.le_refl b) (.bool true)
          have hne : ¬ ((k : Int) = -1) := by omega
          have hpv : Hid (ptrV b (k : Int) = .pointer (some ⟨b, 2 + k * 3, none⟩)) := by unfold Hid ptrV; rw [if_neg hne]; rfl
          clear h3 L LT
          go_wp2_with fail
          go_ret2
          exact ⟨hb4, .inl ⟨k, hp.out, by rw [hpv.out]; rfl, h4⟩⟩
      · obtain rfl : k = 8 := by omega
        have hp : Hid (rdP s σ.a = none) := by
          unfold Hid rdP
          rw [if_neg (by rw [HN.out]; simp)]
          have : (List.range 8).find? (fun k : Nat => nextB s σ.a (ltr (k : Int))) = none := by
            rw [List.find?_eq_none]
            intro j hj
            rw [List.mem_range] at hj
            rw [hm.out j hj]; simp
          rw [this]; rfl
        go_wp2_with fail
        go_ret2
        exact ⟨hB, .inr ⟨hp.out, rfl, hR⟩⟩
  · have L := letterHit_any w b s hs σ h 45 hn
    have hp : Hid (rdP s σ.a = some (-1)) := by unfold Hid rdP; rw [if_pos hn]
    clear hn h
    go_enter Try.func55, Try.ntmps55
    go_wp2_with fail
    refine L.mono ?_; rintro e w1 ⟨rfl, h1, hb1⟩
    clear L
    go_wp2_with fail
    go_ret2
    exact ⟨hb1, .inl ⟨-1, hp.out, rfl, h1.none_⟩⟩
end Go.Proofs.Ytpimndfafibgeaa
