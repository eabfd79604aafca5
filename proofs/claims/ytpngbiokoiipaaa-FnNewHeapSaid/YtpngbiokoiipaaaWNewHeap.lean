/- The law FnNewHeap, walked: it returns true, and nothing that was there has turned. -/
import Derived.Test.YtpngbiokoiipaaaOpen
import Derived.Test.YtpngbiokoiipaaaCount
import Derived.Test.YtpngbiokoiipaaaSame
namespace Go.Proofs.Ytpngbiokoiipaaa
open Go.RowKit

theorem newO_some {a b : Int} {h : Hp} (e : newO a b = some h) : hvB h = true ∧ (h.l.length : Int) = a ∧ (h.t.length : Int) = b ∧ cntH h = 0 := by
  unfold newO at e
  split at e
  · rename_i hs
    simp [szB] at hs
    cases e
    have e1 : cntH ⟨List.replicate a.toNat (-1), List.replicate a.toNat (-1), List.replicate b.toNat (-1)⟩ = 0 := by
      unfold cntH cntN; simp [List.filter_replicate]
    refine ⟨?_, by simp; omega, by simp; omega, e1⟩
    simp [hvB, szB, ptB, List.all_replicate]; omega
  · cases e

/-- The law's end: true, and nothing old has turned. -/
def LawTrue (w : World) (e : Ending) (w' : World) : Prop := e = .returned (.bool true) ∧ Below w.heap.size w w'

theorem sameB_self (a : Hp) : sameB a a = true := by simp [sameB]

set_option maxHeartbeats 2000000 in
theorem lawNewHeap_walk (w : World) (A : Option Addr) (n c : Nat) (h : Inp w A n c) :
    Calls Try.prog 8 #[.slice A n c] w (LawTrue w) := by
  by_cases hbig : 1048576 < n
  · go_enter Try.func8, Try.ntmps8
    go_wp2_with fail
    go_ret
    exact ⟨rfl, Below.refl _ _⟩
  go_enter Try.func8, Try.ntmps8
  go_wp2_with fail
  refine (drawNewHeap_any _ _ _ _ h).mono ?_; rintro e w1 ⟨a, b, rfl, hb1⟩
  have I := fun W => implNewHeap_any W a b
  have S := fun W => specNewHeap_any W a b
  rcases ho : newO a b with _ | hp
  · rw [ho] at I S
    go_wp2_with fail
    refine (I _).mono ?_; rintro e w2 ⟨v, rfl, hv2, hb2⟩
    simp only [Option.isSome_none, Option.getD_none] at hv2 ⊢
    obtain ⟨A0, n0, c0, A1, n1, c1, A2, n2, c2, rfl, _, ⟨l0, l1, l2⟩, _⟩ := hv2.open_
    go_wp2_with fail
    refine (S _).mono ?_; rintro e w3 ⟨v, rfl, hv3, hb3⟩
    simp only [Option.isSome_none, Option.getD_none] at hv3 ⊢
    obtain ⟨B0, k0, d0, B1, k1, d1, B2, k2, d2, rfl, _⟩ := hv3.open_
    have X3 := (Blk3.new w2 (.slice A0 n0 c0) (.slice A1 n1 c1) (.slice A2 n2 c2) 25).below hb3
    have z3 : w2.heap.size < w3.heap.size := by have := hb3.size; simp at this; omega
    have Y3 := Blk3.new w3 (.slice B0 k0 d0) (.slice B1 k1 d1) (.slice B2 k2 d2) 25
    have X3' := X3.alloc (.cells #[.slice B0 k0 d0, .slice B1 k1 d1, .slice B2 k2 d2] 25)
    obtain ⟨x0, x1, x2, _⟩ := X3.cells
    have hA := ((hv2.alloc (.cells #[.slice A0 n0 c0, .slice A1 n1 c1, .slice A2 n2 c2] 25)).below hb3).alloc (.cells #[.slice B0 k0 d0, .slice B1 k1 d1, .slice B2 k2 d2] 25)
    have hB := hv3.alloc (.cells #[.slice B0 k0 d0, .slice B1 k1 d1, .slice B2 k2 d2] 25)
    have B3 : Below w.heap.size w (w3.alloc (.cells #[.slice B0 k0 d0, .slice B1 k1 d1, .slice B2 k2 d2] 25)) :=
      (((hb1.trans (hb2.mono hb1.size)).alloc (by have := hb1.size; have := hb2.size; omega) _).trans (hb3.mono (by have := hb1.size; have := hb2.size; simp; omega))).alloc (by have := hb1.size; have := hb2.size; omega) _
    have E1 := implHeapSame_any _ _ _ _ _ _ _ hA hB
    rw [sameB_self] at E1
    go_wp2_with fail
    refine E1.mono ?_; rintro e w4 ⟨rfl, hb4⟩
    have hA4 := hA.below hb4
    have hB4 := hB.below hb4
    obtain ⟨x40, x41, x42, _⟩ := (X3'.below hb4).cells
    obtain ⟨y40, y41, y42, _⟩ := (Y3.below hb4).cells
    have B4 : Below w.heap.size w w4 := B3.trans (hb4.mono B3.size)
    have E2 := implHeapSame_any _ _ _ _ _ _ _ hA4 hB4
    rw [sameB_self] at E2
    go_wp2_with fail
    refine E2.mono ?_; rintro e w5 ⟨rfl, hb5⟩
    go_wp2_with fail
    go_ret
    exact ⟨rfl, B4.trans (hb5.mono B4.size)⟩
  · rw [ho] at I S
    go_wp2_with fail
    refine (I _).mono ?_; rintro e w2 ⟨v, rfl, hv2, hb2⟩
    simp only [Option.isSome_some, Option.getD_some] at hv2 ⊢
    obtain ⟨A0, n0, c0, A1, n1, c1, A2, n2, c2, rfl, _, ⟨l0, l1, l2⟩, _⟩ := hv2.open_
    go_wp2_with fail
    refine (S _).mono ?_; rintro e w3 ⟨v, rfl, hv3, hb3⟩
    simp only [Option.isSome_some, Option.getD_some] at hv3 ⊢
    obtain ⟨B0, k0, d0, B1, k1, d1, B2, k2, d2, rfl, _⟩ := hv3.open_
    have X3 := (Blk3.new w2 (.slice A0 n0 c0) (.slice A1 n1 c1) (.slice A2 n2 c2) 25).below hb3
    have z3 : w2.heap.size < w3.heap.size := by have := hb3.size; simp at this; omega
    have Y3 := Blk3.new w3 (.slice B0 k0 d0) (.slice B1 k1 d1) (.slice B2 k2 d2) 25
    have X3' := X3.alloc (.cells #[.slice B0 k0 d0, .slice B1 k1 d1, .slice B2 k2 d2] 25)
    obtain ⟨x0, x1, x2, _⟩ := X3.cells
    have hA := ((hv2.alloc (.cells #[.slice A0 n0 c0, .slice A1 n1 c1, .slice A2 n2 c2] 25)).below hb3).alloc (.cells #[.slice B0 k0 d0, .slice B1 k1 d1, .slice B2 k2 d2] 25)
    have hB := hv3.alloc (.cells #[.slice B0 k0 d0, .slice B1 k1 d1, .slice B2 k2 d2] 25)
    have B3 : Below w.heap.size w (w3.alloc (.cells #[.slice B0 k0 d0, .slice B1 k1 d1, .slice B2 k2 d2] 25)) :=
      (((hb1.trans (hb2.mono hb1.size)).alloc (by have := hb1.size; have := hb2.size; omega) _).trans (hb3.mono (by have := hb1.size; have := hb2.size; simp; omega))).alloc (by have := hb1.size; have := hb2.size; omega) _
    have E1 := implHeapSame_any _ _ _ _ _ _ _ hA hB
    rw [sameB_self] at E1
    go_wp2_with fail
    refine E1.mono ?_; rintro e w4 ⟨rfl, hb4⟩
    have hA4 := hA.below hb4
    have hB4 := hB.below hb4
    obtain ⟨x40, x41, x42, _⟩ := (X3'.below hb4).cells
    obtain ⟨y40, y41, y42, _⟩ := (Y3.below hb4).cells
    have B4 : Below w.heap.size w w4 := B3.trans (hb4.mono B3.size)
    obtain ⟨hval, ha, hb, hcnt⟩ := newO_some ho
    have V := implHeapValid_any _ _ _ _ hA4
    rw [hval] at V
    have g1 : ((n0 : Int) == a) = true := by have := l0.out; simp; omega
    have g2 : ((n2 : Int) == b) = true := by have := l2.out; simp; omega
    clear ho
    go_wp2_with fail
    refine V.mono ?_; rintro e w5 ⟨rfl, hb5⟩
    obtain ⟨x50, x51, x52, _⟩ := ((X3'.below hb4).below hb5).cells
    have C := implCount_any _ _ _ _ (hA4.below hb5)
    rw [hcnt] at C
    go_wp2_with fail
    refine C.mono ?_; rintro e w6 ⟨rfl, hb6⟩
    go_wp2_with fail
    go_ret
    exact ⟨rfl, (B4.trans (hb5.mono B4.size)).trans (hb6.mono (Nat.le_trans B4.size hb5.size))⟩
end Go.Proofs.Ytpngbiokoiipaaa
