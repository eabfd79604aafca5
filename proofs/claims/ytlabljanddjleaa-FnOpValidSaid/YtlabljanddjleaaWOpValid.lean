/- The law FnOpValid, walked. -/
import Derived.Test.YtlabljanddjleaaDOpValid
import Derived.Test.YtlabljanddjleaaIOp
import Derived.Test.YtlabljanddjleaaSOp
import Derived.Test.YtlabljanddjleaaWLaw
import Derived.Test.YtlabljanddjleaaLawT
namespace Go.Proofs.Ytlabljanddjleaa
open Go.RowKit

theorem opB_more {o : Opv} {n : Int} (h : opB o n = true) : opB o (n + 1) = true ∧ opB o 3 = true ∧ 0 < n := by
  obtain ⟨hk, ⟨a0, a1, a3⟩, ⟨b0, b3⟩, hb7, hbn⟩ := opB_iff.1 h
  exact ⟨opB_iff.2 ⟨hk, ⟨a0, by omega, a3⟩, ⟨b0, b3⟩, hb7, fun h9 => by have := hbn h9; omega⟩, opB_iff.2 ⟨hk, ⟨a0, a3, a3⟩, ⟨b0, b3⟩, hb7, fun _ => b3⟩, by omega⟩
set_option maxRecDepth 100000 in
set_option maxHeartbeats 2000000 in
theorem lawOpValid_walk (w : World) (A : Option Addr) (n c : Nat) (h : Inp w A n c) :
    Calls Try.prog 7 #[.slice A n c] w (LawTrue w) := by
  by_cases hbig : 1048576 < n
  · go_enter Try.func7, Try.ntmps7
    go_wp2_with fail
    go_ret
    exact ⟨rfl, Below.refl _ _⟩
  go_enter Try.func7, Try.ntmps7
  go_wp2_with fail
  refine (drawOpValid_any _ _ _ _ h).mono ?_; rintro e w1 ⟨⟨k, a, q⟩, x, rfl, ⟨hx0, hx5⟩, hb1⟩
  have I := fun W m => implOpValid_any W ⟨k, a, q⟩ m
  have S := fun W m => specOpValid_any W ⟨k, a, q⟩ m
  have X1 := Blk3.new w1 (.int .i64 k) (.int .i64 a) (.int .i64 q) 25
  have B1 := hb1.alloc hb1.size (.cells #[.int .i64 k, .int .i64 a, .int .i64 q] 25)
  obtain ⟨x0, x1, x2, _⟩ := X1.cells
  have hw : IntKind.i64.wrap (x + 1) = x + 1 := IntWalk.i64_in _ (by omega)
  rcases ho : opB ⟨k, a, q⟩ x
  · have I1 := fun W => I W x
    have S1 := fun W => S W x
    rw [ho] at I1 S1
    clear ho
    go_wp2_with fail
    refine (I1 _).mono ?_; rintro e w2 ⟨rfl, hb2⟩
    have X2 := Blk3.below (by exact X1) hb2
    have B2 := B1.trans (hb2.mono B1.size)
    clear x0 x1 x2
    obtain ⟨x0, x1, x2, _⟩ := X2.cells
    go_wp2_with fail
    refine (S1 _).mono ?_; rintro e w3 ⟨rfl, hb3⟩
    have B3 := B2.trans (hb3.mono B2.size)
    go_wp2_with fail
    go_ret
    exact ⟨by simp, B3⟩
  · obtain ⟨h1, h2, h3⟩ := opB_more ho
    have I1 := fun W => I W x
    have S1 := fun W => S W x
    have I2 := fun W => I W (x + 1)
    have I3 := fun W => I W 3
    rw [ho] at I1 S1
    rw [h1] at I2
    rw [h2] at I3
    clear ho h1 h2
    go_wp2_with fail
    refine (I1 _).mono ?_; rintro e w2 ⟨rfl, hb2⟩
    have X2 := Blk3.below (by exact X1) hb2
    have B2 := B1.trans (hb2.mono B1.size)
    clear x0 x1 x2
    obtain ⟨x0, x1, x2, _⟩ := X2.cells
    go_wp2_with fail
    refine (S1 _).mono ?_; rintro e w3 ⟨rfl, hb3⟩
    have X3 := X2.below hb3
    have B3 := B2.trans (hb3.mono B2.size)
    clear x0 x1 x2
    obtain ⟨x0, x1, x2, _⟩ := X3.cells
    go_wp2_with fail
    refine (I2 _).mono ?_; rintro e w4 ⟨rfl, hb4⟩
    have X4 := X3.below hb4
    have B4 := B3.trans (hb4.mono B3.size)
    clear x0 x1 x2
    obtain ⟨x0, x1, x2, _⟩ := X4.cells
    go_wp2_with fail
    refine (I3 _).mono ?_; rintro e w5 ⟨rfl, hb5⟩
    have B5 := B4.trans (hb5.mono B4.size)
    go_wp2_with fail
    go_ret
    exact ⟨by simp, B5⟩
end Go.Proofs.Ytlabljanddjleaa
