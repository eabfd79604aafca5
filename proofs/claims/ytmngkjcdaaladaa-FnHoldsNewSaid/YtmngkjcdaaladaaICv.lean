/- A colored heap whose colors are turned by shade. -/
import Derived.Test.YtmngkjcdaaladaaIShade
import Derived.Test.YtmngkjcdaaladaaICopyC
namespace Go.Proofs.Ytmngkjcdaaladaa
open Go.RowKit

theorem Cv.only {w w' : World} {lo : Nat} {D0 D1 D2 : Option Addr} {m0 d0 m1 d1 m2 d2 g m3 d3 : Nat} {C : Cp} {c' : List Int} (hv : Cv w lo (.agg #[.slice D0 m0 d0, .slice D1 m1 d1, .slice D2 m2 d2, .slice (some ⟨g, 0, none⟩) m3 d3]) C) (hO : OnlyB g w w') (hr : Row w' lo (.slice (some ⟨g, 0, none⟩) m3 d3) c') : Cv w' lo (.agg #[.slice D0 m0 d0, .slice D1 m1 d1, .slice D2 m2 d2, .slice (some ⟨g, 0, none⟩) m3 d3]) ⟨C.h, c'⟩ := by
  obtain ⟨_, _, _, _, e, ⟨_, _, _, e', r0, r1, r2, a⟩, _, b0, b1, b2⟩ := hv
  cases e; cases e'
  exact ⟨_, _, _, _, rfl, ⟨_, _, _, rfl, onlyB_row r0 hO (fun e => b0 g e rfl), onlyB_row r1 hO (fun e => b1 g e rfl), onlyB_row r2 hO (fun e => b2 g e rfl), a⟩, hr, b0, b1, b2⟩
theorem Cv.last {w : World} {lo : Nat} {D0 D1 D2 D3 : Option Addr} {m0 d0 m1 d1 m2 d2 m3 d3 : Nat} {C : Cp} (hv : Cv w lo (.agg #[.slice D0 m0 d0, .slice D1 m1 d1, .slice D2 m2 d2, .slice D3 m3 d3]) C) : Row w lo (.slice D3 m3 d3) C.c ∧ C.c.length = m3 := by
  obtain ⟨_, _, _, _, _, _, _, _, _, _, _, _, e, _, ⟨_, _, _, r⟩, ⟨_, _, _, l⟩, _⟩ := hv.open_
  cases e; exact ⟨r, l.out⟩
theorem implShadeC_any (w : World) (lo : Nat) (D0 D1 D2 : Option Addr) (m0 d0 m1 d1 m2 d2 g m3 d3 : Nat) (C : Cp) (hv : Cv w lo (.agg #[.slice D0 m0 d0, .slice D1 m1 d1, .slice D2 m2 d2, .slice (some ⟨g, 0, none⟩) m3 d3]) C) (hc : ∀ x ∈ C.c, 0 ≤ x ∧ x ≤ 2) (k : Int) (h1 : -1 ≤ k) (h2 : k < m3) :
    Calls Try.prog 49 #[.slice (some ⟨g, 0, none⟩) m3 d3, .int .i64 k] w fun e w' => e = .returned (.tuple #[]) ∧ Cv w' lo (.agg #[.slice D0 m0 d0, .slice D1 m1 d1, .slice D2 m2 d2, .slice (some ⟨g, 0, none⟩) m3 d3]) ⟨C.h, shade C.c k⟩ ∧ OnlyB g w w' :=
  (implShade_any w lo g m3 d3 C.c hv.last.1 hv.last.2 hc k h1 h2).mono fun _ _ ⟨a, b, c⟩ => ⟨a, hv.only c b, c⟩
theorem shadeAll_valid (ks : List Int) : ∀ c : List Int, (∀ x ∈ c, 0 ≤ x ∧ x ≤ 2) → ∀ x ∈ shadeAll c ks, 0 ≤ x ∧ x ≤ 2 := by
  induction ks with
  | nil => intro c h; exact h
  | cons k r ih => intro c h; exact ih (shade c k) (shade_valid k h)
theorem cvB_mk {h : Hp} {c : List Int} (h1 : hvB h = true) (h2 : c.length = h.l.length) (h3 : ∀ x ∈ c, 0 ≤ x ∧ x ≤ 2) : cvB ⟨h, c⟩ = true := by
  simp only [cvB, Bool.and_eq_true, decide_eq_true_eq, List.all_eq_true, colB]
  exact ⟨⟨h1, h2⟩, h3⟩
end Go.Proofs.Ytmngkjcdaaladaa
