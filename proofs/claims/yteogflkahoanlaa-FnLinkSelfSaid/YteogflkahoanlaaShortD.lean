/- What Take, Drop and Link give. -/
import Derived.Test.YteogflkahoanlaaExactV
import Derived.Test.YteogflkahoanlaaCnt2
namespace Go.Proofs.Yteogflkahoanlaa
open Go.RowKit

/-- A root that points somewhere points to a cell. -/
theorem root_at9 {D : Dp} (h : dpB D = true) {i : Nat} {x : Int} (hx : D.C.h.t[i]? = some x) (hn : x ≠ -1) : ∃ f : Nat, x = f ∧ f < D.C.h.l.length := by
  have hv := (stoB_parts (dpB_iff.1 h).1).1
  have I := drop_inv h hx
  have r := I.rng x (List.mem_cons_self ..)
  obtain ⟨f, rfl⟩ := Int.eq_ofNat_of_zero_le (by have := r.1; omega : 0 ≤ x)
  exact ⟨f, rfl, by have := r.2; simp at this; omega⟩
theorem dropO_valid {D E : Dp} {k : Int} (h : dropO D k = some E) : dpB E = true := by
  rcases e : (dpB D && plB k D.C.h.t.length)
  · unfold dropO at h; rw [e] at h; simp at h
  · rw [Bool.and_eq_true] at e
    obtain ⟨evd, evp⟩ := e
    have hk : 0 ≤ k ∧ k < D.C.h.t.length := by simpa [plB] using evp
    obtain ⟨j, rfl⟩ := Int.eq_ofNat_of_zero_le hk.1
    have hj : j < D.C.h.t.length := by omega
    obtain ⟨old, hold⟩ : ∃ old, D.C.h.t[j]? = some old := ⟨_, List.getElem?_eq_getElem hj⟩
    rw [dropO_some evd hold] at h
    cases h
    exact fin_valid (drop_inv evd hold)
theorem takeO_valid {D E : Dp} {k : Int} (h : takeO D k = some E) : dpB E = true := by
  rcases e : (dpB D && plB k D.C.h.t.length && decide (D.C.c ≠ []))
  · unfold takeO at h; rw [e] at h; simp at h
  · rw [Bool.and_eq_true, Bool.and_eq_true] at e
    obtain ⟨⟨evd, evp⟩, ec⟩ := e
    have hk : 0 ≤ k ∧ k < D.C.h.t.length := by simpa [plB] using evp
    obtain ⟨j, rfl⟩ := Int.eq_ofNat_of_zero_le hk.1
    have hj : j < D.C.h.t.length := by omega
    obtain ⟨old, hold⟩ : ∃ old, D.C.h.t[j]? = some old := ⟨_, List.getElem?_eq_getElem hj⟩
    rcases hc : D.C.c with _ | ⟨x, cs⟩
    · rw [hc] at ec; simp at ec
    · rw [takeO_some evd hold hc] at h
      cases h
      exact fin_valid (take_inv evd hc hold).1
theorem linkO_valid {D E : Dp} {a b : Int} (h : linkO D a b = some E) : dpB E = true := by
  rcases e : (dpB D && plB a D.C.h.t.length && plB b D.C.h.t.length && decide (D.C.h.t.getD a.toNat 0 ≠ -1))
  · unfold linkO at h; rw [e] at h; simp at h
  · rw [Bool.and_eq_true, Bool.and_eq_true, Bool.and_eq_true] at e
    obtain ⟨⟨⟨evd, evp⟩, evq⟩, ec⟩ := e
    have hk : 0 ≤ a ∧ a < D.C.h.t.length := by simpa [plB] using evp
    have hk' : 0 ≤ b ∧ b < D.C.h.t.length := by simpa [plB] using evq
    obtain ⟨i, rfl⟩ := Int.eq_ofNat_of_zero_le hk.1
    obtain ⟨j, rfl⟩ := Int.eq_ofNat_of_zero_le hk'.1
    obtain ⟨fr, hfr⟩ : ∃ x, D.C.h.t[i]? = some x := ⟨_, List.getElem?_eq_getElem (by omega)⟩
    obtain ⟨tt, hto⟩ : ∃ x, D.C.h.t[j]? = some x := ⟨_, List.getElem?_eq_getElem (by omega)⟩
    obtain ⟨f, rfl, hf⟩ := root_at9 evd hfr (by rw [Int.toNat_natCast, getD_of hfr] at ec; simpa using ec)
    obtain ⟨old, hold⟩ : ∃ x, D.C.h.l[f]? = some x := ⟨_, List.getElem?_eq_getElem hf⟩
    rw [linkO_some evd hfr hto hold] at h
    cases h
    exact fin_valid (link_inv evd (List.mem_of_getElem? hfr) (List.mem_of_getElem? hto) hold)
theorem opt_short {o : Option Dp} (h : ∀ E, o = some E → dpB E = true) : ShortD (o.getD Dp.zero) 1048576 := by
  rcases o with _ | E
  · exact zeroD_short
  · exact dpB_short (h E rfl)
theorem dropO_short (D : Dp) (k : Int) : ShortD ((dropO D k).getD Dp.zero) 1048576 := opt_short fun _ => dropO_valid
theorem takeO_short (D : Dp) (k : Int) : ShortD ((takeO D k).getD Dp.zero) 1048576 := opt_short fun _ => takeO_valid
theorem linkO_short (D : Dp) (a b : Int) : ShortD ((linkO D a b).getD Dp.zero) 1048576 := opt_short fun _ => linkO_valid
end Go.Proofs.Yteogflkahoanlaa
