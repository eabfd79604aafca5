/- Both parses answer with the one heap whose text it is. -/
import Derived.Test.YtpimndfafibgeaaPhS
namespace Go.Proofs.Ytpimndfafibgeaa
open Go.RowKit

theorem list_same {a b : List Int} (hl : a.length = b.length) (h : ∀ j, j < a.length → a.getD j 0 = b.getD j 0) : a = b := by
  apply List.ext_getElem? 
  intro j
  by_cases hj : j < a.length
  · rw [getD_get hj, getD_get (l := b) (by omega), h j hj]
  · rw [List.getElem?_eq_none (by omega), List.getElem?_eq_none (by omega)]
theorem text_unique {s : ByteArray} {h g : Hp} (hi : IsText s h) (gi : IsText s g) : h = g := by
  have hn : h.l.length = g.l.length := by
    rcases Nat.lt_trichotomy h.l.length g.l.length with e | e | e
    · exact absurd (text_cell gi e) (text_no_cell hi _ _)
    · exact e
    · exact absurd (text_cell hi e) (text_no_cell gi _ _)
  have s1 := (istext_text hi).size
  have s2 := (istext_text gi).size
  have hm : h.t.length = g.t.length := by omega
  have hr := (hv_bounds hi.1).1
  have gr := (hv_bounds gi.1).1
  have el : h.l = g.l := list_same hn fun j hj => (cellAt_eq (text_cell gi (by omega)) (text_cell hi hj)).1
  have er : h.r = g.r := list_same (by omega) fun j hj => (cellAt_eq (text_cell gi (by omega)) (text_cell hi (by omega))).2
  have et : h.t = g.t := list_same hm fun j hj => by
    have e1 := (text_root hi hj).2
    have e2 := (text_root gi (j := j) (by omega)).2
    rw [← hn] at e2
    have e3 := e1.symm.trans e2
    simpa using e3
  cases h; cases g
  simp only at el er et
  rw [el, er, et]
open Classical in
/-- The heap whose text it is. -/
noncomputable def prsO (s : ByteArray) : Option Hp := if h : ∃ g, IsText s g then some (Classical.choose h) else none
theorem prsO_some {s : ByteArray} {h : Hp} (e : prsO s = some h) : IsText s h := by
  unfold prsO at e
  split at e
  · rename_i hx
    have h9 := Classical.choose_spec hx
    obtain rfl := Option.some.inj e
    exact h9
  · cases e
theorem prsO_of {s : ByteArray} {h : Hp} (hi : IsText s h) : prsO s = some h := by
  have hx : ∃ g, IsText s g := ⟨h, hi⟩
  unfold prsO
  rw [dif_pos hx]
  exact congrArg some (text_unique (Classical.choose_spec hx) hi)
theorem prsO_none {s : ByteArray} (hn : ∀ g, ¬ IsText s g) : prsO s = none := by
  unfold prsO
  rw [dif_neg (fun ⟨g, hg⟩ => hn g hg)]
theorem prsO_len {s : ByteArray} {h : Hp} (e : prsO s = some h) : h.l.length ≤ 1048576 ∧ h.r.length ≤ 1048576 ∧ h.t.length ≤ 1048576 := by
  have hi := prsO_some e
  have h8 := hvB_len hi.1
  have hr := (hv_bounds hi.1).1
  have hz := (hvB_parts hi.1).1.2
  unfold szB at hz
  simp only [decide_eq_true_eq] at hz
  omega
theorem parsed_opt {w w' : World} {s : ByteArray} {e : Ending} (h : Parsed w s e w') : OptHv w (prsO s) e w' := by
  obtain ⟨v, h, ok, he, hv, hb, h1, h2⟩ := h
  cases ok
  · obtain ⟨hn, rfl⟩ := h2 rfl
    rw [prsO_none hn]
    exact ⟨v, he, hv, hb⟩
  · rw [prsO_of (h1 rfl)]
    exact ⟨v, he, hv, hb⟩
theorem implParseO (w : World) (s : ByteArray) (hs : s.size ≤ 1048576) : Calls Try.prog 11 #[.string s] w (OptHv w (prsO s)) := (implParse_any w s hs).mono fun _ _ h => parsed_opt h
theorem specParseO (w : World) (s : ByteArray) (hs : s.size ≤ 1048576) : Calls Try.prog 17 #[.string s] w (OptHv w (prsO s)) := (specParse_any w s hs).mono fun _ _ h => parsed_opt h
end Go.Proofs.Ytpimndfafibgeaa
