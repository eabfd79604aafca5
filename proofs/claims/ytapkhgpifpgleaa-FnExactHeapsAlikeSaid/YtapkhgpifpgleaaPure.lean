/- Put and put back: the plain facts. -/
import Derived.Test.YtapkhgpifpgleaaHpB
namespace Go.Proofs.Ytapkhgpifpgleaa
open Go.RowKit

theorem sameB_self' (a : Hp) : sameB a a = true := by simp [sameB]
theorem all_set {p : Int → Bool} {l : List Int} (h : l.all p = true) (k : Nat) {y : Int} (hy : p y = true) : (l.set k y).all p = true := by
  rw [List.all_eq_true] at h ⊢
  intro z hz
  rcases List.mem_or_eq_of_mem_set hz with h1 | h1
  · exact h z h1
  · rw [h1]; exact hy
theorem set_back {l : List Int} {k : Nat} {u : Int} (h : l[k]? = some u) (y : Int) : (l.set k y).set k u = l := by
  rw [List.set_set]
  obtain ⟨hk, e⟩ := List.getElem?_eq_some_iff.1 h
  rw [← e]; exact List.set_getElem_self hk
theorem mem_pt {l : List Int} {p : Int → Bool} (h : l.all p = true) {k : Nat} {u : Int} (hu : l[k]? = some u) : p u = true := by
  rw [List.all_eq_true] at h; exact h u (List.mem_of_getElem? hu)
theorem hvB_parts {h : Hp} (hh : hvB h = true) : (h.r.length = h.l.length ∧ szB h.l.length h.t.length = true) ∧ h.l.all (ptB · h.l.length) = true ∧ h.r.all (ptB · h.l.length) = true ∧ h.t.all (ptB · h.l.length) = true := by
  simp only [hvB, Bool.and_eq_true, decide_eq_true_eq] at hh
  exact ⟨hh.1.1.1, hh.1.1.2, hh.1.2, hh.2⟩
theorem hvB_mk {h : Hp} (h1 : h.r.length = h.l.length) (h2 : szB h.l.length h.t.length = true) (h3 : h.l.all (ptB · h.l.length) = true) (h4 : h.r.all (ptB · h.l.length) = true) (h5 : h.t.all (ptB · h.l.length) = true) : hvB h = true := by
  simp only [hvB, Bool.and_eq_true, decide_eq_true_eq]; exact ⟨⟨⟨⟨h1, h2⟩, h3⟩, h4⟩, h5⟩

theorem putL_some {h h' : Hp} {x y : Int} (e : putL h x y = some h') : hvB h = true ∧ ∃ k : Nat, x = k ∧ k < h.l.length ∧ ptB y h.l.length = true ∧ h' = ⟨h.l.set k y, h.r, h.t⟩ := by
  unfold putL at e
  split at e
  · rename_i hc
    simp only [Bool.and_eq_true] at hc
    obtain ⟨k, rfl, hk⟩ := plB_nat hc.1.2
    cases e
    exact ⟨hc.1.1, k, rfl, hk, hc.2, rfl⟩
  · cases e
theorem putL_valid {h h' : Hp} {x y : Int} (e : putL h x y = some h') : hvB h' = true := by
  obtain ⟨hv, k, rfl, hk, ht, rfl⟩ := putL_some e
  obtain ⟨⟨h1, h2⟩, h3, h4, h5⟩ := hvB_parts hv
  exact hvB_mk (by simpa using h1) (by simpa using h2) (by simpa using all_set h3 k ht) (by simpa using h4) (by simpa using h5)
theorem putL_back {h h' : Hp} {x y u : Int} (e : putL h x y = some h') (hu : h.l[x.toNat]? = some u) : putL h' x u = some h := by
  have hv' := putL_valid e
  obtain ⟨hv, k, rfl, hk, ht, rfl⟩ := putL_some e
  obtain ⟨⟨h1, h2⟩, h3, h4, h5⟩ := hvB_parts hv
  simp only [Int.toNat_natCast] at hu
  have hpu := mem_pt h3 hu
  have hb := set_back hu y
  unfold putL
  rw [if_pos (by simp only [Bool.and_eq_true]; exact ⟨⟨hv', by simp [plB, hk]⟩, by simpa using hpu⟩)]
  simp only [Int.toNat_natCast]; rw [hb]

theorem putR_some {h h' : Hp} {x y : Int} (e : putR h x y = some h') : hvB h = true ∧ ∃ k : Nat, x = k ∧ k < h.r.length ∧ ptB y h.l.length = true ∧ h' = ⟨h.l, h.r.set k y, h.t⟩ := by
  unfold putR at e
  split at e
  · rename_i hc
    simp only [Bool.and_eq_true] at hc
    obtain ⟨k, rfl, hk⟩ := plB_nat hc.1.2
    cases e
    exact ⟨hc.1.1, k, rfl, hk, hc.2, rfl⟩
  · cases e
theorem putR_valid {h h' : Hp} {x y : Int} (e : putR h x y = some h') : hvB h' = true := by
  obtain ⟨hv, k, rfl, hk, ht, rfl⟩ := putR_some e
  obtain ⟨⟨h1, h2⟩, h3, h4, h5⟩ := hvB_parts hv
  exact hvB_mk (by simpa using h1) h2 h3 (all_set h4 k ht) h5
theorem putR_back {h h' : Hp} {x y u : Int} (e : putR h x y = some h') (hu : h.r[x.toNat]? = some u) : putR h' x u = some h := by
  have hv' := putR_valid e
  obtain ⟨hv, k, rfl, hk, ht, rfl⟩ := putR_some e
  obtain ⟨⟨h1, h2⟩, h3, h4, h5⟩ := hvB_parts hv
  simp only [Int.toNat_natCast] at hu
  have hpu := mem_pt h4 hu
  have hb := set_back hu y
  unfold putR
  rw [if_pos (by simp only [Bool.and_eq_true]; exact ⟨⟨hv', by simp [plB, hk]⟩, by simpa using hpu⟩)]
  simp only [Int.toNat_natCast]; rw [hb]

theorem putT_some {h h' : Hp} {x y : Int} (e : putT h x y = some h') : hvB h = true ∧ ∃ k : Nat, x = k ∧ k < h.t.length ∧ ptB y h.l.length = true ∧ h' = ⟨h.l, h.r, h.t.set k y⟩ := by
  unfold putT at e
  split at e
  · rename_i hc
    simp only [Bool.and_eq_true] at hc
    obtain ⟨k, rfl, hk⟩ := plB_nat hc.1.2
    cases e
    exact ⟨hc.1.1, k, rfl, hk, hc.2, rfl⟩
  · cases e
theorem putT_valid {h h' : Hp} {x y : Int} (e : putT h x y = some h') : hvB h' = true := by
  obtain ⟨hv, k, rfl, hk, ht, rfl⟩ := putT_some e
  obtain ⟨⟨h1, h2⟩, h3, h4, h5⟩ := hvB_parts hv
  exact hvB_mk h1 (by simpa using h2) h3 h4 (all_set h5 k ht)
theorem putT_back {h h' : Hp} {x y u : Int} (e : putT h x y = some h') (hu : h.t[x.toNat]? = some u) : putT h' x u = some h := by
  have hv' := putT_valid e
  obtain ⟨hv, k, rfl, hk, ht, rfl⟩ := putT_some e
  obtain ⟨⟨h1, h2⟩, h3, h4, h5⟩ := hvB_parts hv
  simp only [Int.toNat_natCast] at hu
  have hpu := mem_pt h5 hu
  have hb := set_back hu y
  unfold putT
  rw [if_pos (by simp only [Bool.and_eq_true]; exact ⟨⟨hv', by simp [plB, hk]⟩, by simpa using hpu⟩)]
  simp only [Int.toNat_natCast]; rw [hb]
end Go.Proofs.Ytapkhgpifpgleaa
