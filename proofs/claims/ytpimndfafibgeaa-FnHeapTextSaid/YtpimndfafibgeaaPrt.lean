/- The reader's answer is the parse. -/
import Derived.Test.YtpimndfafibgeaaPrs
import Derived.Test.YtpimndfafibgeaaRdf
namespace Go.Proofs.Ytpimndfafibgeaa
open Go.RowKit

theorem nextB_get {s : ByteArray} {a : Nat} {c : UInt8} (h : nextB s a c = true) : s.data[a]? = some c := by
  unfold nextB at h; rwa [beq_iff_eq] at h
theorem nextB_of {s : ByteArray} {a : Nat} {c : UInt8} (h : s.data[a]? = some c) : nextB s a c = true := by
  unfold nextB; rw [h]; simp
theorem istext_text {s : ByteArray} {h : Hp} (t : IsText s h) : TextOf s h := by rw [t.2]; exact fmtV_text h
theorem getD_get {l : List Int} {j : Nat} (hj : j < l.length) : l[j]? = some (l.getD j 0) := by
  simp [List.getD, List.getElem?_eq_getElem hj]
/-- The pointers of a valid heap. -/
theorem hv_bounds {h : Hp} (hv : hvB h = true) : h.r.length = h.l.length ∧ (∀ x ∈ h.l, -1 ≤ x ∧ x < h.l.length) ∧ (∀ x ∈ h.r, -1 ≤ x ∧ x < h.l.length) ∧ (∀ x ∈ h.t, -1 ≤ x ∧ x < h.l.length) := by
  obtain ⟨⟨hr, _⟩, h0, h1, h2⟩ := hvB_parts hv
  rw [List.all_eq_true] at h0 h1 h2
  exact ⟨hr, fun x hx => by have := h0 x hx; simpa [ptB] using this, fun x hx => by have := h1 x hx; simpa [ptB] using this, fun x hx => by have := h2 x hx; simpa [ptB] using this⟩
theorem text_cell {s : ByteArray} {h : Hp} (hi : IsText s h) {j : Nat} (hj : j < h.l.length) : cellAt s (3 * j) (h.l.getD j 0) (h.r.getD j 0) := by
  have t := istext_text hi
  obtain ⟨hr, b0, b1, _⟩ := hv_bounds hi.1
  have h8 := (hvB_len hi.1)
  obtain ⟨a, b, c⟩ := t.cell j hj
  have m0 := b0 _ (List.mem_of_getElem? (getD_get hj))
  have m1 := b1 _ (List.mem_of_getElem? (getD_get (l := h.r) (by rw [hr]; exact hj)))
  exact ⟨rdP_of m0.1 (by omega) a, rdP_of m1.1 (by omega) b, nextB_of c⟩
theorem text_root {s : ByteArray} {h : Hp} (hi : IsText s h) {j : Nat} (hj : j < h.t.length) : rootAt s (3 * h.l.length + 1 + 2 * j) (h.t.getD j 0) := by
  have t := istext_text hi
  obtain ⟨_, _, _, b2⟩ := hv_bounds hi.1
  have h8 := (hvB_len hi.1)
  obtain ⟨a, b⟩ := t.root j hj
  have m2 := b2 _ (List.mem_of_getElem? (getD_get hj))
  exact ⟨nextB_of a, rdP_of m2.1 (by omega) b⟩
theorem text_no_cell {s : ByteArray} {h : Hp} (hi : IsText s h) (x y : Int) : ¬ cellAt s (3 * h.l.length) x y := by
  intro hc
  obtain ⟨hx, he⟩ := rdP_some hc.1
  rw [(istext_text hi).slash] at he
  exact (ltr_ne hx.1 (by omega)).2 (by simpa using he.symm)
theorem cells_fail {s : ByteArray} {k : Nat} {σ : RdS} (hO : CellsOk s k σ) (h1 : nextB s (3 * k) 47 = false) (h2 : k = 8 ∨ ∀ x y, ¬ cellAt s (3 * k) x y) (h : Hp) : ¬ IsText s h := by
  intro hi
  have h8 := hvB_len hi.1
  have hk8 := hO.k8
  rcases Nat.lt_trichotomy k h.l.length with hlt | heq | hgt
  · rcases h2 with rfl | h2
    · omega
    · exact h2 _ _ (text_cell hi hlt)
  · subst heq
    rw [nextB_of (istext_text hi).slash] at h1; cases h1
  · obtain ⟨x, y, _, _, hc⟩ := hO.at_ _ hgt
    exact text_no_cell hi x y hc
theorem cells_exact {s : ByteArray} {k : Nat} {σ : RdS} (hO : CellsOk s k σ) (h1 : nextB s (3 * k) 47 = true) {h : Hp} (hi : IsText s h) : k = h.l.length := by
  have h8 := hvB_len hi.1
  rcases Nat.lt_trichotomy k h.l.length with hlt | heq | hgt
  · obtain ⟨hx, he⟩ := rdP_some (text_cell hi hlt).1
    rw [nextB_get h1] at he
    exact absurd (by simpa using he.symm) (ltr_ne hx.1 (by omega)).2
  · exact heq
  · obtain ⟨x, y, _, _, hc⟩ := hO.at_ _ hgt
    exact absurd hc (text_no_cell hi x y)
theorem roots_fail {s : ByteArray} {k i : Nat} {σ σ' : RdS} (hO : CellsOk s k σ) (h1 : nextB s (3 * k) 47 = true) (hR : RootsOk s (σ.a + 1) { σ with a := σ.a + 1 } i σ') (hlt : σ'.a < s.size) (h2 : i = 3 ∨ ∀ t, ¬ rootAt s σ'.a t) (h : Hp) : ¬ IsText s h := by
  intro hi
  have hk := cells_exact hO h1 hi
  have h8 := hvB_len hi.1
  have hsz := (istext_text hi).size
  have ha := hR.a
  have ha0 := hO.a
  have him : i < h.t.length := by omega
  rcases h2 with rfl | h2
  · omega
  · have := text_root hi him
    rw [show 3 * h.l.length + 1 + 2 * i = σ'.a by omega] at this
    exact h2 _ this
theorem roots_exact {s : ByteArray} {k i : Nat} {σ σ' : RdS} (hO : CellsOk s k σ) (h1 : nextB s (3 * k) 47 = true) (hR : RootsOk s (σ.a + 1) { σ with a := σ.a + 1 } i σ') (hge : s.size ≤ σ'.a) {h : Hp} (hi : IsText s h) : i = h.t.length := by
  have hk := cells_exact hO h1 hi
  have hsz := (istext_text hi).size
  have ha := hR.a
  have ha0 := hO.a
  rcases Nat.lt_trichotomy i h.t.length with hlt | heq | hgt
  · omega
  · exact heq
  · obtain ⟨t, _, hc⟩ := hR.at_ _ hgt
    have := nextB_get hc.1
    obtain ⟨h9, _⟩ := Array.getElem?_eq_some_iff.1 this
    have : s.data.size = s.size := rfl
    omega
/-- Of what the reader has read, each is what the text says. -/
theorem complete_of {s : ByteArray} {k i : Nat} {σ σ' : RdS} (hO : CellsOk s k σ) (h1 : nextB s (3 * k) 47 = true) (hR : RootsOk s (σ.a + 1) { σ with a := σ.a + 1 } i σ') (hge : s.size ≤ σ'.a) {h : Hp} (hi : IsText s h) : szB σ'.n σ'.m = true ∧ flagsOk σ' := by
  have hk := cells_exact hO h1 hi
  have hm := roots_exact hO h1 hR hge hi
  have hn' : σ'.n = h.l.length := by rw [hR.n]; show σ.n = _; rw [hO.n, hk]
  have hm' : σ'.m = h.t.length := by rw [hR.m, hm]
  obtain ⟨⟨_, hz⟩, _⟩ := hvB_parts hi.1
  obtain ⟨hr, b0, b1, b2⟩ := hv_bounds hi.1
  have h8 := hvB_len hi.1
  refine ⟨by rw [hn', hm']; exact hz, fun j hj hj8 => ?_⟩
  rw [hn'] at hj
  rcases hc : σ'.ps.contains (j : Int)
  · rfl
  · exfalso
    rw [List.contains_iff_mem] at hc
    rcases (hR.ps _).1 hc with hc | hc
    · rcases (hO.ps _).1 hc with hc | hc
      · obtain ⟨p, hp⟩ := List.getElem?_of_mem hc
        have hpl := (List.getElem?_eq_some_iff.1 hp).1
        rw [hO.ll, hk] at hpl
        obtain ⟨x, y, e1, _, e3⟩ := hO.at_ p (by omega)
        rw [hp] at e1
        obtain rfl : (j : Int) = x := by simpa using e1
        have e4 := (cellAt_eq e3 (text_cell hi hpl)).1
        have := b0 _ (List.mem_of_getElem? (getD_get hpl))
        omega
      · obtain ⟨p, hp⟩ := List.getElem?_of_mem hc
        have hpl := (List.getElem?_eq_some_iff.1 hp).1
        rw [hO.rl, hk] at hpl
        obtain ⟨x, y, _, e2, e3⟩ := hO.at_ p (by omega)
        rw [hp] at e2
        obtain rfl : (j : Int) = y := by simpa using e2
        have e4 := (cellAt_eq e3 (text_cell hi hpl)).2
        have := b1 _ (List.mem_of_getElem? (getD_get (l := h.r) (by rw [hr]; exact hpl)))
        omega
    · obtain ⟨p, hp⟩ := List.getElem?_of_mem hc
      have hpl := (List.getElem?_eq_some_iff.1 hp).1
      rw [hR.tl, hm] at hpl
      obtain ⟨t, e1, e2⟩ := hR.at_ p (by omega)
      rw [hp] at e1
      obtain rfl : (j : Int) = t := by simpa using e1
      have e3 := text_root hi hpl
      have ha0 := hO.a
      rw [show 3 * h.l.length + 1 + 2 * p = σ.a + 1 + 2 * p by omega] at e3
      have e4 := e2.2.symm.trans e3.2
      have e5 : (j : Int) = h.t.getD p 0 := by simpa using e4
      have := b2 _ (List.mem_of_getElem? (getD_get hpl))
      omega
theorem read_bounds {s : ByteArray} {k i : Nat} {σ σ' : RdS} (hO : CellsOk s k σ) (hR : RootsOk s (σ.a + 1) { σ with a := σ.a + 1 } i σ') :
    (∀ x ∈ σ'.ls, -1 ≤ x ∧ x < 8) ∧ (∀ x ∈ σ'.rs, -1 ≤ x ∧ x < 8) ∧ (∀ x ∈ σ'.ts, -1 ≤ x ∧ x < 8) := by
  refine ⟨fun x hx => ?_, fun x hx => ?_, fun x hx => ?_⟩
  · rw [hR.ls] at hx
    obtain ⟨p, hp⟩ := List.getElem?_of_mem hx
    have hpl := (List.getElem?_eq_some_iff.1 hp).1
    obtain ⟨x', y, e1, _, e3⟩ := hO.at_ p (by have := hO.ll; exact this ▸ hpl)
    have e9 := hp.symm.trans e1
    obtain rfl : x = x' := by simpa using e9
    exact (rdP_some e3.1).1
  · rw [hR.rs] at hx
    obtain ⟨p, hp⟩ := List.getElem?_of_mem hx
    have hpl := (List.getElem?_eq_some_iff.1 hp).1
    obtain ⟨x', y, _, e2, e3⟩ := hO.at_ p (by have := hO.rl; exact this ▸ hpl)
    have e9 := hp.symm.trans e2
    obtain rfl : x = y := by simpa using e9
    exact (rdP_some e3.2.1).1
  · obtain ⟨p, hp⟩ := List.getElem?_of_mem hx
    have hpl := (List.getElem?_eq_some_iff.1 hp).1
    obtain ⟨t, e1, e2⟩ := hR.at_ p (by have := hR.tl; exact this ▸ hpl)
    have e9 := hp.symm.trans e1
    obtain rfl : x = t := by simpa using e9
    exact (rdP_some e2.2).1
theorem read_text {s : ByteArray} {k i : Nat} {σ σ' : RdS} (hO : CellsOk s k σ) (h1 : nextB s (3 * k) 47 = true) (hR : RootsOk s (σ.a + 1) { σ with a := σ.a + 1 } i σ') (hge : s.size ≤ σ'.a) (hz : szB σ'.n σ'.m = true) (hf : flagsOk σ') : IsText s ⟨σ'.ls, σ'.rs, σ'.ts⟩ := by
  have hl : σ'.ls.length = k := by rw [hR.ls]; exact hO.ll
  have hr : σ'.rs.length = k := by rw [hR.rs]; exact hO.rl
  have ht := hR.tl
  have hn : σ'.n = k := by rw [hR.n]; exact hO.n
  have hm := hR.m
  have ha := hR.a
  have ha0 := hO.a
  obtain ⟨b0, b1, b2⟩ := read_bounds hO hR
  have hps : ∀ x, x ∈ σ'.ls ∨ x ∈ σ'.rs ∨ x ∈ σ'.ts → -1 ≤ x → x < 8 → x < k := by
    intro x hx h0 h8
    rcases Int.lt_or_le x k with h9 | h9
    · exact h9
    · exfalso
      obtain ⟨j, rfl⟩ : ∃ j : Nat, x = j := ⟨x.toNat, by omega⟩
      have := hf j (by omega) (by omega)
      have hmem : (j : Int) ∈ σ'.ps := by
        rw [hR.ps]
        show (j : Int) ∈ σ.ps ∨ _
        rw [hO.ps, ← hR.ls, ← hR.rs] <;> try rfl
        rcases hx with hx | hx | hx
        · exact .inl (.inl hx)
        · exact .inl (.inr hx)
        · exact .inr hx
      rw [← List.contains_iff_mem, this] at hmem
      cases hmem
  have pt : ∀ xs : List Int, (∀ x ∈ xs, -1 ≤ x ∧ x < 8) → (∀ x ∈ xs, x ∈ σ'.ls ∨ x ∈ σ'.rs ∨ x ∈ σ'.ts) → xs.all (ptB · σ'.ls.length) = true := by
    intro xs h2 h3
    rw [List.all_eq_true]
    intro x hx
    have q1 := h2 x hx
    have q2 := hps x (h3 x hx) q1.1 q1.2
    rw [hl]
    simp only [ptB, decide_eq_true_eq]
    omega
  refine ⟨?_, text_fmtV ⟨?_, fun j hj => ?_, ?_, fun j hj => ?_⟩⟩
  · unfold hvB
    simp only [Bool.and_eq_true, decide_eq_true_eq]
    refine ⟨⟨⟨⟨by omega, ?_⟩, pt _ b0 fun x hx => .inl hx⟩, pt _ b1 fun x hx => .inr (.inl hx)⟩, pt _ b2 fun x hx => .inr (.inr hx)⟩
    rw [hl, ht, ← hn, ← hm]; exact hz
  · show s.size = 3 * σ'.ls.length + 2 * σ'.ts.length + 1
    rw [hl, ht]
    have h9 : s.data.size = s.size := rfl
    rcases i with _ | i
    · obtain ⟨h8, _⟩ := Array.getElem?_eq_some_iff.1 (nextB_get h1)
      omega
    · obtain ⟨t, _, e2⟩ := hR.at_ i (by omega)
      obtain ⟨h8, _⟩ := Array.getElem?_eq_some_iff.1 (rdP_some e2.2).2
      omega
  · obtain ⟨x, y, e1, e2, e3⟩ := hO.at_ j (by rw [← hl]; exact hj)
    have q1 := (rdP_some e3.1).2
    have q2 := (rdP_some e3.2.1).2
    have q3 := nextB_get e3.2.2
    show s.data[3 * j]? = some (ltr (σ'.ls.getD j 0)) ∧ s.data[3 * j + 1]? = some (ltr (σ'.rs.getD j 0)) ∧ s.data[3 * j + 2]? = some 32
    rw [hR.ls, hR.rs]
    show s.data[3 * j]? = some (ltr (σ.ls.getD j 0)) ∧ s.data[3 * j + 1]? = some (ltr (σ.rs.getD j 0)) ∧ s.data[3 * j + 2]? = some 32
    simp only [List.getD_eq_getElem?_getD, e1, e2, Option.getD_some]
    exact ⟨q1, q2, q3⟩
  · show s.data[3 * σ'.ls.length]? = some 47
    rw [hl]; exact nextB_get h1
  · obtain ⟨t, e1, e2⟩ := hR.at_ j (by rw [← ht]; exact hj)
    have q1 := nextB_get e2.1
    have q2 := (rdP_some e2.2).2
    show s.data[3 * σ'.ls.length + 1 + 2 * j]? = some 32 ∧ s.data[3 * σ'.ls.length + 1 + 2 * j + 1]? = some (ltr (σ'.ts.getD j 0))
    rw [hl, show 3 * k + 1 + 2 * j = σ.a + 1 + 2 * j by omega]
    simp only [List.getD_eq_getElem?_getD, e1, Option.getD_some]
    exact ⟨q1, q2⟩
end Go.Proofs.Ytpimndfafibgeaa
