/- What the search reaches is the least set that holds the starts and is closed under pointers. -/
import Derived.Test.YtkcelcjghplhiaaClos
import Derived.Test.YtkcelcjghplhiaaLive
namespace Go.Proofs.Ytkcelcjghplhiaa

theorem marks_from {d : Int} {s : List Int × List Int} {xs : List Int} {c : Int} (h : c ∈ (marks d s xs).2) : c ∈ s.2 ∨ (c ∈ xs ∧ c ≠ -1) := by
  induction xs generalizing s with
  | nil => exact .inl h
  | cons x xs ih =>
    rcases ih (s := mark d s x) h with h1 | h1
    · unfold mark at h1
      split at h1
      · rename_i hx
        rcases List.mem_append.1 h1 with h2 | h2
        · exact .inl h2
        · have e : c = x := by simpa using h2
          exact .inr ⟨by rw [e]; simp, by rw [e]; exact hx.1⟩
      · exact .inl h1
    · exact .inr ⟨List.mem_cons_of_mem _ h1.1, h1.2⟩
theorem kids_from {l r Q : List Int} {x : Int} (h : x ∈ kids l r Q) : ∃ c ∈ Q, x = gd l c ∨ x = gd r c := by
  unfold kids at h
  rw [List.mem_flatMap] at h
  obtain ⟨c, hc, hx⟩ := h
  exact ⟨c, hc, by simpa using hx⟩
theorem bfs_least {l r : List Int} {n : Nat} (hl : l.length = n) (hr : r.length = n) (h1 : l.all (ptB · n) = true) (h2 : r.all (ptB · n) = true) (S : Int → Prop)
    (hS : ∀ c, S c → ∀ x, x = gd l c ∨ x = gd r c → x ≠ -1 → S x) :
    ∀ (f : Nat) (D : List Int) (d : Int) (xs : List Int), xs.all (ptB · n) = true → (∀ c, 0 ≤ c → 0 ≤ gd D c → S c) → (∀ x ∈ xs, x ≠ -1 → S x) → ∀ c, 0 ≤ c → 0 ≤ gd (bfs l r f D d xs) c → S c := by
  intro f
  induction f with
  | zero => intro D d xs _ hD _ c h0 hc; exact hD c h0 hc
  | succ f ih =>
    intro D d xs hx hD hxs c h0 hc
    have hq : ∀ y ∈ (marks d (D, []) xs).2, S y := fun y hy => by
      rcases marks_from hy with h | h
      · simp at h
      · exact hxs y h.1 h.2
    have hD' : ∀ y, 0 ≤ y → 0 ≤ gd (marks d (D, []) xs).1 y → S y := fun y hy0 hy => by
      rcases marks_new (s := (D, [])) hx hy0 hy with h | h
      · exact hD y hy0 h
      · exact hq y h
    by_cases he : (marks d (D, []) xs).2 = []
    · have hb : bfs l r (f + 1) D d xs = (marks d (D, []) xs).1 := by
        show (if (marks d (D, []) xs).2 = [] then _ else _) = _
        rw [if_pos he]
      rw [hb] at hc
      exact hD' c h0 hc
    · have hb : bfs l r (f + 1) D d xs = bfs l r f (marks d (D, []) xs).1 (d + 1) (kids l r (marks d (D, []) xs).2) := by
        show (if (marks d (D, []) xs).2 = [] then _ else _) = _
        rw [if_neg he]
      rw [hb] at hc
      have hcells := marks_cells (n := n) (d := d) (s := (D, [])) (by rfl) hx
      refine ih _ _ _ (kids_pt hl hr h1 h2 hcells) hD' (fun x hmem hne => ?_) c h0 hc
      obtain ⟨y, hy, hxy⟩ := kids_from hmem
      exact hS y (hq y hy) x hxy hne
theorem gd_rep (n : Nat) (c : Int) : gd (List.replicate n (-1)) c = -1 := by
  unfold gd
  rw [List.getD_eq_getElem?_getD]
  by_cases hc : c.toNat < n
  · simp [hc]
  · simp [hc]
theorem dist_least {h : Hp} (hv : hvB h = true) {s : List Int} (hs : s.all (ptB · h.l.length) = true) (S : Int → Prop) (h0 : ∀ x ∈ s, x ≠ -1 → S x)
    (hS : ∀ c, S c → ∀ x, x = gd h.l c ∨ x = gd h.r c → x ≠ -1 → S x) : ∀ c, 0 ≤ c → 0 ≤ gd (dist h s) c → S c := by
  obtain ⟨⟨hr, _⟩, h3, h4, _⟩ := hvB_parts hv
  unfold dist
  exact bfs_least (n := h.l.length) rfl hr h3 h4 S hS _ _ _ _ hs (fun c _ hc => by rw [gd_rep] at hc; omega) h0
/-- With fewer roots and fewer pointers fewer cells are live. -/
theorem live_sub {h h' : Hp} (hv : hvB h = true) (hv' : hvB h' = true) (hlen : h'.l.length = h.l.length) (ht : ∀ x ∈ h'.t, x ≠ -1 → x ∈ h.t)
    (hl : ∀ c, gd h'.l c = -1 ∨ gd h'.l c = gd h.l c) (hr : ∀ c, gd h'.r c = -1 ∨ gd h'.r c = gd h.r c) (k : Nat) (hk : (liveL h')[k]? = some true) : (liveL h)[k]? = some true := by
  obtain ⟨_, _, _, h5⟩ := hvB_parts hv
  obtain ⟨_, _, _, h5'⟩ := hvB_parts hv'
  obtain ⟨c1, c2⟩ := dist_closed hv h5
  have hg := live_get hv' hk
  have hg' : 0 ≤ gd (dist h' h'.t) (k : Int) := by simpa using hg.symm
  have hpt := h5
  rw [List.all_eq_true] at hpt
  obtain ⟨⟨hrl, _⟩, h3, h4, _⟩ := hvB_parts hv
  have h9 := dist_least hv' h5' (fun c => 0 ≤ c ∧ 0 ≤ gd (dist h h.t) c)
    (fun x hx hne => by
      have hm := ht x hx hne
      have hp := hpt x hm
      simp only [ptB, decide_eq_true_eq] at hp
      exact ⟨by omega, c1 x hm hne⟩)
    (fun c hc x hx hne => by
      have hx' : x = gd h.l c ∨ x = gd h.r c := by
        rcases hx with e | e
        · rcases hl c with e2 | e2
          · exact absurd (e.trans e2) hne
          · exact .inl (e.trans e2)
        · rcases hr c with e2 | e2
          · exact absurd (e.trans e2) hne
          · exact .inr (e.trans e2)
      have hcl : plB c h.l.length = true := by
        have := gd_plB hc.1 hc.2
        rw [dist_len] at this; exact this
      have hp : ptB x h.l.length = true := by
        rcases hx' with rfl | rfl
        · exact gd_all h3 hcl
        · exact gd_all h4 (by rw [hrl]; exact hcl)
      simp only [ptB, decide_eq_true_eq] at hp
      rcases c2 c hc.1 hc.2 x hx' hne with h8 | h8
      · exact ⟨by omega, h8⟩
      · simp at h8) (k : Int) (by omega) hg'
  have hkl : k < (liveL h).length := by
    have := (List.getElem?_eq_some_iff.1 hk).1
    rw [liveL_len hv'] at this
    rw [liveL_len hv]; omega
  have hb := live_get hv (k := k) (b := (liveL h)[k]) (List.getElem?_eq_getElem hkl)
  rw [List.getElem?_eq_getElem hkl, hb]
  simpa using h9.2
theorem cntB_mono {xs ys : List Bool} (hlen : xs.length = ys.length) (h : ∀ k : Nat, xs[k]? = some true → ys[k]? = some true) : cntB xs ≤ cntB ys := by
  induction xs generalizing ys with
  | nil =>
    simp [cntB]
  | cons x xs ih =>
    cases ys with
    | nil => simp at hlen
    | cons y ys =>
      have h0 := h 0
      have ht := ih (ys := ys) (by simpa using hlen) (fun k hk => by have := h (k + 1); simpa using this (by simpa using hk))
      unfold cntB at ht ⊢
      cases x <;> cases y <;> simp at h0 ⊢ <;> omega
end Go.Proofs.Ytkcelcjghplhiaa
