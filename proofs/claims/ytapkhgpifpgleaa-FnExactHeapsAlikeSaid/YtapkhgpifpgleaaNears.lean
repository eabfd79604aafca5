import Derived.Test.YtapkhgpifpgleaaLives
import Derived.Test.YtapkhgpifpgleaaPure
/- What the search leaves: what is reached is closed under pointers. -/
namespace Go.Proofs.Ytapkhgpifpgleaa

theorem marks_keep {n : Nat} {d : Int} {s : List Int × List Int} {xs : List Int} (hx : xs.all (ptB · n) = true) {c : Int} (h0 : 0 ≤ c) (hc : 0 ≤ gd s.1 c) : gd (marks d s xs).1 c = gd s.1 c := by
  induction xs generalizing s with
  | nil => rfl
  | cons x xs ih =>
    rw [List.all_cons, Bool.and_eq_true] at hx
    have hx1 := hx.1
    simp only [ptB, decide_eq_true_eq] at hx1
    have e := mark_keep (d := d) hx1.1 h0 hc
    show gd (marks d (mark d s x) xs).1 c = _
    rw [ih hx.2 (by rw [e]; exact hc), e]
theorem mark_sets {n : Nat} {d x : Int} {s : List Int × List Int} (hd : 0 ≤ d) (hl : s.1.length = n) (hx : ptB x n = true) (hne : x ≠ -1) : 0 ≤ gd (mark d s x).1 x := by
  simp only [ptB, decide_eq_true_eq] at hx
  unfold mark
  split
  · rw [gd_set_eq (by omega) (by omega)]; exact hd
  · rename_i h
    have h9 : ¬ (gd s.1 x < 0) := fun e => h ⟨hne, e⟩
    exact Int.not_lt.1 h9
theorem marks_hit {n : Nat} {d : Int} {s : List Int × List Int} {xs : List Int} (hd : 0 ≤ d) (hl : s.1.length = n) (hx : xs.all (ptB · n) = true) : ∀ x ∈ xs, x ≠ -1 → 0 ≤ gd (marks d s xs).1 x := by
  induction xs generalizing s with
  | nil => simp
  | cons y xs ih =>
    rw [List.all_cons, Bool.and_eq_true] at hx
    intro x hmem hne
    show 0 ≤ gd (marks d (mark d s y) xs).1 x
    rcases List.mem_cons.1 hmem with rfl | h
    · have h9 := mark_sets (n := n) hd hl hx.1 hne
      have hx1 := hx.1
      simp only [ptB, decide_eq_true_eq] at hx1
      rw [marks_keep hx.2 (by omega) h9]; exact h9
    · exact ih (by rw [mark_len]; exact hl) hx.2 x h hne
theorem marks_mem {d : Int} {s : List Int × List Int} {xs : List Int} {c : Int} (h : c ∈ s.2) : c ∈ (marks d s xs).2 := by
  induction xs generalizing s with
  | nil => exact h
  | cons x xs ih =>
    refine ih ?_
    unfold mark; split
    · simp [h]
    · exact h
theorem marks_new {n : Nat} {d : Int} {s : List Int × List Int} {xs : List Int} (hx : xs.all (ptB · n) = true) {c : Int} (h0 : 0 ≤ c) (hc : 0 ≤ gd (marks d s xs).1 c) : 0 ≤ gd s.1 c ∨ c ∈ (marks d s xs).2 := by
  induction xs generalizing s with
  | nil => exact .inl hc
  | cons x xs ih =>
    rw [List.all_cons, Bool.and_eq_true] at hx
    rcases ih (s := mark d s x) hx.2 hc with h | h
    · by_cases hcx : c = x
      · subst hcx
        by_cases hm : c ≠ -1 ∧ gd s.1 c < 0
        · refine .inr (marks_mem (s := mark d s c) ?_)
          unfold mark; rw [if_pos hm]; simp
        · refine .inl ?_
          unfold mark at h; rw [if_neg hm] at h; exact h
      · have hx1 := hx.1
        simp only [ptB, decide_eq_true_eq] at hx1
        refine .inl ?_
        unfold mark at h
        split at h
        · rw [gd_set_ne (by omega) h0 hcx] at h; exact h
        · exact h
    · exact .inr h

/-- What the marked cells point to is marked, or stands in xs. -/
def Clo (l r D xs : List Int) : Prop := ∀ c, 0 ≤ c → 0 ≤ gd D c → ∀ x, x = gd l c ∨ x = gd r c → x ≠ -1 → 0 ≤ gd D x ∨ x ∈ xs
theorem mem_kids {l r Q : List Int} {c x : Int} (hc : c ∈ Q) (hx : x = gd l c ∨ x = gd r c) : x ∈ kids l r Q := by
  unfold kids
  rw [List.mem_flatMap]
  exact ⟨c, hc, by rcases hx with rfl | rfl <;> simp⟩
theorem gd_plB {D : List Int} {c : Int} (h0 : 0 ≤ c) (h : 0 ≤ gd D c) : plB c D.length = true := by
  have : c < D.length := by
    refine Int.not_le.1 fun hh => ?_
    have h9 : gd D c = -1 := by
      unfold gd
      have : D.length ≤ c.toNat := by omega
      simp [List.getD, this]
    omega
  simp [plB]; omega
theorem bfs_closed {l r : List Int} {n : Nat} (hl : l.length = n) (hr : r.length = n) (h1 : l.all (ptB · n) = true) (h2 : r.all (ptB · n) = true) :
    ∀ (f : Nat) (D : List Int) (d : Int) (xs : List Int), D.length = n → negs D ≤ f → 1 ≤ d → xs.all (ptB · n) = true → Clo l r D xs →
      (∀ c, 0 ≤ c → 0 ≤ gd D c → gd (bfs l r (f + 1) D d xs) c = gd D c) ∧ (∀ x ∈ xs, x ≠ -1 → 0 ≤ gd (bfs l r (f + 1) D d xs) x) ∧ Clo l r (bfs l r (f + 1) D d xs) [] := by
  intro f
  induction f with
  | zero =>
    intro D d xs hD hf hd hx hC
    have hng := marks_negs (n := n) (d := d) (by omega) (s := (D, [])) hD hx
    have hq : (marks d (D, []) xs).2 = [] := by
      have : (marks d (D, []) xs).2.length = 0 := by simp at hng; omega
      exact List.length_eq_zero_iff.1 this
    have hb : bfs l r (0 + 1) D d xs = (marks d (D, []) xs).1 := by
      show (if (marks d (D, []) xs).2 = [] then _ else _) = _
      rw [if_pos hq]
    rw [hb]
    have hkeep : ∀ c, 0 ≤ c → 0 ≤ gd D c → gd (marks d (D, []) xs).1 c = gd D c := fun c h0 hc => marks_keep (s := (D, [])) hx h0 hc
    have hhit := marks_hit (n := n) (d := d) (s := (D, [])) (xs := xs) (by omega) hD hx
    refine ⟨hkeep, hhit, fun c h0 hc x hx' hne => .inl ?_⟩
    rcases marks_new (s := (D, [])) hx h0 hc with h | h
    · rcases hC c h0 h x hx' hne with h' | h'
      · have hx0 : 0 ≤ x := by
          have hcl : plB c n = true := by have := gd_plB h0 h; rw [hD] at this; exact this
          have hp : ptB x n = true := by
            rcases hx' with rfl | rfl
            · exact gd_all h1 (by rw [hl]; exact hcl)
            · exact gd_all h2 (by rw [hr]; exact hcl)
          simp only [ptB, decide_eq_true_eq] at hp; omega
        rw [hkeep x hx0 h']; exact h'
      · exact hhit x h' hne
    · rw [hq] at h; simp at h
  | succ f ih =>
    intro D d xs hD hf hd hx hC
    have hng := marks_negs (n := n) (d := d) (by omega) (s := (D, [])) hD hx
    have hkeep : ∀ c, 0 ≤ c → 0 ≤ gd D c → gd (marks d (D, []) xs).1 c = gd D c := fun c h0 hc => marks_keep (s := (D, [])) hx h0 hc
    have hhit := marks_hit (n := n) (d := d) (s := (D, [])) (xs := xs) (by omega) hD hx
    have hkid : ∀ c, 0 ≤ c → plB c n = true → ∀ x, x = gd l c ∨ x = gd r c → x ≠ -1 → 0 ≤ x := by
      intro c h0 hcl x hx' hne
      have hp : ptB x n = true := by
        rcases hx' with rfl | rfl
        · exact gd_all h1 (by rw [hl]; exact hcl)
        · exact gd_all h2 (by rw [hr]; exact hcl)
      simp only [ptB, decide_eq_true_eq] at hp; omega
    by_cases hq : (marks d (D, []) xs).2 = []
    · have hb : bfs l r (f + 1 + 1) D d xs = (marks d (D, []) xs).1 := by
        show (if (marks d (D, []) xs).2 = [] then _ else _) = _
        rw [if_pos hq]
      rw [hb]
      refine ⟨hkeep, hhit, fun c h0 hc x hx' hne => .inl ?_⟩
      rcases marks_new (s := (D, [])) hx h0 hc with h | h
      · rcases hC c h0 h x hx' hne with h' | h'
        · have hcl : plB c n = true := by have := gd_plB h0 h; rw [hD] at this; exact this
          rw [hkeep x (hkid c h0 hcl x hx' hne) h']; exact h'
        · exact hhit x h' hne
      · rw [hq] at h; simp at h
    · have hpos : 0 < (marks d (D, []) xs).2.length := List.length_pos_iff.2 hq
      have hb : bfs l r (f + 1 + 1) D d xs = bfs l r (f + 1) (marks d (D, []) xs).1 (d + 1) (kids l r (marks d (D, []) xs).2) := by
        show (if (marks d (D, []) xs).2 = [] then _ else _) = _
        rw [if_neg hq]
      have hcells := marks_cells (n := n) (d := d) (s := (D, [])) (by rfl) hx
      have hC' : Clo l r (marks d (D, []) xs).1 (kids l r (marks d (D, []) xs).2) := by
        intro c h0 hc x hx' hne
        rcases marks_new (s := (D, [])) hx h0 hc with h | h
        · rcases hC c h0 h x hx' hne with h' | h'
          · have hcl : plB c n = true := by have := gd_plB h0 h; rw [hD] at this; exact this
            exact .inl (by rw [hkeep x (hkid c h0 hcl x hx' hne) h']; exact h')
          · exact .inl (hhit x h' hne)
        · exact .inr (mem_kids h hx')
      obtain ⟨k1, k2, k3⟩ := ih (marks d (D, []) xs).1 (d + 1) (kids l r (marks d (D, []) xs).2) (by rw [marks_len]; exact hD) (by simp at hng; omega) (by omega) (kids_pt hl hr h1 h2 hcells) hC'
      rw [hb]
      refine ⟨fun c h0 hc => by rw [k1 c h0 (by rw [hkeep c h0 hc]; exact hc), hkeep c h0 hc], fun x hmem hne => ?_, k3⟩
      have hp := hx
      rw [List.all_eq_true] at hp
      have hpx := hp x hmem
      simp only [ptB, decide_eq_true_eq] at hpx
      have h9 := hhit x hmem hne
      rw [k1 x (by omega) h9]; exact h9

/-- The starts are reached, and what is reached is closed under pointers. -/
theorem dist_closed {h : Hp} (hv : hvB h = true) {s : List Int} (hs : s.all (ptB · h.l.length) = true) : (∀ x ∈ s, x ≠ -1 → 0 ≤ gd (dist h s) x) ∧ Clo h.l h.r (dist h s) [] := by
  obtain ⟨⟨hr, _⟩, h3, h4, _⟩ := hvB_parts hv
  have hg : ∀ c, gd (List.replicate h.l.length (-1)) c = -1 := by
    intro c
    unfold gd
    rw [List.getD_eq_getElem?_getD]
    by_cases hc : c.toNat < h.l.length
    · simp [hc]
    · simp [hc]
  have hb := bfs_closed (l := h.l) (r := h.r) (n := h.l.length) rfl hr h3 h4 h.l.length (List.replicate h.l.length (-1)) 1 s (by simp) (by rw [negs_rep]; omega) (by omega) hs (fun c h0 hc => by rw [hg] at hc; omega)
  exact ⟨hb.2.1, hb.2.2⟩
theorem mark_none {d : Int} {s : List Int × List Int} {xs : List Int} (h : ∀ x ∈ xs, x = -1) : marks d s xs = s := by
  induction xs generalizing s with
  | nil => rfl
  | cons x xs ih =>
    have hx := h x (by simp)
    show marks d (mark d s x) xs = s
    have : mark d s x = s := by unfold mark; rw [if_neg (by rw [hx]; simp)]
    rw [this]; exact ih fun y hy => h y (by simp [hy])
/-- Without roots that point nothing is live. -/
theorem dist_none {h : Hp} {s : List Int} (hs : ∀ x ∈ s, x = -1) : dist h s = List.replicate h.l.length (-1) := by
  unfold dist
  show (if (marks 1 (List.replicate h.l.length (-1), []) s).2 = [] then (marks 1 (List.replicate h.l.length (-1), []) s).1 else _) = _
  rw [mark_none hs, if_pos rfl]
theorem live_get {h : Hp} (hv : hvB h = true) {k : Nat} {b : Bool} (hk : (liveL h)[k]? = some b) : b = decide (0 ≤ gd (dist h h.t) (k : Int)) := by
  unfold liveL at hk
  rw [if_pos hv, List.getElem?_map] at hk
  cases hu : (dist h h.t)[k]? with
  | none => rw [hu] at hk; simp at hk
  | some u =>
    rw [hu] at hk
    simp at hk
    rw [gd_nat hu, ← hk]
end Go.Proofs.Ytapkhgpifpgleaa

/- What the search reaches is the least set that holds the starts and is closed under pointers. -/
namespace Go.Proofs.Ytapkhgpifpgleaa

theorem marks_from {d : Int} {s : List Int × List Int} {xs : List Int} {c : Int} (h : c ∈ (marks d s xs).2) : c ∈ s.2 ∨ (c ∈ xs ∧ c ≠ -1) := by
  induction xs generalizing s with
  | nil => exact .inl h
  | cons x xs ih =>
    rcases ih (s := mark d s x) h with h1 | h1
    · unfold mark at h1
      split at h1
      · rename_i hx
        rcases List.mem_append.1 h1 with h2 | h2
        · exact .inl h2
        · have e : c = x := by simpa using h2
          exact .inr ⟨by rw [e]; simp, by rw [e]; exact hx.1⟩
      · exact .inl h1
    · exact .inr ⟨List.mem_cons_of_mem _ h1.1, h1.2⟩
theorem kids_from {l r Q : List Int} {x : Int} (h : x ∈ kids l r Q) : ∃ c ∈ Q, x = gd l c ∨ x = gd r c := by
  unfold kids at h
  rw [List.mem_flatMap] at h
  obtain ⟨c, hc, hx⟩ := h
  exact ⟨c, hc, by simpa using hx⟩
theorem bfs_least {l r : List Int} {n : Nat} (hl : l.length = n) (hr : r.length = n) (h1 : l.all (ptB · n) = true) (h2 : r.all (ptB · n) = true) (S : Int → Prop)
    (hS : ∀ c, S c → ∀ x, x = gd l c ∨ x = gd r c → x ≠ -1 → S x) :
    ∀ (f : Nat) (D : List Int) (d : Int) (xs : List Int), xs.all (ptB · n) = true → (∀ c, 0 ≤ c → 0 ≤ gd D c → S c) → (∀ x ∈ xs, x ≠ -1 → S x) → ∀ c, 0 ≤ c → 0 ≤ gd (bfs l r f D d xs) c → S c := by
  intro f
  induction f with
  | zero => intro D d xs _ hD _ c h0 hc; exact hD c h0 hc
  | succ f ih =>
    intro D d xs hx hD hxs c h0 hc
    have hq : ∀ y ∈ (marks d (D, []) xs).2, S y := fun y hy => by
      rcases marks_from hy with h | h
      · simp at h
      · exact hxs y h.1 h.2
    have hD' : ∀ y, 0 ≤ y → 0 ≤ gd (marks d (D, []) xs).1 y → S y := fun y hy0 hy => by
      rcases marks_new (s := (D, [])) hx hy0 hy with h | h
      · exact hD y hy0 h
      · exact hq y h
    by_cases he : (marks d (D, []) xs).2 = []
    · have hb : bfs l r (f + 1) D d xs = (marks d (D, []) xs).1 := by
        show (if (marks d (D, []) xs).2 = [] then _ else _) = _
        rw [if_pos he]
      rw [hb] at hc
      exact hD' c h0 hc
    · have hb : bfs l r (f + 1) D d xs = bfs l r f (marks d (D, []) xs).1 (d + 1) (kids l r (marks d (D, []) xs).2) := by
        show (if (marks d (D, []) xs).2 = [] then _ else _) = _
        rw [if_neg he]
      rw [hb] at hc
      have hcells := marks_cells (n := n) (d := d) (s := (D, [])) (by rfl) hx
      refine ih _ _ _ (kids_pt hl hr h1 h2 hcells) hD' (fun x hmem hne => ?_) c h0 hc
      obtain ⟨y, hy, hxy⟩ := kids_from hmem
      exact hS y (hq y hy) x hxy hne
theorem gd_rep (n : Nat) (c : Int) : gd (List.replicate n (-1)) c = -1 := by
  unfold gd
  rw [List.getD_eq_getElem?_getD]
  by_cases hc : c.toNat < n
  · simp [hc]
  · simp [hc]
theorem dist_least {h : Hp} (hv : hvB h = true) {s : List Int} (hs : s.all (ptB · h.l.length) = true) (S : Int → Prop) (h0 : ∀ x ∈ s, x ≠ -1 → S x)
    (hS : ∀ c, S c → ∀ x, x = gd h.l c ∨ x = gd h.r c → x ≠ -1 → S x) : ∀ c, 0 ≤ c → 0 ≤ gd (dist h s) c → S c := by
  obtain ⟨⟨hr, _⟩, h3, h4, _⟩ := hvB_parts hv
  unfold dist
  exact bfs_least (n := h.l.length) rfl hr h3 h4 S hS _ _ _ _ hs (fun c _ hc => by rw [gd_rep] at hc; omega) h0
/-- With fewer roots and fewer pointers fewer cells are live. -/
theorem live_sub {h h' : Hp} (hv : hvB h = true) (hv' : hvB h' = true) (hlen : h'.l.length = h.l.length) (ht : ∀ x ∈ h'.t, x ≠ -1 → x ∈ h.t)
    (hl : ∀ c, gd h'.l c = -1 ∨ gd h'.l c = gd h.l c) (hr : ∀ c, gd h'.r c = -1 ∨ gd h'.r c = gd h.r c) (k : Nat) (hk : (liveL h')[k]? = some true) : (liveL h)[k]? = some true := by
  obtain ⟨_, _, _, h5⟩ := hvB_parts hv
  obtain ⟨_, _, _, h5'⟩ := hvB_parts hv'
  obtain ⟨c1, c2⟩ := dist_closed hv h5
  have hg := live_get hv' hk
  have hg' : 0 ≤ gd (dist h' h'.t) (k : Int) := by simpa using hg.symm
  have hpt := h5
  rw [List.all_eq_true] at hpt
  obtain ⟨⟨hrl, _⟩, h3, h4, _⟩ := hvB_parts hv
  have h9 := dist_least hv' h5' (fun c => 0 ≤ c ∧ 0 ≤ gd (dist h h.t) c)
    (fun x hx hne => by
      have hm := ht x hx hne
      have hp := hpt x hm
      simp only [ptB, decide_eq_true_eq] at hp
      exact ⟨by omega, c1 x hm hne⟩)
    (fun c hc x hx hne => by
      have hx' : x = gd h.l c ∨ x = gd h.r c := by
        rcases hx with e | e
        · rcases hl c with e2 | e2
          · exact absurd (e.trans e2) hne
          · exact .inl (e.trans e2)
        · rcases hr c with e2 | e2
          · exact absurd (e.trans e2) hne
          · exact .inr (e.trans e2)
      have hcl : plB c h.l.length = true := by
        have := gd_plB hc.1 hc.2
        rw [dist_len] at this; exact this
      have hp : ptB x h.l.length = true := by
        rcases hx' with rfl | rfl
        · exact gd_all h3 hcl
        · exact gd_all h4 (by rw [hrl]; exact hcl)
      simp only [ptB, decide_eq_true_eq] at hp
      rcases c2 c hc.1 hc.2 x hx' hne with h8 | h8
      · exact ⟨by omega, h8⟩
      · simp at h8) (k : Int) (by omega) hg'
  have hkl : k < (liveL h).length := by
    have := (List.getElem?_eq_some_iff.1 hk).1
    rw [liveL_len hv'] at this
    rw [liveL_len hv]; omega
  have hb := live_get hv (k := k) (b := (liveL h)[k]) (List.getElem?_eq_getElem hkl)
  rw [List.getElem?_eq_getElem hkl, hb]
  simpa using h9.2
theorem cntB_mono {xs ys : List Bool} (hlen : xs.length = ys.length) (h : ∀ k : Nat, xs[k]? = some true → ys[k]? = some true) : cntB xs ≤ cntB ys := by
  induction xs generalizing ys with
  | nil =>
    simp [cntB]
  | cons x xs ih =>
    cases ys with
    | nil => simp at hlen
    | cons y ys =>
      have h0 := h 0
      have ht := ih (ys := ys) (by simpa using hlen) (fun k hk => by have := h (k + 1); simpa using this (by simpa using hk))
      unfold cntB at ht ⊢
      cases x <;> cases y <;> simp at h0 ⊢ <;> omega
end Go.Proofs.Ytapkhgpifpgleaa

/- Distances grow by at most one along a pointer, and none is more than the cells that are reached. -/
namespace Go.Proofs.Ytapkhgpifpgleaa

/-- The search before it marks with d: every value is below d, as many cells are marked, and what a marked cell points to is marked at most one further on, or is to be marked now. -/
structure Lev (l r D : List Int) (d : Int) (n : Nat) (xs : List Int) : Prop where
  hi : ∀ c, 0 ≤ c → gd D c ≤ d - 1
  ct : d - 1 + negs D ≤ n
  st : ∀ c, 0 ≤ c → 0 ≤ gd D c → ∀ x, x = gd l c ∨ x = gd r c → x ≠ -1 → (0 ≤ gd D x ∧ gd D x ≤ gd D c + 1) ∨ (x ∈ xs ∧ d ≤ gd D c + 1)
/-- What the search leaves. -/
def FarOk (l r D : List Int) (n : Nat) : Prop := (∀ c, 0 ≤ c → gd D c + negs D ≤ n) ∧ ∀ c, 0 ≤ c → 0 ≤ gd D c → ∀ x, x = gd l c ∨ x = gd r c → x ≠ -1 → 0 ≤ gd D x ∧ gd D x ≤ gd D c + 1

theorem lev_marks {l r : List Int} {n : Nat} (hl : l.length = n) (hr : r.length = n) (h1 : l.all (ptB · n) = true) (h2 : r.all (ptB · n) = true)
    {D : List Int} {d : Int} {xs : List Int} (hD : D.length = n) (hd : 1 ≤ d) (hx : xs.all (ptB · n) = true) (L : Lev l r D d n xs) :
    (∀ c, 0 ≤ c → gd (marks d (D, []) xs).1 c ≤ d) ∧ (∀ c, 0 ≤ c → 0 ≤ gd (marks d (D, []) xs).1 c → ∀ x, x = gd l c ∨ x = gd r c → x ≠ -1 → (0 ≤ gd (marks d (D, []) xs).1 x ∧ gd (marks d (D, []) xs).1 x ≤ gd (marks d (D, []) xs).1 c + 1) ∨ (c ∈ (marks d (D, []) xs).2 ∧ gd (marks d (D, []) xs).1 c = d)) := by
  have hkeep : ∀ c, 0 ≤ c → 0 ≤ gd D c → gd (marks d (D, []) xs).1 c = gd D c := fun c h0 hc => marks_keep (s := (D, [])) hx h0 hc
  have hhit := marks_hit (n := n) (d := d) (s := (D, [])) (xs := xs) (by omega) hD hx
  have hvals := marks_vals (n := n) (d := d) (s := (D, [])) (xs := xs) hx hD (by omega) (by rfl) (by simp)
  have hle : ∀ c, 0 ≤ c → gd (marks d (D, []) xs).1 c ≤ d := by
    intro c h0
    by_cases hc : 0 ≤ gd (marks d (D, []) xs).1 c
    · rcases marks_new (s := (D, [])) hx h0 hc with h | h
      · have e := hkeep c h0 h
        have := L.hi c h0
        omega
      · have := hvals c h; omega
    · omega
  refine ⟨hle, fun c h0 hc x hx' hne => ?_⟩
  have hpts : ∀ y, y = gd l c ∨ y = gd r c → plB c n = true → y ≠ -1 → 0 ≤ y := fun y hy hcl hney => by
    have hp : ptB y n = true := by
      rcases hy with rfl | rfl
      · exact gd_all h1 (by rw [hl]; exact hcl)
      · exact gd_all h2 (by rw [hr]; exact hcl)
    simp only [ptB, decide_eq_true_eq] at hp; omega
  have hcl : plB c n = true := by
    have := gd_plB h0 hc
    rw [marks_len] at this
    rw [← hD]; exact this
  have hx0 := hpts x hx' hcl hne
  rcases marks_new (s := (D, [])) hx h0 hc with h | h
  · left
    have e := hkeep c h0 h
    rcases L.st c h0 h x hx' hne with ⟨a, b⟩ | ⟨a, b⟩
    · have e2 := hkeep x hx0 a
      omega
    · have h9 := hhit x a hne
      have h8 := hle x hx0
      omega
  · exact .inr ⟨h, hvals c h⟩
theorem bfs_far {l r : List Int} {n : Nat} (hl : l.length = n) (hr : r.length = n) (h1 : l.all (ptB · n) = true) (h2 : r.all (ptB · n) = true) :
    ∀ (f : Nat) (D : List Int) (d : Int) (xs : List Int), D.length = n → negs D ≤ f → 1 ≤ d → xs.all (ptB · n) = true → Lev l r D d n xs → FarOk l r (bfs l r (f + 1) D d xs) n := by
  intro f
  induction f with
  | zero =>
    intro D d xs hD hf hd hx L
    have hng := marks_negs (n := n) (d := d) (by omega) (s := (D, [])) hD hx
    obtain ⟨k1, k2⟩ := lev_marks hl hr h1 h2 hD hd hx L
    have hq : (marks d (D, []) xs).2 = [] := by
      have : (marks d (D, []) xs).2.length = 0 := by simp at hng; omega
      exact List.length_eq_zero_iff.1 this
    have hb : bfs l r (0 + 1) D d xs = (marks d (D, []) xs).1 := by
      show (if (marks d (D, []) xs).2 = [] then _ else _) = _
      rw [if_pos hq]
    rw [hb]
    rw [hq] at hng
    have hct := L.ct
    refine ⟨fun c h0 => ?_, fun c h0 hc x hx' hne => ?_⟩
    · by_cases hc : 0 ≤ gd (marks d (D, []) xs).1 c
      · rcases marks_new (s := (D, [])) hx h0 hc with h | h
        · have e : gd (marks d (D, []) xs).1 c = gd D c := marks_keep (d := d) (s := (D, [])) hx h0 h
          have := L.hi c h0
          simp at hng
          show gd (marks d (D, []) xs).1 c + _ ≤ _
          rw [e]; omega
        · rw [hq] at h; simp at h
      · simp at hng; omega
    · rcases k2 c h0 hc x hx' hne with h | h
      · exact h
      · rw [hq] at h; simp at h
  | succ f ih =>
    intro D d xs hD hf hd hx L
    have hng := marks_negs (n := n) (d := d) (by omega) (s := (D, [])) hD hx
    obtain ⟨k1, k2⟩ := lev_marks hl hr h1 h2 hD hd hx L
    have hct := L.ct
    by_cases hq : (marks d (D, []) xs).2 = []
    · have hb : bfs l r (f + 1 + 1) D d xs = (marks d (D, []) xs).1 := by
        show (if (marks d (D, []) xs).2 = [] then _ else _) = _
        rw [if_pos hq]
      rw [hb]
      rw [hq] at hng
      refine ⟨fun c h0 => ?_, fun c h0 hc x hx' hne => ?_⟩
      · by_cases hc : 0 ≤ gd (marks d (D, []) xs).1 c
        · rcases marks_new (s := (D, [])) hx h0 hc with h | h
          · have e : gd (marks d (D, []) xs).1 c = gd D c := marks_keep (d := d) (s := (D, [])) hx h0 h
            have := L.hi c h0
            simp at hng
            show gd (marks d (D, []) xs).1 c + _ ≤ _
            rw [e]; omega
          · rw [hq] at h; simp at h
        · simp at hng; omega
      · rcases k2 c h0 hc x hx' hne with h | h
        · exact h
        · rw [hq] at h; simp at h
    · have hpos : 0 < (marks d (D, []) xs).2.length := List.length_pos_iff.2 hq
      have hb : bfs l r (f + 1 + 1) D d xs = bfs l r (f + 1) (marks d (D, []) xs).1 (d + 1) (kids l r (marks d (D, []) xs).2) := by
        show (if (marks d (D, []) xs).2 = [] then _ else _) = _
        rw [if_neg hq]
      have hcells := marks_cells (n := n) (d := d) (s := (D, [])) (by rfl) hx
      rw [hb]
      refine ih (marks d (D, []) xs).1 (d + 1) _ (by rw [marks_len]; exact hD) (by simp at hng; omega) (by omega) (kids_pt hl hr h1 h2 hcells) ⟨fun c h0 => by have := k1 c h0; omega, by simp at hng; omega, fun c h0 hc x hx' hne => ?_⟩
      rcases k2 c h0 hc x hx' hne with h | ⟨h, e⟩
      · exact .inl h
      · exact .inr ⟨mem_kids h hx', by omega⟩
theorem dist_far {h : Hp} (hv : hvB h = true) {s : List Int} (hs : s.all (ptB · h.l.length) = true) : FarOk h.l h.r (dist h s) h.l.length := by
  obtain ⟨⟨hr, _⟩, h3, h4, _⟩ := hvB_parts hv
  unfold dist
  refine bfs_far (n := h.l.length) rfl hr h3 h4 h.l.length _ 1 s (by simp) (by rw [negs_rep]; omega) (by omega) hs ⟨fun c _ => by rw [gd_rep]; omega, by rw [negs_rep]; omega, fun c _ hc => by rw [gd_rep] at hc; omega⟩
theorem cnt_negs (D : List Int) : cntB (D.map (fun u => decide (0 ≤ u))) + negs D = D.length := by
  unfold cntB negs
  induction D with
  | nil => rfl
  | cons u D ih =>
    simp only [List.map_cons, List.filter_cons, List.length_cons]
    by_cases hu : 0 ≤ u
    · have h9 : ¬ (u < 0) := by omega
      simp only [hu, h9, decide_true, decide_false, id]
      simp only [if_true, if_false, List.length_cons, Bool.false_eq_true]
      omega
    · have h9 : u < 0 := by omega
      simp only [hu, h9, decide_true, decide_false, id]
      simp only [if_true, if_false, List.length_cons, Bool.false_eq_true]
      omega
/-- Distances of cells: at least one, at most as many as are live. -/
theorem dist_bounds {h : Hp} (hv : hvB h = true) {c : Int} (h0 : 0 ≤ c) (hc : 0 ≤ gd (dist h h.t) c) : 1 ≤ gd (dist h h.t) c ∧ gd (dist h h.t) c ≤ cntB (liveL h) := by
  obtain ⟨_, _, _, h5⟩ := hvB_parts hv
  have hf := (dist_far hv h5).1 c h0
  have hok := dist_okV h h.t
  have hpl := gd_plB h0 hc
  have hm := gd_all hok hpl
  have hcn := cnt_negs (dist h h.t)
  rw [dist_len] at hcn
  unfold liveL
  rw [if_pos hv]
  simp only [okV, decide_eq_true_eq] at hm
  omega
end Go.Proofs.Ytapkhgpifpgleaa

/- Roots, and only they, are at distance one. -/
namespace Go.Proofs.Ytapkhgpifpgleaa
open Go.RowKit

theorem bfs_keep {l r : List Int} {n : Nat} (hl : l.length = n) (hr : r.length = n) (h1 : l.all (ptB · n) = true) (h2 : r.all (ptB · n) = true) :
    ∀ (f : Nat) (D : List Int) (d : Int) (xs : List Int), xs.all (ptB · n) = true → ∀ c, 0 ≤ c → 0 ≤ gd D c → gd (bfs l r f D d xs) c = gd D c := by
  intro f
  induction f with
  | zero => intro D d xs _ c _ _; rfl
  | succ f ih =>
    intro D d xs hx c h0 hc
    have hk : gd (marks d (D, []) xs).1 c = gd D c := marks_keep (s := (D, [])) hx h0 hc
    by_cases hq : (marks d (D, []) xs).2 = []
    · have hb : bfs l r (f + 1) D d xs = (marks d (D, []) xs).1 := by
        show (if (marks d (D, []) xs).2 = [] then _ else _) = _
        rw [if_pos hq]
      rw [hb, hk]
    · have hb : bfs l r (f + 1) D d xs = bfs l r f (marks d (D, []) xs).1 (d + 1) (kids l r (marks d (D, []) xs).2) := by
        show (if (marks d (D, []) xs).2 = [] then _ else _) = _
        rw [if_neg hq]
      have hcells := marks_cells (n := n) (d := d) (s := (D, [])) (by rfl) hx
      rw [hb, ih _ _ _ (kids_pt hl hr h1 h2 hcells) c h0 (by rw [hk]; exact hc), hk]
/-- Roots are at distance one. -/
theorem dist_root {h : Hp} (hv : hvB h = true) {x : Int} (hx : x ∈ h.t) (hne : x ≠ -1) : gd (dist h h.t) x = 1 := by
  obtain ⟨⟨hr, _⟩, h3, h4, h5⟩ := hvB_parts hv
  have hp := h5
  rw [List.all_eq_true] at hp
  have hpx := hp x hx
  simp only [ptB, decide_eq_true_eq] at hpx
  have h0 : 0 ≤ x := by omega
  have hD : (List.replicate h.l.length (-1 : Int)).length = h.l.length := by simp
  have hhit := marks_hit (n := h.l.length) (d := 1) (s := (List.replicate h.l.length (-1), [])) (xs := h.t) (by omega) hD h5 x hx hne
  have hvals := marks_vals (n := h.l.length) (d := 1) (s := (List.replicate h.l.length (-1), [])) (xs := h.t) h5 hD (by omega) (by rfl) (by simp)
  have hv1 : gd (marks 1 (List.replicate h.l.length (-1), []) h.t).1 x = 1 := by
    rcases marks_new (s := (List.replicate h.l.length (-1), [])) h5 h0 hhit with h9 | h9
    · have h8 : gd (List.replicate h.l.length (-1)) x = -1 := gd_rep _ _
      simp only at h9; omega
    · exact hvals x h9
  unfold dist
  by_cases hq : (marks 1 (List.replicate h.l.length (-1), []) h.t).2 = []
  · have hb : bfs h.l h.r (h.l.length + 1) (List.replicate h.l.length (-1)) 1 h.t = (marks 1 (List.replicate h.l.length (-1), []) h.t).1 := by
      show (if (marks 1 (List.replicate h.l.length (-1), []) h.t).2 = [] then _ else _) = _
      rw [if_pos hq]
    rw [hb]; exact hv1
  · have hb : bfs h.l h.r (h.l.length + 1) (List.replicate h.l.length (-1)) 1 h.t = bfs h.l h.r h.l.length (marks 1 (List.replicate h.l.length (-1), []) h.t).1 (1 + 1) (kids h.l h.r (marks 1 (List.replicate h.l.length (-1), []) h.t).2) := by
      show (if (marks 1 (List.replicate h.l.length (-1), []) h.t).2 = [] then _ else _) = _
      rw [if_neg hq]
    have hcells := marks_cells (n := h.l.length) (d := 1) (s := (List.replicate h.l.length (-1), [])) (by rfl) h5
    rw [hb, bfs_keep (n := h.l.length) rfl hr h3 h4 _ _ _ _ (kids_pt rfl hr h3 h4 hcells) x h0 (by rw [hv1]; omega), hv1]
theorem bfs_ge {l r : List Int} {n : Nat} (hl : l.length = n) (hr : r.length = n) (h1 : l.all (ptB · n) = true) (h2 : r.all (ptB · n) = true) :
    ∀ (f : Nat) (D : List Int) (d : Int) (xs : List Int), xs.all (ptB · n) = true → D.length = n → 0 ≤ d → ∀ c, 0 ≤ c → 0 ≤ gd (bfs l r f D d xs) c → (0 ≤ gd D c ∧ gd (bfs l r f D d xs) c = gd D c) ∨ d ≤ gd (bfs l r f D d xs) c := by
  intro f
  induction f with
  | zero => intro D d xs _ _ _ c _ hc; exact .inl ⟨hc, rfl⟩
  | succ f ih =>
    intro D d xs hx hD hd c h0 hc
    have hvals := marks_vals (n := n) (d := d) (s := (D, [])) (xs := xs) hx hD hd (by rfl) (by simp)
    by_cases hq : (marks d (D, []) xs).2 = []
    · have hb : bfs l r (f + 1) D d xs = (marks d (D, []) xs).1 := by
        show (if (marks d (D, []) xs).2 = [] then _ else _) = _
        rw [if_pos hq]
      rw [hb] at hc ⊢
      rcases marks_new (s := (D, [])) hx h0 hc with h9 | h9
      · exact .inl ⟨h9, marks_keep (s := (D, [])) hx h0 h9⟩
      · rw [hq] at h9; cases h9
    · have hb : bfs l r (f + 1) D d xs = bfs l r f (marks d (D, []) xs).1 (d + 1) (kids l r (marks d (D, []) xs).2) := by
        show (if (marks d (D, []) xs).2 = [] then _ else _) = _
        rw [if_neg hq]
      have hcells := marks_cells (n := n) (d := d) (s := (D, [])) (by rfl) hx
      rw [hb] at hc ⊢
      rcases ih _ _ _ (kids_pt hl hr h1 h2 hcells) (by rw [marks_len]; exact hD) (by omega) c h0 hc with ⟨h8, h9⟩ | h9
      · rcases marks_new (s := (D, [])) hx h0 h8 with h7 | h7
        · exact .inl ⟨h7, by rw [h9]; exact marks_keep (s := (D, [])) hx h0 h7⟩
        · right; rw [h9, hvals c h7]; exact Int.le_refl _
      · right; omega
/-- What is at distance one is a root. -/
theorem dist_one {h : Hp} (hv : hvB h = true) {c : Int} (h0 : 0 ≤ c) (hc : gd (dist h h.t) c = 1) : c ∈ h.t := by
  obtain ⟨⟨hr, _⟩, h3, h4, h5⟩ := hvB_parts hv
  have hD : (List.replicate h.l.length (-1 : Int)).length = h.l.length := by simp
  have key : 0 ≤ gd (marks 1 (List.replicate h.l.length (-1), []) h.t).1 c → c ∈ h.t := fun h9 => by
    rcases marks_new (s := (List.replicate h.l.length (-1), [])) h5 h0 h9 with h8 | h8
    · have h7 : gd (List.replicate h.l.length (-1)) c = -1 := gd_rep _ _
      simp only at h8; omega
    · rcases marks_from h8 with h7 | h7
      · simp at h7
      · exact h7.1
  unfold dist at hc
  by_cases hq : (marks 1 (List.replicate h.l.length (-1), []) h.t).2 = []
  · have hb : bfs h.l h.r (h.l.length + 1) (List.replicate h.l.length (-1)) 1 h.t = (marks 1 (List.replicate h.l.length (-1), []) h.t).1 := by
      show (if (marks 1 (List.replicate h.l.length (-1), []) h.t).2 = [] then _ else _) = _
      rw [if_pos hq]
    rw [hb] at hc
    exact key (by omega)
  · have hb : bfs h.l h.r (h.l.length + 1) (List.replicate h.l.length (-1)) 1 h.t = bfs h.l h.r h.l.length (marks 1 (List.replicate h.l.length (-1), []) h.t).1 (1 + 1) (kids h.l h.r (marks 1 (List.replicate h.l.length (-1), []) h.t).2) := by
      show (if (marks 1 (List.replicate h.l.length (-1), []) h.t).2 = [] then _ else _) = _
      rw [if_neg hq]
    have hcells := marks_cells (n := h.l.length) (d := 1) (s := (List.replicate h.l.length (-1), [])) (by rfl) h5
    rw [hb] at hc
    rcases bfs_ge (n := h.l.length) rfl hr h3 h4 h.l.length (marks 1 (List.replicate h.l.length (-1), []) h.t).1 (1 + 1) (kids h.l h.r (marks 1 (List.replicate h.l.length (-1), []) h.t).2) (kids_pt rfl hr h3 h4 hcells) ((marks_len _ _ _).trans hD) (by omega) c h0 (by omega) with ⟨h9, _⟩ | h9
    · exact key h9
    · omega
end Go.Proofs.Ytapkhgpifpgleaa

