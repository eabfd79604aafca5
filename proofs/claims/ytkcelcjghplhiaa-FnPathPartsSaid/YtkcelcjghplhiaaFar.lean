/- Distances grow by at most one along a pointer, and none is more than the cells that are reached. -/
import Derived.Test.YtkcelcjghplhiaaLeast
namespace Go.Proofs.Ytkcelcjghplhiaa

/-- The search before it marks with d: every value is below d, as many cells are marked, and what a marked cell points to is marked at most one further on, or is to be marked now. -/
structure Lev (l r D : List Int) (d : Int) (n : Nat) (xs : List Int) : Prop where
  hi : ∀ c, 0 ≤ c → gd D c ≤ d - 1
  ct : d - 1 + negs D ≤ n
  st : ∀ c, 0 ≤ c → 0 ≤ gd D c → ∀ x, x = gd l c ∨ x = gd r c → x ≠ -1 → (0 ≤ gd D x ∧ gd D x ≤ gd D c + 1) ∨ (x ∈ xs ∧ d ≤ gd D c + 1)
/-- What the search leaves. -/
def FarOk (l r D : List Int) (n : Nat) : Prop := (∀ c, 0 ≤ c → gd D c + negs D ≤ n) ∧ ∀ c, 0 ≤ c → 0 ≤ gd D c → ∀ x, x = gd l c ∨ x = gd r c → x ≠ -1 → 0 ≤ gd D x ∧ gd D x ≤ gd D c + 1

theorem lev_marks {l r : List Int} {n : Nat} (hl : l.length = n) (hr : r.length = n) (h1 : l.all (ptB · n) = true) (h2 : r.all (ptB · n) = true)
    {D : List Int} {d : Int} {xs : List Int} (hD : D.length = n) (hd : 1 ≤ d) (hx : xs.all (ptB · n) = true) (L : Lev l r D d n xs) :
    (∀ c, 0 ≤ c → gd (marks d (D, []) xs).1 c ≤ d) ∧ (∀ c, 0 ≤ c → 0 ≤ gd (marks d (D, []) xs).1 c → ∀ x, x = gd l c ∨ x = gd r c → x ≠ -1 → (0 ≤ gd (marks d (D, []) xs).1 x ∧ gd (marks d (D, []) xs).1 x ≤ gd (marks d (D, []) xs).1 c + 1) ∨ (c ∈ (marks d (D, []) xs).2 ∧ gd (marks d (D, []) xs).1 c = d)) := by
  have hkeep : ∀ c, 0 ≤ c → 0 ≤ gd D c → gd (marks d (D, []) xs).1 c = gd D c := fun c h0 hc => marks_keep (s := (D, [])) hx h0 hc
  have hhit := marks_hit (n := n) (d := d) (s := (D, [])) (xs := xs) (by omega) hD hx
  have hvals := marks_vals (n := n) (d := d) (s := (D, [])) (xs := xs) hx hD (by omega) (by rfl) (by simp)
  have hle : ∀ c, 0 ≤ c → gd (marks d (D, []) xs).1 c ≤ d := by
    intro c h0
    by_cases hc : 0 ≤ gd (marks d (D, []) xs).1 c
    · rcases marks_new (s := (D, [])) hx h0 hc with h | h
      · have e := hkeep c h0 h
        have := L.hi c h0
        omega
      · have := hvals c h; omega
    · omega
  refine ⟨hle, fun c h0 hc x hx' hne => ?_⟩
  have hpts : ∀ y, y = gd l c ∨ y = gd r c → plB c n = true → y ≠ -1 → 0 ≤ y := fun y hy hcl hney => by
    have hp : ptB y n = true := by
      rcases hy with rfl | rfl
      · exact gd_all h1 (by rw [hl]; exact hcl)
      · exact gd_all h2 (by rw [hr]; exact hcl)
    simp only [ptB, decide_eq_true_eq] at hp; omega
  have hcl : plB c n = true := by
    have := gd_plB h0 hc
    rw [marks_len] at this
    rw [← hD]; exact this
  have hx0 := hpts x hx' hcl hne
  rcases marks_new (s := (D, [])) hx h0 hc with h | h
  · left
    have e := hkeep c h0 h
    rcases L.st c h0 h x hx' hne with ⟨a, b⟩ | ⟨a, b⟩
    · have e2 := hkeep x hx0 a
      omega
    · have h9 := hhit x a hne
      have h8 := hle x hx0
      omega
  · exact .inr ⟨h, hvals c h⟩
theorem bfs_far {l r : List Int} {n : Nat} (hl : l.length = n) (hr : r.length = n) (h1 : l.all (ptB · n) = true) (h2 : r.all (ptB · n) = true) :
    ∀ (f : Nat) (D : List Int) (d : Int) (xs : List Int), D.length = n → negs D ≤ f → 1 ≤ d → xs.all (ptB · n) = true → Lev l r D d n xs → FarOk l r (bfs l r (f + 1) D d xs) n := by
  intro f
  induction f with
  | zero =>
    intro D d xs hD hf hd hx L
    have hng := marks_negs (n := n) (d := d) (by omega) (s := (D, [])) hD hx
    obtain ⟨k1, k2⟩ := lev_marks hl hr h1 h2 hD hd hx L
    have hq : (marks d (D, []) xs).2 = [] := by
      have : (marks d (D, []) xs).2.length = 0 := by simp at hng; omega
      exact List.length_eq_zero_iff.1 this
    have hb : bfs l r (0 + 1) D d xs = (marks d (D, []) xs).1 := by
      show (if (marks d (D, []) xs).2 = [] then _ else _) = _
      rw [if_pos hq]
    rw [hb]
    rw [hq] at hng
    have hct := L.ct
    refine ⟨fun c h0 => ?_, fun c h0 hc x hx' hne => ?_⟩
    · by_cases hc : 0 ≤ gd (marks d (D, []) xs).1 c
      · rcases marks_new (s := (D, [])) hx h0 hc with h | h
        · have e : gd (marks d (D, []) xs).1 c = gd D c := marks_keep (d := d) (s := (D, [])) hx h0 h
          have := L.hi c h0
          simp at hng
          show gd (marks d (D, []) xs).1 c + _ ≤ _
          rw [e]; omega
        · rw [hq] at h; simp at h
      · simp at hng; omega
    · rcases k2 c h0 hc x hx' hne with h | h
      · exact h
      · rw [hq] at h; simp at h
  | succ f ih =>
    intro D d xs hD hf hd hx L
    have hng := marks_negs (n := n) (d := d) (by omega) (s := (D, [])) hD hx
    obtain ⟨k1, k2⟩ := lev_marks hl hr h1 h2 hD hd hx L
    have hct := L.ct
    by_cases hq : (marks d (D, []) xs).2 = []
    · have hb : bfs l r (f + 1 + 1) D d xs = (marks d (D, []) xs).1 := by
        show (if (marks d (D, []) xs).2 = [] then _ else _) = _
        rw [if_pos hq]
      rw [hb]
      rw [hq] at hng
      refine ⟨fun c h0 => ?_, fun c h0 hc x hx' hne => ?_⟩
      · by_cases hc : 0 ≤ gd (marks d (D, []) xs).1 c
        · rcases marks_new (s := (D, [])) hx h0 hc with h | h
          · have e : gd (marks d (D, []) xs).1 c = gd D c := marks_keep (d := d) (s := (D, [])) hx h0 h
            have := L.hi c h0
            simp at hng
            show gd (marks d (D, []) xs).1 c + _ ≤ _
            rw [e]; omega
          · rw [hq] at h; simp at h
        · simp at hng; omega
      · rcases k2 c h0 hc x hx' hne with h | h
        · exact h
        · rw [hq] at h; simp at h
    · have hpos : 0 < (marks d (D, []) xs).2.length := List.length_pos_iff.2 hq
      have hb : bfs l r (f + 1 + 1) D d xs = bfs l r (f + 1) (marks d (D, []) xs).1 (d + 1) (kids l r (marks d (D, []) xs).2) := by
        show (if (marks d (D, []) xs).2 = [] then _ else _) = _
        rw [if_neg hq]
      have hcells := marks_cells (n := n) (d := d) (s := (D, [])) (by rfl) hx
      rw [hb]
      refine ih (marks d (D, []) xs).1 (d + 1) _ (by rw [marks_len]; exact hD) (by simp at hng; omega) (by omega) (kids_pt hl hr h1 h2 hcells) ⟨fun c h0 => by have := k1 c h0; omega, by simp at hng; omega, fun c h0 hc x hx' hne => ?_⟩
      rcases k2 c h0 hc x hx' hne with h | ⟨h, e⟩
      · exact .inl h
      · exact .inr ⟨mem_kids h hx', by omega⟩
theorem dist_far {h : Hp} (hv : hvB h = true) {s : List Int} (hs : s.all (ptB · h.l.length) = true) : FarOk h.l h.r (dist h s) h.l.length := by
  obtain ⟨⟨hr, _⟩, h3, h4, _⟩ := hvB_parts hv
  unfold dist
  refine bfs_far (n := h.l.length) rfl hr h3 h4 h.l.length _ 1 s (by simp) (by rw [negs_rep]; omega) (by omega) hs ⟨fun c _ => by rw [gd_rep]; omega, by rw [negs_rep]; omega, fun c _ hc => by rw [gd_rep] at hc; omega⟩
theorem cnt_negs (D : List Int) : cntB (D.map (fun u => decide (0 ≤ u))) + negs D = D.length := by
  unfold cntB negs
  induction D with
  | nil => rfl
  | cons u D ih =>
    simp only [List.map_cons, List.filter_cons, List.length_cons]
    by_cases hu : 0 ≤ u
    · have h9 : ¬ (u < 0) := by omega
      simp only [hu, h9, decide_true, decide_false, id]
      simp only [if_true, if_false, List.length_cons, Bool.false_eq_true]
      omega
    · have h9 : u < 0 := by omega
      simp only [hu, h9, decide_true, decide_false, id]
      simp only [if_true, if_false, List.length_cons, Bool.false_eq_true]
      omega
/-- Distances of cells: at least one, at most as many as are live. -/
theorem dist_bounds {h : Hp} (hv : hvB h = true) {c : Int} (h0 : 0 ≤ c) (hc : 0 ≤ gd (dist h h.t) c) : 1 ≤ gd (dist h h.t) c ∧ gd (dist h h.t) c ≤ cntB (liveL h) := by
  obtain ⟨_, _, _, h5⟩ := hvB_parts hv
  have hf := (dist_far hv h5).1 c h0
  have hok := dist_okV h h.t
  have hpl := gd_plB h0 hc
  have hm := gd_all hok hpl
  have hcn := cnt_negs (dist h h.t)
  rw [dist_len] at hcn
  unfold liveL
  rw [if_pos hv]
  simp only [okV, decide_eq_true_eq] at hm
  omega
end Go.Proofs.Ytkcelcjghplhiaa
