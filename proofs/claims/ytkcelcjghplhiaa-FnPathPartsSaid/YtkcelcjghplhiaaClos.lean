/- What the search leaves: what is reached is closed under pointers. -/
import Derived.Test.YtkcelcjghplhiaaQinv
import Derived.Test.YtkcelcjghplhiaaMemB
import Derived.Test.YtkcelcjghplhiaaPure
namespace Go.Proofs.Ytkcelcjghplhiaa

theorem marks_keep {n : Nat} {d : Int} {s : List Int × List Int} {xs : List Int} (hx : xs.all (ptB · n) = true) {c : Int} (h0 : 0 ≤ c) (hc : 0 ≤ gd s.1 c) : gd (marks d s xs).1 c = gd s.1 c := by
  induction xs generalizing s with
  | nil => rfl
  | cons x xs ih =>
    rw [List.all_cons, Bool.and_eq_true] at hx
    have hx1 := hx.1
    simp only [ptB, decide_eq_true_eq] at hx1
    have e := mark_keep (d := d) hx1.1 h0 hc
    show gd (marks d (mark d s x) xs).1 c = _
    rw [ih hx.2 (by rw [e]; exact hc), e]
theorem mark_sets {n : Nat} {d x : Int} {s : List Int × List Int} (hd : 0 ≤ d) (hl : s.1.length = n) (hx : ptB x n = true) (hne : x ≠ -1) : 0 ≤ gd (mark d s x).1 x := by
  simp only [ptB, decide_eq_true_eq] at hx
  unfold mark
  split
  · rw [gd_set_eq (by omega) (by omega)]; exact hd
  · rename_i h
    have h9 : ¬ (gd s.1 x < 0) := fun e => h ⟨hne, e⟩
    exact Int.not_lt.1 h9
theorem marks_hit {n : Nat} {d : Int} {s : List Int × List Int} {xs : List Int} (hd : 0 ≤ d) (hl : s.1.length = n) (hx : xs.all (ptB · n) = true) : ∀ x ∈ xs, x ≠ -1 → 0 ≤ gd (marks d s xs).1 x := by
  induction xs generalizing s with
  | nil => simp
  | cons y xs ih =>
    rw [List.all_cons, Bool.and_eq_true] at hx
    intro x hmem hne
    show 0 ≤ gd (marks d (mark d s y) xs).1 x
    rcases List.mem_cons.1 hmem with rfl | h
    · have h9 := mark_sets (n := n) hd hl hx.1 hne
      have hx1 := hx.1
      simp only [ptB, decide_eq_true_eq] at hx1
      rw [marks_keep hx.2 (by omega) h9]; exact h9
    · exact ih (by rw [mark_len]; exact hl) hx.2 x h hne
theorem marks_mem {d : Int} {s : List Int × List Int} {xs : List Int} {c : Int} (h : c ∈ s.2) : c ∈ (marks d s xs).2 := by
  induction xs generalizing s with
  | nil => exact h
  | cons x xs ih =>
    refine ih ?_
    unfold mark; split
    · simp [h]
    · exact h
theorem marks_new {n : Nat} {d : Int} {s : List Int × List Int} {xs : List Int} (hx : xs.all (ptB · n) = true) {c : Int} (h0 : 0 ≤ c) (hc : 0 ≤ gd (marks d s xs).1 c) : 0 ≤ gd s.1 c ∨ c ∈ (marks d s xs).2 := by
  induction xs generalizing s with
  | nil => exact .inl hc
  | cons x xs ih =>
    rw [List.all_cons, Bool.and_eq_true] at hx
    rcases ih (s := mark d s x) hx.2 hc with h | h
    · by_cases hcx : c = x
      · subst hcx
        by_cases hm : c ≠ -1 ∧ gd s.1 c < 0
        · refine .inr (marks_mem (s := mark d s c) ?_)
          unfold mark; rw [if_pos hm]; simp
        · refine .inl ?_
          unfold mark at h; rw [if_neg hm] at h; exact h
      · have hx1 := hx.1
        simp only [ptB, decide_eq_true_eq] at hx1
        refine .inl ?_
        unfold mark at h
        split at h
        · rw [gd_set_ne (by omega) h0 hcx] at h; exact h
        · exact h
    · exact .inr h

/-- What the marked cells point to is marked, or stands in xs. -/
def Clo (l r D xs : List Int) : Prop := ∀ c, 0 ≤ c → 0 ≤ gd D c → ∀ x, x = gd l c ∨ x = gd r c → x ≠ -1 → 0 ≤ gd D x ∨ x ∈ xs
theorem mem_kids {l r Q : List Int} {c x : Int} (hc : c ∈ Q) (hx : x = gd l c ∨ x = gd r c) : x ∈ kids l r Q := by
  unfold kids
  rw [List.mem_flatMap]
  exact ⟨c, hc, by rcases hx with rfl | rfl <;> simp⟩
theorem gd_plB {D : List Int} {c : Int} (h0 : 0 ≤ c) (h : 0 ≤ gd D c) : plB c D.length = true := by
  have : c < D.length := by
    refine Int.not_le.1 fun hh => ?_
    have h9 : gd D c = -1 := by
      unfold gd
      have : D.length ≤ c.toNat := by omega
      simp [List.getD, this]
    omega
  simp [plB]; omega
theorem bfs_closed {l r : List Int} {n : Nat} (hl : l.length = n) (hr : r.length = n) (h1 : l.all (ptB · n) = true) (h2 : r.all (ptB · n) = true) :
    ∀ (f : Nat) (D : List Int) (d : Int) (xs : List Int), D.length = n → negs D ≤ f → 1 ≤ d → xs.all (ptB · n) = true → Clo l r D xs →
      (∀ c, 0 ≤ c → 0 ≤ gd D c → gd (bfs l r (f + 1) D d xs) c = gd D c) ∧ (∀ x ∈ xs, x ≠ -1 → 0 ≤ gd (bfs l r (f + 1) D d xs) x) ∧ Clo l r (bfs l r (f + 1) D d xs) [] := by
  intro f
  induction f with
  | zero =>
    intro D d xs hD hf hd hx hC
    have hng := marks_negs (n := n) (d := d) (by omega) (s := (D, [])) hD hx
    have hq : (marks d (D, []) xs).2 = [] := by
      have : (marks d (D, []) xs).2.length = 0 := by simp at hng; omega
      exact List.length_eq_zero_iff.1 this
    have hb : bfs l r (0 + 1) D d xs = (marks d (D, []) xs).1 := by
      show (if (marks d (D, []) xs).2 = [] then _ else _) = _
      rw [if_pos hq]
    rw [hb]
    have hkeep : ∀ c, 0 ≤ c → 0 ≤ gd D c → gd (marks d (D, []) xs).1 c = gd D c := fun c h0 hc => marks_keep (s := (D, [])) hx h0 hc
    have hhit := marks_hit (n := n) (d := d) (s := (D, [])) (xs := xs) (by omega) hD hx
    refine ⟨hkeep, hhit, fun c h0 hc x hx' hne => .inl ?_⟩
    rcases marks_new (s := (D, [])) hx h0 hc with h | h
    · rcases hC c h0 h x hx' hne with h' | h'
      · have hx0 : 0 ≤ x := by
          have hcl : plB c n = true := by have := gd_plB h0 h; rw [hD] at this; exact this
          have hp : ptB x n = true := by
            rcases hx' with rfl | rfl
            · exact gd_all h1 (by rw [hl]; exact hcl)
            · exact gd_all h2 (by rw [hr]; exact hcl)
          simp only [ptB, decide_eq_true_eq] at hp; omega
        rw [hkeep x hx0 h']; exact h'
      · exact hhit x h' hne
    · rw [hq] at h; simp at h
  | succ f ih =>
    intro D d xs hD hf hd hx hC
    have hng := marks_negs (n := n) (d := d) (by omega) (s := (D, [])) hD hx
    have hkeep : ∀ c, 0 ≤ c → 0 ≤ gd D c → gd (marks d (D, []) xs).1 c = gd D c := fun c h0 hc => marks_keep (s := (D, [])) hx h0 hc
    have hhit := marks_hit (n := n) (d := d) (s := (D, [])) (xs := xs) (by omega) hD hx
    have hkid : ∀ c, 0 ≤ c → plB c n = true → ∀ x, x = gd l c ∨ x = gd r c → x ≠ -1 → 0 ≤ x := by
      intro c h0 hcl x hx' hne
      have hp : ptB x n = true := by
        rcases hx' with rfl | rfl
        · exact gd_all h1 (by rw [hl]; exact hcl)
        · exact gd_all h2 (by rw [hr]; exact hcl)
      simp only [ptB, decide_eq_true_eq] at hp; omega
    by_cases hq : (marks d (D, []) xs).2 = []
    · have hb : bfs l r (f + 1 + 1) D d xs = (marks d (D, []) xs).1 := by
        show (if (marks d (D, []) xs).2 = [] then _ else _) = _
        rw [if_pos hq]
      rw [hb]
      refine ⟨hkeep, hhit, fun c h0 hc x hx' hne => .inl ?_⟩
      rcases marks_new (s := (D, [])) hx h0 hc with h | h
      · rcases hC c h0 h x hx' hne with h' | h'
        · have hcl : plB c n = true := by have := gd_plB h0 h; rw [hD] at this; exact this
          rw [hkeep x (hkid c h0 hcl x hx' hne) h']; exact h'
        · exact hhit x h' hne
      · rw [hq] at h; simp at h
    · have hpos : 0 < (marks d (D, []) xs).2.length := List.length_pos_iff.2 hq
      have hb : bfs l r (f + 1 + 1) D d xs = bfs l r (f + 1) (marks d (D, []) xs).1 (d + 1) (kids l r (marks d (D, []) xs).2) := by
        show (if (marks d (D, []) xs).2 = [] then _ else _) = _
        rw [if_neg hq]
      have hcells := marks_cells (n := n) (d := d) (s := (D, [])) (by rfl) hx
      have hC' : Clo l r (marks d (D, []) xs).1 (kids l r (marks d (D, []) xs).2) := by
        intro c h0 hc x hx' hne
        rcases marks_new (s := (D, [])) hx h0 hc with h | h
        · rcases hC c h0 h x hx' hne with h' | h'
          · have hcl : plB c n = true := by have := gd_plB h0 h; rw [hD] at this; exact this
            exact .inl (by rw [hkeep x (hkid c h0 hcl x hx' hne) h']; exact h')
          · exact .inl (hhit x h' hne)
        · exact .inr (mem_kids h hx')
      obtain ⟨k1, k2, k3⟩ := ih (marks d (D, []) xs).1 (d + 1) (kids l r (marks d (D, []) xs).2) (by rw [marks_len]; exact hD) (by simp at hng; omega) (by omega) (kids_pt hl hr h1 h2 hcells) hC'
      rw [hb]
      refine ⟨fun c h0 hc => by rw [k1 c h0 (by rw [hkeep c h0 hc]; exact hc), hkeep c h0 hc], fun x hmem hne => ?_, k3⟩
      have hp := hx
      rw [List.all_eq_true] at hp
      have hpx := hp x hmem
      simp only [ptB, decide_eq_true_eq] at hpx
      have h9 := hhit x hmem hne
      rw [k1 x (by omega) h9]; exact h9

/-- The starts are reached, and what is reached is closed under pointers. -/
theorem dist_closed {h : Hp} (hv : hvB h = true) {s : List Int} (hs : s.all (ptB · h.l.length) = true) : (∀ x ∈ s, x ≠ -1 → 0 ≤ gd (dist h s) x) ∧ Clo h.l h.r (dist h s) [] := by
  obtain ⟨⟨hr, _⟩, h3, h4, _⟩ := hvB_parts hv
  have hg : ∀ c, gd (List.replicate h.l.length (-1)) c = -1 := by
    intro c
    unfold gd
    rw [List.getD_eq_getElem?_getD]
    by_cases hc : c.toNat < h.l.length
    · simp [hc]
    · simp [hc]
  have hb := bfs_closed (l := h.l) (r := h.r) (n := h.l.length) rfl hr h3 h4 h.l.length (List.replicate h.l.length (-1)) 1 s (by simp) (by rw [negs_rep]; omega) (by omega) hs (fun c h0 hc => by rw [hg] at hc; omega)
  exact ⟨hb.2.1, hb.2.2⟩
theorem mark_none {d : Int} {s : List Int × List Int} {xs : List Int} (h : ∀ x ∈ xs, x = -1) : marks d s xs = s := by
  induction xs generalizing s with
  | nil => rfl
  | cons x xs ih =>
    have hx := h x (by simp)
    show marks d (mark d s x) xs = s
    have : mark d s x = s := by unfold mark; rw [if_neg (by rw [hx]; simp)]
    rw [this]; exact ih fun y hy => h y (by simp [hy])
/-- Without roots that point nothing is live. -/
theorem dist_none {h : Hp} {s : List Int} (hs : ∀ x ∈ s, x = -1) : dist h s = List.replicate h.l.length (-1) := by
  unfold dist
  show (if (marks 1 (List.replicate h.l.length (-1), []) s).2 = [] then (marks 1 (List.replicate h.l.length (-1), []) s).1 else _) = _
  rw [mark_none hs, if_pos rfl]
theorem live_get {h : Hp} (hv : hvB h = true) {k : Nat} {b : Bool} (hk : (liveL h)[k]? = some b) : b = decide (0 ≤ gd (dist h h.t) (k : Int)) := by
  unfold liveL at hk
  rw [if_pos hv, List.getElem?_map] at hk
  cases hu : (dist h h.t)[k]? with
  | none => rw [hu] at hk; simp at hk
  | some u =>
    rw [hu] at hk
    simp at hk
    rw [gd_nat hu, ← hk]
end Go.Proofs.Ytkcelcjghplhiaa
