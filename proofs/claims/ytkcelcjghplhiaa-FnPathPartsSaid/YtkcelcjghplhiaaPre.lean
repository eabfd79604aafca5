/- A cell that is further than one has a source that is one nearer; the way that is taken backwards. -/
import Derived.Test.YtkcelcjghplhiaaFar
import Derived.Test.YtkcelcjghplhiaaSrc
namespace Go.Proofs.Ytkcelcjghplhiaa

/-- The search before it marks with d: every marked cell further than one has a marked one before it, and so has every cell that is to be marked now. -/
structure Bef (l r D : List Int) (d : Int) (xs : List Int) : Prop where
  pr : ∀ c, 0 ≤ c → 2 ≤ gd D c → ∃ p, 0 ≤ p ∧ gd D p = gd D c - 1 ∧ (c = gd l p ∨ c = gd r p)
  nx : 2 ≤ d → ∀ x ∈ xs, ∃ p, 0 ≤ p ∧ gd D p = d - 1 ∧ (x = gd l p ∨ x = gd r p)
def BefOk (l r D : List Int) : Prop := ∀ c, 0 ≤ c → 2 ≤ gd D c → ∃ p, 0 ≤ p ∧ gd D p = gd D c - 1 ∧ (c = gd l p ∨ c = gd r p)

theorem bef_marks {l r : List Int} {n : Nat} {D : List Int} {d : Int} {xs : List Int} (hD : D.length = n) (hd : 1 ≤ d) (hx : xs.all (ptB · n) = true) (B : Bef l r D d xs) : BefOk l r (marks d (D, []) xs).1 := by
  intro c h0 hc
  have hkeep : ∀ c, 0 ≤ c → 0 ≤ gd D c → gd (marks d (D, []) xs).1 c = gd D c := fun c h0 hc => marks_keep (s := (D, [])) hx h0 hc
  have hvals := marks_vals (n := n) (d := d) (s := (D, [])) (xs := xs) hx hD (by omega) (by rfl) (by simp)
  have hc0 : 0 ≤ gd (marks d (D, []) xs).1 c := by omega
  rcases marks_new (s := (D, [])) hx h0 hc0 with h | h
  · have e := hkeep c h0 h
    rw [e] at hc ⊢
    obtain ⟨p, p0, pe, pk⟩ := B.pr c h0 hc
    exact ⟨p, p0, by rw [hkeep p p0 (by omega)]; exact pe, pk⟩
  · have e := hvals c h
    rw [e] at hc ⊢
    rcases marks_from h with h9 | h9
    · simp at h9
    · obtain ⟨p, p0, pe, pk⟩ := B.nx hc c h9.1
      exact ⟨p, p0, by rw [hkeep p p0 (by omega)]; exact pe, pk⟩
theorem bfs_bef {l r : List Int} {n : Nat} (hl : l.length = n) (hr : r.length = n) (h1 : l.all (ptB · n) = true) (h2 : r.all (ptB · n) = true) :
    ∀ (f : Nat) (D : List Int) (d : Int) (xs : List Int), D.length = n → 1 ≤ d → xs.all (ptB · n) = true → Bef l r D d xs → BefOk l r (bfs l r f D d xs) := by
  intro f
  induction f with
  | zero => intro D d xs _ _ _ B; exact B.pr
  | succ f ih =>
    intro D d xs hD hd hx B
    have hm := bef_marks hD hd hx B
    by_cases hq : (marks d (D, []) xs).2 = []
    · have hb : bfs l r (f + 1) D d xs = (marks d (D, []) xs).1 := by
        show (if (marks d (D, []) xs).2 = [] then _ else _) = _
        rw [if_pos hq]
      rw [hb]; exact hm
    · have hb : bfs l r (f + 1) D d xs = bfs l r f (marks d (D, []) xs).1 (d + 1) (kids l r (marks d (D, []) xs).2) := by
        show (if (marks d (D, []) xs).2 = [] then _ else _) = _
        rw [if_neg hq]
      rw [hb]
      have hcells := marks_cells (n := n) (d := d) (s := (D, [])) (by rfl) hx
      have hvals := marks_vals (n := n) (d := d) (s := (D, [])) (xs := xs) hx hD (by omega) (by rfl) (by simp)
      refine ih _ _ _ (by rw [marks_len]; exact hD) (by omega) (kids_pt hl hr h1 h2 hcells) ⟨hm, fun _ x hxm => ?_⟩
      obtain ⟨p, hp, hk⟩ := kids_from hxm
      have hpc := hcells
      rw [List.all_eq_true] at hpc
      have h9 := hpc p hp
      simp only [plB, decide_eq_true_eq] at h9
      exact ⟨p, h9.1, by have := hvals p hp; omega, hk⟩
theorem dist_bef {h : Hp} (hv : hvB h = true) {s : List Int} (hs : s.all (ptB · h.l.length) = true) : BefOk h.l h.r (dist h s) := by
  obtain ⟨⟨hr, _⟩, h3, h4, _⟩ := hvB_parts hv
  unfold dist
  exact bfs_bef (n := h.l.length) rfl hr h3 h4 _ _ 1 s (by simp) (by omega) hs ⟨fun c _ hc => by rw [gd_rep] at hc; omega, fun h => by omega⟩

/-- The first source of a cell that has a distance, or -1. -/
def prevC (h : Hp) (D : List Int) (c k : Int) : Int := ((srcs h c).find? (fun y => gd D y == k)).getD (-1)
/-- The way of d cells that ends at c. -/
def wayL (h : Hp) (D : List Int) : Nat → Int → List Int
  | 0, _ => []
  | d + 1, c => (if d = 0 then [] else wayL h D d (prevC h D c d)) ++ [c]
theorem wayL_len (h : Hp) (D : List Int) : ∀ (d : Nat) (c : Int), (wayL h D d c).length = d := by
  intro d
  induction d with
  | zero => intro c; rfl
  | succ d ih =>
    intro c
    unfold wayL
    split
    · rename_i e; simp [e]
    · simp [ih]
/-- A cell further than one has such a source. -/
theorem prev_some {h : Hp} {c : Int} {k : Nat} (hv : hvB h = true) (h0 : 0 ≤ c) (hk : 1 ≤ k) (hc : gd (dist h h.t) c = (k : Int) + 1) :
    prevC h (dist h h.t) c k ∈ srcs h c ∧ gd (dist h h.t) (prevC h (dist h h.t) c k) = k := by
  obtain ⟨⟨hr, _⟩, _, _, h5⟩ := hvB_parts hv
  obtain ⟨p, p0, pe, pk⟩ := dist_bef hv h5 c h0 (by omega)
  have hpl := gd_plB p0 (by rw [pe]; omega)
  rw [dist_len] at hpl
  have hcl := gd_plB h0 (by rw [hc]; omega)
  rw [dist_len] at hcl
  obtain ⟨j, rfl, hj⟩ := plB_nat hpl
  have hm : (j : Int) ∈ srcs h c := by
    unfold srcs
    rw [if_pos (by rw [hv, hcl]; rfl)]
    unfold srcN
    rw [List.mem_map]
    refine ⟨j, ?_, rfl⟩
    rw [List.mem_filter, List.mem_range]
    refine ⟨hj, ?_⟩
    unfold pntB
    have hj2 : j < h.r.length := by rw [hr]; exact hj
    rw [Bool.or_eq_true]
    refine pk.imp (fun e => ?_) (fun e => ?_)
    · rw [e]; simp [gd, List.getD, List.getElem?_eq_getElem hj]
    · rw [e]; simp [gd, List.getD, List.getElem?_eq_getElem hj2]
  unfold prevC
  cases hf : (srcs h c).find? (fun y => gd (dist h h.t) y == (k : Int)) with
  | none =>
    rw [List.find?_eq_none] at hf
    have h9 := hf _ hm
    rw [pe, hc] at h9
    simp at h9
  | some y =>
    have h8 := List.find?_some hf
    have h7 := List.mem_of_find?_eq_some hf
    exact ⟨h7, by simpa using h8⟩
end Go.Proofs.Ytkcelcjghplhiaa
