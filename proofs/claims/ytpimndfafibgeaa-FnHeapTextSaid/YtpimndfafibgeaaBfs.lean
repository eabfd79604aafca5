/- Breadth first search over lists: the plain facts. -/
import Derived.Test.YtpimndfafibgeaaMem
import Derived.Test.YtpimndfafibgeaaLeaf
namespace Go.Proofs.Ytpimndfafibgeaa

def gd (D : List Int) (x : Int) : Int := D.getD x.toNat (-1)
/-- One cell is marked, if it is one and is not marked yet. -/
def mark (d : Int) (s : List Int × List Int) (x : Int) : List Int × List Int :=
  if x ≠ -1 ∧ gd s.1 x < 0 then (s.1.set x.toNat d, s.2 ++ [x]) else s
def marks (d : Int) (s : List Int × List Int) (xs : List Int) : List Int × List Int := xs.foldl (mark d) s
def kids (l r : List Int) (Q : List Int) : List Int := Q.flatMap fun c => [gd l c, gd r c]
def bfs (l r : List Int) : Nat → List Int → Int → List Int → List Int
  | 0, D, _, _ => D
  | f + 1, D, d, xs => if (marks d (D, []) xs).2 = [] then (marks d (D, []) xs).1 else bfs l r f (marks d (D, []) xs).1 (d + 1) (kids l r (marks d (D, []) xs).2)
def rest (l r : List Int) (f : Nat) (s : List Int × List Int) (d : Int) (xs : List Int) : List Int :=
  if (marks d s xs).2 = [] then (marks d s xs).1 else bfs l r f (marks d s xs).1 (d + 1) (kids l r (marks d s xs).2)
theorem bfs_rest (l r : List Int) (f : Nat) (D : List Int) (d : Int) (xs : List Int) : bfs l r (f + 1) D d xs = rest l r f (D, []) d xs := rfl
theorem rest_cons (l r : List Int) (f : Nat) (s : List Int × List Int) (d x : Int) (xs : List Int) : rest l r f s d (x :: xs) = rest l r f (mark d s x) d xs := rfl
theorem rest_nil (l r : List Int) (f : Nat) (D : List Int) (d : Int) : rest l r f (D, []) d [] = D := by simp [rest, marks]
theorem rest_nil' (l r : List Int) (f : Nat) (D B : List Int) (d : Int) (hB : B ≠ []) : rest l r (f + 1) (D, B) d [] = rest l r f (D, []) (d + 1) (kids l r B) := by
  have h : rest l r (f + 1) (D, B) d [] = bfs l r (f + 1) D (d + 1) (kids l r B) := by
    unfold rest; exact if_neg hB
  rw [h]; rfl
theorem kids_cons (l r : List Int) (c : Int) (Q : List Int) : kids l r (c :: Q) = gd l c :: gd r c :: kids l r Q := rfl
theorem kids_snoc (l r : List Int) (c : Int) (Q : List Int) : kids l r (Q ++ [c]) = kids l r Q ++ [gd l c, gd r c] := by simp [kids]
theorem kids_nil (l r : List Int) : kids l r [] = [] := rfl
theorem kids_len (l r : List Int) (Q : List Int) : (kids l r Q).length = 2 * Q.length := by
  induction Q with
  | nil => rfl
  | cons c Q ih => rw [kids_cons]; simp only [List.length_cons, ih]; omega
theorem marks_snoc (d : Int) (s : List Int × List Int) (xs : List Int) (x : Int) : marks d s (xs ++ [x]) = mark d (marks d s xs) x := by simp [marks]

/-- How many are not marked. -/
def negs (D : List Int) : Nat := (D.filter (· < 0)).length
theorem negs_set {D : List Int} {k : Nat} {u d : Int} (hk : D[k]? = some u) (hu : u < 0) (hd : 0 ≤ d) : negs (D.set k d) + 1 = negs D := by
  induction D generalizing k with
  | nil => simp at hk
  | cons a t ih =>
    cases k with
    | zero =>
      simp at hk; subst hk
      have h1 : ¬ (d < 0) := by omega
      simp [negs, hu, h1]
    | succ k =>
      simp at hk
      have := ih hk
      simp only [List.set_cons_succ, negs, List.filter_cons] at this ⊢
      split <;> simp_all <;> omega
theorem negs_rep (n : Nat) : negs (List.replicate n (-1)) = n := by simp [negs]
theorem gd_get {D : List Int} {x : Int} (h0 : 0 ≤ x) (hn : x < D.length) : D[x.toNat]? = some (gd D x) := by
  have : x.toNat < D.length := by omega
  simp [gd, List.getD, List.getElem?_eq_getElem this]
theorem mark_len (d : Int) (s : List Int × List Int) (x : Int) : (mark d s x).1.length = s.1.length := by
  unfold mark; split <;> simp
theorem marks_len (d : Int) (s : List Int × List Int) (xs : List Int) : (marks d s xs).1.length = s.1.length := by
  induction xs generalizing s with
  | nil => rfl
  | cons x xs ih => show (marks d (mark d s x) xs).1.length = _; rw [ih, mark_len]
/-- Marking: the unmarked ones are as many fewer as the row is longer. -/
theorem mark_negs {n : Nat} {d : Int} (hd : 0 ≤ d) {s : List Int × List Int} (hs : s.1.length = n) {x : Int} (hx : ptB x n = true) : negs (mark d s x).1 + (mark d s x).2.length = negs s.1 + s.2.length := by
  simp only [ptB, decide_eq_true_eq] at hx
  unfold mark
  split
  · rename_i h
    have h0 : 0 ≤ x := by omega
    have := negs_set (gd_get h0 (by omega)) h.2 hd
    simp only [List.length_append, List.length_singleton]; omega
  · rfl
theorem marks_negs {n : Nat} {d : Int} (hd : 0 ≤ d) {s : List Int × List Int} (hs : s.1.length = n) {xs : List Int} (hx : xs.all (ptB · n) = true) : negs (marks d s xs).1 + (marks d s xs).2.length = negs s.1 + s.2.length := by
  induction xs generalizing s with
  | nil => rfl
  | cons x xs ih =>
    rw [List.all_cons, Bool.and_eq_true] at hx
    show negs (marks d (mark d s x) xs).1 + (marks d (mark d s x) xs).2.length = _
    rw [ih (by rw [mark_len]; exact hs) hx.2, mark_negs hd hs hx.1]
/-- What is collected are cells. -/
theorem mark_cells {n : Nat} {d : Int} {s : List Int × List Int} (hs : s.2.all (plB · n) = true) {x : Int} (hx : ptB x n = true) : (mark d s x).2.all (plB · n) = true := by
  unfold mark
  split
  · rename_i h
    rw [List.all_append, hs]
    simp only [ptB, decide_eq_true_eq] at hx
    simp [plB]; omega
  · exact hs
theorem marks_cells {n : Nat} {d : Int} {s : List Int × List Int} (hs : s.2.all (plB · n) = true) {xs : List Int} (hx : xs.all (ptB · n) = true) : (marks d s xs).2.all (plB · n) = true := by
  induction xs generalizing s with
  | nil => exact hs
  | cons x xs ih =>
    rw [List.all_cons, Bool.and_eq_true] at hx
    exact ih (mark_cells hs hx.1) hx.2
theorem gd_all {p : Int → Bool} {l : List Int} (h : l.all p = true) {c : Int} (hc : plB c l.length = true) : p (gd l c) = true := by
  simp only [plB, decide_eq_true_eq] at hc
  have hg := gd_get hc.1 hc.2
  rw [List.all_eq_true] at h
  exact h _ (List.mem_of_getElem? hg)
theorem kids_pt {n : Nat} {l r : List Int} (hl : l.length = n) (hr : r.length = n) (h1 : l.all (ptB · n) = true) (h2 : r.all (ptB · n) = true) {Q : List Int} (hQ : Q.all (plB · n) = true) : (kids l r Q).all (ptB · n) = true := by
  induction Q with
  | nil => rfl
  | cons c Q ih =>
    rw [List.all_cons, Bool.and_eq_true] at hQ
    rw [kids_cons, List.all_cons, List.all_cons, ih hQ.2]
    have a1 := gd_all h1 (c := c) (by rw [hl]; exact hQ.1)
    have a2 := gd_all h2 (c := c) (by rw [hr]; exact hQ.1)
    simp only [a1, a2, Bool.and_self]

/-- The distances of all cells from some cells, or -1. -/
def dist (h : Hp) (starts : List Int) : List Int := bfs h.l h.r (h.l.length + 1) (List.replicate h.l.length (-1)) 1 starts
end Go.Proofs.Ytpimndfafibgeaa
