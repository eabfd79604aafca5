import Derived.Test.YtapkhgpifpgleaaMemos
import Derived.Test.YtapkhgpifpgleaaHpA
import Derived.Test.YtapkhgpifpgleaaHpB
import Derived.Test.YtapkhgpifpgleaaPure
import Derived.Test.YtapkhgpifpgleaaWrong
import Derived.Test.YtapkhgpifpgleaaCntA
import Derived.Deep.AppendLies
import Derived.Deep.RegionLaw
import Derived.Maps.OwnSet
import Derived.ScopeJumps
import Derived.WalkMore
import Derived.Deep.LoopGhost
import Derived.Test.YtapkhgpifpgleaaCopys
import Derived.Deep.CutRange
import Derived.Maps.AppendAt
/- Breadth first search over lists: the plain facts. -/
namespace Go.Proofs.Ytapkhgpifpgleaa

def gd (D : List Int) (x : Int) : Int := D.getD x.toNat (-1)
/-- One cell is marked, if it is one and is not marked yet. -/
def mark (d : Int) (s : List Int × List Int) (x : Int) : List Int × List Int :=
  if x ≠ -1 ∧ gd s.1 x < 0 then (s.1.set x.toNat d, s.2 ++ [x]) else s
def marks (d : Int) (s : List Int × List Int) (xs : List Int) : List Int × List Int := xs.foldl (mark d) s
def kids (l r : List Int) (Q : List Int) : List Int := Q.flatMap fun c => [gd l c, gd r c]
def bfs (l r : List Int) : Nat → List Int → Int → List Int → List Int
  | 0, D, _, _ => D
  | f + 1, D, d, xs => if (marks d (D, []) xs).2 = [] then (marks d (D, []) xs).1 else bfs l r f (marks d (D, []) xs).1 (d + 1) (kids l r (marks d (D, []) xs).2)
def rest (l r : List Int) (f : Nat) (s : List Int × List Int) (d : Int) (xs : List Int) : List Int :=
  if (marks d s xs).2 = [] then (marks d s xs).1 else bfs l r f (marks d s xs).1 (d + 1) (kids l r (marks d s xs).2)
theorem bfs_rest (l r : List Int) (f : Nat) (D : List Int) (d : Int) (xs : List Int) : bfs l r (f + 1) D d xs = rest l r f (D, []) d xs := rfl
theorem rest_cons (l r : List Int) (f : Nat) (s : List Int × List Int) (d x : Int) (xs : List Int) : rest l r f s d (x :: xs) = rest l r f (mark d s x) d xs := rfl
theorem rest_nil (l r : List Int) (f : Nat) (D : List Int) (d : Int) : rest l r f (D, []) d [] = D := by simp [rest, marks]
theorem rest_nil' (l r : List Int) (f : Nat) (D B : List Int) (d : Int) (hB : B ≠ []) : rest l r (f + 1) (D, B) d [] = rest l r f (D, []) (d + 1) (kids l r B) := by
  have h : rest l r (f + 1) (D, B) d [] = bfs l r (f + 1) D (d + 1) (kids l r B) := by
    unfold rest; exact if_neg hB
  rw [h]; rfl
theorem kids_cons (l r : List Int) (c : Int) (Q : List Int) : kids l r (c :: Q) = gd l c :: gd r c :: kids l r Q := rfl
theorem kids_snoc (l r : List Int) (c : Int) (Q : List Int) : kids l r (Q ++ [c]) = kids l r Q ++ [gd l c, gd r c] := by simp [kids]
theorem kids_nil (l r : List Int) : kids l r [] = [] := rfl
theorem kids_len (l r : List Int) (Q : List Int) : (kids l r Q).length = 2 * Q.length := by
  induction Q with
  | nil => rfl
  | cons c Q ih => rw [kids_cons]; simp only [List.length_cons, ih]; omega
theorem marks_snoc (d : Int) (s : List Int × List Int) (xs : List Int) (x : Int) : marks d s (xs ++ [x]) = mark d (marks d s xs) x := by simp [marks]

/-- How many are not marked. -/
def negs (D : List Int) : Nat := (D.filter (· < 0)).length
theorem negs_set {D : List Int} {k : Nat} {u d : Int} (hk : D[k]? = some u) (hu : u < 0) (hd : 0 ≤ d) : negs (D.set k d) + 1 = negs D := by
  induction D generalizing k with
  | nil => simp at hk
  | cons a t ih =>
    cases k with
    | zero =>
      simp at hk; subst hk
      have h1 : ¬ (d < 0) := by omega
      simp [negs, hu, h1]
    | succ k =>
      simp at hk
      have := ih hk
      simp only [List.set_cons_succ, negs, List.filter_cons] at this ⊢
      split <;> simp_all <;> omega
theorem negs_rep (n : Nat) : negs (List.replicate n (-1)) = n := by simp [negs]
theorem gd_get {D : List Int} {x : Int} (h0 : 0 ≤ x) (hn : x < D.length) : D[x.toNat]? = some (gd D x) := by
  have : x.toNat < D.length := by omega
  simp [gd, List.getD, List.getElem?_eq_getElem this]
theorem mark_len (d : Int) (s : List Int × List Int) (x : Int) : (mark d s x).1.length = s.1.length := by
  unfold mark; split <;> simp
theorem marks_len (d : Int) (s : List Int × List Int) (xs : List Int) : (marks d s xs).1.length = s.1.length := by
  induction xs generalizing s with
  | nil => rfl
  | cons x xs ih => show (marks d (mark d s x) xs).1.length = _; rw [ih, mark_len]
/-- Marking: the unmarked ones are as many fewer as the row is longer. -/
theorem mark_negs {n : Nat} {d : Int} (hd : 0 ≤ d) {s : List Int × List Int} (hs : s.1.length = n) {x : Int} (hx : ptB x n = true) : negs (mark d s x).1 + (mark d s x).2.length = negs s.1 + s.2.length := by
  simp only [ptB, decide_eq_true_eq] at hx
  unfold mark
  split
  · rename_i h
    have h0 : 0 ≤ x := by omega
    have := negs_set (gd_get h0 (by omega)) h.2 hd
    simp only [List.length_append, List.length_singleton]; omega
  · rfl
theorem marks_negs {n : Nat} {d : Int} (hd : 0 ≤ d) {s : List Int × List Int} (hs : s.1.length = n) {xs : List Int} (hx : xs.all (ptB · n) = true) : negs (marks d s xs).1 + (marks d s xs).2.length = negs s.1 + s.2.length := by
  induction xs generalizing s with
  | nil => rfl
  | cons x xs ih =>
    rw [List.all_cons, Bool.and_eq_true] at hx
    show negs (marks d (mark d s x) xs).1 + (marks d (mark d s x) xs).2.length = _
    rw [ih (by rw [mark_len]; exact hs) hx.2, mark_negs hd hs hx.1]
/-- What is collected are cells. -/
theorem mark_cells {n : Nat} {d : Int} {s : List Int × List Int} (hs : s.2.all (plB · n) = true) {x : Int} (hx : ptB x n = true) : (mark d s x).2.all (plB · n) = true := by
  unfold mark
  split
  · rename_i h
    rw [List.all_append, hs]
    simp only [ptB, decide_eq_true_eq] at hx
    simp [plB]; omega
  · exact hs
theorem marks_cells {n : Nat} {d : Int} {s : List Int × List Int} (hs : s.2.all (plB · n) = true) {xs : List Int} (hx : xs.all (ptB · n) = true) : (marks d s xs).2.all (plB · n) = true := by
  induction xs generalizing s with
  | nil => exact hs
  | cons x xs ih =>
    rw [List.all_cons, Bool.and_eq_true] at hx
    exact ih (mark_cells hs hx.1) hx.2
theorem gd_all {p : Int → Bool} {l : List Int} (h : l.all p = true) {c : Int} (hc : plB c l.length = true) : p (gd l c) = true := by
  simp only [plB, decide_eq_true_eq] at hc
  have hg := gd_get hc.1 hc.2
  rw [List.all_eq_true] at h
  exact h _ (List.mem_of_getElem? hg)
theorem kids_pt {n : Nat} {l r : List Int} (hl : l.length = n) (hr : r.length = n) (h1 : l.all (ptB · n) = true) (h2 : r.all (ptB · n) = true) {Q : List Int} (hQ : Q.all (plB · n) = true) : (kids l r Q).all (ptB · n) = true := by
  induction Q with
  | nil => rfl
  | cons c Q ih =>
    rw [List.all_cons, Bool.and_eq_true] at hQ
    rw [kids_cons, List.all_cons, List.all_cons, ih hQ.2]
    have a1 := gd_all h1 (c := c) (by rw [hl]; exact hQ.1)
    have a2 := gd_all h2 (c := c) (by rw [hr]; exact hQ.1)
    simp only [a1, a2, Bool.and_self]

/-- The distances of all cells from some cells, or -1. -/
def dist (h : Hp) (starts : List Int) : List Int := bfs h.l h.r (h.l.length + 1) (List.replicate h.l.length (-1)) 1 starts
end Go.Proofs.Ytapkhgpifpgleaa

/- Words for memory: a row of bools. -/
namespace Go.Proofs.Ytapkhgpifpgleaa
open Go.RowKit

abbrev bv (b : Bool) : Value := .bool b
/-- The slice value owns a row of bools, in a block from 'lo' on (or it is nil). -/
def RowB (w : World) (lo : Nat) (v : Value) (xs : List Bool) : Prop := w.ownsRow lo 4 1 v xs.length (xs.map bv)
theorem RowB.form {w : World} {lo : Nat} {v : Value} {xs : List Bool} (h : RowB w lo v xs) : ∃ A c, v = .slice A xs.length c ∧ xs.length ≤ c ∧ c ≤ maxLen := by
  rcases h.2 with ⟨rfl, e⟩ | ⟨g, cap, cur, rfl, _, _, h1, h2, _⟩
  · exact ⟨none, 0, by rw [e], by omega, by unfold maxLen; omega⟩
  · exact ⟨_, cap, rfl, h1, h2⟩
theorem RowB.nil (w : World) (lo : Nat) : RowB w lo (.slice none 0 0) [] := World.ownsRow_nil w lo _ _
theorem RowB.get {w : World} {lo : Nat} {A : Option Addr} {n c : Nat} {xs : List Bool} (h : RowB w lo (.slice A n c) xs) {k : Nat} (hk : k < xs.length) :
    ∃ g x, A = some ⟨g, 0, none⟩ ∧ lo ≤ g ∧ g < w.heap.size ∧ Hid (xs[k]? = some x) ∧ w.cell? ⟨g, k, none⟩ = some (.bool x) ∧ w.frozen? ⟨g, k, none⟩ = false := by
  have hc := h
  unfold RowB at hc
  rcases h.2 with ⟨e, h0⟩ | ⟨g, cap, cur, e, hb, hg, h1, h2, h3, h4⟩
  · omega
  · cases e
    refine ⟨g, xs.getD k false, rfl, hb, (Array.getElem?_eq_some_iff.1 hg).1, ?_, ?_, hc.frozenAt k⟩
    · unfold Hid; simp [List.getD, List.getElem?_eq_getElem hk]
    · rw [hc.cellAt k (by omega)]
      simp [List.getD, List.getElem?_eq_getElem hk]
theorem RowB.lt {w : World} {lo : Nat} {v : Value} {xs : List Bool} (h : RowB w lo v xs) : ∀ k, v.ownBlock = some k → lo ≤ k ∧ k < w.heap.size := World.ownsRow.lt h
theorem RowB.kept {w w' : World} {lo : Nat} {v : Value} {xs : List Bool} {row : Option Nat} (h : RowB w lo v xs) (hg : w.grownBy w' row) (hne : v.ownBlock = none ∨ v.ownBlock ≠ row) : RowB w' lo v xs := World.ownsRow.kept h hg hne
theorem RowB.below {w w' : World} {lo : Nat} {v : Value} {xs : List Bool} (h : RowB w lo v xs) (hb : Below w.heap.size w w') : RowB w' lo v xs :=
  h.kept (grown_of_below hb) (by cases v.ownBlock <;> simp)
theorem RowB.alloc {w : World} {lo : Nat} {v : Value} {xs : List Bool} (h : RowB w lo v xs) (o : Obj) : RowB (w.alloc o) lo v xs := World.ownsRow.alloc h o
theorem RowB.drew {w : World} {lo : Nat} {v : Value} {xs : List Bool} (h : RowB w lo v xs) : RowB w.drew lo v xs := h
theorem RowB.drewN {w : World} {lo : Nat} {v : Value} {xs : List Bool} (h : RowB w lo v xs) (n : Nat) : RowB (w.drewN n) lo v xs := h
theorem RowB.other {w : World} {lo : Nat} {v : Value} {xs : List Bool} (h : RowB w lo v xs) {a : Addr} (ha : v.ownBlock ≠ some a.block) (u : Value) : RowB (w.setCell a u) lo v xs := ownsRow_setCell_other h ha u
theorem RowB.mono {w : World} {lo lo' : Nat} {v : Value} {xs : List Bool} (h : RowB w lo v xs) (hl : lo' ≤ lo) : RowB w lo' v xs := by
  refine ⟨h.1, ?_⟩
  rcases h.2 with h2 | ⟨g, cap, cur, e, hb, r⟩
  · exact .inl h2
  · exact .inr ⟨g, cap, cur, e, by omega, r⟩
theorem RowB.far {w w' : World} {lo B : Nat} {v : Value} {xs : List Bool} (h : RowB w lo v xs) (hb : Below B w w') (hB : ∀ k, v.ownBlock = some k → k < B) : RowB w' lo v xs := by
  refine ⟨h.1, ?_⟩
  rcases h.2 with h2 | ⟨g, cap, cur, rfl, hg, hh, r⟩
  · exact .inl h2
  · exact .inr ⟨g, cap, cur, rfl, hg, by rw [hb.block g (hB g rfl)]; exact hh, r⟩
theorem RowB.set_ {w : World} {lo g n c : Nat} {xs : List Bool} (h : RowB w lo (.slice (some ⟨g, 0, none⟩) n c) xs) (k : Nat) (x : Bool) : RowB (w.setCell ⟨g, k, none⟩ (bv x)) lo (.slice (some ⟨g, 0, none⟩) n c) (xs.set k x) := by
  have h1 := h
  unfold RowB at h1 ⊢
  obtain ⟨A, c', e, h2, h3⟩ := h.form
  cases e
  have := World.ownsRow.stored h1 k (bv x)
  simpa [List.map_set] using this.1
theorem RowB.of_own {w : World} {lo : Nat} {v : Value} {n : Nat} {xs : List Bool} {l : List Value} (h : w.ownsRow lo 4 1 v n l) (hl : l = xs.map bv) (hn : n = xs.length) : RowB w lo v xs := by
  subst hl hn; exact h
/-- A new row of bools comes back, and nothing that was there has turned. -/
def NewRowB (w : World) (xs : List Bool) (e : Ending) (w' : World) : Prop := ∃ A c, e = .returned (.slice A xs.length c) ∧ RowB w' w.heap.size (.slice A xs.length c) xs ∧ Below w.heap.size w w'
theorem Try.infoBool : (Try.prog.info? 4).map (fun i => (i.zero, i.size, i.bytes)) = some (some (.bool false), 1, 1) := by kernel_rfl
theorem mc_bool (n : Nat) : (madeCells #[Value.bool false] n).toList = (List.replicate n false).map bv := by
  rw [toList_madeCells_one]; simp

/-- Every number is -1 or at least 1. -/
def okV (u : Int) : Bool := decide (u = -1 ∨ 1 ≤ u)
theorem mark_okV {d x : Int} (hd : 1 ≤ d) {s : List Int × List Int} (h : s.1.all okV = true) : (mark d s x).1.all okV = true := by
  unfold mark
  split
  · rw [List.all_eq_true] at h ⊢
    intro z hz
    rcases List.mem_or_eq_of_mem_set hz with h1 | h1
    · exact h z h1
    · rw [h1]; simp [okV]; omega
  · exact h
theorem marks_okV {d : Int} (hd : 1 ≤ d) {s : List Int × List Int} {xs : List Int} (h : s.1.all okV = true) : (marks d s xs).1.all okV = true := by
  induction xs generalizing s with
  | nil => exact h
  | cons x xs ih => exact ih (mark_okV hd h)
theorem bfs_okV {l r : List Int} {f : Nat} {D : List Int} {d : Int} {xs : List Int} (hd : 1 ≤ d) (h : D.all okV = true) : (bfs l r f D d xs).all okV = true := by
  induction f generalizing D d xs with
  | zero => exact h
  | succ f ih =>
    unfold bfs
    split
    · exact marks_okV hd h
    · exact ih (by omega) (marks_okV hd h)
theorem bfs_len {l r : List Int} {f : Nat} {D : List Int} {d : Int} {xs : List Int} : (bfs l r f D d xs).length = D.length := by
  induction f generalizing D d xs with
  | zero => rfl
  | succ f ih =>
    unfold bfs
    split
    · exact marks_len _ _ _
    · rw [ih, marks_len]
theorem dist_len (h : Hp) (s : List Int) : (dist h s).length = h.l.length := by unfold dist; rw [bfs_len]; simp
theorem dist_okV (h : Hp) (s : List Int) : (dist h s).all okV = true := by
  unfold dist
  refine bfs_okV (by omega) ?_
  rw [List.all_eq_true]
  intro x hx
  rw [(List.mem_replicate.1 hx).2]; simp [okV]
/-- Which cells are live. -/
def liveL (h : Hp) : List Bool := if hvB h = true then (dist h h.t).map (fun u => decide (0 ≤ u)) else []
theorem liveL_len {h : Hp} (hv : hvB h = true) : (liveL h).length = h.l.length := by
  unfold liveL; rw [if_pos hv, List.length_map, dist_len]
theorem liveL_bd (h : Hp) : (liveL h).length ≤ 8 := by
  cases hv : hvB h
  · unfold liveL; rw [hv]; simp
  · rw [liveL_len hv]; have := hvB_len hv; omega
end Go.Proofs.Ytapkhgpifpgleaa

/- impl.distancesFrom: the search, by a map, a label and a goto. -/
namespace Go.Proofs.Ytapkhgpifpgleaa
open Go.RowKit Go.Maps

theorem lawInt : Keyed Try.prog 3 := int_keyed Try.underlying3
theorem zeroInt (w : World) : (zeroValue 3).run Try.prog w = .ok (.int .i64 0) w := by kernel_rfl
theorem wfI {n : Int} (h : -9223372036854775808 ≤ n ∧ n ≤ 9223372036854775807) : (Lit.int .i64 n).wf = true := WalkArith.wf_i64 h

/-- The map holds the numbers that are not negative, at their places. -/
def MapIs (M : DataW Unit) (D : List Int) : Prop :=
  ∀ x : Int, Maps.has M (.int .i64 x) = decide (0 ≤ x ∧ 0 ≤ gd D x) ∧ (0 ≤ x → 0 ≤ gd D x → M.atKey (.int .i64 x) (.lit (.int .i64 0)) = .lit (.int .i64 (gd D x)))
theorem mapIs_empty (n : Nat) : MapIs (.map []) (List.replicate n (-1)) := by
  intro x
  have hg : gd (List.replicate n (-1)) x = -1 := by
    unfold gd
    rw [List.getD_eq_getElem?_getD]
    by_cases h : x.toNat < n
    · simp [h]
    · simp [h]
  rw [hg]
  exact ⟨by simp [Maps.has], fun _ h => absurd h (by omega)⟩
theorem gd_set_same {D : List Int} {x d : Int} (h0 : 0 ≤ x) (hn : x < D.length) : gd (D.set x.toNat d) x = d := by
  have : x.toNat < D.length := by omega
  simp [gd, List.getD, this]
theorem gd_set_other {D : List Int} {x y d : Int} (hx : 0 ≤ x) (hy : 0 ≤ y) (hne : y ≠ x) : gd (D.set x.toNat d) y = gd D y := by
  have : x.toNat ≠ y.toNat := by omega
  simp [gd, List.getD, List.getElem?_set_ne this]
theorem MapIs.put {M : DataW Unit} {D : List Int} (h : MapIs M D) (hM : IsMap M) {x d : Int} (h0 : 0 ≤ x) (hn : x < D.length) (hd : 0 ≤ d) : MapIs (M.put (.int .i64 x) (.lit (.int .i64 d))) (D.set x.toNat d) := by
  intro y
  by_cases hy : y = x
  · subst hy
    rw [gd_set_same h0 hn]
    refine ⟨?_, fun _ _ => atKey_put_same hM (by exact trivial) _ _⟩
    rw [has_put_same hM (by exact trivial)]; simp; omega
  · have hk : (Lit.int .i64 y) ≠ (Lit.int .i64 x) := fun e => hy (by simpa using e)
    rw [has_put_other hk, atKey_put_other hk]
    by_cases hy0 : 0 ≤ y
    · rw [gd_set_other h0 hy0 hy]; exact h y
    · refine ⟨?_, fun e => absurd e hy0⟩
      rw [(h y).1]; simp [hy0]

/-- A map comes back that holds the distances; nothing that was there has turned. -/
def DistMap (w : World) (D : List Int) (e : Ending) (w' : World) : Prop :=
  ∃ b m M, e = .returned (.map (some b)) ∧ w.heap.size ≤ b ∧ w'.ownsMap Try.prog 3 (plainElem (H := Unit) Try.prog 3) b m M ∧ MapIs M D ∧ Below w.heap.size w w'

theorem scope_jumps_at {P : Program} {a : Act} {w : World} {Q : Exit → Act → World → Prop} {c rest : Code} (l : Nat) (J : Act → World → Prop) (μ : Act → World → Nat) (hf : findLabel c l = some (Code.skip.seq rest))
    (first : ∀ Q', (∀ a w, J a w → rest.wp P Q' a w) → c.wp P Q' a w)
    (pass : ∀ a w, J a w → rest.wp P (Exit.jump l (fun a' w' => J a' w' ∧ μ a' w' < μ a w) Q) a w) : (Code.scope c).wp P Q a w :=
  wp_scope_jumps l J μ hf (first _ fun a w hJ => wp_mono (pass a w hJ) fun e a' w' h => by
    cases e <;> first | exact h | exact ⟨h.1, h.2.1⟩) fun a w hJ => wp_seq (wp_skip (pass a w hJ))

theorem wp_into_label {P : Program} {l : Nat} {rest : Code} {Q : Exit → Act → World → Prop} {a : Act} {w : World} (h : rest.wp P Q a w) : ((Code.label l).seq rest).wp P Q a w := by
  apply wp_seq
  apply wp_label
  exact h

/-- The state at the label. -/
def AtSearch (w : World) (h : Hp) (fin : List Int) (A0 A1 A2 SA : Option Addr) (n0 c0 n1 c1 n2 c2 sn sc : Nat) (a' : Act) (w' : World) : Prop :=
  ∃ (d : Int) (FA : Option Addr) (fn fc f m lo : Nat) (D xs : List Int) (M : DataW Unit) (u3 u9 u10 u11 u12 u13 u14 u15 u16 u17 u18 u19 u20 u21 u22 u23 u24 u25 u26 u27 u28 u29 u30 u31 u32 u33 u34 u35 u36 u37 u38 u39 u40 u41 u42 u43 u44 u45 u46 u47 u48 u49 u50 u51 u52 u53 u54 u55 : Value),
    a' = { tmps := #[.agg #[.slice A0 n0 c0, .slice A1 n1 c1, .slice A2 n2 c2], .slice SA sn sc, .pointer (some ⟨w.heap.size, 0, none⟩), u3, .map none, .map (some (w.heap.size + 1)), .int .i64 d, .slice FA fn fc, .slice none 0 0, u9, u10, u11, u12, u13, u14, u15, u16, u17, u18, u19, u20, u21, u22, u23, u24, u25, u26, u27, u28, u29, u30, u31, u32, u33, u34, u35, u36, u37, u38, u39, u40, u41, u42, u43, u44, u45, u46, u47, u48, u49, u50, u51, u52, u53, u54, u55], defers := [] } ∧
    Row w' lo (.slice FA fn fc) xs ∧ Hid (xs.length = fn) ∧ (Value.slice FA fn fc).ownBlock ≠ some (w.heap.size + 1) ∧ Hid (xs.all (ptB · n0) = true) ∧
    Hid (bfs h.l h.r (f + 1) D d xs = fin ∧ D.length = n0 ∧ negs D ≤ f ∧ MapIs M D) ∧
    (1 ≤ d ∧ d + negs D ≤ (n0 : Int) + 1 ∧ m + negs D ≤ n0) ∧ w'.ownsMap Try.prog 3 (plainElem (H := Unit) Try.prog 3) (w.heap.size + 1) m M ∧ Blk3 w' w.heap.size (.slice A0 n0 c0) (.slice A1 n1 c1) (.slice A2 n2 c2) 27 ∧ Below w.heap.size w w'

theorem Below.of_map {w w' : World} {b : Nat} (h : w.grownBy w' (some b)) (hb : b ≤ w.heap.size := by omega) : Below b w w' := ⟨h.os, h.tape, h.output, h.size, fun k hk => h.block k (by omega) (fun e => by cases e; omega)⟩
theorem Blk3.drew' {w : World} {b : Nat} {x y z : Value} {t : TypeId} (h : Blk3 w b x y z t) : Blk3 w.drew b x y z t := h
theorem two_cells (x y : Int) : ∀ u ∈ [Value.int .i64 x, Value.int .i64 y], u.oneCell' = true := fun u hu => by simp at hu; rcases hu with rfl | rfl <;> rfl
theorem mark_hit {d x : Int} {s : List Int × List Int} (h : ¬ (x ≠ -1 ∧ gd s.1 x < 0)) : mark d s x = s := by unfold mark; rw [if_neg h]
theorem mark_new {d x : Int} {s : List Int × List Int} (h1 : x ≠ -1) (h2 : gd s.1 x < 0) : mark d s x = (s.1.set x.toNat d, s.2 ++ [x]) := by unfold mark; rw [if_pos ⟨h1, h2⟩]
theorem grown_mono_none {a b : World} {row : Option Nat} (h : a.grownBy b none) : a.grownBy b row := ⟨h.os, h.tape, h.output, h.size, fun k hk _ => h.block k hk (by simp)⟩
theorem row2 {w : World} {lo : Nat} {v : Value} {n : Nat} {ys : List Int} (x y : Int) (h : w.ownsRow lo 3 1 v (n + 2) (ys.map iv ++ [.int .i64 x, .int .i64 y])) (hn : n = ys.length) : Row w lo v (ys ++ [x, y]) :=
  Row.of_own h (by simp) (by simp [hn])
theorem two_new {w : World} {x y : Value} {t : TypeId} : ∀ j u, [x, y][j]? = some u → (w.alloc (.cells #[x, y] t)).cell? ((⟨w.heap.size, 0, none⟩ : Addr).add j) = some u := by
  intro j u hj
  match j, hj with
  | 0, hj => simp at hj; subst hj; simp [Addr.add]
  | 1, hj => simp at hj; subst hj; simp [Addr.add]
theorem two_newD {w : World} {x y : Value} {t : TypeId} : ∀ j u, [x, y][j]? = some u → (w.alloc (.cells #[x, y] t)).drew.cell? ((⟨w.heap.size, 0, none⟩ : Addr).add j) = some u := two_new

set_option maxRecDepth 100000 in
set_option maxHeartbeats 4000000 in
theorem distancesFrom_any (w : World) (lo : Nat) (v : Value) (h : Hp) (hv : Hv w lo v h) (hva : hvB h = true) (SA : Option Addr) (sn sc : Nat) (starts : List Int) (ls : Nat) (hs : Row w ls (.slice SA sn sc) starts) (hsn : starts.length = sn) (hst : starts.all (ptB · h.l.length) = true) :
    Calls Try.prog 64 #[v, .slice SA sn sc] w (DistMap w (dist h starts)) := by
  obtain ⟨i0, hi, hz0, hz1, hz2⟩ := info_parts Try.infoInt
  obtain ⟨A0, n0, c0, A1, n1, c1, A2, n2, c2, rfl, ⟨h0, h1, h2⟩, ⟨l0, l1, l2⟩, _⟩ := hv.open_
  have hl := hvB_len hva
  obtain ⟨⟨_, _⟩, hp0, hp1, _⟩ := hvB_parts hva
  have u0 : n0 ≤ 8 ∧ Hid (n1 = n0) := by have := l0.out; have := l1.out; exact ⟨by omega, by unfold Hid; omega⟩
  obtain ⟨u0a, u0b⟩ := u0
  obtain ⟨fin, hfin⟩ : ∃ fin, Hid (dist h starts = fin) := ⟨_, rfl⟩
  have hst' : Hid (starts.all (ptB · n0) = true) := by unfold Hid; rw [← l0.out]; exact hst
  have HP0 : Hid (h.l.all (ptB · n0) = true) := by unfold Hid; rw [← l0.out]; exact hp0
  have HP1 : Hid (h.r.all (ptB · n0) = true) := by unfold Hid; rw [← l0.out]; exact hp1
  have HSN := Lib.hid hsn
  clear hst hp0 hp1 hl hsn
  rw [hfin.out]
  have hmm := @run_makeMap Try.prog
  go_enter Try.func64, Try.ntmps64
  go_wp2
  refine scope_jumps_at 0 (AtSearch w h fin A0 A1 A2 SA n0 c0 n1 c1 n2 c2 sn sc) (fun a' _ => (10 - intOf (a'.tmps.getD 6 undef)).toNat) rfl ?_ ?_
  · intro Q' hQ
    go_wp2
    refine wp_label ?_
    rename_i K hK
    refine hK _ _ (hQ _ _ ?_)
    have X := (Blk3.new w (.slice A0 n0 c0) (.slice A1 n1 c1) (.slice A2 n2 c2) 27).alloc (.map #[] 0)
    refine ⟨1, SA, sn, sc, n0, 0, ls, List.replicate n0 (-1), starts, .map [], _, _, _, _, _, _, _, _, _, _, _, _, _, _, _, _, _, _, _, _, _, _, _, _, _, _, _, _, _, _, _, _, _, _, _, _, _, _, _, _, _, _, _, _, _, _, _, _, rfl, (hs.alloc _).alloc _, HSN, ?_, hst', ⟨?_, by simp, by rw [negs_rep]; omega, mapIs_empty n0⟩, ⟨by omega, by rw [negs_rep]; omega, by rw [negs_rep]; omega⟩, ?_, X, ((Below.refl _ _).alloc (Nat.le_refl _) _).alloc (by simp) _⟩
    · intro e; have := (hs.lt _ e).2; omega
    · have := hfin.out; unfold dist at this; rw [l0.out] at this; exact this
    · have := World.ownsMap_made (w.alloc (.cells #[.slice A0 n0 c0, .slice A1 n1 c1, .slice A2 n2 c2] 27)) Try.prog 3 (plainElem (H := Unit) Try.prog 3)
      simpa using this
  · rintro a' wl ⟨d, FA, fn, fc, f, m, lf, D, xs, M, u3, u9, u10, u11, u12, u13, u14, u15, u16, u17, u18, u19, u20, u21, u22, u23, u24, u25, u26, u27, u28, u29, u30, u31, u32, u33, u34, u35, u36, u37, u38, u39, u40, u41, u42, u43, u44, u45, u46, u47, u48, u49, u50, u51, u52, u53, u54, u55, rfl, hrow, hxl, hne, hxp, hbfs, hd, hown, X, hB⟩
    obtain ⟨hb1, hb2, hb3, hb4⟩ := hbfs.out
    obtain ⟨hd1, hd2, hd3⟩ := hd
    have HB := Lib.hid hbfs.out
    have lb : w.heap.size + 1 < wl.heap.size := hown.lt
    have hd9 : d ≤ 9 := by omega
    have hfront : ∀ g, (Value.slice FA fn fc).ownBlock = some g → g < wl.heap.size := fun g e => (hrow.lt g e).2
    have HF := Lib.hid hfront
    have HNE := Lib.hid hne
    have hnd := hd3
    clear hb1 hb2 hb3 hb4 hbfs hfront hne
    have hfm : fn ≤ 9223372036854775807 := by obtain ⟨_, _, _, q1, q2⟩ := hrow.form; have := hxl.out; unfold maxLen at q2; omega
    go_wp2
    go_loopg [8, 17] fn (fun g nx i wr => ∃ (k : Nat) (A : Option Addr) (cc m' : Nat) (s : List Int × List Int) (M' : DataW Unit), Hid (g + k = fn) ∧ i = .int .i64 k ∧ Hid (s = marks d (D, []) (xs.take k)) ∧ nx = .slice A (kids h.l h.r s.2).length cc ∧ Row wr wl.heap.size (.slice A (kids h.l h.r s.2).length cc) (kids h.l h.r s.2) ∧ Row wr lf (.slice FA fn fc) xs ∧ wr.ownsMap Try.prog 3 (plainElem (H := Unit) Try.prog 3) (w.heap.size + 1) m' M' ∧ Hid (MapIs M' s.1 ∧ s.1.length = n0 ∧ s.2.all (plB · n0) = true ∧ negs s.1 + s.2.length = negs D) ∧ m' + negs s.1 ≤ n0 ∧ Blk3 wr w.heap.size (.slice A0 n0 c0) (.slice A1 n1 c1) (.slice A2 n2 c2) 27 ∧ Below w.heap.size w wr ∧ wl.heap.size ≤ wr.heap.size)
    case atStart => exact ⟨0, none, 0, m, (D, []), M, by unfold Hid; simp, rfl, rfl, rfl, Row.nil _ _, hrow, hown, ⟨HB.out.2.2.2, HB.out.2.1, rfl, rfl⟩, hd3, X, hB, Nat.le_refl _⟩
    case round =>
      obtain ⟨k, A, cc, m', s, M', hg, rfl, hs', rfl, hnx, hfr, hmap, hinv, hm8, X', hB', hsz⟩ := hrel
      by_cases hlt : k < fn
      · obtain ⟨gf, x, rfl, _, _, hx, hcell, _⟩ := hfr.get (k := k) (by have := hxl.out; omega)
        have hpt : -1 ≤ x ∧ x < n0 := by
          have h1 := hxp.out
          rw [List.all_eq_true] at h1
          have := h1 x (List.mem_of_getElem? hx.out)
          simpa [ptB] using this
        obtain ⟨hpt1, hpt2⟩ := hpt
        have hwfx : (Lit.int .i64 x).wf = true := wfI (by omega)
        have hkey : keyOf Try.prog 3 (.int .i64 x) = some (.int .i64 x) := keyOf_int_mk Try.underlying3 hwfx
        have htk : Hid (marks d (D, []) (xs.take (k + 1)) = mark d s x) := by
          unfold Hid; rw [take_snoc hx.out, marks_snoc, hs'.out]
        have hhas := (hinv.out.1 x).1
        clear hx hs'
        by_cases hm : x ≠ -1 ∧ gd s.1 x < 0
        · have hmk := mark_new (d := d) (s := s) hm.1 hm.2
          obtain ⟨hm1, hm2⟩ := hm
          obtain ⟨kk, rfl⟩ : ∃ kk : Nat, x = kk := ⟨x.toNat, by omega⟩
          have hkk : kk < n0 := by omega
          have hkk1 : kk < n1 := by have := u0b.out; omega
          have hhas2 : Maps.has M' (.int .i64 (kk : Int)) = false := by rw [hhas]; simp; omega
          have hne1 : (((kk : Nat) : Int) == -1) = false := by simp
          have hnn := negs_set (d := d) (gd_get (D := s.1) (x := (kk : Int)) (by omega) (by have := hinv.out.2.1; omega)) hm2 (by omega)
          have HNN : Hid (negs (s.1.set kk d) + 1 = negs s.1) := by unfold Hid; simpa using hnn
          have HMK := Lib.hid hmk
          have HM2 := Lib.hid hm2
          clear hhas hmk hm1 hm2 hnn
          obtain ⟨q0, q1, q2, _⟩ := X'.cells
          have lx := X'.lt
          have e0 := h0.below hB'
          have e1 := h1.below hB'
          obtain ⟨ga, lx0, eA0, _, hga, hl0, hcl, _⟩ := e0.get (k := kk) (by have := l0.out; omega)
          obtain ⟨gb, rx0, eA1, _, hgb, hr0, hcr, _⟩ := e1.get (k := kk) (by have := l1.out; omega)
          subst eA0 eA1
          have g1 : ga < w.heap.size := (h0.lt ga rfl).2
          have g2 : gb < w.heap.size := (h1.lt gb rfl).2
          have hK : Hid (kids h.l h.r (s.2 ++ [(kk : Int)]) = kids h.l h.r s.2 ++ [lx0, rx0]) := by
            unfold Hid
            rw [kids_snoc]
            simp [gd, List.getD, hl0.out, hr0.out]
          have HIM := Lib.hid hmap.isMap
          have hnl : (kids h.l h.r s.2).length ≤ 16 := by
            rw [kids_len]; have := hinv.out.2.2.2; omega
          clear hl0 hr0 e0 e1
          go_wp2_with (first
            | (at_lookup; refine wpList_lookup_own_ok_int _ rfl _ _ 71 rfl 3 3 .i64 lawInt Try.underlying71 Try.underlying3 (zeroInt _) (w.heap.size + 1) m' M' rfl hmap _ _ rfl hkey ?_; intro cv hat hwc)
            | (at_mapUpdate; refine wpList_mapUpdate_own _ rfl _ _ _ 71 rfl 3 3 lawInt Try.underlying71 _ (w.heap.size + 1) m' M' rfl hmap (by unfold maxLen; omega) _ _ _ rfl rfl hkey (.lit (.int .i64 d)) [] (plainElem_int Try.underlying3 (wfI (by omega))) ?_; intro w1 hmap1 hgrow1; have X1 := X'.kept hgrow1 (by omega); have hcl1 : w1.cell? ⟨ga, kk, none⟩ = some (.int .i64 lx0) := ((Below.of_map hgrow1).cell (p := ⟨ga, kk, none⟩) (by simp; omega)).trans hcl; have hcr1 : w1.cell? ⟨gb, kk, none⟩ = some (.int .i64 rx0) := ((Below.of_map hgrow1).cell (p := ⟨gb, kk, none⟩) (by simp; omega)).trans hcr; obtain ⟨r0, r1, r2, _⟩ := X1.cells; have lx1 := X1.lt; have zz1 := hgrow1.size; have hnx1 := hnx.kept hgrow1 (.inr fun e => by have := (hnx.lt _ e).1; omega); have hfr1 := hfr.kept hgrow1 (.inr fun e => HNE.out e); have hB1 := hB'.grown hgrow1 hB'.size (fun j hj => by cases hj; omega))
            | go_in)
          go_region_law (first
            | (refine step_append_lies _ rfl (.tmp 35) (.tmp 46) 22 rfl wl.heap.size 3 i0 (.int .i64 0) 1 8 Try.underlying22 hi hz0 hz1 hz2 rfl (by decide) (.slice A (kids h.l h.r s.2).length cc) (kids h.l h.r s.2).length ((kids h.l h.r s.2).map iv) (by rfl) (own_of (lo := wl.heap.size) (zs := kids h.l h.r s.2) (by repeat (with_reducible (first | refine Row.drew ?_ | refine Row.alloc ?_ _ | exact hnx1))) rfl) ⟨w1.heap.size, 0, none⟩ 2 2 [.int .i64 lx0, .int .i64 rx0] (by rfl) rfl (by first | exact two_newD | exact two_new) (two_cells _ _) (by omega) (by unfold maxLen; omega) (by omega) (by first | omega | (simp <;> omega)) _ rfl ?_; intro g2 cap w2 hown2 hgr2 hat2 hlt2; have X2 : Blk3 w2 w.heap.size (.slice (some ⟨ga, 0, none⟩) n0 c0) (.slice (some ⟨gb, 0, none⟩) n1 c1) (.slice A2 n2 c2) 27 := Blk3.keptR (by repeat (with_reducible (first | exact X1 | refine Blk3.drew' ?_ | refine Blk3.alloc ?_ _))) hgr2 (fun e => by have := (hnx1.lt _ e.symm).1; omega); have hmap2 := (hmap1.alloc (.cells #[.int .i64 lx0, .int .i64 rx0] 3)).drew.kept hgr2 (fun e => by have := (hnx1.lt _ e.symm).1; omega); have hfr2 : Row w2 lf (.slice (some ⟨gf, 0, none⟩) fn fc) xs := Row.kept (by repeat (with_reducible (first | exact hfr1 | refine Row.drew ?_ | refine Row.alloc ?_ _))) hgr2 (.inr fun e => by have h9 := HF.out gf rfl; have := (hnx1.lt gf e.symm).1; omega); have hnx2 := row2 lx0 rx0 hown2 rfl; have zz2 := hgr2.size; have B2 := (hB1.alloc hB1.size (.cells #[.int .i64 lx0, .int .i64 rx0] 3)).drew.grown hgr2 (by first | omega | (simp <;> omega)) (fun j hj => by have := (hnx1.lt j hj).1; omega)))
          all_goals
            have hsz2 : wl.heap.size ≤ w2.heap.size := by have := zz2; simp at this; omega
            clear hnx hfr hmap hmap1 hfr1 hnx1 hgrow1 hown2 hgr2 X' X1 hcl hcr hcl1 hcr1
            go_wp2_with fail
            go_roundg (gk - 1)
            case rel =>
              refine ⟨k + 1, some ⟨g2, 0, none⟩, cap, m' + 1, (s.1.set kk d, s.2 ++ [(kk : Int)]), _, by have := hg.out; unfold Hid; omega, by go_num, ?_, ?_, ?_, hfr2, hmap2, ⟨?_, ?_, ?_, ?_⟩, ?_, X2, B2, hsz2⟩
              · unfold Hid; rw [htk.out, HMK.out]; simp
              · rw [hK.out]; simp
              · rw [hK.out]; simpa using hnx2
              · have := hinv.out.1.put HIM.out (x := (kk : Int)) (d := d) (by omega) (by have := hinv.out.2.1; omega) (by omega); simpa using this
              · simpa using hinv.out.2.1
              · have := hinv.out.2.2.1; rw [List.all_append, this]; simp [plB, hkk]
              · have h9 := hinv.out.2.2.2; have := HNN.out; show negs (s.1.set kk d) + (s.2 ++ [(kk : Int)]).length = negs D; rw [List.length_append]; simp only [List.length_singleton]; omega
              · have := HNN.out; show m' + 1 + negs (s.1.set kk d) ≤ n0; omega
            case measure => have := hg.out; omega
        · have hmk := mark_hit (d := d) (s := s) hm
          have HMK := Lib.hid hmk
          clear hmk
          by_cases hx0 : 0 ≤ x ∧ 0 ≤ gd s.1 x
          · have hhas2 : Maps.has M' (.int .i64 x) = true := by rw [hhas]; simpa using hx0
            clear hhas hm hx0
            go_wp2_with (first
              | (at_lookup; refine wpList_lookup_own_ok_int _ rfl _ _ 71 rfl 3 3 .i64 lawInt Try.underlying71 Try.underlying3 (zeroInt _) (w.heap.size + 1) m' M' rfl hmap _ _ rfl hkey ?_; intro cv hat hwc)
              | go_in)
            go_roundg (gk - 1)
            case rel => exact ⟨k + 1, A, cc, m', s, M', by have := hg.out; unfold Hid; omega, by go_num, by unfold Hid; rw [htk.out, HMK.out], rfl, hnx, hfr, hmap, hinv, hm8, X', hB', hsz⟩
            case measure => have := hg.out; omega
          · have hx1 : x = -1 := by
              by_cases h1 : x = -1
              · exact h1
              · have : ¬ (gd s.1 x < 0) := fun h => hm ⟨h1, h⟩
                exact absurd ⟨by omega, by omega⟩ hx0
            subst hx1
            have hhas2 : Maps.has M' (.int .i64 (-1)) = false := by rw [hhas]; simp
            clear hhas hm hx0
            go_wp2_with (first
              | (at_lookup; refine wpList_lookup_own_ok_int _ rfl _ _ 71 rfl 3 3 .i64 lawInt Try.underlying71 Try.underlying3 (zeroInt _) (w.heap.size + 1) m' M' rfl hmap _ _ rfl hkey ?_; intro cv hat hwc)
              | go_in)
            go_roundg (gk - 1)
            case rel => exact ⟨k + 1, A, cc, m', s, M', by have := hg.out; unfold Hid; omega, by go_num, by unfold Hid; rw [htk.out, HMK.out], rfl, hnx, hfr, hmap, hinv, hm8, X', hB', hsz⟩
            case measure => have := hg.out; omega
      · have hkf : k = fn := by have := hg.out; omega
        have hs2 : Hid (s = marks d (D, []) xs) := by unfold Hid; rw [hs'.out, List.take_of_length_le (by rw [hxl.out]; omega)]
        have hbr := HB.out.1
        rw [bfs_rest] at hbr
        unfold rest at hbr
        rw [← hs2.out] at hbr
        clear hs' hkf
        by_cases hq : s.2 = []
        · rw [if_pos hq] at hbr
          have hf := Lib.hid hbr
          have hlen0 : (kids h.l h.r s.2).length = 0 := by rw [hq]; rfl
          clear hbr hq
          rw [hlen0]
          go_wp2_with fail
          simp only [Exit.jump]
          go_ret
          exact ⟨w.heap.size + 1, m', M', rfl, by omega, hmap, by rw [← hf.out]; exact hinv.out.1, hB'⟩
        · rw [if_neg hq] at hbr
          have hpos : 0 < s.2.length := List.length_pos_iff.2 hq
          have hng := hinv.out.2.2.2
          have hnf := HB.out.2.2.1
          obtain ⟨f', hf'⟩ : ∃ f', f = f' + 1 := ⟨f - 1, by omega⟩
          have hkp := kids_pt (l := h.l) (r := h.r) l0.out (by rw [l1.out, u0b.out]) HP0.out HP1.out hinv.out.2.2.1
          have HKP := Lib.hid hkp
          have hkl : (kids h.l h.r s.2).length = 2 * s.2.length := kids_len _ _ _
          have hlp : 0 < (kids h.l h.r s.2).length := by omega
          have hll : (kids h.l h.r s.2).length ≤ 16 := by omega
          have HBR : Hid (bfs h.l h.r (f' + 1) s.1 (d + 1) (kids h.l h.r s.2) = fin) := by unfold Hid; rw [← hf']; exact hbr
          have hd10 : d + 1 + negs s.1 ≤ (n0 : Int) + 1 := by omega
          have hnf' : negs s.1 ≤ f' := by omega
          have hxl2 : Hid ((kids h.l h.r s.2).length = (kids h.l h.r s.2).length) := rfl
          clear hbr hkp hf' hng hnf hpos hkl hq
          generalize hL : (kids h.l h.r s.2).length = L at *
          have HL := Lib.hid hL
          clear hL
          go_wp2_with fail
          go_step3
          refine ⟨rfl, ⟨d + 1, A, L, cc, f', m', wl.heap.size, s.1, kids h.l h.r s.2, M', _, _, _, _, _, _, _, _, _, _, _, _, _, _, _, _, _, _, _, _, _, _, _, _, _, _, _, _, _, _, _, _, _, _, _, _, _, _, _, _, _, _, _, _, _, _, _, _, rfl, hnx, HL, ?_, HKP, ⟨HBR.out, hinv.out.2.1, hnf', hinv.out.1⟩, ⟨by omega, hd10, hm8⟩, hmap, X', hB'⟩, ?_⟩
          · intro e; have := (hnx.lt _ e).1; omega
          · simp [intOf]; omega
end Go.Proofs.Ytapkhgpifpgleaa

/- The search by a queue: the plain facts. -/
namespace Go.Proofs.Ytapkhgpifpgleaa

theorem gd_nat {D : List Int} {k : Nat} {u : Int} (h : D[k]? = some u) : gd D (k : Int) = u := by simp [gd, List.getD, h]
theorem gd_set_eq {D : List Int} {x d : Int} (h0 : 0 ≤ x) (hn : x < D.length) : gd (D.set x.toNat d) x = d := by
  have : x.toNat < D.length := by omega
  simp [gd, List.getD, this]
theorem gd_set_ne {D : List Int} {x y d : Int} (hx : 0 ≤ x) (hy : 0 ≤ y) (hne : y ≠ x) : gd (D.set x.toNat d) y = gd D y := by
  have : x.toNat ≠ y.toNat := by omega
  simp [gd, List.getD, List.getElem?_set_ne this]
theorem mark_keep {d x c : Int} {s : List Int × List Int} (hx : -1 ≤ x) (h0 : 0 ≤ c) (hc : 0 ≤ gd s.1 c) : gd (mark d s x).1 c = gd s.1 c := by
  unfold mark
  split
  · rename_i h
    by_cases hcx : c = x
    · subst hcx; omega
    · exact gd_set_ne (by omega) h0 hcx
  · rfl
theorem mark_vals {n : Nat} {d x : Int} {s : List Int × List Int} (hx : ptB x n = true) (hl : s.1.length = n) (hd : 0 ≤ d) (hp : s.2.all (plB · n) = true) (hv : ∀ b ∈ s.2, gd s.1 b = d) : ∀ b ∈ (mark d s x).2, gd (mark d s x).1 b = d := by
  simp only [ptB, decide_eq_true_eq] at hx
  intro b hb
  unfold mark at hb ⊢
  split
  · rename_i h
    rw [if_pos h] at hb
    rcases List.mem_append.1 hb with h1 | h1
    · have hb0 : 0 ≤ b := by
        rw [List.all_eq_true] at hp
        have := hp b h1
        simp only [plB, decide_eq_true_eq] at this
        exact this.1
      have hne : b ≠ x := fun e => by have := hv b h1; rw [e] at this; omega
      show gd (s.1.set x.toNat d) b = d
      rw [gd_set_ne (by omega) hb0 hne]; exact hv b h1
    · simp at h1; subst h1
      exact gd_set_eq (by omega) (by omega)
  · rename_i h
    rw [if_neg h] at hb
    exact hv b hb
theorem marks_vals {n : Nat} {d : Int} {s : List Int × List Int} {xs : List Int} (hx : xs.all (ptB · n) = true) (hl : s.1.length = n) (hd : 0 ≤ d) (hp : s.2.all (plB · n) = true) (hv : ∀ b ∈ s.2, gd s.1 b = d) : ∀ b ∈ (marks d s xs).2, gd (marks d s xs).1 b = d := by
  induction xs generalizing s with
  | nil => exact hv
  | cons x xs ih =>
    rw [List.all_cons, Bool.and_eq_true] at hx
    exact ih hx.2 (by rw [mark_len]; exact hl) (mark_cells hp hx.1) (mark_vals hx.1 hl hd hp hv)
theorem marks_two (d : Int) (s : List Int × List Int) (x y : Int) : marks d s [x, y] = mark d (mark d s x) y := rfl
theorem mark_mono (d x : Int) (s : List Int × List Int) : s.2.length ≤ (mark d s x).2.length := by
  unfold mark; split <;> simp
theorem mark_nonempty {d x : Int} {s : List Int × List Int} (h : s.2 ≠ []) : (mark d s x).2 ≠ [] := by
  unfold mark; split <;> simp [h]

/-- The state of the second phase: what is still to be looked at is Aq, of distance d, then Bq, of distance d + 1. -/
structure QInv (h : Hp) (fin : List Int) (n0 : Nat) (D q : List Int) (i : Nat) (d : Int) (Aq Bq : List Int) (f : Nat) : Prop where
  le : i ≤ q.length
  dr : q.drop i = Aq ++ Bq
  va : ∀ a ∈ Aq, gd D a = d
  vb : ∀ b ∈ Bq, gd D b = d + 1
  re : rest h.l h.r f (D, Bq) (d + 1) (kids h.l h.r Aq) = fin
  len : D.length = n0
  cells : q.all (plB · n0) = true
  f1 : negs D ≤ f
  f2 : Bq ≠ [] → negs D < f
  d1 : 1 ≤ d
  d2 : Aq ≠ [] → d + negs D ≤ n0
  d3 : Bq ≠ [] → d + 1 + negs D ≤ n0

theorem qinv_start {h : Hp} {n0 : Nat} (hn : h.l.length = n0) {starts : List Int} (hst : starts.all (ptB · n0) = true) {s : List Int × List Int} (hs : s = marks 1 (List.replicate n0 (-1), []) starts) :
    ∃ f, QInv h (dist h starts) n0 s.1 s.2 0 1 s.2 [] f := by
  have hlen : s.1.length = n0 := by rw [hs, marks_len]; simp
  have hc : s.2.all (plB · n0) = true := by rw [hs]; exact marks_cells (by rfl) hst
  have hng : negs s.1 + s.2.length = n0 := by
    have := marks_negs (n := n0) (d := 1) (by omega) (s := (List.replicate n0 (-1), [])) (by simp) hst
    rw [← hs] at this
    simpa [negs_rep] using this
  have hv : ∀ b ∈ s.2, gd s.1 b = 1 := by
    rw [hs]; exact marks_vals hst (by simp) (by omega) (by rfl) (by simp)
  have hfin : dist h starts = rest h.l h.r n0 (List.replicate n0 (-1), []) 1 starts := by
    unfold dist; rw [hn]; rfl
  have hfin2 : dist h starts = if s.2 = [] then s.1 else bfs h.l h.r n0 s.1 (1 + 1) (kids h.l h.r s.2) := by
    rw [hfin]; unfold rest; rw [← hs]
  by_cases he : s.2 = []
  · refine ⟨n0, Nat.zero_le _, by simp, hv, by simp, ?_, hlen, hc, by omega, by simp, by omega, fun h => absurd he h, by simp⟩
    rw [hfin2, if_pos he, he]
    exact rest_nil _ _ _ _ _
  · have hpos : 0 < s.2.length := List.length_pos_iff.2 he
    obtain ⟨f, hf⟩ : ∃ f, n0 = f + 1 := ⟨n0 - 1, by omega⟩
    refine ⟨f, Nat.zero_le _, by simp, hv, by simp, ?_, hlen, hc, by omega, by simp, by omega, fun _ => by omega, by simp⟩
    rw [hfin2, if_neg he, hf, bfs_rest]
theorem qinv_head {h : Hp} {fin : List Int} {n0 : Nat} {D q : List Int} {i : Nat} {d : Int} {Aq Bq : List Int} {f : Nat} (Q : QInv h fin n0 D q i d Aq Bq f) (hi : i < q.length) :
    ∃ d' c A' B' f', QInv h fin n0 D q i d' (c :: A') B' f' := by
  cases Aq with
  | cons c A' => exact ⟨d, c, A', Bq, f, Q⟩
  | nil =>
    have hd := Q.dr
    simp only [List.nil_append] at hd
    have hne : Bq ≠ [] := by
      intro e
      have : (q.drop i).length = 0 := by rw [hd, e]; rfl
      simp at this; omega
    cases Bq with
    | nil => exact absurd rfl hne
    | cons c B' =>
      have hf2 := Q.f2 hne
      obtain ⟨f', hf⟩ : ∃ f', f = f' + 1 := ⟨f - 1, by omega⟩
      refine ⟨d + 1, c, B', [], f', Q.le, by rw [hd]; simp, Q.vb, by simp, ?_, Q.len, Q.cells, by omega, by simp, by have := Q.d1; omega, fun _ => by have := Q.d3 hne; omega, by simp⟩
      have hr := Q.re
      rw [hf, kids_nil, rest_nil' _ _ _ _ _ _ hne] at hr
      exact hr
theorem qinv_step {h : Hp} {fin : List Int} {n0 : Nat} {D q : List Int} {i : Nat} {d c : Int} {A' Bq : List Int} {f : Nat} (Q : QInv h fin n0 D q i d (c :: A') Bq f) (hl : h.l.length = n0) (hr : h.r.length = n0) (h1 : h.l.all (ptB · n0) = true) (h2 : h.r.all (ptB · n0) = true) {s : List Int × List Int}
    (hs : s = marks (d + 1) (D, Bq) [gd h.l c, gd h.r c]) : ∃ pre, q = pre ++ Bq ∧ QInv h fin n0 s.1 (pre ++ s.2) (i + 1) d A' s.2 f ∧ negs s.1 + s.2.length = negs D + Bq.length := by
  have hi : i < q.length := by
    rcases Nat.lt_or_ge i q.length with h | h
    · exact h
    · have := Q.dr; rw [List.drop_of_length_le h] at this; simp at this
  have hq : q = (q.take i ++ c :: A') ++ Bq := by
    rw [List.append_assoc]
    show q = q.take i ++ (c :: A' ++ Bq)
    rw [← Q.dr, List.take_append_drop]
  have hcells := Q.cells
  have hpre : (q.take i ++ c :: A').all (plB · n0) = true ∧ Bq.all (plB · n0) = true := by
    rw [hq, List.all_append, Bool.and_eq_true] at hcells; exact hcells
  have hcp : plB c n0 = true := by
    have := hpre.1
    rw [List.all_append, Bool.and_eq_true, List.all_cons, Bool.and_eq_true] at this; exact this.2.1
  have hA' : A'.all (plB · n0) = true := by
    have := hpre.1
    rw [List.all_append, Bool.and_eq_true, List.all_cons, Bool.and_eq_true] at this; exact this.2.2
  have p1 := gd_all h1 (c := c) (by rw [hl]; exact hcp)
  have p2 := gd_all h2 (c := c) (by rw [hr]; exact hcp)
  have hx : [gd h.l c, gd h.r c].all (ptB · n0) = true := by simp [p1, p2]
  have hd1 := Q.d1
  have hlen : s.1.length = n0 := by rw [hs, marks_len]; exact Q.len
  have hng : negs s.1 + s.2.length = negs D + Bq.length := by
    rw [hs]; exact marks_negs (by omega) Q.len hx
  have hgrow : Bq.length ≤ s.2.length := by
    rw [hs, marks_two]; exact Nat.le_trans (mark_mono (d + 1) (gd h.l c) (D, Bq)) (mark_mono _ _ _)
  have hdn := Q.d2 (by simp)
  have hf1 := Q.f1
  have hlenpre : (q.take i ++ c :: A').length = i + 1 + A'.length := by simp; omega
  have hB0 : Bq ≠ [] → 0 < Bq.length := fun e => List.length_pos_iff.2 e
  have key : ∀ a, 0 ≤ a → 0 ≤ gd D a → gd s.1 a = gd D a := by
    intro a ha0 ha1
    simp only [ptB, decide_eq_true_eq] at p1 p2
    rw [hs, marks_two, mark_keep p2.1 ha0 (by rw [mark_keep p1.1 ha0 ha1]; exact ha1), mark_keep p1.1 ha0 ha1]
  refine ⟨q.take i ++ c :: A', hq, ⟨?_, ?_, ?_, ?_, ?_, hlen, ?_, ?_, ?_, hd1, ?_, ?_⟩, hng⟩
  · rw [List.length_append, hlenpre]; omega
  · rw [List.append_assoc, List.drop_append]
    have : (q.take i).length = i := by simp; omega
    rw [List.drop_of_length_le (by omega), this, show i + 1 - i = 1 by omega]
    rfl
  · intro a ha
    have ha0 : 0 ≤ a := by
      rw [List.all_eq_true] at hA'
      have := hA' a ha
      simp only [plB, decide_eq_true_eq] at this
      exact this.1
    have hva := Q.va a (by simp [ha])
    rw [key a ha0 (by omega)]; exact hva
  · rw [hs]
    exact marks_vals hx Q.len (by omega) hpre.2 Q.vb
  · have hre := Q.re
    rw [kids_cons, rest_cons, rest_cons] at hre
    rw [hs, marks_two]
    exact hre
  · rw [List.all_append, hpre.1]
    rw [hs]; simpa using marks_cells (d := d + 1) (s := (D, Bq)) hpre.2 hx
  · omega
  · intro hne
    by_cases hB : Bq = []
    · have : 0 < s.2.length := List.length_pos_iff.2 hne
      have hb : Bq.length = 0 := by rw [hB]; rfl
      omega
    · have := Q.f2 hB; omega
  · intro _; omega
  · intro hne
    by_cases hB : Bq = []
    · have : 0 < s.2.length := List.length_pos_iff.2 hne
      have hb : Bq.length = 0 := by rw [hB]; rfl
      omega
    · have := Q.d3 hB; omega
theorem qinv_end {h : Hp} {fin : List Int} {n0 : Nat} {D q : List Int} {i : Nat} {d : Int} {Aq Bq : List Int} {f : Nat} (Q : QInv h fin n0 D q i d Aq Bq f) (hi : q.length ≤ i) : D = fin := by
  have hd := Q.dr
  rw [List.drop_of_length_le hi] at hd
  have hd' := hd.symm
  rw [List.append_eq_nil_iff] at hd'
  have hr := Q.re
  rw [hd'.1, hd'.2, kids_nil, rest_nil] at hr
  exact hr
end Go.Proofs.Ytapkhgpifpgleaa

/- impl.Reachable. -/
namespace Go.Proofs.Ytapkhgpifpgleaa
open Go.RowKit Go.Maps

theorem set_repB {l : List Bool} {k n : Nat} {x : Bool} (hk : k < n) (hl : l.length = n) (hx : l[k]? = some x) :
    (l.take k ++ List.replicate (n - k) false).set k x = l.take (k + 1) ++ List.replicate (n - (k + 1)) false := by
  have hlk : (l.take k).length = k := by simp; omega
  rw [List.set_append, if_neg (by omega), hlk, Nat.sub_self, show n - k = (n - (k + 1)) + 1 from by omega, List.replicate_succ, List.set_cons_zero, List.take_add_one, hx]
  simp

set_option maxRecDepth 100000 in
set_option maxHeartbeats 2000000 in
theorem implReach_any (w : World) (lo : Nat) (v : Value) (h : Hp) (hv : Hv w lo v h) :
    Calls Try.prog 35 #[v] w (NewRowB w (liveL h)) := by
  obtain ⟨i0, hi, hz0, hz1, hz2⟩ := info_parts Try.infoBool
  obtain ⟨A0, n0, c0, A1, n1, c1, A2, n2, c2, rfl, ⟨h0, h1, h2⟩, ⟨l0, l1, l2⟩, _⟩ := hv.open_
  have X0 := Blk3.new w (.slice A0 n0 c0) (.slice A1 n1 c1) (.slice A2 n2 c2) 27
  have V := implHeapValid_any _ _ _ _ (hv.alloc (.cells #[.slice A0 n0 c0, .slice A1 n1 c1, .slice A2 n2 c2] 27))
  have fin : Below w.heap.size w (w.alloc (.cells #[.slice A0 n0 c0, .slice A1 n1 c1, .slice A2 n2 c2] 27)) := (Below.refl _ _).alloc (Nat.le_refl _) _
  rcases ev : hvB h
  · rw [ev] at V
    have hf : liveL h = [] := by unfold liveL; rw [ev]; simp
    rw [hf]
    clear ev hf
    go_enter Try.func35, Try.ntmps35
    go_wp2_with fail
    refine V.mono ?_; rintro e w1 ⟨rfl, hb1⟩
    go_wp2_with fail
    go_ret
    exact ⟨none, 0, rfl, RowB.nil _ _, fin.trans (hb1.mono (by simp))⟩
  · rw [ev] at V
    have hl := hvB_len ev
    have u0 : 0 < n0 ∧ n0 ≤ 8 := by have := l0.out; omega
    obtain ⟨u0a, u0b⟩ := u0
    have hpt := (hvB_parts ev).2.2.2
    have hlv : Hid (liveL h = (dist h h.t).map (fun u => decide (0 ≤ u))) := by unfold Hid liveL; rw [if_pos ev]
    have hll : Hid ((liveL h).length = n0) := by unfold Hid; rw [liveL_len ev]; exact l0.out
    have DD := fun W hW hR => distancesFrom_any W lo (.agg #[.slice A0 n0 c0, .slice A1 n1 c1, .slice A2 n2 c2]) h hW ev A2 n2 c2 h.t lo hR l2.out hpt
    clear ev hl hpt
    go_enter Try.func35, Try.ntmps35
    go_wp2_with fail
    refine V.mono ?_; rintro e w1 ⟨rfl, hb1⟩
    have X1 := Blk3.below (by exact X0) hb1
    have H1 := Hv.below (by exact hv.alloc (.cells #[.slice A0 n0 c0, .slice A1 n1 c1, .slice A2 n2 c2] 27)) hb1
    have R1 := Row.below (by exact h2.alloc (.cells #[.slice A0 n0 c0, .slice A1 n1 c1, .slice A2 n2 c2] 27)) hb1
    have B1 : Below w.heap.size w w1 := fin.trans (hb1.mono (by simp))
    obtain ⟨p0, p1, p2, _⟩ := X1.cells
    have D1 := DD w1 H1 R1
    clear V hv h0 h1 h2 DD H1 R1
    go_wp2_with fail
    refine D1.mono ?_; rintro e w2 ⟨b, m, M, rfl, hbb, hown, hmap, hb2⟩
    have X2 := X1.below hb2
    have B2 := B1.trans (hb2.mono B1.size)
    obtain ⟨q0, q1, q2, _⟩ := X2.cells
    have lb := hown.lt
    go_wp2_with (at_make; refine wpList_make_full _ rfl _ _ 50 rfl w2.heap.size 4 i0 (.bool false) 1 Try.underlying50 hi hz0 hz1 _ _ _ _ n0 rfl rfl rfl rfl ?b2 ?b3 (Nat.le_refl _) ?_)
    case b2 => rw [hz2]; omega
    case b3 => unfold maxLen; omega
    intro w3 hown3 hgrow3
    rw [mc_bool] at hown3
    have hrow3 : RowB w3 w2.heap.size (.slice (some ⟨w2.heap.size, 0, none⟩) n0 n0) (List.replicate n0 false) := by unfold RowB; simpa using hown3
    have hb3 : Below w2.heap.size w2 w3 := (Below.refl _ _).grown hgrow3 (Nat.le_refl _) (fun k h => by cases h)
    have hmap3 := hown.kept hgrow3 (by simp)
    have B3 := B2.trans (hb3.mono B2.size)
    clear hown3 hgrow3 hz0 hz1 hz2 hown X2 q0 q1 q2
    go_wp2
    go_loopw [19] (fun i wr => ∃ k : Nat, k ≤ n0 ∧ i = .int .i64 k ∧ RowB wr w2.heap.size (.slice (some ⟨w2.heap.size, 0, none⟩) n0 n0) ((liveL h).take k ++ List.replicate (n0 - k) false) ∧ wr.ownsMap Try.prog 3 (plainElem (H := Unit) Try.prog 3) b m M ∧ Below w.heap.size w wr) (fun i _ => n0 - (intOf i).toNat)
    case atStart => exact ⟨0, Nat.zero_le _, rfl, by simpa using hrow3, hmap3, B3⟩
    case round =>
      obtain ⟨k, hk, rfl, hrow, hown, hB⟩ := hrel
      by_cases hlt : k < n0
      · obtain ⟨g, x, e, _, _, _, hcell, hfr⟩ := hrow.get (k := k) (by have := hll.out; simp; omega)
        cases e
        have hkey : keyOf Try.prog 3 (.int .i64 (k : Int)) = some (.int .i64 (k : Int)) := keyOf_int_mk Try.underlying3 (wfI (by omega))
        have hx : (liveL h)[k]? = some (Maps.has M (.int .i64 (k : Int))) := by
          have hkl : k < (dist h h.t).length := by rw [dist_len, l0.out]; exact hlt
          rw [hlv.out, (hmap (k : Int)).1]
          simp [gd, List.getD, List.getElem?_eq_getElem hkl]
        have hnext := hrow.set_ k (Maps.has M (.int .i64 (k : Int)))
        rw [set_repB hlt hll.out hx] at hnext
        have hB' : Below w.heap.size w (wr.setCell ⟨w2.heap.size, k, none⟩ (bv (Maps.has M (.int .i64 (k : Int))))) := hB.setCell (p := ⟨w2.heap.size, k, none⟩) B2.size _
        have hown' := hown.setCell (a := ⟨w2.heap.size, k, none⟩) (by simp; omega) (bv (Maps.has M (.int .i64 (k : Int))))
        clear hrow hrow3 hx hmap3
        generalize hok : Maps.has M (.int .i64 (k : Int)) = ok at hnext hB' hown'
        have HOK := Lib.hid hok
        go_wp2_with (first
          | (at_lookup; refine wpList_lookup_own_ok_int _ rfl _ _ 71 rfl 3 3 .i64 lawInt Try.underlying71 Try.underlying3 (zeroInt _) b m M rfl hown _ _ rfl hkey ?_; intro cv hat hwc)
          | go_in)
        go_roundw
        case rel => exact ⟨k + 1, by omega, by go_num, hnext, hown', hB'⟩
        case measure => simp [intOf]; omega
      · obtain rfl : k = n0 := by omega
        have hrow' : RowB wr w2.heap.size (.slice (some ⟨w2.heap.size, 0, none⟩) (liveL h).length k) (liveL h) := by
          have h9 := hrow; rw [List.take_of_length_le (by rw [hll.out]; omega)] at h9; simpa [hll.out] using h9
        clear hrow hrow3
        go_wp2
        go_ret
        exact ⟨some ⟨w2.heap.size, 0, none⟩, k, by simp [hll.out], hrow'.mono B2.size, hB⟩
end Go.Proofs.Ytapkhgpifpgleaa

/- spec.l2Distances: the search by a queue. -/
namespace Go.Proofs.Ytapkhgpifpgleaa
open Go.RowKit

theorem Below.set_any {w : World} {B : Nat} {p : Addr} (hp : B ≤ p.block) (v : Value) : Below B w (w.setCell p v) := (Below.refl _ _).setCell hp v
theorem Below.set_only {w : World} {p q : Addr} (hp : q.block ≠ p.block) (v : Value) : (w.setCell p v).cell? q = w.cell? q := World.cell?_setCell_far _ _ _ _ (by exact hp.symm)
theorem gd_of_get {D : List Int} {k : Nat} {u : Int} (h : D[k]? = some u) : gd D (k : Int) = u := gd_nat h
theorem mk_hit {d x : Int} {s : List Int × List Int} (h : ¬ (x ≠ -1 ∧ gd s.1 x < 0)) : mark d s x = s := by unfold mark; rw [if_neg h]
theorem mk_new {d x : Int} {s : List Int × List Int} (h1 : x ≠ -1) (h2 : gd s.1 x < 0) : mark d s x = (s.1.set x.toNat d, s.2 ++ [x]) := by unfold mark; rw [if_pos ⟨h1, h2⟩]
/-- The two rows of the search lie apart: the distances in block go, the queue from block lq on. -/
def Rows2 (wr : World) (lo lq go n0 co : Nat) (v : Value) (D q : List Int) : Prop :=
  Row wr lo (.slice (some ⟨go, 0, none⟩) n0 co) D ∧ Row wr lq v q

end Go.Proofs.Ytapkhgpifpgleaa

/- spec.Reachable. -/
namespace Go.Proofs.Ytapkhgpifpgleaa
open Go.RowKit

theorem liveL_take {h : Hp} {k : Nat} {u : Int} (hv : hvB h = true) (hu : (dist h h.t)[k]? = some u) : (liveL h).take (k + 1) = (liveL h).take k ++ [decide (0 < u)] := by
  have hk : (liveL h)[k]? = some (decide (0 ≤ u)) := by unfold liveL; rw [if_pos hv, List.getElem?_map, hu]; rfl
  have ho := dist_okV h h.t
  rw [List.all_eq_true] at ho
  have hh := ho u (List.mem_of_getElem? hu)
  have e : decide (0 ≤ u) = decide (0 < u) := by simp [okV] at hh; simp; omega
  rw [List.take_add_one, hk, e]; rfl
theorem one_newV {w : World} {x : Value} {t : TypeId} : ∀ j u, [x][j]? = some u → (w.alloc (.cells #[x] t)).cell? ((⟨w.heap.size, 0, none⟩ : Addr).add j) = some u := one_new

end Go.Proofs.Ytapkhgpifpgleaa

/- CountLive and GarbageOf of both. -/
namespace Go.Proofs.Ytapkhgpifpgleaa
open Go.RowKit

def cntB (xs : List Bool) : Int := ((xs.filter id).length : Nat)
theorem cntB_snoc (l : List Bool) (x : Bool) : cntB (l ++ (some x).toList) = cntB l + if x = true then 1 else 0 := by
  unfold cntB; cases x <;> simp [List.filter_append]
theorem cntB_bd (l : List Bool) : 0 ≤ cntB l ∧ cntB l ≤ l.length := by
  unfold cntB; exact ⟨by omega, by have := List.length_filter_le id l; omega⟩

set_option maxHeartbeats 1000000 in
theorem implLive_any (w : World) (lo : Nat) (v : Value) (h : Hp) (hv : Hv w lo v h) : Calls Try.prog 37 #[v] w (RetI w (cntB (liveL h))) := by
  obtain ⟨A0, n0, c0, A1, n1, c1, A2, n2, c2, rfl, _⟩ := hv.open_
  have C := implReach_any _ _ _ _ (hv.alloc (.cells #[.slice A0 n0 c0, .slice A1 n1 c1, .slice A2 n2 c2] 27))
  have fin : Below w.heap.size w (w.alloc (.cells #[.slice A0 n0 c0, .slice A1 n1 c1, .slice A2 n2 c2] 27)) := (Below.refl _ _).alloc (Nat.le_refl _) _
  have hbd := liveL_bd h
  generalize liveL h = xs at C hbd
  go_enter Try.func37, Try.ntmps37
  go_wp2_with fail
  refine C.mono ?_; rintro e w2 ⟨A, cc, rfl, hr, hb2⟩
  have B2 : Below w.heap.size w w2 := fin.trans (hb2.mono (by simp))
  generalize hn : xs.length = n at hr hbd ⊢
  have HN := Lib.hid hn
  clear hn C
  go_wp2_with fail
  go_loop [3, 5, 9] (fun t _ i => ∃ k : Nat, k ≤ n ∧ i = .int .i64 k ∧ t = .int .i64 (cntB (xs.take k))) (fun _ _ i => n - (intOf i).toNat)
  case atStart => exact ⟨0, Nat.zero_le _, rfl, rfl⟩
  case round =>
    obtain ⟨k, hk, rfl, rfl⟩ := hrel
    have hb0 := cntB_bd (xs.take k)
    have hl : (xs.take k).length ≤ k := List.length_take_le _ _
    by_cases hlt : k < n
    · obtain ⟨g, x, rfl, _, _, hx, hcell, _⟩ := hr.get (k := k) (by have := HN.out; omega)
      have Ht : Hid (cntB (xs.take (k + 1)) = cntB (xs.take k) + if x = true then 1 else 0) := by
        unfold Hid; rw [List.take_add_one, hx.out]; exact cntB_snoc _ _
      clear hx
      cases x
      · go_wp2
        go_round
        case rel => exact ⟨k + 1, by omega, by go_num, by rw [Ht.out]; simp⟩
        case measure => simp [intOf]; omega
      · go_wp2
        go_round
        case rel => exact ⟨k + 1, by omega, by go_num, by rw [Ht.out]; simp⟩
        case measure => simp [intOf]; omega
    · obtain rfl : k = n := by omega
      go_wp2
      go_ret
      exact ⟨ret_int (by rw [List.take_of_length_le (by rw [HN.out]; omega)]), B2⟩

end Go.Proofs.Ytapkhgpifpgleaa

/- GarbageOf of both. -/
namespace Go.Proofs.Ytapkhgpifpgleaa
open Go.RowKit

def garbN (xs : List Bool) (k : Nat) : List Int := ((List.range k).filter (fun i => xs.getD i true == false)).map fun i : Nat => (i : Int)
def garb (h : Hp) : List Int := garbN (liveL h) (liveL h).length
theorem garbN_succ (xs : List Bool) (k : Nat) : garbN xs (k + 1) = if xs.getD k true = false then garbN xs k ++ [(k : Int)] else garbN xs k := by
  unfold garbN
  rw [List.range_succ, List.filter_append]
  by_cases hp : xs.getD k true = false
  · rw [if_pos hp]; simp only [List.filter_cons, hp]; simp
  · rw [if_neg hp]
    have hp2 : xs.getD k true = true := by simpa using hp
    simp only [List.filter_cons, hp2]; simp
theorem garbN_len (xs : List Bool) (k : Nat) : (garbN xs k).length ≤ k := by
  unfold garbN; rw [List.length_map]; exact Nat.le_trans (List.length_filter_le _ _) (by simp)
theorem garb_len (h : Hp) : (garb h).length ≤ 8 := Nat.le_trans (garbN_len _ _) (liveL_bd h)

end Go.Proofs.Ytapkhgpifpgleaa

