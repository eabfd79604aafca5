/- Words for memory: a row of bools. -/
import Derived.Test.YtpimndfafibgeaaMake
import Derived.Test.YtpimndfafibgeaaBfs
import Derived.Test.YtpimndfafibgeaaPut
namespace Go.Proofs.Ytpimndfafibgeaa
open Go.RowKit

abbrev bv (b : Bool) : Value := .bool b
/-- The slice value owns a row of bools, in a block from 'lo' on (or it is nil). -/
def RowB (w : World) (lo : Nat) (v : Value) (xs : List Bool) : Prop := w.ownsRow lo 4 1 v xs.length (xs.map bv)
theorem RowB.form {w : World} {lo : Nat} {v : Value} {xs : List Bool} (h : RowB w lo v xs) : ∃ A c, v = .slice A xs.length c ∧ xs.length ≤ c ∧ c ≤ maxLen := by
  rcases h.2 with ⟨rfl, e⟩ | ⟨g, cap, cur, rfl, _, _, h1, h2, _⟩
  · exact ⟨none, 0, by rw [e], by omega, by unfold maxLen; omega⟩
  · exact ⟨_, cap, rfl, h1, h2⟩
theorem RowB.nil (w : World) (lo : Nat) : RowB w lo (.slice none 0 0) [] := World.ownsRow_nil w lo _ _
theorem RowB.get {w : World} {lo : Nat} {A : Option Addr} {n c : Nat} {xs : List Bool} (h : RowB w lo (.slice A n c) xs) {k : Nat} (hk : k < xs.length) :
    ∃ g x, A = some ⟨g, 0, none⟩ ∧ lo ≤ g ∧ g < w.heap.size ∧ Hid (xs[k]? = some x) ∧ w.cell? ⟨g, k, none⟩ = some (.bool x) ∧ w.frozen? ⟨g, k, none⟩ = false := by
  have hc := h
  unfold RowB at hc
  rcases h.2 with ⟨e, h0⟩ | ⟨g, cap, cur, e, hb, hg, h1, h2, h3, h4⟩
  · omega
  · cases e
    refine ⟨g, xs.getD k false, rfl, hb, (Array.getElem?_eq_some_iff.1 hg).1, ?_, ?_, hc.frozenAt k⟩
    · unfold Hid; simp [List.getD, List.getElem?_eq_getElem hk]
    · rw [hc.cellAt k (by omega)]
      simp [List.getD, List.getElem?_eq_getElem hk]
theorem RowB.lt {w : World} {lo : Nat} {v : Value} {xs : List Bool} (h : RowB w lo v xs) : ∀ k, v.ownBlock = some k → lo ≤ k ∧ k < w.heap.size := World.ownsRow.lt h
theorem RowB.kept {w w' : World} {lo : Nat} {v : Value} {xs : List Bool} {row : Option Nat} (h : RowB w lo v xs) (hg : w.grownBy w' row) (hne : v.ownBlock = none ∨ v.ownBlock ≠ row) : RowB w' lo v xs := World.ownsRow.kept h hg hne
theorem RowB.below {w w' : World} {lo : Nat} {v : Value} {xs : List Bool} (h : RowB w lo v xs) (hb : Below w.heap.size w w') : RowB w' lo v xs :=
  h.kept (grown_of_below hb) (by cases v.ownBlock <;> simp)
theorem RowB.alloc {w : World} {lo : Nat} {v : Value} {xs : List Bool} (h : RowB w lo v xs) (o : Obj) : RowB (w.alloc o) lo v xs := World.ownsRow.alloc h o
theorem RowB.drew {w : World} {lo : Nat} {v : Value} {xs : List Bool} (h : RowB w lo v xs) : RowB w.drew lo v xs := h
theorem RowB.drewN {w : World} {lo : Nat} {v : Value} {xs : List Bool} (h : RowB w lo v xs) (n : Nat) : RowB (w.drewN n) lo v xs := h
theorem RowB.other {w : World} {lo : Nat} {v : Value} {xs : List Bool} (h : RowB w lo v xs) {a : Addr} (ha : v.ownBlock ≠ some a.block) (u : Value) : RowB (w.setCell a u) lo v xs := ownsRow_setCell_other h ha u
theorem RowB.mono {w : World} {lo lo' : Nat} {v : Value} {xs : List Bool} (h : RowB w lo v xs) (hl : lo' ≤ lo) : RowB w lo' v xs := by
  refine ⟨h.1, ?_⟩
  rcases h.2 with h2 | ⟨g, cap, cur, e, hb, r⟩
  · exact .inl h2
  · exact .inr ⟨g, cap, cur, e, by omega, r⟩
theorem RowB.far {w w' : World} {lo B : Nat} {v : Value} {xs : List Bool} (h : RowB w lo v xs) (hb : Below B w w') (hB : ∀ k, v.ownBlock = some k → k < B) : RowB w' lo v xs := by
  refine ⟨h.1, ?_⟩
  rcases h.2 with h2 | ⟨g, cap, cur, rfl, hg, hh, r⟩
  · exact .inl h2
  · exact .inr ⟨g, cap, cur, rfl, hg, by rw [hb.block g (hB g rfl)]; exact hh, r⟩
theorem RowB.set_ {w : World} {lo g n c : Nat} {xs : List Bool} (h : RowB w lo (.slice (some ⟨g, 0, none⟩) n c) xs) (k : Nat) (x : Bool) : RowB (w.setCell ⟨g, k, none⟩ (bv x)) lo (.slice (some ⟨g, 0, none⟩) n c) (xs.set k x) := by
  have h1 := h
  unfold RowB at h1 ⊢
  obtain ⟨A, c', e, h2, h3⟩ := h.form
  cases e
  have := World.ownsRow.stored h1 k (bv x)
  simpa [List.map_set] using this.1
theorem RowB.of_own {w : World} {lo : Nat} {v : Value} {n : Nat} {xs : List Bool} {l : List Value} (h : w.ownsRow lo 4 1 v n l) (hl : l = xs.map bv) (hn : n = xs.length) : RowB w lo v xs := by
  subst hl hn; exact h
/-- A new row of bools comes back, and nothing that was there has turned. -/
def NewRowB (w : World) (xs : List Bool) (e : Ending) (w' : World) : Prop := ∃ A c, e = .returned (.slice A xs.length c) ∧ RowB w' w.heap.size (.slice A xs.length c) xs ∧ Below w.heap.size w w'
theorem Try.infoBool : (Try.prog.info? 4).map (fun i => (i.zero, i.size, i.bytes)) = some (some (.bool false), 1, 1) := by kernel_rfl
theorem mc_bool (n : Nat) : (madeCells #[Value.bool false] n).toList = (List.replicate n false).map bv := by
  rw [toList_madeCells_one]; simp

/-- Every number is -1 or at least 1. -/
def okV (u : Int) : Bool := decide (u = -1 ∨ 1 ≤ u)
theorem mark_okV {d x : Int} (hd : 1 ≤ d) {s : List Int × List Int} (h : s.1.all okV = true) : (mark d s x).1.all okV = true := by
  unfold mark
  split
  · rw [List.all_eq_true] at h ⊢
    intro z hz
    rcases List.mem_or_eq_of_mem_set hz with h1 | h1
    · exact h z h1
    · rw [h1]; simp [okV]; omega
  · exact h
theorem marks_okV {d : Int} (hd : 1 ≤ d) {s : List Int × List Int} {xs : List Int} (h : s.1.all okV = true) : (marks d s xs).1.all okV = true := by
  induction xs generalizing s with
  | nil => exact h
  | cons x xs ih => exact ih (mark_okV hd h)
theorem bfs_okV {l r : List Int} {f : Nat} {D : List Int} {d : Int} {xs : List Int} (hd : 1 ≤ d) (h : D.all okV = true) : (bfs l r f D d xs).all okV = true := by
  induction f generalizing D d xs with
  | zero => exact h
  | succ f ih =>
    unfold bfs
    split
    · exact marks_okV hd h
    · exact ih (by omega) (marks_okV hd h)
theorem bfs_len {l r : List Int} {f : Nat} {D : List Int} {d : Int} {xs : List Int} : (bfs l r f D d xs).length = D.length := by
  induction f generalizing D d xs with
  | zero => rfl
  | succ f ih =>
    unfold bfs
    split
    · exact marks_len _ _ _
    · rw [ih, marks_len]
theorem dist_len (h : Hp) (s : List Int) : (dist h s).length = h.l.length := by unfold dist; rw [bfs_len]; simp
theorem dist_okV (h : Hp) (s : List Int) : (dist h s).all okV = true := by
  unfold dist
  refine bfs_okV (by omega) ?_
  rw [List.all_eq_true]
  intro x hx
  rw [(List.mem_replicate.1 hx).2]; simp [okV]
/-- Which cells are live. -/
def liveL (h : Hp) : List Bool := if hvB h = true then (dist h h.t).map (fun u => decide (0 ≤ u)) else []
theorem liveL_len {h : Hp} (hv : hvB h = true) : (liveL h).length = h.l.length := by
  unfold liveL; rw [if_pos hv, List.length_map, dist_len]
theorem liveL_bd (h : Hp) : (liveL h).length ≤ 8 := by
  cases hv : hvB h
  · unfold liveL; rw [hv]; simp
  · rw [liveL_len hv]; have := hvB_len hv; omega
end Go.Proofs.Ytpimndfafibgeaa
