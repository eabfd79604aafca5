import Derived.Test.YtfoimicbmkiigaaGreatShades
import Derived.Deep.OwnRows
import Derived.Deep.LoopGhost
import Derived.Test.YtfoimicbmkiigaaGreatSCols
/- MarkStep of spec. -/
namespace Go.Proofs.YtfoimicbmkiigaaGreat
open Go.RowKit

/-- A colored heap, and two answers. -/
theorem below_row' {rb B : Nat} {w w' : World} (h : w.grownBy w' (some rb)) (hB : B ≤ rb) (hs : B ≤ w.heap.size) : Below B w w' :=
  ⟨h.os, h.tape, h.output, h.size, fun k hk => h.block k (by omega) (fun e => by cases e; omega)⟩
def Opt3 (w : World) (C : Cp) (b1 b2 : Bool) (e : Ending) (w' : World) : Prop := ∃ v, e = .returned (.tuple #[v, .bool b1, .bool b2]) ∧ Cv w' w.heap.size v C ∧ Below w.heap.size w w'
def stepC (C : Cp) : Cp := if firstOf C.c 1 = -1 then C else ⟨C.h, blackC C.h C.c (firstOf C.c 1).toNat⟩
def movesB (C : Cp) : Bool := decide (firstOf C.c 1 ≠ -1)
def stepOf (C : Cp) : Cp := if cvB C = true then stepC C else Cp.zero
def movesO (C : Cp) : Bool := cvB C && movesB C
theorem first_cases (c : List Int) (x : Int) : firstOf c x = -1 ∨ ∃ k : Nat, firstOf c x = k ∧ k < c.length ∧ c[k]? = some x := by
  unfold firstOf
  by_cases h : x ∈ c
  · rw [if_pos h]
    have hlt : c.idxOf x < c.length := List.idxOf_lt_length_of_mem h
    exact .inr ⟨c.idxOf x, rfl, hlt, by rw [List.getElem?_eq_getElem hlt, List.getElem_idxOf]⟩
  · rw [if_neg h]; exact .inl rfl

end Go.Proofs.YtfoimicbmkiigaaGreat

/- NewColored of spec. -/
namespace Go.Proofs.YtfoimicbmkiigaaGreat
open Go.RowKit

theorem rowMade (w : World) (lo n : Nat) (hlo : lo ≤ w.heap.size) (hn : n ≤ 1048576) : Row (w.alloc (.cells (madeCells #[.int .i64 0] n) 3)) lo (.slice (some ⟨w.heap.size, 0, none⟩) n n) (List.replicate n 0) := by
  have hs : (madeCells #[Value.int .i64 0] n).size = n * 1 := by
    have h9 := congrArg List.length (mc_int n)
    simpa using h9
  have h9 := World.ownsRow_lit (e := 3) (size := 1) w (madeCells #[.int .i64 0] n) n hlo (by unfold maxLen; omega) hs
  rw [mc_int] at h9
  exact Row.of_own h9 rfl (by simp)
def newCO (h : Hp) : Option Cp := if hvB h = true then some ⟨h, List.replicate h.l.length 0⟩ else none

end Go.Proofs.YtfoimicbmkiigaaGreat

/- MarkAll of spec. -/
namespace Go.Proofs.YtfoimicbmkiigaaGreat
open Go.RowKit

theorem count_set2 : ∀ (c : List Int) (k : Nat) (x y : Int), c[k]? = some x → (c.set k y).count 2 + (if x = 2 then 1 else 0) = c.count 2 + (if y = 2 then 1 else 0)
  | [], _, _, _, h => by simp at h
  | a :: r, 0, x, y, h => by
    simp at h; subst h
    simp only [List.set_cons_zero, List.count_cons, beq_iff_eq]; omega
  | a :: r, k + 1, x, y, h => by
    have ih := count_set2 r k x y (by simpa using h)
    simp only [List.set_cons_succ, List.count_cons]; omega
theorem shade_count (c : List Int) (k : Int) : (shade c k).count 2 = c.count 2 := by
  unfold shade
  split
  · rename_i h
    have := count_set2 c k.toNat 0 1 h.2
    simpa using this
  · rfl
theorem shade_keep {c : List Int} {j : Nat} (k : Int) (h : c[j]? = some 1) : (shade c k)[j]? = some 1 := by
  unfold shade
  split
  · rename_i h9
    rw [List.getElem?_set_ne (fun e => by rw [e, h] at h9; simp at h9)]; exact h
  · exact h
theorem black_count {c : List Int} {k : Nat} (h : Hp) (hk : c[k]? = some 1) : (blackC h c k).count 2 = c.count 2 + 1 := by
  have h1 := count_set2 (shade (shade c (h.l.getD k 0)) (h.r.getD k 0)) k 1 2 (shade_keep _ (shade_keep _ hk))
  rw [shade_count, shade_count] at h1
  simpa [blackC] using h1
def allN (h : Hp) : Nat → List Int → List Int
  | 0, c => c
  | n + 1, c => if firstOf c 1 = -1 then c else allN h n (blackC h c (firstOf c 1).toNat)
/-- What is left when no cell is gray. -/
def allL (h : Hp) (c : List Int) : List Int := allN h (c.length - c.count 2) c
theorem all_done {h : Hp} {c : List Int} (e : firstOf c 1 = -1) : allL h c = c := by
  unfold allL
  cases c.length - c.count 2 with
  | zero => rfl
  | succ n => simp [allN, e]
theorem black_less {c : List Int} {k : Nat} (h : Hp) (hk : c[k]? = some 1) : (blackC h c k).length - (blackC h c k).count 2 + 1 = c.length - c.count 2 := by
  have h1 := black_count h hk
  have h2 : (blackC h c k).count 2 ≤ (blackC h c k).length := List.count_le_length
  have h3 := blackC_len h c k
  omega
theorem all_step {h : Hp} {c : List Int} {k : Nat} (e : firstOf c 1 = k) (hk : c[k]? = some 1) : allL h (blackC h c k) = allL h c := by
  have h1 := black_less h hk
  unfold allL
  rw [← h1]
  show _ = if firstOf c 1 = -1 then c else allN h ((blackC h c k).length - (blackC h c k).count 2) (blackC h c (firstOf c 1).toNat)
  rw [if_neg (by omega), e]; rfl
def allO (C : Cp) : Option Cp := if cvB C = true then some ⟨C.h, allL C.h C.c⟩ else none
theorem cvB_black {h : Hp} {c : List Int} (k : Nat) (hc : cvB ⟨h, c⟩ = true) : cvB ⟨h, blackC h c k⟩ = true := by
  obtain ⟨h1, h2, h3⟩ := cvB_parts hc
  simp only [cvB, Bool.and_eq_true, decide_eq_true_eq, List.all_eq_true, colB]
  exact ⟨⟨h1, by rw [blackC_len]; exact h2⟩, blackC_valid h k h3⟩
theorem Cv.set_far {w : World} {lo : Nat} {v0 v1 v2 v3 : Value} {C : Cp} (hv : Cv w lo (.agg #[v0, v1, v2, v3]) C) {p : Addr} (f : v0.ownBlock ≠ some p.block ∧ v1.ownBlock ≠ some p.block ∧ v2.ownBlock ≠ some p.block ∧ v3.ownBlock ≠ some p.block) (u : Value) : Cv (w.setCell p u) lo (.agg #[v0, v1, v2, v3]) C := by
  obtain ⟨_, _, _, _, e, ⟨_, _, _, e', r0, r1, r2, a⟩, r3, b⟩ := hv
  cases e; cases e'
  exact ⟨_, _, _, _, rfl, ⟨_, _, _, rfl, r0.other f.1 u, r1.other f.2.1 u, r2.other f.2.2.1 u, a⟩, r3.other f.2.2.2 u, b⟩
theorem Blk4.set4 {w : World} {b : Nat} {x y z u : Value} {t : TypeId} (h : Blk4 w b x y z u t) (x' y' z' u' : Value) : Blk4 ((((w.setCell ⟨b, 0, none⟩ x').setCell ⟨b, 1, none⟩ y').setCell ⟨b, 2, none⟩ z').setCell ⟨b, 3, none⟩ u') b x' y' z' u' t := by
  unfold Blk4 at h ⊢; simp [World.setCell, Array.getElem?_modify, h]

end Go.Proofs.YtfoimicbmkiigaaGreat

/- ColorHolds of spec. -/
namespace Go.Proofs.YtfoimicbmkiigaaGreat
open Go.RowKit

theorem holdsAt_eq {C : Cp} {k : Nat} {x y z : Int} (hx : C.h.l[k]? = some x) (hy : C.h.r[k]? = some y) (hz : C.c[k]? = some z) :
    holdsAt C k = !(decide (z = 2) && (decide (0 ≤ x ∧ C.c[x.toNat]? = some 0) || decide (0 ≤ y ∧ C.c[y.toNat]? = some 0))) := by
  unfold holdsAt
  rw [show C.h.l.getD k 0 = x by simp [List.getD, hx], show C.h.r.getD k 0 = y by simp [List.getD, hy], hz]
  simp
theorem holds_bad {C : Cp} {k : Nat} (hk : k < C.c.length) (h : holdsAt C k = false) : holdsB C = false := by
  rw [Bool.eq_false_iff]; intro h9
  unfold holdsB at h9
  rw [Bool.and_eq_true, List.all_eq_true] at h9
  rw [h9.2 k (List.mem_range.2 hk)] at h; cases h
theorem holds_good {C : Cp} (hv : cvB C = true) (h : ∀ j, j < C.c.length → holdsAt C j = true) : holdsB C = true := by
  unfold holdsB
  rw [Bool.and_eq_true, List.all_eq_true]
  exact ⟨hv, fun j hj => h j (List.mem_range.1 hj)⟩

end Go.Proofs.YtfoimicbmkiigaaGreat

/- ShadeRoots of spec. -/
namespace Go.Proofs.YtfoimicbmkiigaaGreat
open Go.RowKit

def rootsO (C : Cp) : Option Cp := if cvB C = true then some ⟨C.h, shadeAll C.c C.h.t⟩ else none

end Go.Proofs.YtfoimicbmkiigaaGreat

/- CountColor of spec. -/
namespace Go.Proofs.YtfoimicbmkiigaaGreat
open Go.RowKit

/-- How many cells have a color. -/
def countO (C : Cp) (x : Int) : Int := if cvB C = true then (C.c.count x : Int) else 0
theorem count_take {c : List Int} {k : Nat} {y : Int} (x : Int) (h : c[k]? = some y) : (c.take (k + 1)).count x = (c.take k).count x + (if y = x then 1 else 0) := by
  rw [List.take_add_one, h, Option.toList_some, List.count_append, List.count_singleton]
  simp only [beq_iff_eq]

end Go.Proofs.YtfoimicbmkiigaaGreat

/- Plain facts of colors: shading, steps, marking; no black cell points to a white one. -/
namespace Go.Proofs.YtfoimicbmkiigaaGreat
open Go.RowKit

theorem Blk4.drew {w : World} {b : Nat} {x y z q : Value} {t : TypeId} (h : Blk4 w b x y z q t) : Blk4 w.drew b x y z q t := h
theorem shade_at (c : List Int) (k : Int) (i : Nat) : (shade c k)[i]? = if k = (i : Int) ∧ c[i]? = some 0 then some 1 else c[i]? := by
  unfold shade
  by_cases h : 0 ≤ k ∧ c[k.toNat]? = some 0
  · rw [if_pos h, List.getElem?_set]
    have hl : k.toNat < c.length := (List.getElem?_eq_some_iff.1 h.2).1
    by_cases hi : k.toNat = i
    · subst hi
      rw [if_pos rfl, if_pos hl, if_pos ⟨by omega, h.2⟩]
    · rw [if_neg hi, if_neg (by rintro ⟨e, _⟩; omega)]
  · rw [if_neg h, if_neg]
    rintro ⟨e, e'⟩
    refine h ⟨by omega, ?_⟩
    have : k.toNat = i := by omega
    rw [this]; exact e'
theorem shade_keeps {c : List Int} {i : Nat} {x : Int} (k : Int) (h : c[i]? = some x) (hx : x ≠ 0) : (shade c k)[i]? = some x := by
  rw [shade_at, if_neg]
  · exact h
  · rintro ⟨_, e⟩; rw [h] at e; exact hx (by simpa using e)
theorem shade_black {c : List Int} {i : Nat} {k : Int} (h : (shade c k)[i]? = some 2) : c[i]? = some 2 := by
  rw [shade_at] at h
  split at h
  · simp at h
  · exact h
theorem shade_white' {c : List Int} {i : Nat} {k : Int} (h : (shade c k)[i]? = some 0) : c[i]? = some 0 ∧ k ≠ (i : Int) := by
  rw [shade_at] at h
  split at h
  · simp at h
  · rename_i hn; exact ⟨h, fun e => hn ⟨e, h⟩⟩
theorem shade_else {c : List Int} {i : Nat} {k : Int} (h : k ≠ (i : Int)) : (shade c k)[i]? = c[i]? := by
  rw [shade_at, if_neg (fun e => h e.1)]
theorem shade_id {c : List Int} {k : Int} (h : ∀ i : Nat, k = (i : Int) → c[i]? ≠ some 0) : shade c k = c := by
  apply List.ext_getElem?
  intro i
  rw [shade_at, if_neg (fun e => h i e.1 e.2)]
theorem shade_twice (c : List Int) (k : Int) : shade (shade c k) k = shade c k :=
  shade_id fun _ e h => (shade_white' h).2 e
theorem shadeAll_white {ks : List Int} : ∀ {c : List Int} {i : Nat}, (shadeAll c ks)[i]? = some 0 → c[i]? = some 0 ∧ ∀ k ∈ ks, k ≠ (i : Int) := by
  induction ks with
  | nil => intro c i h; exact ⟨h, fun k hk => by cases hk⟩
  | cons a r ih =>
    intro c i h
    obtain ⟨h1, h2⟩ := ih (c := shade c a) h
    obtain ⟨h3, h4⟩ := shade_white' h1
    exact ⟨h3, fun k hk => (List.mem_cons.1 hk).elim (fun e => e ▸ h4) (h2 k)⟩
theorem shadeAll_id {ks : List Int} : ∀ {c : List Int}, (∀ k ∈ ks, ∀ i : Nat, k = (i : Int) → c[i]? ≠ some 0) → shadeAll c ks = c := by
  induction ks with
  | nil => intro c _; rfl
  | cons a r ih =>
    intro c h
    show shadeAll (shade c a) r = c
    have e := shade_id (h a (List.mem_cons_self ..))
    rw [e]
    exact ih fun k hk => h k (List.mem_cons_of_mem _ hk)
theorem shadeAll_twice (c ks : List Int) : shadeAll (shadeAll c ks) ks = shadeAll c ks :=
  shadeAll_id fun k hk _ e h => (shadeAll_white h).2 k hk e
theorem shadeAll_count (ks : List Int) : ∀ c : List Int, (shadeAll c ks).count 2 = c.count 2 := by
  induction ks with
  | nil => intro c; rfl
  | cons a r ih => intro c; exact (ih (shade c a)).trans (shade_count c a)
theorem first_no {c : List Int} {x : Int} (h : firstOf c x = -1) : x ∉ c := by
  unfold firstOf at h
  split at h
  · omega
  · assumption
theorem no_first {c : List Int} {x : Int} (h : x ∉ c) : firstOf c x = -1 := by unfold firstOf; rw [if_neg h]
theorem count_zero_of {c : List Int} {x : Int} (h : x ∉ c) : c.count x = 0 := List.count_eq_zero.2 h

/-- How many cells are white or gray after a cell was turned. -/
theorem count_set_any {c : List Int} {k : Nat} {y : Int} (x z : Int) (h : c[k]? = some y) (hy : y ≠ x) : (c.set k z).count x = c.count x + if z = x then 1 else 0 := by
  obtain ⟨hk, e⟩ := List.getElem?_eq_some_iff.1 h
  rw [List.count_set hk, e]
  have : (y == x) = false := by simpa using hy
  rw [this]
  simp
theorem shade_white_le (c : List Int) (k : Int) : (shade c k).count 0 ≤ c.count 0 := by
  unfold shade
  split
  · rename_i h
    obtain ⟨hk, e⟩ := List.getElem?_eq_some_iff.1 h.2
    rw [List.count_set hk, e]
    simp
  · exact Nat.le_refl _
theorem black_white_le {c : List Int} {k : Nat} (h : Hp) (hk : c[k]? = some 1) : (blackC h c k).count 0 ≤ c.count 0 := by
  unfold blackC
  rw [count_set_any 0 2 (shade_keep _ (shade_keep _ hk)) (by omega)]
  simp
  exact Nat.le_trans (shade_white_le _ _) (shade_white_le _ _)

/-- No black cell points to a white one. -/
def HoldsP (h : Hp) (c : List Int) : Prop := ∀ i : Nat, c[i]? = some 2 → ∀ p : Int, (h.l[i]? = some p ∨ h.r[i]? = some p) → 0 ≤ p → c[p.toNat]? ≠ some 0
theorem getD_some {l : List Int} {i : Nat} (h : i < l.length) : l[i]? = some (l.getD i 0) := by simp [List.getD, List.getElem?_eq_getElem h]
theorem holdsB_iff {C : Cp} (hv : cvB C = true) : holdsB C = true ↔ HoldsP C.h C.c := by
  obtain ⟨hh, hl, _⟩ := cvB_parts hv
  obtain ⟨⟨hrl, _⟩, _⟩ := hvB_parts hh
  unfold holdsB
  rw [hv, Bool.true_and, List.all_eq_true]
  constructor
  · intro H i hi p hp h0 hw
    have hlt : i < C.c.length := (List.getElem?_eq_some_iff.1 hi).1
    have := H i (List.mem_range.2 hlt)
    unfold holdsAt at this
    rcases hp with hp | hp
    · have e : C.h.l.getD i 0 = p := by simp [List.getD, hp]
      rw [e] at this
      simp [hi, h0, hw] at this
    · have e : C.h.r.getD i 0 = p := by simp [List.getD, hp]
      rw [e] at this
      simp [hi, h0, hw] at this
  · intro H i hi
    have hlt := List.mem_range.1 hi
    have h1 := getD_some (l := C.h.l) (i := i) (by omega)
    have h2 := getD_some (l := C.h.r) (i := i) (by omega)
    unfold holdsAt
    by_cases hb : C.c[i]? = some 2
    · have a1 := H i hb _ (.inl h1)
      have a2 := H i hb _ (.inr h2)
      have d1 : decide (0 ≤ C.h.l.getD i 0 ∧ C.c[(C.h.l.getD i 0).toNat]? = some 0) = false := decide_eq_false fun ⟨x, y⟩ => a1 x y
      have d2 : decide (0 ≤ C.h.r.getD i 0 ∧ C.c[(C.h.r.getD i 0).toNat]? = some 0) = false := decide_eq_false fun ⟨x, y⟩ => a2 x y
      rw [d1, d2]; simp
    · rw [decide_eq_false hb]; rfl
theorem holds_shade {h : Hp} {c : List Int} (k : Int) (H : HoldsP h c) : HoldsP h (shade c k) := by
  intro i hi p hp h0 hw
  exact H i (shade_black hi) p hp h0 (shade_white' hw).1
theorem black_at {h : Hp} {c : List Int} {k i : Nat} (hne : i ≠ k) : (blackC h c k)[i]? = (shade (shade c (h.l.getD k 0)) (h.r.getD k 0))[i]? := by
  unfold blackC; rw [List.getElem?_set_ne (Ne.symm hne)]
theorem black_here {h : Hp} {c : List Int} {k : Nat} (hk : k < c.length) : (blackC h c k)[k]? = some 2 := by
  unfold blackC; rw [List.getElem?_set_self (by rw [shade_len, shade_len]; exact hk)]
theorem black_keeps {h : Hp} {c : List Int} {k i : Nat} {x : Int} (hk : c[k]? = some 1) (hi : c[i]? = some x) (hx : x ≠ 0) : ∃ y : Int, y ≠ 0 ∧ (blackC h c k)[i]? = some y := by
  by_cases e : i = k
  · subst e; exact ⟨2, by omega, black_here (List.getElem?_eq_some_iff.1 hk).1⟩
  · exact ⟨x, hx, by rw [black_at e]; exact shade_keeps _ (shade_keeps _ hi hx) hx⟩
theorem holds_black {h : Hp} {c : List Int} {k : Nat} (hk : c[k]? = some 1) (H : HoldsP h c) : HoldsP h (blackC h c k) := by
  have hlt : k < c.length := (List.getElem?_eq_some_iff.1 hk).1
  intro i hi p hp h0 hw
  have hpk : p.toNat ≠ k := fun e => by rw [e, black_here hlt] at hw; simp at hw
  rw [black_at hpk] at hw
  obtain ⟨w1, w2⟩ := shade_white' hw
  obtain ⟨w3, w4⟩ := shade_white' w1
  by_cases e : i = k
  · subst e
    rcases hp with hp | hp
    · exact w4 (by simp [List.getD, hp]; omega)
    · exact w2 (by simp [List.getD, hp]; omega)
  · rw [black_at e] at hi
    exact H i (shade_black (shade_black hi)) p hp h0 w3
theorem holds_noblack {h : Hp} {c : List Int} (H : c.count 2 = 0) : HoldsP h c := fun _ hi _ _ _ _ => by
  have := List.mem_of_getElem? hi
  rw [List.count_eq_zero] at H; exact H this
theorem holds_nowhite {h : Hp} {c : List Int} (H : c.count 0 = 0) : HoldsP h c := fun _ _ _ _ _ hw => by
  have := List.mem_of_getElem? hw
  rw [List.count_eq_zero] at H; exact H this

/-- What is left of marking. -/
theorem allN_step {h : Hp} {n : Nat} {c : List Int} : allN h (n + 1) c = if firstOf c 1 = -1 then c else allN h n (blackC h c (firstOf c 1).toNat) := rfl
theorem allN_ind {h : Hp} (P : List Int → Prop) (hs : ∀ c k, c[k]? = some 1 → P c → P (blackC h c k)) (n : Nat) : ∀ c : List Int, P c → P (allN h n c) := by
  induction n with
  | zero => intro c hc; exact hc
  | succ n ih =>
    intro c hc
    rw [allN_step]
    rcases first_cases c 1 with e | ⟨k, e, hk, hkc⟩
    · rw [if_pos e]; exact hc
    · rw [if_neg (by omega), e]; exact ih _ (hs c k hkc hc)
theorem all_holds {h : Hp} {c : List Int} (H : HoldsP h c) : HoldsP h (allL h c) := allN_ind (HoldsP h) (fun _ _ hk H => holds_black hk H) _ c H
theorem all_valid {h : Hp} {c : List Int} (H : cvB ⟨h, c⟩ = true) : cvB ⟨h, allL h c⟩ = true := allN_ind (fun c => cvB ⟨h, c⟩ = true) (fun _ k _ H => cvB_black k H) _ c H
theorem all_keeps {h : Hp} {c : List Int} {i : Nat} {x : Int} (hi : c[i]? = some x) (hx : x ≠ 0) : ∃ y : Int, y ≠ 0 ∧ (allL h c)[i]? = some y :=
  allN_ind (fun c => ∃ y : Int, y ≠ 0 ∧ c[i]? = some y) (fun _ _ hk ⟨_, hy, e⟩ => black_keeps hk e hy) _ c ⟨x, hx, hi⟩
theorem allN_nogray (h : Hp) (n : Nat) : ∀ c : List Int, c.length - c.count 2 ≤ n → firstOf (allN h n c) 1 = -1 := by
  induction n with
  | zero =>
    intro c hc
    refine no_first fun hm => ?_
    have h1 : c.count 2 ≤ c.length := List.count_le_length
    have h2 : c.count 2 = c.length := by omega
    rw [List.count_eq_length] at h2
    have := h2 1 hm; simp at this
  | succ n ih =>
    intro c hc
    rw [allN_step]
    rcases first_cases c 1 with e | ⟨k, e, hk, hkc⟩
    · rw [if_pos e]; exact e
    · rw [if_neg (by omega), e]
      have := black_less h hkc
      exact ih _ (by simp only [Int.toNat_natCast]; omega)
theorem all_nogray (h : Hp) (c : List Int) : firstOf (allL h c) 1 = -1 := allN_nogray h _ c (Nat.le_refl _)
theorem all_twice (h : Hp) (c : List Int) : allL h (allL h c) = allL h c := all_done (all_nogray h c)
/-- What was not white is black in the end. -/
theorem all_black {h : Hp} {c : List Int} (hv : cvB ⟨h, c⟩ = true) {i : Nat} {x : Int} (hi : c[i]? = some x) (hx : x ≠ 0) : (allL h c)[i]? = some 2 := by
  obtain ⟨y, hy, e⟩ := all_keeps (h := h) hi hx
  obtain ⟨_, _, hc⟩ := cvB_parts (all_valid hv)
  have hm := List.mem_of_getElem? e
  have h1 := hc y hm
  have h2 : y ≠ 1 := fun e' => first_no (all_nogray h c) (by rw [← e']; exact hm)
  rw [e]; congr 1; omega
theorem all_whiteOrBlack {h : Hp} {c : List Int} (hv : cvB ⟨h, c⟩ = true) {i : Nat} {x : Int} (hi : (allL h c)[i]? = some x) : x = 0 ∨ x = 2 := by
  obtain ⟨_, _, hc⟩ := cvB_parts (all_valid hv)
  have hm := List.mem_of_getElem? hi
  have h1 := hc x hm
  have h2 : x ≠ 1 := fun e' => first_no (all_nogray h c) (by rw [← e']; exact hm)
  omega
theorem sum3 : ∀ {c : List Int}, (∀ x ∈ c, 0 ≤ x ∧ x ≤ 2) → c.count 0 + c.count 1 + c.count 2 = c.length := by
  intro c
  induction c with
  | nil => intro _; rfl
  | cons a r ih =>
    intro h
    have h1 := ih fun x hx => h x (List.mem_cons_of_mem _ hx)
    have h2 := h a (List.mem_cons_self ..)
    rw [List.count_cons, List.count_cons, List.count_cons, List.length_cons]
    rcases (by omega : a = 0 ∨ a = 1 ∨ a = 2) with rfl | rfl | rfl <;> simp <;> omega
theorem shadeAll_nonwhite {ks : List Int} : ∀ {c : List Int} {i : Nat} {y : Int}, (shadeAll c ks)[i]? = some y → y ≠ 0 → c[i]? = some y ∨ (i : Int) ∈ ks := by
  induction ks with
  | nil => intro c i y h _; exact .inl h
  | cons a r ih =>
    intro c i y h hy
    rcases ih (c := shade c a) h hy with h9 | h9
    · rw [shade_at] at h9
      split at h9
      · rename_i e; exact .inr (by rw [← e.1]; exact List.mem_cons_self ..)
      · exact .inl h9
    · exact .inr (List.mem_cons_of_mem _ h9)
theorem shadeAll_01 {ks : List Int} : ∀ {c : List Int}, (∀ y ∈ c, y = 0 ∨ y = 1) → ∀ y ∈ shadeAll c ks, y = 0 ∨ y = 1 := by
  induction ks with
  | nil => intro c h; exact h
  | cons a r ih =>
    intro c h
    refine ih (c := shade c a) fun y hy => ?_
    unfold shade at hy
    split at hy
    · rcases List.mem_or_eq_of_mem_set hy with h9 | rfl
      · exact h y h9
      · exact .inr rfl
    · exact h y hy
theorem rep01 (n : Nat) : ∀ y ∈ List.replicate n (0 : Int), y = 0 ∨ y = 1 := fun _ hy => .inl (List.mem_replicate.1 hy).2
end Go.Proofs.YtfoimicbmkiigaaGreat

