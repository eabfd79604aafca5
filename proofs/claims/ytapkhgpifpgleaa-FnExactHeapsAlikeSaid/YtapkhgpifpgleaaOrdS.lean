import Derived.Test.YtapkhgpifpgleaaLives
import Derived.Test.YtapkhgpifpgleaaPure
import Derived.Test.YtapkhgpifpgleaaHpB
import Derived.Test.YtapkhgpifpgleaaISto
import Derived.Test.YtapkhgpifpgleaaNears
import Derived.Test.YtapkhgpifpgleaaCyc
import Derived.Test.YtapkhgpifpgleaaCntA
/- The order in which cells are met: plain facts. -/
namespace Go.Proofs.Ytapkhgpifpgleaa

/-- The cells that are met: pure lists. -/
def meet1 (s : List Int) (c : Int) : List Int := if c = -1 ∨ c ∈ s then s else s ++ [c]
def meets (s cs : List Int) : List Int := cs.foldl meet1 s
theorem meets_cons (s : List Int) (c : Int) (cs : List Int) : meets s (c :: cs) = meets (meet1 s c) cs := rfl
theorem meets_nil (s : List Int) : meets s [] = s := rfl
theorem meets_snoc (s cs : List Int) (c : Int) : meets s (cs ++ [c]) = meet1 (meets s cs) c := by simp [meets]
theorem meet1_pre (s : List Int) (c : Int) : s <+: meet1 s c := by
  unfold meet1; split
  · exact List.prefix_refl _
  · exact List.prefix_append _ _
theorem meets_pre (s cs : List Int) : s <+: meets s cs := by
  induction cs generalizing s with
  | nil => exact List.prefix_refl _
  | cons c cs ih => rw [meets_cons]; exact (meet1_pre s c).trans (ih _)
theorem meet1_mem {s : List Int} {c x : Int} : x ∈ meet1 s c ↔ x ∈ s ∨ (x = c ∧ c ≠ -1) := by
  unfold meet1; split
  · rename_i h
    constructor
    · exact .inl
    · rintro (h1 | ⟨rfl, h1⟩)
      · exact h1
      · rcases h with h | h
        · exact absurd h h1
        · exact h
  · rename_i h
    have h1 : c ≠ -1 := fun e => h (.inl e)
    simp [h1]
theorem meets_mem {s cs : List Int} {x : Int} : x ∈ meets s cs ↔ x ∈ s ∨ (x ∈ cs ∧ x ≠ -1) := by
  induction cs generalizing s with
  | nil => simp [meets]
  | cons c cs ih =>
    rw [meets_cons, ih, meet1_mem]
    constructor
    · rintro ((h | ⟨rfl, h⟩) | ⟨h1, h2⟩)
      · exact .inl h
      · exact .inr ⟨by simp, h⟩
      · exact .inr ⟨by simp [h1], h2⟩
    · rintro (h | ⟨h1, h2⟩)
      · exact .inl (.inl h)
      · rcases List.mem_cons.1 h1 with rfl | h3
        · exact .inl (.inr ⟨rfl, h2⟩)
        · exact .inr ⟨h3, h2⟩
theorem meet1_nodup {s : List Int} (h : s.Nodup) (c : Int) : (meet1 s c).Nodup := by
  unfold meet1; split
  · exact h
  · rename_i h1
    rw [List.nodup_append]
    refine ⟨h, by simp, ?_⟩
    intro a ha b hb e
    simp at hb; subst hb; subst e
    exact h1 (.inr ha)
theorem meets_nodup {s : List Int} (h : s.Nodup) (cs : List Int) : (meets s cs).Nodup := by
  induction cs generalizing s with
  | nil => exact h
  | cons c cs ih => exact ih (meet1_nodup h c)
theorem meets_cells {n : Nat} {s cs : List Int} (h : s.all (plB · n) = true) (hc : cs.all (ptB · n) = true) : (meets s cs).all (plB · n) = true := by
  rw [List.all_eq_true] at h hc ⊢
  intro x hx
  rcases meets_mem.1 hx with h1 | ⟨h1, h2⟩
  · exact h x h1
  · have := hc x h1
    simp only [ptB, plB, decide_eq_true_eq] at this ⊢
    omega
/-- Different numbers below n are at most n. -/
theorem nodup_len {n : Nat} {s : List Int} (hd : s.Nodup) (h : s.all (plB · n) = true) : s.length ≤ n := by
  have h1 : (s.map Int.toNat).Nodup := by
    rw [List.all_eq_true] at h
    unfold List.Nodup at hd ⊢
    rw [List.pairwise_map]
    refine List.Pairwise.imp_of_mem ?_ hd
    intro a b ha hb hne e
    have h2 := h a ha; have h3 := h b hb
    simp only [plB, decide_eq_true_eq] at h2 h3
    omega
  have h2 : ∀ x ∈ s.map Int.toNat, x ∈ List.range n := by
    intro x hx
    rw [List.mem_map] at hx
    obtain ⟨a, ha, rfl⟩ := hx
    rw [List.all_eq_true] at h
    have := h a ha
    simp only [plB, decide_eq_true_eq] at this
    rw [List.mem_range]; omega
  have h3 := h1.length_le_of_subset (l₂ := List.range n) h2
  simpa using h3

def kid2 (h : Hp) (c : Int) : List Int := [gd h.l c, gd h.r c]
def ordS (h : Hp) (s : List Int) (k : Nat) : List Int := match s[k]? with | none => s | some c => meets s (kid2 h c)
def ordN (h : Hp) (ts : List Int) : Nat → List Int
  | 0 => meets [] ts
  | k + 1 => ordS h (ordN h ts k) k
def ordL (h : Hp) (ts : List Int) : List Int := ordN h ts h.l.length
def order (h : Hp) : List Int := if hvB h = true then ordL h h.t else []
theorem ordN_succ (h : Hp) (ts : List Int) (k : Nat) : ordN h ts (k + 1) = ordS h (ordN h ts k) k := rfl
theorem ordS_at {h : Hp} {s : List Int} {k : Nat} {c : Int} (hc : s[k]? = some c) : ordS h s k = meets s (kid2 h c) := by unfold ordS; rw [hc]
theorem ordS_end {h : Hp} {s : List Int} {k : Nat} (hc : s.length ≤ k) : ordS h s k = s := by unfold ordS; rw [List.getElem?_eq_none hc]
theorem ordS_pre (h : Hp) (s : List Int) (k : Nat) : s <+: ordS h s k := by
  unfold ordS; split
  · exact List.prefix_refl _
  · exact meets_pre _ _
theorem kid2_pt {h : Hp} (hv : hvB h = true) {c : Int} (hc : plB c h.l.length = true) : (kid2 h c).all (ptB · h.l.length) = true := by
  obtain ⟨⟨hl, _⟩, p1, p2, _⟩ := hvB_parts hv
  have a1 := gd_all p1 hc
  have a2 := gd_all p2 (c := c) (by rw [hl]; exact hc)
  simp [kid2, a1, a2]
theorem ordN_ok {h : Hp} (hv : hvB h = true) {ts : List Int} (ht : ts.all (ptB · h.l.length) = true) (k : Nat) : (ordN h ts k).Nodup ∧ (ordN h ts k).all (plB · h.l.length) = true := by
  induction k with
  | zero => exact ⟨meets_nodup (by simp) _, meets_cells (by rfl) ht⟩
  | succ k ih =>
    rw [ordN_succ]
    unfold ordS; split
    · exact ih
    · rename_i c hc
      have hp : plB c h.l.length = true := by
        have := ih.2; rw [List.all_eq_true] at this; exact this c (List.mem_of_getElem? hc)
      exact ⟨meets_nodup ih.1 _, meets_cells ih.2 (kid2_pt hv hp)⟩
theorem ordN_len {h : Hp} (hv : hvB h = true) {ts : List Int} (ht : ts.all (ptB · h.l.length) = true) (k : Nat) : (ordN h ts k).length ≤ h.l.length := nodup_len (ordN_ok hv ht k).1 (ordN_ok hv ht k).2
theorem ordN_stop {h : Hp} {ts : List Int} {k : Nat} (hk : (ordN h ts k).length ≤ k) (j : Nat) : ordN h ts (k + j) = ordN h ts k := by
  induction j with
  | zero => rfl
  | succ j ih => rw [← Nat.add_assoc, ordN_succ, ih]; exact ordS_end (by omega)
theorem ordN_pre (h : Hp) (ts : List Int) (k j : Nat) : ordN h ts k <+: ordN h ts (k + j) := by
  induction j with
  | zero => exact List.prefix_refl _
  | succ j ih => rw [← Nat.add_assoc, ordN_succ]; exact ih.trans (ordS_pre _ _ _)
/-- A walk that stands behind all that was met has the order. -/
theorem ordL_of {h : Hp} (hv : hvB h = true) {ts : List Int} (ht : ts.all (ptB · h.l.length) = true) {k : Nat} (hk : (ordN h ts k).length ≤ k) : ordL h ts = ordN h ts k := by
  unfold ordL
  rcases Nat.le_total k h.l.length with h1 | h1
  · rw [show h.l.length = k + (h.l.length - k) by omega]; exact ordN_stop hk _
  · rw [show k = h.l.length + (k - h.l.length) by omega]
    exact (ordN_stop (ordN_len hv ht _) _).symm
theorem ordL_end {h : Hp} (hv : hvB h = true) {ts : List Int} (ht : ts.all (ptB · h.l.length) = true) : (ordN h ts h.l.length).length ≤ h.l.length := ordN_len hv ht _
theorem ordL_pre {h : Hp} (hv : hvB h = true) {ts : List Int} (ht : ts.all (ptB · h.l.length) = true) (k : Nat) : ordN h ts k <+: ordL h ts := by
  rcases Nat.le_total k h.l.length with h1 | h1
  · unfold ordL; rw [show h.l.length = k + (h.l.length - k) by omega]; exact ordN_pre _ _ _ _
  · have : ordL h ts = ordN h ts k := by
      have := ordN_stop (ordL_end hv ht) (k - h.l.length)
      rw [show h.l.length + (k - h.l.length) = k by omega] at this
      exact this.symm
    rw [this]; exact List.prefix_refl _
theorem ordL_nodup {h : Hp} (hv : hvB h = true) {ts : List Int} (ht : ts.all (ptB · h.l.length) = true) : (ordL h ts).Nodup := (ordN_ok hv ht _).1
theorem ordL_cells {h : Hp} (hv : hvB h = true) {ts : List Int} (ht : ts.all (ptB · h.l.length) = true) : (ordL h ts).all (plB · h.l.length) = true := (ordN_ok hv ht _).2
theorem ordL_len {h : Hp} (hv : hvB h = true) {ts : List Int} (ht : ts.all (ptB · h.l.length) = true) : (ordL h ts).length ≤ h.l.length := ordN_len hv ht _
theorem ordL_start {h : Hp} (hv : hvB h = true) {ts : List Int} (ht : ts.all (ptB · h.l.length) = true) {x : Int} (hx : x ∈ ts) (h1 : x ≠ -1) : x ∈ ordL h ts :=
  (ordL_pre hv ht 0).subset (meets_mem.2 (.inr ⟨hx, h1⟩))
theorem ordL_closed {h : Hp} (hv : hvB h = true) {ts : List Int} (ht : ts.all (ptB · h.l.length) = true) {c x : Int} (hc : c ∈ ordL h ts) (hx : x = gd h.l c ∨ x = gd h.r c) (h1 : x ≠ -1) : x ∈ ordL h ts := by
  obtain ⟨j, hj, e⟩ := List.getElem_of_mem hc
  have hpre := ordL_pre hv ht (j + 1)
  have hlt : j < h.l.length := by have := ordL_len hv ht; omega
  -- at stage j the place j is filled already, or the list has ended
  have hge : j < (ordN h ts j).length := by
    rcases Nat.lt_or_ge j (ordN h ts j).length with h2 | h2
    · exact h2
    · have := ordL_of hv ht h2
      rw [this] at hj; omega
  have hpj := ordL_pre hv ht j
  have hcj : (ordN h ts j)[j]? = some c := by
    obtain ⟨t, ht2⟩ := hpj
    have : (ordL h ts)[j]? = some c := by rw [List.getElem?_eq_getElem hj, e]
    rw [← ht2, List.getElem?_append_left hge] at this
    exact this
  apply hpre.subset
  rw [ordN_succ, ordS_at hcj]
  refine meets_mem.2 (.inr ⟨?_, h1⟩)
  simp [kid2]; exact hx
theorem ordL_least {h : Hp} (ts : List Int) (S : Int → Prop) (h0 : ∀ x ∈ ts, x ≠ -1 → S x) (h1 : ∀ c, S c → ∀ x, x = gd h.l c ∨ x = gd h.r c → x ≠ -1 → S x) : ∀ x ∈ ordL h ts, S x := by
  have key : ∀ k, ∀ x ∈ ordN h ts k, S x := by
    intro k
    induction k with
    | zero =>
      intro x hx
      rcases meets_mem.1 hx with h2 | ⟨h2, h3⟩
      · simp at h2
      · exact h0 x h2 h3
    | succ k ih =>
      intro x hx
      rw [ordN_succ] at hx
      unfold ordS at hx; split at hx
      · exact ih x hx
      · rename_i c hc
        rcases meets_mem.1 hx with h2 | ⟨h2, h3⟩
        · exact ih x h2
        · refine h1 c (ih c (List.mem_of_getElem? hc)) x ?_ h3
          simpa [kid2] using h2
  exact key _

/-- A renaming of what is met. -/
def ren (f : Int → Int) (x : Int) : Int := if x = -1 then -1 else f x
theorem meets_ren {f : Int → Int} {s cs : List Int} {S : Int → Prop} (hS : ∀ x ∈ s, S x) (hc : ∀ x ∈ cs, x ≠ -1 → S x) (hinj : ∀ x y, S x → S y → f x = f y → x = y) (hn : ∀ x, S x → f x ≠ -1) :
    meets (s.map f) (cs.map (ren f)) = (meets s cs).map f := by
  induction cs generalizing s with
  | nil => rfl
  | cons c cs ih =>
    rw [List.map_cons, meets_cons, meets_cons]
    have e : meet1 (s.map f) (ren f c) = (meet1 s c).map f := by
      by_cases h1 : c = -1
      · simp [meet1, ren, h1]
      · have hSc := hc c (by simp) h1
        have h2 : f c ∈ s.map f ↔ c ∈ s := by
          rw [List.mem_map]
          constructor
          · rintro ⟨a, ha, e⟩
            rw [← hinj a c (hS a ha) hSc e]; exact ha
          · exact fun h => ⟨c, h, rfl⟩
        unfold meet1 ren
        simp only [h1, false_or, if_false, h2, hn c hSc]
        split <;> simp
    rw [e]
    refine ih ?_ (fun x hx => hc x (by simp [hx]))
    intro x hx
    rcases meet1_mem.1 hx with h1 | ⟨rfl, h1⟩
    · exact hS x h1
    · exact hc x (by simp) h1
theorem ordN_ren {h x : Hp} {ts : List Int} {f : Int → Int} {S : Int → Prop} (h0 : ∀ u ∈ ts, u ≠ -1 → S u) (h1 : ∀ c, S c → ∀ u, u = gd h.l c ∨ u = gd h.r c → u ≠ -1 → S u)
    (hinj : ∀ a b, S a → S b → f a = f b → a = b) (hn : ∀ a, S a → f a ≠ -1) (hl : ∀ c, S c → gd x.l (f c) = ren f (gd h.l c)) (hr : ∀ c, S c → gd x.r (f c) = ren f (gd h.r c)) (k : Nat) :
    ordN x (ts.map (ren f)) k = (ordN h ts k).map f ∧ ∀ u ∈ ordN h ts k, S u := by
  induction k with
  | zero =>
    refine ⟨meets_ren (s := []) (S := S) (by simp) h0 hinj hn, ?_⟩
    intro u hu
    rcases meets_mem.1 hu with h2 | ⟨h2, h3⟩
    · simp at h2
    · exact h0 u h2 h3
  | succ k ih =>
    obtain ⟨ih1, ih2⟩ := ih
    rw [ordN_succ, ordN_succ, ih1]
    rcases hc : (ordN h ts k)[k]? with _ | c
    · have hlen : (ordN h ts k).length ≤ k := by
        rw [List.getElem?_eq_none_iff] at hc; exact hc
      rw [ordS_end hlen, ordS_end (by simpa using hlen)]
      exact ⟨rfl, ih2⟩
    · have hSc := ih2 c (List.mem_of_getElem? hc)
      rw [ordS_at hc, ordS_at (c := f c) (by simp [hc])]
      have e : kid2 x (f c) = (kid2 h c).map (ren f) := by simp [kid2, hl c hSc, hr c hSc]
      rw [e]
      have hk : ∀ u ∈ kid2 h c, u ≠ -1 → S u := fun u hu hu1 => h1 c hSc u (by simpa [kid2] using hu) hu1
      refine ⟨meets_ren ih2 hk hinj hn, ?_⟩
      intro u hu
      rcases meets_mem.1 hu with h2 | ⟨h2, h3⟩
      · exact ih2 u h2
      · exact hk u h2 h3
/-- What is met in a renamed heap is what is met, renamed. -/
theorem ordL_ren {h x : Hp} (hv : hvB h = true) (hvx : hvB x = true) {ts : List Int} {f : Int → Int} (ht : ts.all (ptB · h.l.length) = true) (htx : (ts.map (ren f)).all (ptB · x.l.length) = true)
    (hinj : ∀ a b, a ∈ ordL h ts → b ∈ ordL h ts → f a = f b → a = b) (hn : ∀ a ∈ ordL h ts, f a ≠ -1) (hl : ∀ c ∈ ordL h ts, gd x.l (f c) = ren f (gd h.l c)) (hr : ∀ c ∈ ordL h ts, gd x.r (f c) = ren f (gd h.r c)) :
    ordL x (ts.map (ren f)) = (ordL h ts).map f := by
  have key := ordN_ren (h := h) (x := x) (ts := ts) (f := f) (S := fun u => u ∈ ordL h ts) (fun u hu h1 => ordL_start hv ht hu h1) (fun c hc u hu h1 => ordL_closed hv ht hc hu h1) hinj hn hl hr
  have hk := (key h.l.length).1
  have hlen : (ordN x (ts.map (ren f)) h.l.length).length ≤ h.l.length := by rw [hk, List.length_map]; exact ordL_len hv ht
  rw [ordL_of hvx htx hlen, hk]
  rfl
end Go.Proofs.Ytapkhgpifpgleaa

/- Places in the order, the look of a heap and its copy: plain facts. -/
namespace Go.Proofs.Ytapkhgpifpgleaa

/-- The place of a number in a row, or -1. -/
def at_ (o : List Int) (x : Int) : Int := if x ∈ o then (o.idxOf x : Nat) else -1
theorem at_get {o : List Int} (hd : o.Nodup) {i : Nat} {c : Int} (h : o[i]? = some c) : at_ o c = i := by
  have hm : c ∈ o := List.mem_of_getElem? h
  unfold at_; rw [if_pos hm]
  obtain ⟨hi, e⟩ := List.getElem?_eq_some_iff.1 h
  have := hd.idxOf_getElem i hi
  rw [e] at this; rw [this]
theorem at_mem {o : List Int} {x : Int} (h : x ∈ o) : ∃ i : Nat, at_ o x = i ∧ o[i]? = some x ∧ i < o.length := by
  refine ⟨o.idxOf x, by unfold at_; rw [if_pos h], ?_, List.idxOf_lt_length_of_mem h⟩
  rw [List.getElem?_eq_getElem (List.idxOf_lt_length_of_mem h), List.getElem_idxOf]
theorem at_not {o : List Int} {x : Int} (h : x ∉ o) : at_ o x = -1 := by unfold at_; rw [if_neg h]
theorem at_bd (o : List Int) (x : Int) : -1 ≤ at_ o x ∧ at_ o x < o.length := by
  by_cases h : x ∈ o
  · obtain ⟨i, e, _, hi⟩ := at_mem h
    rw [e]; omega
  · rw [at_not h]; omega
theorem at_ne {o : List Int} {x : Int} (h : x ∈ o) : at_ o x ≠ -1 := by
  obtain ⟨i, e, _, _⟩ := at_mem h
  rw [e]; omega
theorem at_inj {o : List Int} {x y : Int} (hx : x ∈ o) (hy : y ∈ o) (e : at_ o x = at_ o y) : x = y := by
  obtain ⟨i, e1, g1, _⟩ := at_mem hx
  obtain ⟨j, e2, g2, _⟩ := at_mem hy
  have : i = j := by omega
  subst this
  rw [g1] at g2; simpa using g2
theorem at_map {o : List Int} {f : Int → Int} (hd : o.Nodup) (hinj : ∀ a b, a ∈ o → b ∈ o → f a = f b → a = b) {c : Int} (hc : c ∈ o) : at_ (o.map f) (f c) = at_ o c := by
  obtain ⟨i, e, g, hi⟩ := at_mem hc
  have hd2 : (o.map f).Nodup := by
    unfold List.Nodup at hd ⊢
    rw [List.pairwise_map]
    refine List.Pairwise.imp_of_mem ?_ hd
    intro a b ha hb hne h2
    exact hne (hinj a b ha hb h2)
  rw [e, at_get hd2 (i := i) (by simp [g])]
theorem ren_ne {f : Int → Int} {x : Int} (h : x ≠ -1) : ren f x = f x := by unfold ren; rw [if_neg h]
theorem ren_no (f : Int → Int) : ren f (-1) = -1 := by simp [ren]

/-- The look of a heap from its roots. -/
def shL (o l : List Int) : List Int := o.map (fun c => ren (at_ o) (gd l c))
def shape (h : Hp) : Hp := ⟨shL (order h) h.l, shL (order h) h.r, h.t.map (ren (at_ (order h)))⟩
def cpL (o l : List Int) (n : Nat) : List Int := shL o l ++ List.replicate (n - o.length) (-1)
def copyH (h : Hp) : Hp := ⟨cpL (order h) h.l h.l.length, cpL (order h) h.r h.l.length, h.t.map (ren (at_ (order h)))⟩
def whereL (h : Hp) : List Int := (List.range h.l.length).map (fun k : Nat => at_ (order h) k)
theorem hv_roots {h : Hp} (hv : hvB h = true) : h.t.all (ptB · h.l.length) = true := (hvB_parts hv).2.2.2
theorem order_eq {h : Hp} (hv : hvB h = true) : order h = ordL h h.t := by unfold order; rw [if_pos hv]
theorem order_nodup {h : Hp} (hv : hvB h = true) : (order h).Nodup := by rw [order_eq hv]; exact ordL_nodup hv (hv_roots hv)
theorem order_len {h : Hp} (hv : hvB h = true) : (order h).length ≤ h.l.length := by rw [order_eq hv]; exact ordL_len hv (hv_roots hv)
theorem order_cells {h : Hp} (hv : hvB h = true) : (order h).all (plB · h.l.length) = true := by rw [order_eq hv]; exact ordL_cells hv (hv_roots hv)
theorem order_cell {h : Hp} (hv : hvB h = true) {c : Int} (hc : c ∈ order h) : 0 ≤ c ∧ c < h.l.length := by
  have := order_cells hv; rw [List.all_eq_true] at this
  simpa [plB] using this c hc
theorem order_start {h : Hp} (hv : hvB h = true) {x : Int} (hx : x ∈ h.t) (h1 : x ≠ -1) : x ∈ order h := by rw [order_eq hv]; exact ordL_start hv (hv_roots hv) hx h1
theorem order_closed {h : Hp} (hv : hvB h = true) {c x : Int} (hc : c ∈ order h) (hx : x = gd h.l c ∨ x = gd h.r c) (h1 : x ≠ -1) : x ∈ order h := by
  rw [order_eq hv] at hc ⊢; exact ordL_closed hv (hv_roots hv) hc hx h1

/-- x is h with other numbers for the cells that are live. -/
structure Ren (h x : Hp) (f : Int → Int) : Prop where
  hv : hvB h = true
  hx : hvB x = true
  inj : ∀ a b, a ∈ order h → b ∈ order h → f a = f b → a = b
  ne : ∀ a ∈ order h, f a ≠ -1
  l : ∀ c ∈ order h, gd x.l (f c) = ren f (gd h.l c)
  r : ∀ c ∈ order h, gd x.r (f c) = ren f (gd h.r c)
  t : x.t = h.t.map (ren f)
theorem Ren.ord_ {h x : Hp} {f : Int → Int} (R : Ren h x f) : order x = (order h).map f := by
  have hin := R.inj; have hne := R.ne; have hl := R.l; have hr := R.r
  rw [order_eq R.hv] at hin hne hl hr
  rw [order_eq R.hx, order_eq R.hv, R.t]
  exact ordL_ren R.hv R.hx (hv_roots R.hv) (by have := hv_roots R.hx; rw [R.t] at this; exact this) hin hne hl hr
theorem Ren.pos_ {h x : Hp} {f : Int → Int} (R : Ren h x f) {p : Int} (hp : p = -1 ∨ p ∈ order h) : ren (at_ (order x)) (ren f p) = ren (at_ (order h)) p := by
  rcases hp with rfl | hp
  · simp [ren_no]
  · have h1 : p ≠ -1 := by have := (order_cell R.hv hp).1; omega
    rw [ren_ne h1, ren_ne h1, ren_ne (R.ne p hp), R.ord_]
    exact at_map (order_nodup R.hv) R.inj hp
theorem order_kid {h : Hp} (hv : hvB h = true) {c : Int} (hc : c ∈ order h) : (gd h.l c = -1 ∨ gd h.l c ∈ order h) ∧ (gd h.r c = -1 ∨ gd h.r c ∈ order h) := by
  constructor
  · by_cases e : gd h.l c = -1
    · exact .inl e
    · exact .inr (order_closed hv hc (.inl rfl) e)
  · by_cases e : gd h.r c = -1
    · exact .inl e
    · exact .inr (order_closed hv hc (.inr rfl) e)
theorem order_root {h : Hp} (hv : hvB h = true) {p : Int} (hp : p ∈ h.t) : p = -1 ∨ p ∈ order h := by
  by_cases e : p = -1
  · exact .inl e
  · exact .inr (order_start hv hp e)
theorem Ren.look_ {h x : Hp} {f : Int → Int} (R : Ren h x f) : shape x = shape h := by
  unfold shape
  have e1 : shL (order x) x.l = shL (order h) h.l := by
    unfold shL
    conv => lhs; arg 2; rw [R.ord_]
    rw [List.map_map]
    refine List.map_congr_left ?_
    intro c hc
    show ren (at_ (order x)) (gd x.l (f c)) = _
    rw [R.l c hc]; exact R.pos_ (order_kid R.hv hc).1
  have e2 : shL (order x) x.r = shL (order h) h.r := by
    unfold shL
    conv => lhs; arg 2; rw [R.ord_]
    rw [List.map_map]
    refine List.map_congr_left ?_
    intro c hc
    show ren (at_ (order x)) (gd x.r (f c)) = _
    rw [R.r c hc]; exact R.pos_ (order_kid R.hv hc).2
  have e3 : x.t.map (ren (at_ (order x))) = h.t.map (ren (at_ (order h))) := by
    conv => lhs; arg 2; rw [R.t]
    rw [List.map_map]
    refine List.map_congr_left ?_
    intro p hp
    exact R.pos_ (order_root R.hv hp)
  rw [e1, e2, e3]

/-! The copy. -/
theorem shL_len (o l : List Int) : (shL o l).length = o.length := by simp [shL]
theorem cpL_len {o l : List Int} {n : Nat} (h : o.length ≤ n) : (cpL o l n).length = n := by simp [cpL, shL_len]; omega
theorem ren_at_bd (o : List Int) (x : Int) : -1 ≤ ren (at_ o) x ∧ ren (at_ o) x < o.length := by
  unfold ren; split
  · omega
  · exact at_bd o x
theorem shL_get {o l : List Int} {i : Nat} {c : Int} (h : o[i]? = some c) : (shL o l)[i]? = some (ren (at_ o) (gd l c)) := by simp [shL, h]
theorem gdx_some {D : List Int} {k : Nat} {u : Int} (h : D[k]? = some u) : gd D (k : Int) = u := by simp [gd, List.getD, h]
theorem gd_none {D : List Int} {k : Nat} (h : D.length ≤ k) : gd D (k : Int) = -1 := by simp [gd, List.getD, List.getElem?_eq_none h]
theorem cpL_get {o l : List Int} {n i : Nat} {c : Int} (h : o[i]? = some c) : gd (cpL o l n) (i : Int) = ren (at_ o) (gd l c) := by
  have hi : i < o.length := (List.getElem?_eq_some_iff.1 h).1
  refine gdx_some ?_
  unfold cpL
  rw [List.getElem?_append_left (by rw [shL_len]; exact hi), shL_get h]
theorem cpL_end {o l : List Int} {n i : Nat} (h : o.length ≤ i) : gd (cpL o l n) (i : Int) = -1 := by
  unfold gd cpL List.getD
  simp only [Int.toNat_natCast]
  rw [List.getElem?_append_right (by rw [shL_len]; exact h)]
  simp only [List.getElem?_replicate]
  split <;> rfl
theorem cpL_all {o l : List Int} {n : Nat} (h : o.length ≤ n) : (cpL o l n).all (ptB · n) = true := by
  rw [List.all_eq_true]
  intro x hx
  unfold cpL at hx
  rcases List.mem_append.1 hx with h1 | h1
  · unfold shL at h1
    obtain ⟨c, _, rfl⟩ := List.mem_map.1 h1
    have := ren_at_bd o (gd l c)
    simp only [ptB, decide_eq_true_eq]; omega
  · have := List.eq_of_mem_replicate h1
    subst this
    simp only [ptB, decide_eq_true_eq]; omega
theorem copy_valid {h : Hp} (hv : hvB h = true) : hvB (copyH h) = true := by
  have hl := order_len hv
  have e0 : (copyH h).l.length = h.l.length := cpL_len hl
  refine hvB_mk (by rw [e0]; exact cpL_len hl) ?_ ?_ ?_ ?_
  · rw [e0]; have := (hvB_parts hv).1.2; simpa [copyH] using this
  · rw [e0]; exact cpL_all hl
  · rw [e0]; exact cpL_all hl
  · rw [e0, List.all_eq_true]
    intro x hx
    unfold copyH at hx
    obtain ⟨c, _, rfl⟩ := List.mem_map.1 hx
    have := ren_at_bd (order h) c
    simp only [ptB, decide_eq_true_eq]; omega
theorem copy_ren {h : Hp} (hv : hvB h = true) : Ren h (copyH h) (at_ (order h)) := by
  refine ⟨hv, copy_valid hv, fun a b ha hb e => at_inj ha hb e, fun a ha => at_ne ha, ?_, ?_, rfl⟩
  · intro c hc
    obtain ⟨i, e, g, _⟩ := at_mem hc
    rw [e]; exact cpL_get g
  · intro c hc
    obtain ⟨i, e, g, _⟩ := at_mem hc
    rw [e]; exact cpL_get g
def upto (m : Nat) : List Int := (List.range m).map (fun k : Nat => (k : Int))
theorem upto_len (m : Nat) : (upto m).length = m := by simp [upto]
theorem upto_get {m i : Nat} (h : i < m) : (upto m)[i]? = some (i : Int) := by simp [upto, h]
theorem upto_nodup (m : Nat) : (upto m).Nodup := by
  unfold upto List.Nodup
  rw [List.pairwise_map]
  exact (List.nodup_range (n := m)).imp (fun h e => h (by omega))
theorem upto_mem {m : Nat} {x : Int} : x ∈ upto m ↔ 0 ≤ x ∧ x < m := by
  unfold upto
  rw [List.mem_map]
  constructor
  · rintro ⟨k, hk, rfl⟩; rw [List.mem_range] at hk; omega
  · rintro ⟨h1, h2⟩; exact ⟨x.toNat, by rw [List.mem_range]; omega, by omega⟩
theorem at_upto {m : Nat} {x : Int} (h0 : 0 ≤ x) (h1 : x < m) : at_ (upto m) x = x := by
  obtain ⟨k, rfl⟩ : ∃ k : Nat, x = k := ⟨x.toNat, by omega⟩
  exact at_get (upto_nodup m) (upto_get (by omega))
theorem map_at_self {o : List Int} (hd : o.Nodup) : o.map (at_ o) = upto o.length := by
  apply List.ext_getElem?
  intro i
  rcases Nat.lt_or_ge i o.length with h | h
  · have hg : o[i]? = some o[i] := List.getElem?_eq_getElem h
    rw [List.getElem?_map, hg, upto_get h]
    simp [at_get hd hg]
  · rw [List.getElem?_eq_none (by simpa using h), List.getElem?_eq_none (by rw [upto_len]; exact h)]
theorem copy_order {h : Hp} (hv : hvB h = true) : order (copyH h) = upto (order h).length := by
  rw [(copy_ren hv).ord_, map_at_self (order_nodup hv)]
theorem copy_shape {h : Hp} (hv : hvB h = true) : shape (copyH h) = shape h := (copy_ren hv).look_
theorem copy_shape_eq {h : Hp} : copyH h = ⟨(shape h).l ++ List.replicate (h.l.length - (order h).length) (-1), (shape h).r ++ List.replicate (h.l.length - (order h).length) (-1), (shape h).t⟩ := rfl
theorem copy_len {h : Hp} (hv : hvB h = true) : (copyH h).l.length = h.l.length := cpL_len (order_len hv)
theorem copy_again {h : Hp} (hv : hvB h = true) : copyH (copyH h) = copyH h := by
  rw [copy_shape_eq (h := copyH h), copy_shape hv, copy_len hv, copy_order hv, upto_len]
  exact copy_shape_eq.symm

/-! Looks. -/
def alikeB (a b : Hp) : Bool := hvB a && hvB b && sameB (shape a) (shape b)
theorem alike_iff (a b : Hp) : alikeB a b = true ↔ hvB a = true ∧ hvB b = true ∧ shape a = shape b := by
  unfold alikeB
  rw [Bool.and_eq_true, Bool.and_eq_true, sameB_iff, and_assoc]
theorem bool_ext {a b : Bool} (h : a = true ↔ b = true) : a = b := by cases a <;> cases b <;> simp_all
theorem alike_symm (a b : Hp) : alikeB a b = alikeB b a := by
  apply bool_ext
  rw [alike_iff, alike_iff]
  exact ⟨fun ⟨h1, h2, h3⟩ => ⟨h2, h1, h3.symm⟩, fun ⟨h1, h2, h3⟩ => ⟨h2, h1, h3.symm⟩⟩
theorem alike_self {a : Hp} (h : hvB a = true) : alikeB a a = true := (alike_iff a a).2 ⟨h, h, rfl⟩
theorem alike_ren {h x : Hp} {f : Int → Int} (R : Ren h x f) : alikeB h x = true := (alike_iff h x).2 ⟨R.hv, R.hx, R.look_.symm⟩
theorem alike_len {a b : Hp} (h : alikeB a b = true) : (order a).length = (order b).length := by
  have := congrArg (fun x => x.l.length) ((alike_iff a b).1 h).2.2
  simpa [shape, shL_len] using this
/-- The model's test: numbers of cells, of roots, then each pointer. -/
theorem alike_parts {a b : Hp} (ha : hvB a = true) (hb : hvB b = true) : alikeB a b = true ↔ ((order a).length = (order b).length ∧ a.t.length = b.t.length) ∧ a.t.map (ren (at_ (order a))) = b.t.map (ren (at_ (order b))) ∧ shL (order a) a.l = shL (order b) b.l ∧ shL (order a) a.r = shL (order b) b.r := by
  rw [alike_iff]
  constructor
  · rintro ⟨_, _, e⟩
    have e1 : shL (order a) a.l = shL (order b) b.l := congrArg Hp.l e
    have e2 : shL (order a) a.r = shL (order b) b.r := congrArg Hp.r e
    have e3 : a.t.map (ren (at_ (order a))) = b.t.map (ren (at_ (order b))) := congrArg Hp.t e
    refine ⟨⟨?_, ?_⟩, e3, e1, e2⟩
    · have := congrArg List.length e1; simpa [shL_len] using this
    · have := congrArg List.length e3; simpa using this
  · rintro ⟨_, e3, e1, e2⟩
    refine ⟨ha, hb, ?_⟩
    unfold shape
    rw [e1, e2, e3]
theorem alike_copy {a b : Hp} (ha : hvB a = true) (hb : hvB b = true) : alikeB (copyH a) (copyH b) = alikeB a b := by
  apply bool_ext
  rw [alike_iff, alike_iff, copy_shape ha, copy_shape hb]
  exact ⟨fun h => ⟨ha, hb, h.2.2⟩, fun h => ⟨copy_valid ha, copy_valid hb, h.2.2⟩⟩
theorem copy_same_alike {a b : Hp} (ha : hvB a = true) (hb : hvB b = true) (e : copyH a = copyH b) : alikeB a b = true := by
  rw [← alike_copy ha hb, e]; exact alike_self (copy_valid hb)
theorem alike_same_copy {a b : Hp} (h : alikeB a b = true) (hl : a.l.length = b.l.length) : copyH a = copyH b := by
  have hn := alike_len h
  have e := ((alike_iff a b).1 h).2.2
  rw [copy_shape_eq, copy_shape_eq, e, hn, hl]
end Go.Proofs.Ytapkhgpifpgleaa

/- Forwarding numbers and moves: plain facts. -/
namespace Go.Proofs.Ytapkhgpifpgleaa

/-! Forwarding: each cell with a number gets its pointers there. -/
def fwL (l N B : List Int) : Nat → List Int
  | 0 => B
  | k + 1 => if gd N (k : Int) = -1 then fwL l N B k else (fwL l N B k).set (gd N (k : Int)).toNat (ren (gd N) (gd l (k : Int)))
theorem fwL_len (l N B : List Int) (k : Nat) : (fwL l N B k).length = B.length := by
  induction k with
  | zero => rfl
  | succ k ih => unfold fwL; split <;> simp [ih]
theorem gd_set_ge {D : List Int} {k : Nat} {x : Int} (h : k < D.length) : gd (D.set k x) (k : Int) = x := by
  refine gdx_some ?_
  simp [h]
theorem gdx_other {D : List Int} {k j : Nat} {x : Int} (h : k ≠ j) : gd (D.set k x) (j : Int) = gd D (j : Int) := by
  unfold gd List.getD
  simp only [Int.toNat_natCast]
  rw [List.getElem?_set_ne h]
theorem fwL_miss {l N B : List Int} {j : Nat} (k : Nat) (hN : ∀ i : Nat, i < k → -1 ≤ gd N (i : Int)) (h : ∀ i : Nat, i < k → gd N (i : Int) ≠ j) : gd (fwL l N B k) (j : Int) = gd B (j : Int) := by
  induction k with
  | zero => rfl
  | succ k ih =>
    have ih := ih (fun i hi => hN i (by omega)) (fun i hi => h i (by omega))
    unfold fwL
    split
    · exact ih
    · rename_i h1
      have h2 := hN k (by omega); have h3 := h k (by omega)
      rw [gdx_other (by omega)]; exact ih
theorem fwL_hit {l N B : List Int} {i j : Nat} (k : Nat) (hN : ∀ i : Nat, i < k → -1 ≤ gd N (i : Int)) (hi : i < k) (hj : j < B.length) (e : gd N (i : Int) = j) (hinj : ∀ i' : Nat, i' < k → gd N (i' : Int) = j → i' = i) : gd (fwL l N B k) (j : Int) = ren (gd N) (gd l (i : Int)) := by
  induction k with
  | zero => omega
  | succ k ih =>
    unfold fwL
    by_cases hk : i = k
    · subst hk
      rw [if_neg (by omega), e]
      exact gd_set_ge (by rw [fwL_len]; exact hj)
    · have ih := ih (fun i hi => hN i (by omega)) (by omega) (fun i' h1 h2 => hinj i' (by omega) h2)
      split
      · exact ih
      · have h3 : gd N (k : Int) ≠ j := fun h4 => hk ((hinj k (by omega) h4).symm)
        have := hN k (by omega)
        rw [gdx_other (by omega)]; exact ih
theorem gd_ext {a b : List Int} (hl : a.length = b.length) (h : ∀ k : Nat, k < a.length → gd a (k : Int) = gd b (k : Int)) : a = b := by
  apply List.ext_getElem hl
  intro i h1 h2
  have := h i h1
  rw [gdx_some (List.getElem?_eq_getElem h1), gdx_some (List.getElem?_eq_getElem h2)] at this
  exact this
theorem where_get {h : Hp} {k : Nat} (hk : k < h.l.length) : gd (whereL h) (k : Int) = at_ (order h) (k : Int) := by
  refine gdx_some ?_
  simp [whereL, hk]
theorem where_len (h : Hp) : (whereL h).length = h.l.length := by simp [whereL]
theorem where_ren {h : Hp} {p : Int} (h1 : -1 ≤ p) (h2 : p < h.l.length) : ren (gd (whereL h)) p = ren (at_ (order h)) p := by
  by_cases e : p = -1
  · subst e; rfl
  · rw [ren_ne e, ren_ne e]
    obtain ⟨k, rfl⟩ : ∃ k : Nat, p = k := ⟨p.toNat, by omega⟩
    exact where_get (by omega)
theorem where_bd {h : Hp} {k : Nat} (hk : k < h.l.length) : -1 ≤ gd (whereL h) (k : Int) := by rw [where_get hk]; exact (at_bd _ _).1
theorem hv_get {h : Hp} (hv : hvB h = true) {k : Nat} (hk : k < h.l.length) : (-1 ≤ gd h.l (k : Int) ∧ gd h.l (k : Int) < h.l.length) ∧ -1 ≤ gd h.r (k : Int) ∧ gd h.r (k : Int) < h.l.length := by
  obtain ⟨⟨hl, _⟩, p1, p2, _⟩ := hvB_parts hv
  have hc : plB (k : Int) h.l.length = true := by simp [plB]; omega
  have a1 := gd_all p1 hc
  have a2 := gd_all p2 (c := (k : Int)) (by rw [hl]; exact hc)
  simp only [ptB, decide_eq_true_eq] at a1 a2
  exact ⟨a1, a2⟩
theorem fw_copy_aux {h : Hp} (hv : hvB h = true) {l : List Int} (hp : ∀ k : Nat, k < h.l.length → -1 ≤ gd l (k : Int) ∧ gd l (k : Int) < h.l.length) :
    fwL l (whereL h) (List.replicate h.l.length (-1)) h.l.length = cpL (order h) l h.l.length := by
  have hol := order_len hv
  apply gd_ext (by rw [fwL_len, cpL_len hol]; simp)
  intro j hj
  rw [fwL_len, List.length_replicate] at hj
  have hN : ∀ i : Nat, i < h.l.length → -1 ≤ gd (whereL h) (i : Int) := fun i hi => where_bd hi
  rcases Nat.lt_or_ge j (order h).length with hjo | hjo
  · have hg : (order h)[j]? = some (order h)[j] := List.getElem?_eq_getElem hjo
    generalize (order h)[j] = c at hg
    have hc := order_cell hv (List.mem_of_getElem? hg)
    obtain ⟨i, rfl⟩ : ∃ i : Nat, c = i := ⟨c.toNat, by omega⟩
    have hi : i < h.l.length := by omega
    have e : gd (whereL h) (i : Int) = j := by rw [where_get hi]; exact at_get (order_nodup hv) hg
    rw [fwL_hit _ hN hi (by simpa using hj) e, cpL_get hg]
    · exact where_ren (hp i hi).1 (hp i hi).2
    · intro i' hi' e'
      rw [where_get hi'] at e'
      have hm : (i' : Int) ∈ order h := by
        apply Classical.byContradiction; intro hn
        rw [at_not hn] at e'; omega
      have h2 := at_inj hm (List.mem_of_getElem? hg) (by rw [e', at_get (order_nodup hv) hg])
      omega
  · rw [cpL_end hjo, fwL_miss _ hN]
    · exact gdx_some (by simp [hj])
    · intro i hi e
      rw [where_get hi] at e
      have := (at_bd (order h) (i : Int)).2
      omega
theorem fw_copy {h : Hp} (hv : hvB h = true) : fwL h.l (whereL h) (List.replicate h.l.length (-1)) h.l.length = (copyH h).l ∧ fwL h.r (whereL h) (List.replicate h.l.length (-1)) h.l.length = (copyH h).r ∧ h.t.map (ren (gd (whereL h))) = (copyH h).t := by
  refine ⟨fw_copy_aux hv (fun k hk => (hv_get hv hk).1), fw_copy_aux hv (fun k hk => (hv_get hv hk).2), ?_⟩
  refine List.map_congr_left ?_
  intro p hp
  have := hv_roots hv
  rw [List.all_eq_true] at this
  have := this p hp
  simp only [ptB, decide_eq_true_eq] at this
  exact where_ren this.1 this.2

/-! Moves. -/
theorem dif_rangeM {n : Nat} {xs : List Int} (h : difB n xs = true) : (∀ x ∈ xs, 0 ≤ x ∧ x < n) ∧ xs.Nodup := by
  unfold difB at h; rw [decide_eq_true_eq] at h; exact h
def mvL (l tz : List Int) : List Int := (List.range tz.length).map (fun j : Nat => ren (gd tz) (gd l (at_ tz j)))
def moveH (h : Hp) (tz : List Int) : Hp := ⟨mvL h.l tz, mvL h.r tz, h.t.map (ren (gd tz))⟩
def moveO (h : Hp) (tz : List Int) : Option Hp := if hvB h = true ∧ tz.length = h.l.length ∧ difB h.l.length tz = true then some (moveH h tz) else none
/-- All cells, each once. -/
structure Perm (n : Nat) (tz : List Int) : Prop where
  len : tz.length = n
  rng : ∀ x ∈ tz, 0 ≤ x ∧ x < n
  nd : tz.Nodup
theorem Perm.of {n : Nat} {tz : List Int} (h1 : tz.length = n) (h2 : difB n tz = true) : Perm n tz := ⟨h1, (dif_rangeM h2).1, (dif_rangeM h2).2⟩
theorem Perm.get {n : Nat} {tz : List Int} (P : Perm n tz) {k : Nat} (hk : k < n) : ∃ j : Nat, gd tz (k : Int) = j ∧ j < n ∧ tz[k]? = some (j : Int) ∧ at_ tz (j : Int) = k := by
  have hkt : k < tz.length := by rw [P.len]; exact hk
  have hg : tz[k]? = some tz[k] := List.getElem?_eq_getElem hkt
  generalize tz[k] = c at hg
  have hc := P.rng c (List.mem_of_getElem? hg)
  obtain ⟨j, rfl⟩ : ∃ j : Nat, c = j := ⟨c.toNat, by omega⟩
  exact ⟨j, gdx_some hg, by omega, hg, at_get P.nd hg⟩
theorem Perm.onto {n : Nat} {tz : List Int} (P : Perm n tz) {j : Nat} (hj : j < n) : ∃ k : Nat, k < n ∧ at_ tz (j : Int) = k ∧ gd tz (k : Int) = j ∧ tz[k]? = some (j : Int) := by
  have hm : (j : Int) ∈ tz := by
    apply Classical.byContradiction; intro hn
    -- then n numbers other than j below n
    have hs : (List.cons (j : Int) tz).length ≤ n := by
      refine nodup_len (List.nodup_cons.2 ⟨hn, P.nd⟩) ?_
      rw [List.all_eq_true]
      intro x hx
      rcases List.mem_cons.1 hx with rfl | hx
      · simp [plB]; omega
      · simpa [plB] using P.rng x hx
    simp [P.len] at hs
    omega
  obtain ⟨k, e, g, hk⟩ := at_mem hm
  exact ⟨k, by rw [← P.len]; exact hk, e, gdx_some g, g⟩
theorem mvL_len (l tz : List Int) : (mvL l tz).length = tz.length := by simp [mvL]
theorem mvL_get {n : Nat} {l tz : List Int} (P : Perm n tz) {k : Nat} (hk : k < n) : gd (mvL l tz) (gd tz (k : Int)) = ren (gd tz) (gd l (k : Int)) := by
  obtain ⟨j, e, hj, _, e2⟩ := P.get hk
  rw [e]
  refine gdx_some ?_
  simp [mvL, P.len, hj, e2]
theorem fw_move {n : Nat} {l tz B : List Int} (P : Perm n tz) (hB : B.length = n) : fwL l tz B n = mvL l tz := by
  apply gd_ext (by rw [fwL_len, mvL_len, P.len, hB])
  intro j hj
  rw [fwL_len, hB] at hj
  obtain ⟨k, hk, _, e, _⟩ := P.onto hj
  rw [fwL_hit n (fun i hi => ?_) hk (by rw [hB]; exact hj) e (fun i' hi' e' => ?_)]
  · rw [← e]; exact (mvL_get P hk).symm
  · obtain ⟨j', e', _⟩ := P.get hi; omega
  · obtain ⟨j', e2, _, _, a2⟩ := P.get hi'
    obtain ⟨j3, e3, _, _, a3⟩ := P.get hk
    have : j' = j3 := by omega
    subst this
    omega
theorem ren_gd_bd {n : Nat} {tz : List Int} (P : Perm n tz) {p : Int} (h1 : -1 ≤ p) (h2 : p < n) : -1 ≤ ren (gd tz) p ∧ ren (gd tz) p < n := by
  by_cases e : p = -1
  · subst e; simp [ren_no]; omega
  · rw [ren_ne e]
    obtain ⟨k, rfl⟩ : ∃ k : Nat, p = k := ⟨p.toNat, by omega⟩
    obtain ⟨j, e, _⟩ := P.get (k := k) (by omega)
    omega
theorem mvL_all {h : Hp} {l tz : List Int} (P : Perm h.l.length tz) (hp : ∀ k : Nat, k < h.l.length → -1 ≤ gd l (k : Int) ∧ gd l (k : Int) < h.l.length) : (mvL l tz).all (ptB · h.l.length) = true := by
  rw [List.all_eq_true]
  intro x hx
  obtain ⟨j, hj, rfl⟩ := List.mem_map.1 hx
  rw [List.mem_range, P.len] at hj
  obtain ⟨k, hk, e, _⟩ := P.onto hj
  rw [e]
  have := ren_gd_bd P (hp k hk).1 (hp k hk).2
  simpa [ptB] using this
theorem roots_bd {h : Hp} (hv : hvB h = true) {p : Int} (hp : p ∈ h.t) : -1 ≤ p ∧ p < h.l.length := by
  have := hv_roots hv
  rw [List.all_eq_true] at this
  simpa [ptB] using this p hp
theorem move_valid {h : Hp} (hv : hvB h = true) {tz : List Int} (P : Perm h.l.length tz) : hvB (moveH h tz) = true := by
  have e0 : (moveH h tz).l.length = h.l.length := by rw [← P.len]; exact mvL_len _ _
  refine hvB_mk (by rw [e0, ← P.len]; exact mvL_len _ _) ?_ ?_ ?_ ?_
  · rw [e0]; have := (hvB_parts hv).1.2; simpa [moveH] using this
  · rw [e0]; exact mvL_all P (fun k hk => (hv_get hv hk).1)
  · rw [e0]; exact mvL_all P (fun k hk => (hv_get hv hk).2)
  · rw [e0, List.all_eq_true]
    intro x hx
    obtain ⟨p, hp, rfl⟩ := List.mem_map.1 hx
    have := ren_gd_bd P (roots_bd hv hp).1 (roots_bd hv hp).2
    simpa [ptB] using this
theorem move_len {h : Hp} {tz : List Int} (P : Perm h.l.length tz) : (moveH h tz).l.length = h.l.length := by rw [← P.len]; exact mvL_len _ _
theorem Perm.inj {n : Nat} {tz : List Int} (P : Perm n tz) {a b : Int} (ha : 0 ≤ a ∧ a < n) (hb : 0 ≤ b ∧ b < n) (e : gd tz a = gd tz b) : a = b := by
  obtain ⟨i, rfl⟩ : ∃ k : Nat, a = k := ⟨a.toNat, by omega⟩
  obtain ⟨j, rfl⟩ : ∃ k : Nat, b = k := ⟨b.toNat, by omega⟩
  obtain ⟨u, e1, _, _, a1⟩ := P.get (k := i) (by omega)
  obtain ⟨v, e2, _, _, a2⟩ := P.get (k := j) (by omega)
  have : u = v := by omega
  subst this; omega
theorem Perm.ne {n : Nat} {tz : List Int} (P : Perm n tz) {a : Int} (ha : 0 ≤ a ∧ a < n) : gd tz a ≠ -1 := by
  obtain ⟨i, rfl⟩ : ∃ k : Nat, a = k := ⟨a.toNat, by omega⟩
  obtain ⟨u, e1, _⟩ := P.get (k := i) (by omega)
  omega
theorem move_ren {h : Hp} (hv : hvB h = true) {tz : List Int} (P : Perm h.l.length tz) : Ren h (moveH h tz) (gd tz) := by
  refine ⟨hv, move_valid hv P, fun a b ha hb e => P.inj (order_cell hv ha) (order_cell hv hb) e, fun a ha => P.ne (order_cell hv ha), ?_, ?_, rfl⟩
  · intro c hc
    have := order_cell hv hc
    obtain ⟨i, rfl⟩ : ∃ k : Nat, c = k := ⟨c.toNat, by omega⟩
    exact mvL_get P (by omega)
  · intro c hc
    have := order_cell hv hc
    obtain ⟨i, rfl⟩ : ∃ k : Nat, c = k := ⟨c.toNat, by omega⟩
    exact mvL_get P (by omega)
theorem moveO_some {h x : Hp} {tz : List Int} (e : moveO h tz = some x) : hvB h = true ∧ Perm h.l.length tz ∧ x = moveH h tz := by
  unfold moveO at e
  split at e
  · rename_i hh
    simp at e
    exact ⟨hh.1, Perm.of hh.2.1 hh.2.2, e.symm⟩
  · simp at e
/-- The way back. -/
def backL (tz : List Int) : List Int := (List.range tz.length).map (fun j : Nat => at_ tz j)
theorem back_get {n : Nat} {tz : List Int} (P : Perm n tz) {j : Nat} (hj : j < n) : gd (backL tz) (j : Int) = at_ tz (j : Int) := gdx_some (by simp [backL, P.len, hj])
theorem back_perm {n : Nat} {tz : List Int} (P : Perm n tz) : Perm n (backL tz) := by
  refine ⟨by simp [backL, P.len], ?_, ?_⟩
  · intro x hx
    obtain ⟨j, hj, rfl⟩ := List.mem_map.1 hx
    rw [List.mem_range, P.len] at hj
    obtain ⟨k, hk, e, _⟩ := P.onto hj
    rw [e]; omega
  · unfold backL List.Nodup
    rw [List.pairwise_map]
    refine List.Pairwise.imp_of_mem ?_ (List.nodup_range (n := tz.length))
    intro a b ha hb hne e
    rw [List.mem_range, P.len] at ha hb
    obtain ⟨k, hk, e1, g1, _⟩ := P.onto ha
    obtain ⟨k', hk', e2, g2, _⟩ := P.onto hb
    have : k = k' := by omega
    subst this; omega
theorem back_ren {n : Nat} {tz : List Int} (P : Perm n tz) {p : Int} (h1 : -1 ≤ p) (h2 : p < n) : ren (gd (backL tz)) (ren (gd tz) p) = p := by
  by_cases e : p = -1
  · subst e; simp [ren_no]
  · obtain ⟨k, rfl⟩ : ∃ k : Nat, p = k := ⟨p.toNat, by omega⟩
    obtain ⟨j, e1, hj, _, a⟩ := P.get (k := k) (by omega)
    rw [ren_ne e, e1, ren_ne (by omega), back_get P hj, a]
theorem mv_back {h : Hp} {l tz : List Int} (P : Perm h.l.length tz) (hl : l.length = h.l.length) (hp : ∀ k : Nat, k < h.l.length → -1 ≤ gd l (k : Int) ∧ gd l (k : Int) < h.l.length) : mvL (mvL l tz) (backL tz) = l := by
  have Q := back_perm P
  apply gd_ext (by rw [mvL_len, Q.len, hl])
  intro i hi
  rw [mvL_len, Q.len] at hi
  obtain ⟨j, e1, hj, _, a⟩ := P.get hi
  have e2 : gd (backL tz) (j : Int) = i := by rw [back_get P hj, a]
  have := mvL_get (l := mvL l tz) Q hj
  rw [e2] at this
  rw [this, ← e1, mvL_get P hi, back_ren P (hp i hi).1 (hp i hi).2]
theorem move_back {h : Hp} (hv : hvB h = true) {tz : List Int} (P : Perm h.l.length tz) : moveH (moveH h tz) (backL tz) = h := by
  have e1 : mvL (mvL h.l tz) (backL tz) = h.l := mv_back P rfl (fun k hk => (hv_get hv hk).1)
  have e2 : mvL (mvL h.r tz) (backL tz) = h.r := mv_back P (hvB_parts hv).1.1 (fun k hk => (hv_get hv hk).2)
  have e3 : (h.t.map (ren (gd tz))).map (ren (gd (backL tz))) = h.t := by
    rw [List.map_map]
    conv => rhs; rw [← List.map_id h.t]
    refine List.map_congr_left ?_
    intro p hp
    exact back_ren P (roots_bd hv hp).1 (roots_bd hv hp).2
  show Hp.mk _ _ _ = h
  cases h
  simp only [moveH] at e1 e2 e3 ⊢
  rw [e1, e2, e3]
end Go.Proofs.Ytapkhgpifpgleaa

/- Order and life, circles, counts of pointers, distances along the order: plain facts. -/
namespace Go.Proofs.Ytapkhgpifpgleaa

theorem order_len0 (h : Hp) : (order h).length ≤ h.l.length := by
  cases hv : hvB h
  · unfold order; rw [hv]; simp
  · exact order_len hv
/-- What is met is what is reached. -/
theorem ord_live {h : Hp} (hv : hvB h = true) {ts : List Int} (ht : ts.all (ptB · h.l.length) = true) {x : Int} : x ∈ ordL h ts ↔ 0 ≤ x ∧ 0 ≤ gd (dist h ts) x := by
  constructor
  · intro hx
    have h0 := ordL_cells hv ht
    rw [List.all_eq_true] at h0
    have h0 := h0 x hx
    simp only [plB, decide_eq_true_eq] at h0
    refine ⟨h0.1, ?_⟩
    obtain ⟨c1, c2⟩ := dist_closed hv ht
    have := ordL_least ts (fun u => -1 ≤ u ∧ u ≠ -1 ∧ 0 ≤ gd (dist h ts) u ∧ u < h.l.length) ?_ ?_ x hx
    · exact this.2.2.1
    · intro u hu h1
      rw [List.all_eq_true] at ht
      have h2 := ht u hu
      simp only [ptB, decide_eq_true_eq] at h2
      exact ⟨h2.1, h1, c1 u hu h1, h2.2⟩
    · intro c hc u hu h1
      have h2 := kid2_pt hv (c := c) (by simp [plB]; omega)
      rw [List.all_eq_true] at h2
      have h2 := h2 u (by simpa [kid2] using hu)
      simp only [ptB, decide_eq_true_eq] at h2
      refine ⟨h2.1, h1, ?_, h2.2⟩
      rcases c2 c (by omega) hc.2.2.1 u hu h1 with h3 | h3
      · exact h3
      · simp at h3
  · rintro ⟨h0, h1⟩
    exact dist_least hv ht (fun u => u ∈ ordL h ts) (fun u hu h2 => ordL_start hv ht hu h2) (fun c hc u hu h2 => ordL_closed hv ht hc hu h2) x h0 h1
theorem live_at {h : Hp} (hv : hvB h = true) {k : Nat} (hk : k < h.l.length) : (liveL h)[k]? = some (decide ((k : Int) ∈ order h)) := by
  have hl : k < (liveL h).length := by rw [liveL_len hv]; exact hk
  have hg : (liveL h)[k]? = some (liveL h)[k] := List.getElem?_eq_getElem hl
  rw [hg]
  congr 1
  rw [live_get hv hg]
  have := ord_live hv (hv_roots hv) (x := (k : Int))
  rw [← order_eq hv] at this
  apply bool_ext
  rw [decide_eq_true_eq, decide_eq_true_eq, this]
  constructor
  · exact fun h => ⟨by omega, h⟩
  · exact fun h => h.2
theorem order_perm {h : Hp} (hv : hvB h = true) : (order h).Perm ((upto h.l.length).filter (fun x => decide (x ∈ order h))) := by
  refine (List.perm_ext_iff_of_nodup (order_nodup hv) ((upto_nodup _).filter _)).2 ?_
  intro x
  rw [List.mem_filter, upto_mem, decide_eq_true_eq]
  exact ⟨fun hx => ⟨order_cell hv hx, hx⟩, fun hx => hx.2⟩
theorem live_upto {h : Hp} (hv : hvB h = true) : liveL h = (upto h.l.length).map (fun x => decide (x ∈ order h)) := by
  apply List.ext_getElem?
  intro i
  rcases Nat.lt_or_ge i h.l.length with hi | hi
  · rw [live_at hv hi, List.getElem?_map, upto_get hi]; rfl
  · rw [List.getElem?_eq_none (by rw [liveL_len hv]; exact hi), List.getElem?_eq_none (by rw [List.length_map, upto_len]; exact hi)]
theorem cnt_order {h : Hp} (hv : hvB h = true) : cntB (liveL h) = ((order h).length : Nat) := by
  rw [(order_perm hv).length_eq]
  unfold cntB
  rw [live_upto hv, List.filter_map, List.length_map]
  rfl
/-- The live cells of a moved heap, and its circles. -/
theorem move_live {h : Hp} (hv : hvB h = true) {tz : List Int} (P : Perm h.l.length tz) {k j : Nat} (hk : k < h.l.length) (e : gd tz (k : Int) = j) : (liveL (moveH h tz))[j]? = (liveL h)[k]? := by
  obtain ⟨j', e', hj', _⟩ := P.get hk
  have : j' = j := by omega
  subst this
  rw [live_at hv hk, live_at (move_valid hv P) (by rw [move_len P]; exact hj'), (move_ren hv P).ord_]
  congr 1
  apply bool_ext
  rw [decide_eq_true_eq, decide_eq_true_eq, List.mem_map]
  constructor
  · rintro ⟨a, ha, e2⟩
    have := P.inj (order_cell hv ha) (b := (k : Int)) (by omega) (by rw [e2, e])
    rw [← this]
    exact ha
  · intro hm
    exact ⟨k, hm, e⟩
theorem move_cyc {h : Hp} (hv : hvB h = true) {tz : List Int} (P : Perm h.l.length tz) {k : Nat} (hk : k < h.l.length) : cycB (moveH h tz) (gd tz (k : Int)) = cycB h (k : Int) := by
  obtain ⟨j, e, hj, _⟩ := P.get hk
  have hx := move_valid hv P
  have e1 : gd (moveH h tz).l (gd tz (k : Int)) = ren (gd tz) (gd h.l (k : Int)) := mvL_get P hk
  have e2 : gd (moveH h tz).r (gd tz (k : Int)) = ren (gd tz) (gd h.r (k : Int)) := mvL_get P hk
  have hp : plB (k : Int) h.l.length = true := by simp [plB]; omega
  have hpx : plB (gd tz (k : Int)) (moveH h tz).l.length = true := by rw [move_len P, e]; simp [plB]; omega
  unfold cycB
  rw [hv, hx, hp, hpx, e1, e2]
  have ht := kid2_pt hv hp
  have htx : ((kid2 h (k : Int)).map (ren (gd tz))).all (ptB · (moveH h tz).l.length) = true := by
    have := kid2_pt hx hpx
    unfold kid2 at this ⊢
    rw [e1, e2] at this
    exact this
  have hcell : ∀ a ∈ ordL h (kid2 h (k : Int)), 0 ≤ a ∧ a < h.l.length := by
    intro a ha
    have := ordL_cells hv ht
    rw [List.all_eq_true] at this
    simpa [plB] using this a ha
  have key := ordL_ren (f := gd tz) hv hx ht htx (fun a b ha hb e => P.inj (hcell a ha) (hcell b hb) e) (fun a ha => P.ne (hcell a ha))
    (fun c hc => by
      have := hcell c hc
      obtain ⟨i, rfl⟩ : ∃ k : Nat, c = k := ⟨c.toNat, by omega⟩
      exact mvL_get P (by omega))
    (fun c hc => by
      have := hcell c hc
      obtain ⟨i, rfl⟩ : ∃ k : Nat, c = k := ⟨c.toNat, by omega⟩
      exact mvL_get P (by omega))
  have i1 := ord_live hx htx (x := gd tz (k : Int))
  have i2 := ord_live hv ht (x := (k : Int))
  rw [key, List.mem_map] at i1
  apply bool_ext
  simp only [Bool.true_and, decide_eq_true_eq]
  have i3 : ren (gd tz) (gd h.l (k : Int)) :: [ren (gd tz) (gd h.r (k : Int))] = (kid2 h (k : Int)).map (ren (gd tz)) := rfl
  rw [i3]
  constructor
  · intro h1
    obtain ⟨a, ha, e3⟩ := i1.2 ⟨by omega, h1⟩
    have := P.inj (hcell a ha) (by omega) e3
    subst this
    exact (i2.1 ha).2
  · intro h1
    exact (i1.1 ⟨_, i2.2 ⟨by omega, h1⟩, rfl⟩).2

/-! Pointers are counted. -/
theorem cntN_countP (xs : List Int) : cntN xs = (xs.countP (· != -1) : Nat) := by
  unfold cntN; rw [List.countP_eq_length_filter]
theorem ren_nil {f : Int → Int} {p : Int} (h : p ≠ -1 → f p ≠ -1) : (ren f p != -1) = (p != -1) := by
  by_cases e : p = -1
  · subst e; rfl
  · rw [ren_ne e]
    have h1 : (f p != -1) = true := by simpa using h e
    have h2 : (p != -1) = true := by simpa using e
    rw [h1, h2]
theorem cnt_roots {f : Int → Int} {t : List Int} (h : ∀ p ∈ t, p ≠ -1 → f p ≠ -1) : cntN (t.map (ren f)) = cntN t := by
  rw [cntN_countP, cntN_countP, List.countP_map]
  congr 1
  refine List.countP_congr ?_
  intro p hp
  show (ren f p != -1) = true ↔ _
  rw [ren_nil (h p hp)]
theorem perm_upto {n : Nat} {tz : List Int} (P : Perm n tz) : tz.Perm (upto n) := by
  refine (List.perm_ext_iff_of_nodup P.nd (upto_nodup n)).2 ?_
  intro x
  rw [upto_mem]
  constructor
  · exact P.rng x
  · intro hx
    obtain ⟨j, rfl⟩ : ∃ k : Nat, x = k := ⟨x.toNat, by omega⟩
    obtain ⟨k, _, _, _, g⟩ := P.onto (j := j) (by omega)
    exact List.mem_of_getElem? g
theorem list_upto (l : List Int) : l = (upto l.length).map (gd l) := by
  apply List.ext_getElem?
  intro i
  rcases Nat.lt_or_ge i l.length with hi | hi
  · rw [List.getElem?_map, upto_get hi]
    have hg : l[i]? = some l[i] := List.getElem?_eq_getElem hi
    rw [hg]
    simp only [Option.map_some]
    rw [gdx_some hg]
  · rw [List.getElem?_eq_none hi, List.getElem?_eq_none (by rw [List.length_map, upto_len]; exact hi)]
theorem cnt_mvL {h : Hp} {l tz : List Int} (P : Perm h.l.length tz) (hl : l.length = h.l.length) (hp : ∀ k : Nat, k < h.l.length → -1 ≤ gd l (k : Int) ∧ gd l (k : Int) < h.l.length) : cntN (mvL l tz) = cntN l := by
  have e1 : mvL l tz = (backL tz).map (fun k => ren (gd tz) (gd l k)) := by
    unfold mvL backL; rw [List.map_map]; rfl
  have e2 : cntN l = cntN ((upto h.l.length).map (gd l)) := by rw [← hl, ← list_upto]
  rw [e1, e2, cntN_countP, cntN_countP, List.countP_map, List.countP_map, (perm_upto (back_perm P)).countP_eq]
  congr 1
  refine List.countP_congr ?_
  intro k hk
  rw [upto_mem] at hk
  obtain ⟨i, rfl⟩ : ∃ j : Nat, k = j := ⟨k.toNat, by omega⟩
  show (ren (gd tz) (gd l (i : Int)) != -1) = true ↔ (gd l (i : Int) != -1) = true
  rw [ren_nil (fun h1 => P.ne ⟨by have := hp i (by omega); omega, (hp i (by omega)).2⟩)]
theorem move_count {h : Hp} (hv : hvB h = true) {tz : List Int} (P : Perm h.l.length tz) : cntH (moveH h tz) = cntH h := by
  unfold cntH
  rw [if_pos hv, if_pos (move_valid hv P)]
  have e1 : cntN (moveH h tz).l = cntN h.l := cnt_mvL P rfl (fun k hk => (hv_get hv hk).1)
  have e2 : cntN (moveH h tz).r = cntN h.r := cnt_mvL P (hvB_parts hv).1.1 (fun k hk => (hv_get hv hk).2)
  have e3 : cntN (moveH h tz).t = cntN h.t := cnt_roots (fun p hp h1 => P.ne ⟨by have := roots_bd hv hp; omega, (roots_bd hv hp).2⟩)
  rw [e1, e2, e3]
/-- A row in which the pointers of garbage are None. -/
def keepL (o l : List Int) : List Int := (upto l.length).map (fun x => if x ∈ o then gd l x else -1)
theorem cnt_cpL {h : Hp} (hv : hvB h = true) {l : List Int} (hl : l.length = h.l.length) (hk : ∀ c ∈ order h, gd l c = -1 ∨ gd l c ∈ order h) : cntN (cpL (order h) l h.l.length) = cntN (keepL (order h) l) := by
  unfold cpL shL keepL
  rw [cntN_countP, cntN_countP, List.countP_append, List.countP_map, List.countP_map, List.countP_replicate]
  have e0 : ((-1 : Int) != -1) = false := rfl
  rw [e0]
  have e1 : List.countP ((· != (-1 : Int)) ∘ fun c => ren (at_ (order h)) (gd l c)) (order h) = List.countP (fun c => gd l c != -1) (order h) := by
    refine List.countP_congr ?_
    intro c hc
    show (ren _ (gd l c) != -1) = true ↔ (gd l c != -1) = true
    rw [ren_nil (fun h1 => ?_)]
    rcases hk c hc with h2 | h2
    · exact absurd h2 h1
    · exact at_ne h2
  rw [e1, (order_perm hv).countP_eq, List.countP_filter, hl]
  simp only [Bool.false_eq_true, if_false, Nat.add_zero]
  congr 1
  refine List.countP_congr ?_
  intro x _
  simp only [Function.comp]
  by_cases hx : x ∈ order h <;> simp [hx]
theorem copy_count {h : Hp} (hv : hvB h = true) : cntH (copyH h) = cntN (keepL (order h) h.l) + cntN (keepL (order h) h.r) + cntN h.t := by
  unfold cntH
  rw [if_pos (copy_valid hv)]
  have e1 : cntN (copyH h).l = cntN (keepL (order h) h.l) := cnt_cpL hv rfl (fun c hc => (order_kid hv hc).1)
  have e2 : cntN (copyH h).r = cntN (keepL (order h) h.r) := cnt_cpL hv (hvB_parts hv).1.1 (fun c hc => (order_kid hv hc).2)
  have e3 : cntN (copyH h).t = cntN h.t := cnt_roots (fun p hp h1 => at_ne (order_start hv hp h1))
  rw [e1, e2, e3]

/-! Cells are met by distance. -/
theorem mark_meet {n : Nat} {d : Int} (hd : 0 ≤ d) {D B q : List Int} (hl : D.length = n) {x : Int} (hx : ptB x n = true) (hI : ∀ u, 0 ≤ u → (0 ≤ gd D u ↔ u ∈ q)) (hq : ∀ u ∈ q, 0 ≤ u) :
    ∃ δ, (mark d (D, B) x).2 = B ++ δ ∧ meet1 q x = q ++ δ ∧ (∀ u, 0 ≤ u → (0 ≤ gd (mark d (D, B) x).1 u ↔ u ∈ meet1 q x)) ∧ (∀ u ∈ q, gd (mark d (D, B) x).1 u = gd D u) ∧ (∀ u ∈ δ, gd (mark d (D, B) x).1 u = d ∧ 0 ≤ u) := by
  simp only [ptB, decide_eq_true_eq] at hx
  unfold mark meet1
  by_cases h1 : x = -1
  · subst h1
    refine ⟨[], ?_, ?_, ?_, ?_, ?_⟩ <;> simp
    exact hI
  · have h2 := hI x (by omega)
    by_cases h3 : x ∈ q
    · have h4 : ¬ (x ≠ -1 ∧ gd D x < 0) := by have := h2.2 h3; omega
      refine ⟨[], ?_, ?_, ?_, ?_, ?_⟩ <;> simp [h4, h3]
      exact hI
    · have h4 : x ≠ -1 ∧ gd D x < 0 := ⟨h1, by have h6 : ¬ 0 ≤ gd D x := fun h => h3 (h2.1 h); omega⟩
      have h5 : ¬ (x = -1 ∨ x ∈ q) := by simp [h1, h3]
      refine ⟨[x], ?_, ?_, ?_, ?_, ?_⟩ <;> simp only [if_pos h4, if_neg h5]
      · intro u hu
        by_cases e : u = x
        · subst e
          rw [gd_set_eq (by omega) (by omega)]
          simp [hd]
        · rw [gd_set_ne (by omega) hu e, hI u hu]
          simp [e]
      · intro u hu
        have e : u ≠ x := fun e => h3 (e ▸ hu)
        exact gd_set_ne (by omega) (hq u hu) e
      · intro u hu
        simp at hu; subst hu
        exact ⟨gd_set_eq (by omega) (by omega), by omega⟩
theorem marks_meets {n : Nat} {d : Int} (hd : 0 ≤ d) {xs : List Int} (hx : xs.all (ptB · n) = true) : ∀ {D B q : List Int}, D.length = n → (∀ u, 0 ≤ u → (0 ≤ gd D u ↔ u ∈ q)) → (∀ u ∈ q, 0 ≤ u) →
    ∃ δ, (marks d (D, B) xs).2 = B ++ δ ∧ meets q xs = q ++ δ ∧ (∀ u, 0 ≤ u → (0 ≤ gd (marks d (D, B) xs).1 u ↔ u ∈ meets q xs)) ∧ (∀ u ∈ q, gd (marks d (D, B) xs).1 u = gd D u) ∧ (∀ u ∈ δ, gd (marks d (D, B) xs).1 u = d ∧ 0 ≤ u) := by
  induction xs with
  | nil =>
    intro D B q hl hI hq
    exact ⟨[], by simp [marks], by simp [meets], by simpa [marks, meets] using hI, by simp [marks], by simp⟩
  | cons x xs ih =>
    intro D B q hl hI hq
    rw [List.all_cons, Bool.and_eq_true] at hx
    obtain ⟨δ, e1, e2, e3, e4, e5⟩ := mark_meet (B := B) hd hl hx.1 hI hq
    have hq2 : ∀ u ∈ meet1 q x, 0 ≤ u := by
      intro u hu
      rw [e2] at hu
      rcases List.mem_append.1 hu with h1 | h1
      · exact hq u h1
      · exact (e5 u h1).2
    obtain ⟨δ', f1, f2, f3, f4, f5⟩ := ih hx.2 (D := (mark d (D, B) x).1) (B := (mark d (D, B) x).2) (q := meet1 q x) (by rw [mark_len]; exact hl) e3 hq2
    have em : marks d (D, B) (x :: xs) = marks d ((mark d (D, B) x).1, (mark d (D, B) x).2) xs := rfl
    refine ⟨δ ++ δ', ?_, ?_, ?_, ?_, ?_⟩
    · rw [em, f1, e1, List.append_assoc]
    · rw [meets_cons, f2, e2, List.append_assoc]
    · rw [em, meets_cons]; exact f3
    · intro u hu
      rw [em, f4 u (by rw [e2]; exact List.mem_append_left _ hu), e4 u hu]
    · intro u hu
      rw [em]
      rcases List.mem_append.1 hu with h1 | h1
      · rw [f4 u (by rw [e2]; exact List.mem_append_right _ h1)]; exact e5 u h1
      · exact f5 u h1
def Sorted (D q : List Int) : Prop := q.Pairwise (fun a b => gd D a ≤ gd D b)
theorem ord_levels {h : Hp} (hv : hvB h = true) {ts : List Int} (ht : ts.all (ptB · h.l.length) = true) (k : Nat) : k ≤ (ordN h ts k).length → ∃ D d Aq Bq f, QInv h (dist h ts) h.l.length D (ordN h ts k) k d Aq Bq f ∧ (∀ u, 0 ≤ u → (0 ≤ gd D u ↔ u ∈ ordN h ts k)) ∧ Sorted D (ordN h ts k) := by
  have pos : ∀ k, ∀ u ∈ ordN h ts k, 0 ≤ u := by
    intro k u hu
    have := (ordN_ok hv ht k).2
    rw [List.all_eq_true] at this
    have := this u hu
    simp only [plB, decide_eq_true_eq] at this
    exact this.1
  obtain ⟨⟨hr, _⟩, p1, p2, _⟩ := hvB_parts hv
  induction k with
  | zero =>
    intro _
    obtain ⟨δ, e1, e2, e3, e4, e5⟩ := marks_meets (n := h.l.length) (d := 1) (by omega) ht (D := List.replicate h.l.length (-1)) (B := []) (q := []) (by simp) (by
      intro u hu
      have : gd (List.replicate h.l.length (-1)) u = -1 := by
        unfold gd List.getD
        simp only [List.getElem?_replicate]
        split <;> rfl
      rw [this]; simp) (by simp)
    obtain ⟨f, Q⟩ := qinv_start (h := h) rfl ht (s := marks 1 (List.replicate h.l.length (-1), []) ts) rfl
    have eq : (marks 1 (List.replicate h.l.length (-1), []) ts).2 = ordN h ts 0 := by
      show _ = meets [] ts
      rw [e1, e2]
    refine ⟨_, _, _, _, f, eq ▸ Q, e3, ?_⟩
    have eq2 : ordN h ts 0 = δ := by show meets [] ts = δ; rw [e2]; rfl
    unfold Sorted
    rw [eq2, List.pairwise_iff_forall_sublist]
    intro a b hab
    have ha := (e5 a (hab.subset (by simp))).1
    have hb := (e5 b (hab.subset (by simp))).1
    omega
  | succ k ih =>
    intro hk
    have hk0 : k < (ordN h ts k).length := by
      apply Classical.byContradiction; intro hn
      have := ordS_end (h := h) (s := ordN h ts k) (k := k) (by omega)
      rw [ordN_succ, this] at hk; omega
    obtain ⟨D, d0, A0, B0, f0, Q0, hI, hS⟩ := ih (by omega)
    obtain ⟨d, c, A', Bq, f, Q⟩ := qinv_head Q0 hk0
    obtain ⟨pre, hq, Q', _⟩ := qinv_step Q rfl hr p1 p2 (s := marks (d + 1) (D, Bq) [gd h.l c, gd h.r c]) rfl
    have hdr := Q.dr
    have hck : (ordN h ts k)[k]? = some c := by
      have h1 : ((ordN h ts k).drop k)[0]? = some c := by rw [hdr]; rfl
      rw [List.getElem?_drop] at h1
      simpa using h1
    have hcp : plB c h.l.length = true := by
      have := (ordN_ok hv ht k).2; rw [List.all_eq_true] at this; exact this c (List.mem_of_getElem? hck)
    obtain ⟨δ, e1, e2, e3, e4, e5⟩ := marks_meets (n := h.l.length) (d := d + 1) (by have := Q.d1; omega) (kid2_pt hv hcp) (D := D) (B := Bq) (q := ordN h ts k) Q.len hI (pos k)
    have en : ordN h ts (k + 1) = pre ++ (marks (d + 1) (D, Bq) [gd h.l c, gd h.r c]).2 := by
      rw [ordN_succ, ordS_at hck, e2]
      show _ = pre ++ (marks (d + 1) (D, Bq) (kid2 h c)).2
      rw [e1, ← List.append_assoc, ← hq]
    refine ⟨_, d, A', _, f, en ▸ Q', ?_, ?_⟩
    · rw [ordN_succ, ordS_at hck]; exact e3
    · have en2 : ordN h ts (k + 1) = ordN h ts k ++ δ := by rw [ordN_succ, ordS_at hck, e2]
      unfold Sorted at hS ⊢
      have hle : ∀ a ∈ ordN h ts k, gd D a ≤ d + 1 := by
        intro a ha
        rw [← List.take_append_drop k (ordN h ts k)] at ha
        rcases List.mem_append.1 ha with h1 | h1
        · have hc : gd D c = d := Q.va c (by simp)
          have hpw := hS
          rw [← List.take_append_drop k (ordN h ts k), List.pairwise_append] at hpw
          have := hpw.2.2 a h1 c (by rw [hdr]; simp)
          omega
        · rw [hdr] at h1
          rcases List.mem_append.1 h1 with h2 | h2
          · have := Q.va a h2; omega
          · have := Q.vb a h2; omega
      rw [en2, List.pairwise_append]
      refine ⟨?_, ?_, ?_⟩
      · refine List.Pairwise.imp_of_mem ?_ hS
        intro a b ha hb hab
        show gd (marks (d + 1) (D, Bq) (kid2 h c)).1 a ≤ gd (marks (d + 1) (D, Bq) (kid2 h c)).1 b
        rw [e4 a ha, e4 b hb]; exact hab
      · rw [List.pairwise_iff_forall_sublist]
        intro a b hab
        have ha := (e5 a (hab.subset (by simp))).1
        have hb := (e5 b (hab.subset (by simp))).1
        show gd (marks (d + 1) (D, Bq) (kid2 h c)).1 a ≤ gd (marks (d + 1) (D, Bq) (kid2 h c)).1 b
        omega
      · intro a ha b hb
        have h1 := hle a ha
        have h2 := e4 a ha
        have h3 := (e5 b hb).1
        show gd (marks (d + 1) (D, Bq) (kid2 h c)).1 a ≤ gd (marks (d + 1) (D, Bq) (kid2 h c)).1 b
        omega
theorem ord_sorted {h : Hp} (hv : hvB h = true) {ts : List Int} (ht : ts.all (ptB · h.l.length) = true) : Sorted (dist h ts) (ordL h ts) := by
  -- walk tz the place behind the last one
  have hlen : (ordN h ts (ordL h ts).length).length = (ordL h ts).length := by
    have h1 := (ordL_pre hv ht (ordL h ts).length).length_le
    rcases Nat.lt_or_ge (ordN h ts (ordL h ts).length).length (ordL h ts).length with h2 | h2
    · have := ordL_of hv ht (Nat.le_of_lt h2)
      rw [← this] at h2; omega
    · omega
  obtain ⟨D, d, Aq, Bq, f, Q, hI, hS⟩ := ord_levels hv ht (ordL h ts).length (by omega)
  have hD := qinv_end Q (by omega)
  have e := ordL_of hv ht (k := (ordL h ts).length) (by omega)
  rw [← e] at hS
  rw [← hD]; exact hS
end Go.Proofs.Ytapkhgpifpgleaa

