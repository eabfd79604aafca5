/- The search by a queue: the plain facts. -/
import Derived.Test.YtkcelcjghplhiaaBfs
namespace Go.Proofs.Ytkcelcjghplhiaa

theorem gd_nat {D : List Int} {k : Nat} {u : Int} (h : D[k]? = some u) : gd D (k : Int) = u := by simp [gd, List.getD, h]
theorem gd_set_eq {D : List Int} {x d : Int} (h0 : 0 ≤ x) (hn : x < D.length) : gd (D.set x.toNat d) x = d := by
  have : x.toNat < D.length := by omega
  simp [gd, List.getD, this]
theorem gd_set_ne {D : List Int} {x y d : Int} (hx : 0 ≤ x) (hy : 0 ≤ y) (hne : y ≠ x) : gd (D.set x.toNat d) y = gd D y := by
  have : x.toNat ≠ y.toNat := by omega
  simp [gd, List.getD, List.getElem?_set_ne this]
theorem mark_keep {d x c : Int} {s : List Int × List Int} (hx : -1 ≤ x) (h0 : 0 ≤ c) (hc : 0 ≤ gd s.1 c) : gd (mark d s x).1 c = gd s.1 c := by
  unfold mark
  split
  · rename_i h
    by_cases hcx : c = x
    · subst hcx; omega
    · exact gd_set_ne (by omega) h0 hcx
  · rfl
theorem mark_vals {n : Nat} {d x : Int} {s : List Int × List Int} (hx : ptB x n = true) (hl : s.1.length = n) (hd : 0 ≤ d) (hp : s.2.all (plB · n) = true) (hv : ∀ b ∈ s.2, gd s.1 b = d) : ∀ b ∈ (mark d s x).2, gd (mark d s x).1 b = d := by
  simp only [ptB, decide_eq_true_eq] at hx
  intro b hb
  unfold mark at hb ⊢
  split
  · rename_i h
    rw [if_pos h] at hb
    rcases List.mem_append.1 hb with h1 | h1
    · have hb0 : 0 ≤ b := by
        rw [List.all_eq_true] at hp
        have := hp b h1
        simp only [plB, decide_eq_true_eq] at this
        exact this.1
      have hne : b ≠ x := fun e => by have := hv b h1; rw [e] at this; omega
      show gd (s.1.set x.toNat d) b = d
      rw [gd_set_ne (by omega) hb0 hne]; exact hv b h1
    · simp at h1; subst h1
      exact gd_set_eq (by omega) (by omega)
  · rename_i h
    rw [if_neg h] at hb
    exact hv b hb
theorem marks_vals {n : Nat} {d : Int} {s : List Int × List Int} {xs : List Int} (hx : xs.all (ptB · n) = true) (hl : s.1.length = n) (hd : 0 ≤ d) (hp : s.2.all (plB · n) = true) (hv : ∀ b ∈ s.2, gd s.1 b = d) : ∀ b ∈ (marks d s xs).2, gd (marks d s xs).1 b = d := by
  induction xs generalizing s with
  | nil => exact hv
  | cons x xs ih =>
    rw [List.all_cons, Bool.and_eq_true] at hx
    exact ih hx.2 (by rw [mark_len]; exact hl) (mark_cells hp hx.1) (mark_vals hx.1 hl hd hp hv)
theorem marks_two (d : Int) (s : List Int × List Int) (x y : Int) : marks d s [x, y] = mark d (mark d s x) y := rfl
theorem mark_mono (d x : Int) (s : List Int × List Int) : s.2.length ≤ (mark d s x).2.length := by
  unfold mark; split <;> simp
theorem mark_nonempty {d x : Int} {s : List Int × List Int} (h : s.2 ≠ []) : (mark d s x).2 ≠ [] := by
  unfold mark; split <;> simp [h]

/-- The state of the second phase: what is still to be looked at is Aq, of distance d, then Bq, of distance d + 1. -/
structure QInv (h : Hp) (fin : List Int) (n0 : Nat) (D q : List Int) (i : Nat) (d : Int) (Aq Bq : List Int) (f : Nat) : Prop where
  le : i ≤ q.length
  dr : q.drop i = Aq ++ Bq
  va : ∀ a ∈ Aq, gd D a = d
  vb : ∀ b ∈ Bq, gd D b = d + 1
  re : rest h.l h.r f (D, Bq) (d + 1) (kids h.l h.r Aq) = fin
  len : D.length = n0
  cells : q.all (plB · n0) = true
  f1 : negs D ≤ f
  f2 : Bq ≠ [] → negs D < f
  d1 : 1 ≤ d
  d2 : Aq ≠ [] → d + negs D ≤ n0
  d3 : Bq ≠ [] → d + 1 + negs D ≤ n0

theorem qinv_start {h : Hp} {n0 : Nat} (hn : h.l.length = n0) {starts : List Int} (hst : starts.all (ptB · n0) = true) {s : List Int × List Int} (hs : s = marks 1 (List.replicate n0 (-1), []) starts) :
    ∃ f, QInv h (dist h starts) n0 s.1 s.2 0 1 s.2 [] f := by
  have hlen : s.1.length = n0 := by rw [hs, marks_len]; simp
  have hc : s.2.all (plB · n0) = true := by rw [hs]; exact marks_cells (by rfl) hst
  have hng : negs s.1 + s.2.length = n0 := by
    have := marks_negs (n := n0) (d := 1) (by omega) (s := (List.replicate n0 (-1), [])) (by simp) hst
    rw [← hs] at this
    simpa [negs_rep] using this
  have hv : ∀ b ∈ s.2, gd s.1 b = 1 := by
    rw [hs]; exact marks_vals hst (by simp) (by omega) (by rfl) (by simp)
  have hfin : dist h starts = rest h.l h.r n0 (List.replicate n0 (-1), []) 1 starts := by
    unfold dist; rw [hn]; rfl
  have hfin2 : dist h starts = if s.2 = [] then s.1 else bfs h.l h.r n0 s.1 (1 + 1) (kids h.l h.r s.2) := by
    rw [hfin]; unfold rest; rw [← hs]
  by_cases he : s.2 = []
  · refine ⟨n0, Nat.zero_le _, by simp, hv, by simp, ?_, hlen, hc, by omega, by simp, by omega, fun h => absurd he h, by simp⟩
    rw [hfin2, if_pos he, he]
    exact rest_nil _ _ _ _ _
  · have hpos : 0 < s.2.length := List.length_pos_iff.2 he
    obtain ⟨f, hf⟩ : ∃ f, n0 = f + 1 := ⟨n0 - 1, by omega⟩
    refine ⟨f, Nat.zero_le _, by simp, hv, by simp, ?_, hlen, hc, by omega, by simp, by omega, fun _ => by omega, by simp⟩
    rw [hfin2, if_neg he, hf, bfs_rest]
theorem qinv_head {h : Hp} {fin : List Int} {n0 : Nat} {D q : List Int} {i : Nat} {d : Int} {Aq Bq : List Int} {f : Nat} (Q : QInv h fin n0 D q i d Aq Bq f) (hi : i < q.length) :
    ∃ d' c A' B' f', QInv h fin n0 D q i d' (c :: A') B' f' := by
  cases Aq with
  | cons c A' => exact ⟨d, c, A', Bq, f, Q⟩
  | nil =>
    have hd := Q.dr
    simp only [List.nil_append] at hd
    have hne : Bq ≠ [] := by
      intro e
      have : (q.drop i).length = 0 := by rw [hd, e]; rfl
      simp at this; omega
    cases Bq with
    | nil => exact absurd rfl hne
    | cons c B' =>
      have hf2 := Q.f2 hne
      obtain ⟨f', hf⟩ : ∃ f', f = f' + 1 := ⟨f - 1, by omega⟩
      refine ⟨d + 1, c, B', [], f', Q.le, by rw [hd]; simp, Q.vb, by simp, ?_, Q.len, Q.cells, by omega, by simp, by have := Q.d1; omega, fun _ => by have := Q.d3 hne; omega, by simp⟩
      have hr := Q.re
      rw [hf, kids_nil, rest_nil' _ _ _ _ _ _ hne] at hr
      exact hr
theorem qinv_step {h : Hp} {fin : List Int} {n0 : Nat} {D q : List Int} {i : Nat} {d c : Int} {A' Bq : List Int} {f : Nat} (Q : QInv h fin n0 D q i d (c :: A') Bq f) (hl : h.l.length = n0) (hr : h.r.length = n0) (h1 : h.l.all (ptB · n0) = true) (h2 : h.r.all (ptB · n0) = true) {s : List Int × List Int}
    (hs : s = marks (d + 1) (D, Bq) [gd h.l c, gd h.r c]) : ∃ pre, q = pre ++ Bq ∧ QInv h fin n0 s.1 (pre ++ s.2) (i + 1) d A' s.2 f ∧ negs s.1 + s.2.length = negs D + Bq.length := by
  have hi : i < q.length := by
    rcases Nat.lt_or_ge i q.length with h | h
    · exact h
    · have := Q.dr; rw [List.drop_of_length_le h] at this; simp at this
  have hq : q = (q.take i ++ c :: A') ++ Bq := by
    rw [List.append_assoc]
    show q = q.take i ++ (c :: A' ++ Bq)
    rw [← Q.dr, List.take_append_drop]
  have hcells := Q.cells
  have hpre : (q.take i ++ c :: A').all (plB · n0) = true ∧ Bq.all (plB · n0) = true := by
    rw [hq, List.all_append, Bool.and_eq_true] at hcells; exact hcells
  have hcp : plB c n0 = true := by
    have := hpre.1
    rw [List.all_append, Bool.and_eq_true, List.all_cons, Bool.and_eq_true] at this; exact this.2.1
  have hA' : A'.all (plB · n0) = true := by
    have := hpre.1
    rw [List.all_append, Bool.and_eq_true, List.all_cons, Bool.and_eq_true] at this; exact this.2.2
  have p1 := gd_all h1 (c := c) (by rw [hl]; exact hcp)
  have p2 := gd_all h2 (c := c) (by rw [hr]; exact hcp)
  have hx : [gd h.l c, gd h.r c].all (ptB · n0) = true := by simp [p1, p2]
  have hd1 := Q.d1
  have hlen : s.1.length = n0 := by rw [hs, marks_len]; exact Q.len
  have hng : negs s.1 + s.2.length = negs D + Bq.length := by
    rw [hs]; exact marks_negs (by omega) Q.len hx
  have hgrow : Bq.length ≤ s.2.length := by
    rw [hs, marks_two]; exact Nat.le_trans (mark_mono (d + 1) (gd h.l c) (D, Bq)) (mark_mono _ _ _)
  have hdn := Q.d2 (by simp)
  have hf1 := Q.f1
  have hlenpre : (q.take i ++ c :: A').length = i + 1 + A'.length := by simp; omega
  have hB0 : Bq ≠ [] → 0 < Bq.length := fun e => List.length_pos_iff.2 e
  have key : ∀ a, 0 ≤ a → 0 ≤ gd D a → gd s.1 a = gd D a := by
    intro a ha0 ha1
    simp only [ptB, decide_eq_true_eq] at p1 p2
    rw [hs, marks_two, mark_keep p2.1 ha0 (by rw [mark_keep p1.1 ha0 ha1]; exact ha1), mark_keep p1.1 ha0 ha1]
  refine ⟨q.take i ++ c :: A', hq, ⟨?_, ?_, ?_, ?_, ?_, hlen, ?_, ?_, ?_, hd1, ?_, ?_⟩, hng⟩
  · rw [List.length_append, hlenpre]; omega
  · rw [List.append_assoc, List.drop_append]
    have : (q.take i).length = i := by simp; omega
    rw [List.drop_of_length_le (by omega), this, show i + 1 - i = 1 by omega]
    rfl
  · intro a ha
    have ha0 : 0 ≤ a := by
      rw [List.all_eq_true] at hA'
      have := hA' a ha
      simp only [plB, decide_eq_true_eq] at this
      exact this.1
    have hva := Q.va a (by simp [ha])
    rw [key a ha0 (by omega)]; exact hva
  · rw [hs]
    exact marks_vals hx Q.len (by omega) hpre.2 Q.vb
  · have hre := Q.re
    rw [kids_cons, rest_cons, rest_cons] at hre
    rw [hs, marks_two]
    exact hre
  · rw [List.all_append, hpre.1]
    rw [hs]; simpa using marks_cells (d := d + 1) (s := (D, Bq)) hpre.2 hx
  · omega
  · intro hne
    by_cases hB : Bq = []
    · have : 0 < s.2.length := List.length_pos_iff.2 hne
      have hb : Bq.length = 0 := by rw [hB]; rfl
      omega
    · have := Q.f2 hB; omega
  · intro _; omega
  · intro hne
    by_cases hB : Bq = []
    · have : 0 < s.2.length := List.length_pos_iff.2 hne
      have hb : Bq.length = 0 := by rw [hB]; rfl
      omega
    · have := Q.d3 hB; omega
theorem qinv_end {h : Hp} {fin : List Int} {n0 : Nat} {D q : List Int} {i : Nat} {d : Int} {Aq Bq : List Int} {f : Nat} (Q : QInv h fin n0 D q i d Aq Bq f) (hi : q.length ≤ i) : D = fin := by
  have hd := Q.dr
  rw [List.drop_of_length_le hi] at hd
  have hd' := hd.symm
  rw [List.append_eq_nil_iff] at hd'
  have hr := Q.re
  rw [hd'.1, hd'.2, kids_nil, rest_nil] at hr
  exact hr
end Go.Proofs.Ytkcelcjghplhiaa
