import Derived.Test.YteogflkahoanlaaMemos
import Derived.Test.YteogflkahoanlaaStoKs
import Derived.Test.YteogflkahoanlaaPure
import Derived.Test.YteogflkahoanlaaNears
/- Plain facts of lists: what is left of a list when others are taken out. -/
namespace Go.Proofs.Yteogflkahoanlaa
open Go.RowKit

def outF (c : List Int) (x : Int) : Bool := !decide (x ∈ c)
theorem outF_iff {c : List Int} {x : Int} : outF c x = true ↔ x ∉ c := by unfold outF; simp
theorem filt_one {gs : List Int} {x : Int} {c : List Int} (hg : gs.Nodup) (hx : x ∈ gs) (hc : x ∉ c) : (gs.filter (outF c)).length = (gs.filter (outF (x :: c))).length + 1 := by
  induction gs with
  | nil => cases hx
  | cons y gs ih =>
    rw [List.nodup_cons] at hg
    by_cases e : y = x
    · subst e
      have h1 : outF c y = true := outF_iff.2 hc
      have h2 : outF (y :: c) y = false := by unfold outF; simp
      rw [List.filter_cons_of_pos h1, List.filter_cons_of_neg (by rw [h2]; simp), List.length_cons]
      congr 2
      apply List.filter_congr
      intro z hz
      have hzy : z ≠ y := fun e => hg.1 (e ▸ hz)
      unfold outF; simp [hzy]
    · have hx' : x ∈ gs := (List.mem_cons.1 hx).resolve_left (fun h => e h.symm)
      have ih' := ih hg.2 hx'
      have h1 : outF (x :: c) y = outF c y := by unfold outF; simp [e]
      by_cases h2 : outF c y = true
      · rw [List.filter_cons_of_pos h2, List.filter_cons_of_pos (by rw [h1]; exact h2), List.length_cons, List.length_cons, ih']
      · rw [List.filter_cons_of_neg h2, List.filter_cons_of_neg (by rw [h1]; exact h2), ih']
theorem filt_nil (gs : List Int) : gs.filter (outF []) = gs := by
  rw [List.filter_eq_self]; intro x _; unfold outF; simp
theorem filt_len {gs : List Int} (hg : gs.Nodup) : ∀ {c : List Int}, c.Nodup → (∀ x ∈ c, x ∈ gs) → (gs.filter (outF c)).length + c.length = gs.length := by
  intro c
  induction c with
  | nil => intro _ _; rw [filt_nil]; simp
  | cons x c ih =>
    intro hc hs
    rw [List.nodup_cons] at hc
    have h1 := filt_one hg (hs x (List.mem_cons_self ..)) hc.1
    have h2 := ih hc.2 (fun y hy => hs y (List.mem_cons_of_mem _ hy))
    rw [List.length_cons]; omega
def nums (n : Nat) : List Int := (List.range n).map fun i : Nat => (i : Int)
theorem nums_len (n : Nat) : (nums n).length = n := by unfold nums; simp
theorem mem_nums {n : Nat} {x : Int} : x ∈ nums n ↔ 0 ≤ x ∧ x < n := by
  unfold nums
  rw [List.mem_map]
  constructor
  · rintro ⟨k, hk, rfl⟩; rw [List.mem_range] at hk; omega
  · rintro ⟨h0, h1⟩
    exact ⟨x.toNat, by rw [List.mem_range]; omega, by omega⟩
theorem nums_up (n : Nat) : (nums n).Pairwise (· < ·) := by
  unfold nums; rw [List.pairwise_map]; exact List.pairwise_lt_range.imp (fun h => by omega)
theorem up_nodup {xs : List Int} (h : xs.Pairwise (· < ·)) : xs.Nodup := h.imp (fun h => by omega)
theorem nums_succ (k : Nat) : nums (k + 1) = nums k ++ [(k : Int)] := by
  unfold nums; rw [List.range_succ, List.map_append]; rfl
/-- Different cells of n are at most n. -/
theorem pigeon {c : List Int} {n : Nat} (hc : c.Nodup) (h : ∀ x ∈ c, 0 ≤ x ∧ x < n) : c.length ≤ n := by
  have h9 := filt_len (up_nodup (nums_up n)) hc (fun x hx => mem_nums.2 (h x hx))
  rw [nums_len] at h9; omega
end Go.Proofs.Yteogflkahoanlaa

/- Plain facts of a heap whose cells are cleared. -/
namespace Go.Proofs.Yteogflkahoanlaa
open Go.RowKit

theorem hv_range {h : Hp} (hv : hvB h = true) : (∀ x ∈ h.l, -1 ≤ x ∧ x < h.l.length) ∧ (∀ x ∈ h.r, -1 ≤ x ∧ x < h.l.length) ∧ (∀ x ∈ h.t, -1 ≤ x ∧ x < h.l.length) := by
  obtain ⟨_, h3, h4, h5⟩ := hvB_parts hv
  rw [List.all_eq_true] at h3 h4 h5
  exact ⟨fun x hx => by simpa only [ptB, decide_eq_true_eq] using h3 x hx, fun x hx => by simpa only [ptB, decide_eq_true_eq] using h4 x hx, fun x hx => by simpa only [ptB, decide_eq_true_eq] using h5 x hx⟩
theorem clr_at {l cs : List Int} {i : Nat} {x : Int} (h : l[i]? = some x) : (clrN l cs l.length)[i]? = some (clrF cs i x) := by
  have hi := (List.getElem?_eq_some_iff.1 h).1
  rw [clrN_at, h]; simp [hi]
theorem clr_at' {l cs : List Int} {n i : Nat} {x : Int} (hn : l.length = n) (h : l[i]? = some x) : (clrN l cs n)[i]? = some (clrF cs i x) := by
  subst hn; exact clr_at h
theorem clr_mem {l cs : List Int} {n : Nat} (hn : l.length = n) {y : Int} (hy : y ∈ clrN l cs n) : y = -1 ∨ ∃ i : Nat, l[i]? = some y ∧ y ∉ cs ∧ (i : Int) ∉ cs := by
  obtain ⟨i, hi, e⟩ := List.getElem_of_mem hy
  have hi' : i < l.length := by rw [clrN_len] at hi; exact hi
  have h1 : l[i]? = some l[i] := List.getElem?_eq_getElem hi'
  have h2 := clr_at' (cs := cs) hn h1
  rw [List.getElem?_eq_getElem hi, e] at h2
  have h3 := Option.some.inj h2
  unfold clrF at h3
  by_cases h9 : l[i] ∈ cs ∨ (i : Int) ∈ cs
  · rw [if_pos h9] at h3; exact .inl h3
  · rw [if_neg h9] at h3
    refine .inr ⟨i, by rw [h1, h3], ?_⟩
    rw [h3]; exact ⟨fun h => h9 (.inl h), fun h => h9 (.inr h)⟩
theorem clear_heap {C : Cp} (cs : List Int) (hv : hvB C.h = true) : hvB (clearC C cs).h = true := by
  obtain ⟨⟨hrl, hsz⟩, _⟩ := hvB_parts hv
  obtain ⟨g1, g2, g3⟩ := hv_range hv
  have e : (clearC C cs).h.l.length = C.h.l.length := clrN_len _ _ _
  refine hvB_mk ?_ ?_ ?_ ?_ ?_
  · show (clrN C.h.r cs C.h.l.length).length = (clrN C.h.l cs C.h.l.length).length
    rw [clrN_len, clrN_len, hrl]
  · rw [e]; exact hsz
  all_goals
    rw [e, List.all_eq_true]
    intro y hy
    simp only [ptB, decide_eq_true_eq]
  · rcases clr_mem rfl hy with rfl | ⟨i, hi, _⟩
    · omega
    · exact g1 _ (List.mem_of_getElem? hi)
  · rcases clr_mem hrl hy with rfl | ⟨i, hi, _⟩
    · omega
    · exact g2 _ (List.mem_of_getElem? hi)
  · exact g3 y hy
theorem clear_none {C : Cp} (hl : C.h.r.length = C.h.l.length) : clearC C [] = C := by
  have h : ∀ l : List Int, l.length = C.h.l.length → clrN l [] C.h.l.length = l := fun l e => by
    apply List.ext_getElem?; intro i
    rw [clrN_at]
    cases hx : l[i]? with
    | none => rfl
    | some x => simp [clrF]
  unfold clearC
  rw [h _ rfl, h _ hl, List.append_nil]
theorem clr_clr {l a b : List Int} {n : Nat} (hn : l.length = n) : clrN (clrN l a n) b n = clrN l (a ++ b) n := by
  apply List.ext_getElem?; intro i
  rw [clrN_at, clrN_at, clrN_at]
  cases hx : l[i]? with
  | none => rfl
  | some x =>
    have hi : i < n := by have := (List.getElem?_eq_some_iff.1 hx).1; omega
    simp only [Option.map_some, if_pos hi]
    congr 1
    unfold clrF
    by_cases h1 : x ∈ a ∨ (i : Int) ∈ a
    · have e1 : x ∈ a ++ b ∨ (i : Int) ∈ a ++ b := by
        rcases h1 with h | h
        · exact .inl (List.mem_append_left _ h)
        · exact .inr (List.mem_append_left _ h)
      rw [if_pos h1, if_pos e1]
      split <;> rfl
    · rw [if_neg h1]
      by_cases h2 : x ∈ b ∨ (i : Int) ∈ b
      · have e2 : x ∈ a ++ b ∨ (i : Int) ∈ a ++ b := by
          rcases h2 with h | h
          · exact .inl (List.mem_append_right _ h)
          · exact .inr (List.mem_append_right _ h)
        rw [if_pos h2, if_pos e2]
      · rw [if_neg h2, if_neg (by
          rw [List.mem_append, List.mem_append]
          rintro ((h | h) | (h | h))
          · exact h1 (.inl h)
          · exact h2 (.inl h)
          · exact h1 (.inr h)
          · exact h2 (.inr h))]
theorem clrN_mem {l a b : List Int} (h : ∀ x, x ∈ a ↔ x ∈ b) (n : Nat) : clrN l a n = clrN l b n := by
  have e : clrF a = clrF b := by
    funext i x; unfold clrF
    by_cases h1 : x ∈ b ∨ (i : Int) ∈ b
    · rw [if_pos h1, if_pos (by rw [h, h]; exact h1)]
    · rw [if_neg h1, if_neg (by rw [h, h]; exact h1)]
  unfold clrN; rw [e]
/-- Cells cleared in two turns. -/
theorem clear_clear {C : Cp} (hr : C.h.r.length = C.h.l.length) (a b c : List Int) (hc : ∀ x, x ∈ c ↔ x ∈ a ∨ x ∈ b) : (clearC (clearC C a) b).h = (clearC C c).h := by
  show (⟨clrN (clrN C.h.l a C.h.l.length) b (clrN C.h.l a C.h.l.length).length, clrN (clrN C.h.r a C.h.l.length) b (clrN C.h.l a C.h.l.length).length, C.h.t⟩ : Hp) = ⟨clrN C.h.l c C.h.l.length, clrN C.h.r c C.h.l.length, C.h.t⟩
  have hm : ∀ x, x ∈ c ↔ x ∈ a ++ b := fun x => by rw [hc, List.mem_append]
  rw [clrN_len, clr_clr rfl, clr_clr hr, clrN_mem hm, clrN_mem hm]
theorem clear_snoc {C : Cp} (hr : C.h.r.length = C.h.l.length) (a : List Int) (x : Int) : clearC (clearC C a) [x] = clearC C (a ++ [x]) := by
  have h1 := clear_clear hr a [x] (a ++ [x]) (fun y => by simp)
  show (⟨(clearC (clearC C a) [x]).h, (C.c ++ a) ++ [x]⟩ : Cp) = ⟨(clearC C (a ++ [x])).h, C.c ++ (a ++ [x])⟩
  rw [h1, List.append_assoc]
end Go.Proofs.Yteogflkahoanlaa

/- Plain facts of stores: what is live stays live when garbage is cleared. -/
namespace Go.Proofs.Yteogflkahoanlaa
open Go.RowKit

theorem gd_at {l : List Int} {k : Nat} (hk : k < l.length) : l[k]? = some (gd l (k : Int)) := by
  unfold gd; simp [List.getD, List.getElem?_eq_getElem hk]
theorem live_lt {h : Hp} (hv : hvB h = true) {k : Nat} {b : Bool} (hk : (liveL h)[k]? = some b) : k < h.l.length := by
  have := (List.getElem?_eq_some_iff.1 hk).1; rw [liveL_len hv] at this; exact this
theorem live_iff {h : Hp} (hv : hvB h = true) {k : Nat} : (liveL h)[k]? = some true ↔ k < h.l.length ∧ 0 ≤ gd (dist h h.t) (k : Int) := by
  constructor
  · intro hk
    have h9 := live_get hv hk
    exact ⟨live_lt hv hk, by simpa using h9.symm⟩
  · rintro ⟨h1, h2⟩
    have hkl : k < (liveL h).length := by rw [liveL_len hv]; exact h1
    have hb := live_get hv (k := k) (List.getElem?_eq_getElem hkl)
    rw [List.getElem?_eq_getElem hkl, hb]; simp [h2]
theorem live_root {h : Hp} (hv : hvB h = true) {k : Nat} (hk : (k : Int) ∈ h.t) : (liveL h)[k]? = some true := by
  obtain ⟨_, _, _, h5⟩ := hvB_parts hv
  obtain ⟨c1, _⟩ := dist_closed hv h5
  have hr := (hv_range hv).2.2 _ hk
  exact (live_iff hv).2 ⟨by omega, c1 _ hk (by omega)⟩
theorem live_next {h : Hp} (hv : hvB h = true) {i k : Nat} (hi : (liveL h)[i]? = some true) (hx : h.l[i]? = some (k : Int) ∨ h.r[i]? = some (k : Int)) : (liveL h)[k]? = some true := by
  obtain ⟨⟨hrl, _⟩, _, _, h5⟩ := hvB_parts hv
  obtain ⟨_, c2⟩ := dist_closed hv h5
  obtain ⟨g1, g2, _⟩ := hv_range hv
  obtain ⟨hil, hig⟩ := (live_iff hv).1 hi
  have hkl : k < h.l.length := by
    rcases hx with e | e
    · have := g1 _ (List.mem_of_getElem? e); omega
    · have := g2 _ (List.mem_of_getElem? e); omega
  have hx' : (k : Int) = gd h.l (i : Int) ∨ (k : Int) = gd h.r (i : Int) := by
    rcases hx with e | e
    · left; rw [gd_at hil] at e; exact (Option.some.inj e).symm
    · right; rw [gd_at (by omega)] at e; exact (Option.some.inj e).symm
  rcases c2 (i : Int) (by omega) hig (k : Int) hx' (by omega) with h9 | h9
  · exact (live_iff hv).2 ⟨hkl, h9⟩
  · simp at h9
theorem live_least {h : Hp} (hv : hvB h = true) (S : Nat → Prop) (h0 : ∀ k : Nat, (k : Int) ∈ h.t → S k)
    (hS : ∀ i k : Nat, S i → (liveL h)[i]? = some true → (h.l[i]? = some (k : Int) ∨ h.r[i]? = some (k : Int)) → S k) {k : Nat} (hk : (liveL h)[k]? = some true) : S k := by
  obtain ⟨⟨hrl, _⟩, _, _, h5⟩ := hvB_parts hv
  obtain ⟨g1, g2, g3⟩ := hv_range hv
  obtain ⟨hkl, hkg⟩ := (live_iff hv).1 hk
  have h9 := dist_least hv h5 (fun c => ∃ j : Nat, c = j ∧ S j ∧ (liveL h)[j]? = some true)
    (fun x hx hne => by
      have := g3 x hx
      obtain ⟨j, rfl⟩ := Int.eq_ofNat_of_zero_le (by omega : 0 ≤ x)
      exact ⟨j, rfl, h0 j hx, live_root hv hx⟩)
    (fun c hc x hx hne => by
      obtain ⟨i, rfl, hSi, hi⟩ := hc
      obtain ⟨hil, _⟩ := (live_iff hv).1 hi
      have hx2 : h.l[i]? = some x ∨ h.r[i]? = some x := by
        rcases hx with e | e
        · left; rw [e]; exact gd_at hil
        · right; rw [e]; exact gd_at (by omega)
      have hp : -1 ≤ x := by
        rcases hx2 with e | e
        · exact (g1 _ (List.mem_of_getElem? e)).1
        · exact (g2 _ (List.mem_of_getElem? e)).1
      obtain ⟨j, rfl⟩ := Int.eq_ofNat_of_zero_le (by omega : 0 ≤ x)
      exact ⟨j, rfl, hS i j hSi hi hx2, live_next hv hi hx2⟩) (k : Int) (by omega) hkg
  obtain ⟨j, e, hj, _⟩ := h9
  obtain rfl : k = j := by omega
  exact hj
/-- Live cells are the same where live cells point to the same. -/
theorem live_same {h h' : Hp} (hv : hvB h = true) (hv' : hvB h' = true) (hlen : h'.l.length = h.l.length) (ht : h'.t = h.t)
    (ha : ∀ i : Nat, (liveL h)[i]? = some true → h'.l[i]? = h.l[i]? ∧ h'.r[i]? = h.r[i]?) : liveL h' = liveL h := by
  have s1 : ∀ k : Nat, (liveL h')[k]? = some true → (liveL h)[k]? = some true := fun k hk =>
    live_least hv' (fun k => (liveL h)[k]? = some true) (fun j hj => live_root hv (by rw [← ht]; exact hj))
      (fun i j hi _ hx => live_next hv hi (by rw [← (ha i hi).1, ← (ha i hi).2]; exact hx)) hk
  have s2 : ∀ k : Nat, (liveL h)[k]? = some true → (liveL h')[k]? = some true := fun k hk =>
    live_least hv (fun k => (liveL h')[k]? = some true) (fun j hj => live_root hv' (by rw [ht]; exact hj))
      (fun i j hi hl hx => live_next hv' hi (by rw [(ha i hl).1, (ha i hl).2]; exact hx)) hk
  have hll : (liveL h').length = (liveL h).length := by rw [liveL_len hv, liveL_len hv', hlen]
  refine List.ext_getElem hll fun j hj1 hj2 => ?_
  have e1 : (liveL h')[j]? = some (liveL h')[j] := List.getElem?_eq_getElem hj1
  have e2 : (liveL h)[j]? = some (liveL h)[j] := List.getElem?_eq_getElem hj2
  cases h1 : (liveL h')[j] <;> cases h2 : (liveL h)[j]
  · rfl
  · rw [h2] at e2; have := s2 j e2; rw [e1, h1] at this; cases this
  · rw [h1] at e1; have := s1 j e1; rw [e2, h2] at this; cases this
  · rfl
/-- What nothing points to is not live. -/
theorem unlive {h : Hp} (hv : hvB h = true) {k : Nat} (hk : k < h.l.length) (h1 : (k : Int) ∉ h.l) (h2 : (k : Int) ∉ h.r) (h3 : (k : Int) ∉ h.t) : (liveL h)[k]? = some false := by
  have hkl : k < (liveL h).length := by rw [liveL_len hv]; exact hk
  have e : (liveL h)[k]? = some (liveL h)[k] := List.getElem?_eq_getElem hkl
  cases hb : (liveL h)[k]
  · rw [e, hb]
  · rw [hb] at e
    exact absurd rfl (live_least hv (fun j => j ≠ k) (fun j hj ej => h3 (ej ▸ hj)) (fun i j _ _ hx ej => by
      subst ej
      rcases hx with e | e
      · exact h1 (List.mem_of_getElem? e)
      · exact h2 (List.mem_of_getElem? e)) e)
theorem mem_garb {h : Hp} {k : Nat} : (k : Int) ∈ garb h ↔ (liveL h)[k]? = some false := by
  unfold garb garbN
  rw [List.mem_map]
  constructor
  · rintro ⟨j, hj, e⟩
    obtain rfl : j = k := by omega
    rw [List.mem_filter, List.mem_range] at hj
    have h9 := hj.2
    rw [List.getElem?_eq_getElem hj.1]
    simp [List.getD, List.getElem?_eq_getElem hj.1] at h9
    rw [h9]
  · intro hk
    obtain ⟨hkl, e⟩ := List.getElem?_eq_some_iff.1 hk
    exact ⟨k, by rw [List.mem_filter, List.mem_range]; exact ⟨hkl, by simp [List.getD, hk]⟩, rfl⟩
theorem garb_nat {h : Hp} {x : Int} (hx : x ∈ garb h) : ∃ k : Nat, x = k := by
  unfold garb garbN at hx
  rw [List.mem_map] at hx
  obtain ⟨k, _, rfl⟩ := hx
  exact ⟨k, rfl⟩
theorem garb_up (h : Hp) : (garb h).Pairwise (· < ·) := by
  unfold garb garbN
  rw [List.pairwise_map]
  exact (List.Pairwise.filter _ List.pairwise_lt_range).imp (fun h => by omega)
theorem garb_nodup (h : Hp) : (garb h).Nodup := up_nodup (garb_up h)
theorem garb_lt {h : Hp} (hv : hvB h = true) {x : Int} (hx : x ∈ garb h) : 0 ≤ x ∧ x < h.l.length := by
  obtain ⟨k, rfl⟩ := garb_nat hx
  have := live_lt hv (mem_garb.1 hx); omega
theorem garbN_countS (xs : List Bool) : ∀ k : Nat, k ≤ xs.length → ((garbN xs k).length : Int) + cntB (xs.take k) = k := by
  intro k
  induction k with
  | zero => intro _; simp [garbN, cntB]
  | succ k ih =>
    intro hk
    have hkl : k < xs.length := by omega
    have ih' := ih (by omega)
    have e : xs.getD k true = xs[k] := by simp [List.getD, List.getElem?_eq_getElem hkl]
    rw [garbN_succ, e, List.take_add_one, List.getElem?_eq_getElem hkl, cntB_snoc]
    cases hx : xs[k]
    · simp; omega
    · simp; omega
theorem garb_count {h : Hp} (hv : hvB h = true) : ((garb h).length : Int) + cntB (liveL h) = h.l.length := by
  have h9 := garbN_countS (liveL h) (liveL h).length (Nat.le_refl _)
  rw [List.take_of_length_le (Nat.le_refl _)] at h9
  rw [← liveL_len hv]; exact h9
theorem garb_of_live {h h' : Hp} (e : liveL h' = liveL h) : garb h' = garb h := by unfold garb; rw [e]

theorem freeB_parts {h : Hp} {x : Int} (e : freeB h x = true) : ∃ k : Nat, x = k ∧ k < h.l.length ∧ h.l[k]? = some (-1) ∧ h.r[k]? = some (-1) ∧ (k : Int) ∉ h.l ∧ (k : Int) ∉ h.r ∧ (k : Int) ∉ h.t := by
  simp only [freeB, decide_eq_true_eq] at e
  obtain ⟨h0, h1, h2, h3, h4, h5, h6⟩ := e
  obtain ⟨k, rfl⟩ := Int.eq_ofNat_of_zero_le h0
  exact ⟨k, rfl, by omega, by simpa using h2, by simpa using h3, h4, h5, h6⟩
theorem freeB_mk {h : Hp} {k : Nat} (h1 : k < h.l.length) (h2 : h.l[k]? = some (-1)) (h3 : h.r[k]? = some (-1)) (h4 : (k : Int) ∉ h.l) (h5 : (k : Int) ∉ h.r) (h6 : (k : Int) ∉ h.t) : freeB h (k : Int) = true := by
  simp only [freeB, decide_eq_true_eq]
  exact ⟨by omega, by omega, by simpa using h2, by simpa using h3, h4, h5, h6⟩
/-- Free cells are garbage. -/
theorem free_garb {C : Cp} (hC : stoB C = true) {x : Int} (hx : x ∈ C.c) : x ∈ garb C.h := by
  obtain ⟨hv, _, hf, _⟩ := stoB_parts hC
  obtain ⟨k, rfl, h1, _, _, h4, h5, h6⟩ := freeB_parts (hf x hx)
  exact mem_garb.2 (unlive hv h1 h4 h5 h6)
theorem leak_eq {C : Cp} (hC : stoB C = true) : leakL C = (garb C.h).filter (outF C.c) := by
  unfold leakL leakN; rw [if_pos hC, List.take_of_length_le (Nat.le_refl _)]; rfl
theorem leak_bad {C : Cp} (hC : stoB C = false) : leakL C = [] := by unfold leakL; rw [hC]; simp
theorem leak_up (C : Cp) : (leakL C).Pairwise (· < ·) := by
  rcases e : stoB C
  · rw [leak_bad e]; exact List.Pairwise.nil
  · rw [leak_eq e]; exact (garb_up C.h).filter _
theorem leak_nodup (C : Cp) : (leakL C).Nodup := up_nodup (leak_up C)
theorem mem_leak {C : Cp} {x : Int} (hx : x ∈ leakL C) : stoB C = true ∧ x ∈ garb C.h ∧ x ∉ C.c := by
  rcases e : stoB C
  · rw [leak_bad e] at hx; cases hx
  · rw [leak_eq e, List.mem_filter, outF_iff] at hx; exact ⟨rfl, hx⟩
theorem leak_mem {C : Cp} (hC : stoB C = true) {x : Int} (h1 : x ∈ garb C.h) (h2 : x ∉ C.c) : x ∈ leakL C := by
  rw [leak_eq hC, List.mem_filter, outF_iff]; exact ⟨h1, h2⟩
/-- Live, free and leaked cells are all cells. -/
theorem leak_count {C : Cp} (hC : stoB C = true) : ((leakL C).length : Int) + C.c.length + cntB (liveL C.h) = C.h.l.length := by
  obtain ⟨hv, _, _, hn⟩ := stoB_parts hC
  have h1 := filt_len (garb_nodup C.h) hn (fun x hx => free_garb hC hx)
  have h2 := garb_count hv
  rw [leak_eq hC]; omega

theorem clear_live {C : Cp} {cs : List Int} (hC : stoB C = true) (hs : ∀ x ∈ cs, x ∈ leakL C) : liveL (clearC C cs).h = liveL C.h := by
  obtain ⟨hv, _⟩ := stoB_parts hC
  obtain ⟨⟨hrl, _⟩, _⟩ := hvB_parts hv
  have hdead : ∀ k : Nat, (liveL C.h)[k]? = some true → (k : Int) ∉ cs := fun k hk hm => by
    have h9 := mem_garb.1 (mem_leak (hs _ hm)).2.1
    rw [hk] at h9; cases h9
  obtain ⟨g1, g2, _⟩ := hv_range hv
  refine live_same hv (clear_heap cs hv) (clrN_len _ _ _) rfl fun i hi => ?_
  have hil := live_lt hv hi
  have key : ∀ (l : List Int), l.length = C.h.l.length → (∀ x ∈ l, -1 ≤ x ∧ x < C.h.l.length) → (∀ k : Nat, l[i]? = some (k : Int) → (liveL C.h)[k]? = some true) → (clrN l cs C.h.l.length)[i]? = l[i]? := fun l hl hr hn => by
    have h1 : l[i]? = some l[i] := List.getElem?_eq_getElem (by omega)
    rw [clr_at' hl h1, h1]
    congr 1
    unfold clrF
    by_cases h9 : l[i] ∈ cs ∨ (i : Int) ∈ cs
    · rw [if_pos h9]
      rcases h9 with h9 | h9
      · have hb := (garb_lt hv (mem_leak (hs _ h9)).2.1).1
        obtain ⟨k, hk⟩ := Int.eq_ofNat_of_zero_le hb
        rw [hk] at h9 h1
        exact absurd h9 (hdead k (hn k h1))
      · exact absurd h9 (hdead i hi)
    · rw [if_neg h9]
  exact ⟨key C.h.l rfl g1 (fun k hk => live_next hv hi (.inl hk)), key C.h.r hrl g2 (fun k hk => live_next hv hi (.inr hk))⟩
theorem clear_valid {C : Cp} {cs : List Int} (hC : stoB C = true) (hs : ∀ x ∈ cs, x ∈ leakL C) (hn : cs.Nodup) : stoB (clearC C cs) = true := by
  obtain ⟨hv, _, hf, hd⟩ := stoB_parts hC
  obtain ⟨⟨hrl, _⟩, _⟩ := hvB_parts hv
  have hv' := clear_heap (C := C) cs hv
  have e : (clearC C cs).h.l.length = C.h.l.length := clrN_len _ _ _
  have hnd : (clearC C cs).c.Nodup := by
    show (C.c ++ cs).Nodup
    rw [List.nodup_append]
    exact ⟨hd, hn, fun a ha b hb e => (mem_leak (hs b hb)).2.2 (e ▸ ha)⟩
  have hfree : ∀ x ∈ (clearC C cs).c, freeB (clearC C cs).h x = true := by
    intro x hx
    rcases List.mem_append.1 hx with hx | hx
    · obtain ⟨k, rfl, h1, h2, h3, h4, h5, h6⟩ := freeB_parts (hf x hx)
      refine freeB_mk (by rw [e]; exact h1) ?_ ?_ ?_ ?_ h6
      · show (clrN C.h.l cs C.h.l.length)[k]? = some (-1)
        rw [clr_at' rfl h2]; unfold clrF; split <;> rfl
      · show (clrN C.h.r cs C.h.l.length)[k]? = some (-1)
        rw [clr_at' hrl h3]; unfold clrF; split <;> rfl
      · intro hm
        rcases clr_mem rfl hm with h9 | ⟨i, hi, _⟩
        · omega
        · exact h4 (List.mem_of_getElem? hi)
      · intro hm
        rcases clr_mem hrl hm with h9 | ⟨i, hi, _⟩
        · omega
        · exact h5 (List.mem_of_getElem? hi)
    · obtain ⟨_, hg, _⟩ := mem_leak (hs x hx)
      obtain ⟨k, rfl⟩ := garb_nat hg
      have hlv := mem_garb.1 hg
      have hkl := live_lt hv hlv
      refine freeB_mk (by rw [e]; exact hkl) ?_ ?_ ?_ ?_ ?_
      · show (clrN C.h.l cs C.h.l.length)[k]? = some (-1)
        rw [clr_at' rfl (List.getElem?_eq_getElem hkl)]; unfold clrF; rw [if_pos (.inr hx)]
      · show (clrN C.h.r cs C.h.l.length)[k]? = some (-1)
        rw [clr_at' hrl (List.getElem?_eq_getElem (by omega))]; unfold clrF; rw [if_pos (.inr hx)]
      · intro hm
        rcases clr_mem rfl hm with h9 | ⟨i, _, h9, _⟩
        · omega
        · exact h9 hx
      · intro hm
        rcases clr_mem hrl hm with h9 | ⟨i, _, h9, _⟩
        · omega
        · exact h9 hx
      · intro hm
        have h9 := live_root hv (k := k) hm
        rw [hlv] at h9; cases h9
  refine stoB_of hv' ?_ hfree hnd
  exact pigeon hnd (fun x hx => by
    obtain ⟨k, rfl, h1, _⟩ := freeB_parts (hfree x hx)
    omega)
theorem clear_leak {C : Cp} {cs : List Int} (hC : stoB C = true) (hs : ∀ x ∈ cs, x ∈ leakL C) (hn : cs.Nodup) : leakL (clearC C cs) = (leakL C).filter (outF cs) := by
  rw [leak_eq (clear_valid hC hs hn), leak_eq hC, garb_of_live (clear_live hC hs), List.filter_filter]
  apply List.filter_congr
  intro x _
  show outF (C.c ++ cs) x = _
  unfold outF
  by_cases h1 : x ∈ C.c <;> by_cases h2 : x ∈ cs <;> simp [h1, h2]
theorem filt_all (cs : List Int) : cs.filter (outF cs) = [] := by
  rw [List.filter_eq_nil_iff]; intro x hx; unfold outF; simp [hx]
theorem collect_leak {C : Cp} (hC : stoB C = true) : stoB (clearC C (leakL C)) = true ∧ leakL (clearC C (leakL C)) = [] := by
  have h1 := clear_valid hC (fun _ h => h) (leak_nodup C)
  exact ⟨h1, by rw [clear_leak hC (fun _ h => h) (leak_nodup C), filt_all]⟩
end Go.Proofs.Yteogflkahoanlaa

