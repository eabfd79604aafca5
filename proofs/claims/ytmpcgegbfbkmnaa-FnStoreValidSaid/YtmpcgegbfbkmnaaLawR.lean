/- Words for the walks of the laws of stores, with rows. -/
import Derived.Test.YtmpcgegbfbkmnaaLawSs
import Derived.Test.YtmpcgegbfbkmnaaCcs
import Derived.Test.YtmpcgegbfbkmnaaSrc
import Derived.Test.YtmpcgegbfbkmnaaLives
import Derived.Test.YtmpcgegbfbkmnaaSFree
import Derived.Test.YtmpcgegbfbkmnaaIStoL
namespace Go.Proofs.Ytmpcgegbfbkmnaa
open Go.RowKit

theorem Blk4.drew {w : World} {b : Nat} {x y z q : Value} {t : TypeId} (h : Blk4 w b x y z q t) : Blk4 w.drew b x y z q t := h
theorem row_maxL {w : World} {lo n c : Nat} {A : Option Addr} {xs : List Int} (h : Row w lo (.slice A n c) xs) : xs.length ≤ 9223372036854775807 := by
  obtain ⟨A', c', _, h1, h2⟩ := h.form
  unfold maxLen at h2; omega
/-- A row is nil, or lies in a block. -/
theorem Row.cases {w : World} {lo n c : Nat} {A : Option Addr} {xs : List Int} (h : Row w lo (.slice A n c) xs) : (A = none ∧ n = 0 ∧ c = 0 ∧ xs = []) ∨ ∃ g, A = some ⟨g, 0, none⟩ := by
  rcases h.2 with ⟨e, h0⟩ | ⟨g, cap, cur, e, _⟩
  · cases e; exact .inl ⟨rfl, rfl, rfl, List.length_eq_zero_iff.1 h0⟩
  · cases e; exact .inr ⟨g, rfl⟩
theorem ccInts_eqL (w : World) (lo lo' : Nat) (A A' : Option Addr) (n c c' : Nat) (xs : List Int) (hn : xs.length = n) (h : Row w lo (.slice A n c) xs) (h' : Row w lo' (.slice A' n c') xs) :
    Calls Try.prog 23 #[.slice A n c, .slice A' n c'] w (RetB w true) :=
  (ccInts_any w lo lo' A A' n c n c' xs xs h hn (hn ▸ row_maxL h) h' hn (hn ▸ row_maxL h')).mono fun _ _ ⟨he, nq, hw⟩ => ⟨by rw [he]; simp, by rw [hw]; exact below_drewN (Below.refl _ _) _⟩
/-- The same, where the cells of the first row are known one by one. -/
theorem collectO_again {C D : Cp} (h : collectO C = some D) : stoB C = true ∧ D.c = C.c ++ leakL C ∧ collectO D = some D ∧ stoB D = true ∧ leakL D = [] ∧ liveL D.h = liveL C.h ∧ D.h.t = C.h.t ∧ D.h.l.length = C.h.l.length ∧ D.h.r.length = C.h.r.length := by
  obtain ⟨hC, rfl⟩ := collectO_some h
  obtain ⟨h1, h2⟩ := collect_leak hC
  obtain ⟨hv, _⟩ := stoB_parts h1
  refine ⟨hC, rfl, ?_, h1, h2, clear_live hC (fun _ h => h), rfl, clrN_len _ _ _, clrN_len _ _ _⟩
  rw [collectO_of h1, h2, clear_none]
  obtain ⟨⟨hrl, _⟩, _⟩ := hvB_parts hv
  exact hrl
theorem leak_bds {C : Cp} (hC : stoB C = true) : (leakL C).length ≤ 8 ∧ C.c.length ≤ 8 := by
  have h9 := leak_count hC
  obtain ⟨hv, h1, _⟩ := stoB_parts hC
  have h8 := hvB_len hv
  have h7 := cntB_bd (liveL C.h)
  omega
theorem lens4 {w : World} {lo : Nat} {A0 A1 A2 A3 : Option Addr} {n0 n1 n2 n3 c0 c1 c2 c3 : Nat} {C : Cp} (h : Cv w lo (.agg #[.slice A0 n0 c0, .slice A1 n1 c1, .slice A2 n2 c2, .slice A3 n3 c3]) C) : C.h.l.length = n0 ∧ C.h.r.length = n1 ∧ C.h.t.length = n2 ∧ C.c.length = n3 :=
  ⟨lenS h.rowsS.1, lenS h.rowsS.2.1, lenS h.rowsS.2.2.1, lenS h.rowsS.2.2.2⟩
theorem leakN_any (n : Nat) (w : World) (lo : Nat) (v : Value) (C : Cp) (hv : Cv w lo v C) (hn : (leakL C).length = n) : Calls Try.prog 22 #[v] w fun e w' => ∃ A c, e = .returned (.slice A n c) ∧ Below w.heap.size w w' :=
  (implLeaked_any w lo v C hv).mono fun e w' ⟨A, c, he, _, hb⟩ => ⟨A, c, by rw [he, hn], hb⟩
theorem AtR.dropE {w : World} {lo g n c : Nat} {xs ys : List Int} (h : Row w lo (.slice (some ⟨g, 0, none⟩) n c) xs) (j : Nat) (e : xs.drop j = ys) : AtR w (some ⟨g, j, none⟩) ys := e ▸ AtR.drop h j
theorem AtR.takeE {w : World} {A : Option Addr} {xs ys : List Int} (h : AtR w A xs) (j : Nat) (e : xs.take j = ys) : AtR w A ys := fun k x hx => h k x (by
  rw [← e, List.getElem?_take] at hx
  split at hx
  · exact hx
  · cases hx)
theorem Row.eq_same {w : World} {lo lo' : Nat} {v v' : Value} {C : Cp} (h : Cv w lo v C) (h' : Cv w lo' v' C) : Calls Try.prog 18 #[v, v'] w (RetB w true) := by
  have h9 := implStoreSame_any w lo lo' v v' C C h h'
  rwa [sameC_self] at h9
theorem AtR.nil (w : World) (A : Option Addr) : AtR w A [] := fun k x hx => by simp at hx
theorem freeO_not {C : Cp} {k : Int} (h : k ∉ leakL C) : freeO C k = none := by unfold freeO; rw [if_neg h]
theorem isFree_facts {C : Cp} {x : Int} (h : isFreeB C x = true) : hvB C.h = true ∧ ∃ k : Nat, x = k ∧ k < C.h.l.length ∧ C.h.l[k]? = some (-1) ∧ C.h.r[k]? = some (-1) ∧ (liveL C.h)[k]? = some false ∧ srcs C.h x = [] := by
  unfold isFreeB at h
  rw [Bool.and_eq_true, decide_eq_true_eq] at h
  obtain ⟨hv, _, hf, _⟩ := stoB_parts h.1
  obtain ⟨k, rfl, h1, h2, h3, h4, h5, h6⟩ := freeB_parts (hf x h.2)
  refine ⟨hv, k, rfl, h1, h2, h3, unlive hv h1 h4 h5 h6, ?_⟩
  obtain ⟨⟨hrl, _⟩, _⟩ := hvB_parts hv
  unfold srcs
  split
  · unfold srcN
    rw [List.map_eq_nil_iff, List.filter_eq_nil_iff]
    intro i hi hp
    rw [List.mem_range] at hi
    unfold pntB at hp
    have hl : C.h.l.getD i 0 = C.h.l[i] := by simp [List.getD, List.getElem?_eq_getElem hi]
    have hr : C.h.r.getD i 0 = C.h.r[i]'(by omega) := by simp [List.getD, List.getElem?_eq_getElem (show i < C.h.r.length by omega)]
    rw [hl, hr, Bool.or_eq_true, beq_iff_eq, beq_iff_eq] at hp
    rcases hp with hp | hp
    · exact h4 (hp ▸ List.getElem_mem hi)
    · exact h5 (hp ▸ List.getElem_mem _)
  · rfl
end Go.Proofs.Ytmpcgegbfbkmnaa
