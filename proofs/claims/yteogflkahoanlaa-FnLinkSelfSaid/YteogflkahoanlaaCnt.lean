/- Counts of references: plain facts. -/
import Derived.Test.YteogflkahoanlaaStos
import Derived.Test.YteogflkahoanlaaPure
namespace Go.Proofs.Yteogflkahoanlaa
open Go.RowKit

/-- A pointer is counted. -/
def bump (n : List Int) (x : Int) : List Int := if 0 ≤ x then n.set x.toNat (n.getD x.toNat 0 + 1) else n
theorem bump_len (n : List Int) (x : Int) : (bump n x).length = n.length := by unfold bump; split <;> simp
theorem bump_none (n : List Int) : bump n (-1) = n := by unfold bump; rw [if_neg (by omega)]
theorem bump_at {n : List Int} {k : Nat} {y : Int} (h : n[k]? = some y) : bump n (k : Int) = n.set k (y + 1) := by
  unfold bump; rw [if_pos (by omega)]; simp [List.getD, h]
theorem bump_get {n : List Int} {x : Int} {k : Nat} {y : Int} (hk : n[k]? = some y) : (bump n x)[k]? = some (y + if x = (k : Int) then 1 else 0) := by
  have hl := (List.getElem?_eq_some_iff.1 hk).1
  unfold bump
  split
  · rename_i h0
    by_cases e : x = (k : Int)
    · subst e
      rw [if_pos rfl, Int.toNat_natCast, List.getElem?_set_self hl]; simp [List.getD, hk]
    · rw [if_neg e, List.getElem?_set_ne (by omega), hk]; simp
  · rw [if_neg (by omega), hk]; simp
def bumps (n : List Int) (xs : List Int) : List Int := xs.foldl bump n
theorem bumps_len (xs : List Int) : ∀ n : List Int, (bumps n xs).length = n.length := by
  induction xs with
  | nil => intro n; rfl
  | cons x xs ih => intro n; exact (ih (bump n x)).trans (bump_len n x)
theorem bumps_take {n xs : List Int} {i : Nat} {k : Int} (h : xs[i]? = some k) : bumps n (xs.take (i + 1)) = bump (bumps n (xs.take i)) k := by
  unfold bumps
  rw [List.take_add_one, h, Option.toList_some, List.foldl_append]; rfl
theorem bumps_app (n xs ys : List Int) : bumps n (xs ++ ys) = bumps (bumps n xs) ys := List.foldl_append
theorem bumps_get (xs : List Int) : ∀ {n : List Int} {k : Nat} {y : Int}, n[k]? = some y → (bumps n xs)[k]? = some (y + (xs.count (k : Int) : Nat)) := by
  induction xs with
  | nil => intro n k y h; simpa [bumps] using h
  | cons x xs ih =>
    intro n k y h
    have h9 := ih (bump_get (x := x) h)
    show (bumps (bump n x) xs)[k]? = _
    rw [h9, List.count_cons]
    congr 1
    by_cases e : x = (k : Int)
    · simp [e]; omega
    · simp [e]
theorem bump_bd {n : List Int} {B : Int} (x : Int) (h : ∀ y ∈ n, 0 ≤ y ∧ y ≤ B) : ∀ y ∈ bump n x, 0 ≤ y ∧ y ≤ B + 1 := by
  intro y hy
  unfold bump at hy
  split at hy
  · rcases List.mem_or_eq_of_mem_set hy with h9 | h9
    · have := h y h9; omega
    · by_cases hk : x.toNat < n.length
      · have := h n[x.toNat] (List.getElem_mem hk)
        simp [List.getD, List.getElem?_eq_getElem hk] at h9; omega
      · rw [List.set_eq_of_length_le (by omega)] at hy
        have := h y hy; omega
  · have := h y hy; omega
theorem bumps_bd (xs : List Int) : ∀ {n : List Int} {B : Int}, (∀ y ∈ n, 0 ≤ y ∧ y ≤ B) → ∀ y ∈ bumps n xs, 0 ≤ y ∧ y ≤ B + xs.length := by
  induction xs with
  | nil => intro n B h; simpa [bumps] using h
  | cons x xs ih =>
    intro n B h y hy
    have h9 := ih (bump_bd x h) y hy
    rw [List.length_cons]; omega
/-- The counts of the cells of a heap. -/
def cnts (h : Hp) : List Int := bumps (List.replicate h.l.length 0) ((h.l ++ h.r) ++ h.t)
theorem cnts_len (h : Hp) : (cnts h).length = h.l.length := by unfold cnts; rw [bumps_len]; simp
theorem cnts_get {h : Hp} {k : Nat} (hk : k < h.l.length) : (cnts h)[k]? = some ((h.l.count (k : Int) + h.r.count (k : Int) + h.t.count (k : Int) : Nat) : Int) := by
  unfold cnts
  have h0 : (List.replicate h.l.length (0 : Int))[k]? = some 0 := by simp [hk]
  rw [bumps_get _ h0, List.count_append, List.count_append]; simp
def cntO (h : Hp) : List Int := if hvB h = true then cnts h else []
/-- A store with its counts. -/
structure Dp where
  C : Cp
  n : List Int
def Dp.zero : Dp := ⟨Cp.zero, []⟩
def dpB (D : Dp) : Bool := stoB D.C && decide (D.n = cntO D.C.h)
theorem dpB_iff {D : Dp} : dpB D = true ↔ stoB D.C = true ∧ D.n = cnts D.C.h := by
  unfold dpB
  rw [Bool.and_eq_true, decide_eq_true_eq]
  constructor
  · rintro ⟨h1, h2⟩
    rw [cntO, if_pos (stoB_parts h1).1] at h2; exact ⟨h1, h2⟩
  · rintro ⟨h1, h2⟩
    rw [cntO, if_pos (stoB_parts h1).1]; exact ⟨h1, h2⟩
/-- What is left to be given up, and where it stands. -/
structure Sn where
  h : Hp
  c : List Int
  n : List Int
  ws : List Int
def Sn.end_ (S : Sn) : Dp := ⟨⟨S.h, S.c⟩, S.n⟩
/-- A pointer to a cell is given up. -/
def dn (h : Hp) (c n : List Int) (x : Int) (r : List Int) : Sn :=
  if x = -1 then ⟨h, c, n, r⟩
  else if n.getD x.toNat 0 = 1 then ⟨⟨h.l.set x.toNat (-1), h.r.set x.toNat (-1), h.t⟩, c ++ [x], n.set x.toNat 0, r ++ [h.l.getD x.toNat 0, h.r.getD x.toNat 0]⟩
  else ⟨h, c, n.set x.toNat (n.getD x.toNat 0 - 1), r⟩
def down : Nat → Sn → Dp
  | 0, S => S.end_
  | f + 1, S => match S.ws with
    | [] => S.end_
    | x :: r => down f (dn S.h S.c S.n x r)
def muD (S : Sn) : Nat := S.ws.length + 2 * (S.h.l.length - S.c.length)
def fin_ (S : Sn) : Dp := down (muD S) S
structure InvD (S : Sn) : Prop where
  v : hvB S.h = true
  nl : S.n.length = S.h.l.length
  rng : ∀ x ∈ S.ws, -1 ≤ x ∧ x < S.h.l.length
  cnt : ∀ k : Nat, k < S.h.l.length → S.n[k]? = some ((S.h.l.count (k : Int) + S.h.r.count (k : Int) + S.h.t.count (k : Int) + S.ws.count (k : Int) : Nat) : Int)
  cl : S.c.length ≤ S.h.l.length
  cf : ∀ x ∈ S.c, freeB S.h x = true ∧ x ∉ S.ws
  cn : S.c.Nodup
theorem count_set (l : List Int) : ∀ {k : Nat} {y z j : Int}, l[k]? = some y → (l.set k z).count j + (if y = j then 1 else 0) = l.count j + (if z = j then 1 else 0) := by
  induction l with
  | nil => intro k y z j h; simp at h
  | cons a l ih =>
    intro k y z j h
    cases k with
    | zero =>
      simp at h; subst h
      rw [List.set_cons_zero, List.count_cons, List.count_cons]
      by_cases e1 : a = j <;> by_cases e2 : z = j <;> simp [e1, e2]
    | succ k =>
      simp at h
      have h9 := ih (z := z) (j := j) h
      rw [List.set_cons_succ, List.count_cons, List.count_cons]; omega
theorem nodup_below {c : List Int} {n : Nat} (hc : c.Nodup) (h : ∀ x ∈ c, 0 ≤ x ∧ x < n) : c.length ≤ n := by
  induction n generalizing c with
  | zero =>
    cases c with
    | nil => simp
    | cons x c => have := h x (List.mem_cons_self ..); omega
  | succ n ih =>
    by_cases hm : (n : Int) ∈ c
    · have h9 := ih (hc.erase (n : Int)) (fun x hx => by
        have h1 := h x (List.mem_of_mem_erase hx)
        have h2 := ((hc.mem_erase_iff).1 hx).1
        omega)
      rw [List.length_erase_of_mem hm] at h9; omega
    · have h9 := ih hc (fun x hx => by
        have h1 := h x hx
        have h2 : x ≠ (n : Int) := fun e => hm (e ▸ hx)
        omega)
      omega
theorem hv_rng {h : Hp} (hv : hvB h = true) : (∀ x ∈ h.l, -1 ≤ x ∧ x < h.l.length) ∧ (∀ x ∈ h.r, -1 ≤ x ∧ x < h.l.length) ∧ (∀ x ∈ h.t, -1 ≤ x ∧ x < h.l.length) := by
  obtain ⟨_, h3, h4, h5⟩ := hvB_parts hv
  rw [List.all_eq_true] at h3 h4 h5
  exact ⟨fun x hx => by simpa only [ptB, decide_eq_true_eq] using h3 x hx, fun x hx => by simpa only [ptB, decide_eq_true_eq] using h4 x hx, fun x hx => by simpa only [ptB, decide_eq_true_eq] using h5 x hx⟩
theorem fr_iff {h : Hp} {k : Nat} : freeB h (k : Int) = true ↔ k < h.l.length ∧ h.l[k]? = some (-1) ∧ h.r[k]? = some (-1) ∧ (k : Int) ∉ h.l ∧ (k : Int) ∉ h.r ∧ (k : Int) ∉ h.t := by
  unfold freeB
  rw [decide_eq_true_eq, Int.toNat_natCast]
  constructor
  · rintro ⟨_, h1, h2⟩; exact ⟨by omega, h2⟩
  · rintro ⟨h1, h2⟩; exact ⟨by omega, by omega, h2⟩
theorem fr_nat {h : Hp} {x : Int} (e : freeB h x = true) : ∃ k : Nat, x = k := by
  unfold freeB at e
  rw [decide_eq_true_eq] at e
  exact Int.eq_ofNat_of_zero_le e.1
theorem all_upd {l : List Int} {p : Int → Bool} {k : Nat} {x : Int} (h : l.all p = true) (hx : p x = true) : (l.set k x).all p = true := by
  rw [List.all_eq_true] at h ⊢
  intro y hy
  rcases List.mem_or_eq_of_mem_set hy with h9 | h9
  · exact h y h9
  · rw [h9]; exact hx
theorem notin_upd {l : List Int} {k : Nat} {x y : Int} (h : x ∉ l) (hy : y ≠ x) : x ∉ l.set k y := fun hm => by
  rcases List.mem_or_eq_of_mem_set hm with h9 | h9
  · exact h h9
  · exact hy h9.symm
theorem gd_some {l : List Int} {k : Nat} (h : k < l.length) : l[k]? = some (l.getD k 0) := by simp [List.getD, List.getElem?_eq_getElem h]
theorem dn_inv {h : Hp} {c n : List Int} {x : Int} {r : List Int} (I : InvD ⟨h, c, n, x :: r⟩) : InvD (dn h c n x r) ∧ muD (dn h c n x r) < muD ⟨h, c, n, x :: r⟩ := by
  obtain ⟨v, nl, rng, cnt, cl, cf, cn⟩ := I
  dsimp only at v nl rng cnt cl cf cn
  unfold dn
  by_cases hx : x = -1
  · subst hx
    rw [if_pos rfl]
    refine ⟨⟨v, nl, fun y hy => rng y (List.mem_cons_of_mem _ hy), fun k hk => ?_, cl, fun y hy => ⟨(cf y hy).1, fun h9 => (cf y hy).2 (List.mem_cons_of_mem _ h9)⟩, cn⟩, by simp [muD]⟩
    have h9 := cnt k hk
    rw [List.count_cons, if_neg (by simp)] at h9
    exact h9
  · rw [if_neg hx]
    have hr := rng x (List.mem_cons_self ..)
    obtain ⟨k, rfl⟩ := Int.eq_ofNat_of_zero_le (by omega : 0 ≤ x)
    have hk : k < h.l.length := by omega
    have hkr : k < h.r.length := by have := (hvB_parts v).1.1; omega
    rw [Int.toNat_natCast]
    have hc := cnt k hk
    have hg : n.getD k 0 = ((h.l.count (k : Int) + h.r.count (k : Int) + h.t.count (k : Int) + ((k : Int) :: r).count (k : Int) : Nat) : Int) := by simp [List.getD, hc]
    have hcc : ((k : Int) :: r).count (k : Int) = r.count (k : Int) + 1 := by rw [List.count_cons]; simp
    by_cases h1 : n.getD k 0 = 1
    · rw [if_pos h1]
      have z0 : h.l.count (k : Int) = 0 := by omega
      have z1 : h.r.count (k : Int) = 0 := by omega
      have z2 : h.t.count (k : Int) = 0 := by omega
      have z3 : r.count (k : Int) = 0 := by omega
      have n0 := List.count_eq_zero.1 z0
      have n1 := List.count_eq_zero.1 z1
      have n2 := List.count_eq_zero.1 z2
      have n3 := List.count_eq_zero.1 z3
      have gl := gd_some hk
      have gr := gd_some hkr
      generalize h.l.getD k 0 = y at gl ⊢
      generalize h.r.getD k 0 = z at gr ⊢
      have my := List.mem_of_getElem? gl
      have mz := List.mem_of_getElem? gr
      obtain ⟨⟨e1, e2⟩, a1, a2, a3⟩ := hvB_parts v
      have hp : ptB (-1) (h.l.length : Int) = true := by simp [ptB]; omega
      have v' : hvB ⟨h.l.set k (-1), h.r.set k (-1), h.t⟩ = true := hvB_mk (by simpa using e1) (by simpa using e2) (by rw [List.length_set]; exact all_upd a1 hp) (by rw [List.length_set]; exact all_upd a2 hp) (by simpa using a3)
      have nk : (k : Int) ∉ c := fun hm => (cf _ hm).2 (List.mem_cons_self ..)
      have nd : (c ++ [(k : Int)]).Nodup := by
        rw [List.nodup_append]
        exact ⟨cn, by simp, fun a ha b hb e => nk (by rw [List.mem_singleton.1 hb] at e; exact e ▸ ha)⟩
      have fk : freeB ⟨h.l.set k (-1), h.r.set k (-1), h.t⟩ (k : Int) = true := fr_iff.2 ⟨by simpa using hk, by show (h.l.set k (-1))[k]? = _; rw [List.getElem?_set_self hk], by show (h.r.set k (-1))[k]? = _; rw [List.getElem?_set_self hkr], notin_upd n0 (by omega), notin_upd n1 (by omega), n2⟩
      have cf' : ∀ x ∈ c ++ [(k : Int)], freeB ⟨h.l.set k (-1), h.r.set k (-1), h.t⟩ x = true ∧ x ∉ r ++ [y, z] := by
        intro x hx
        rcases List.mem_append.1 hx with h9 | h9
        · obtain ⟨f1, f2⟩ := cf x h9
          obtain ⟨j, rfl⟩ := fr_nat f1
          obtain ⟨g1, g2, g3, g4, g5, g6⟩ := fr_iff.1 f1
          have hjk : k ≠ j := fun e => f2 (by rw [e]; exact List.mem_cons_self ..)
          refine ⟨fr_iff.2 ⟨by simpa using g1, by show (h.l.set k (-1))[j]? = _; rw [List.getElem?_set_ne hjk]; exact g2, by show (h.r.set k (-1))[j]? = _; rw [List.getElem?_set_ne hjk]; exact g3, notin_upd g4 (by omega), notin_upd g5 (by omega), g6⟩, fun hm => ?_⟩
          rcases List.mem_append.1 hm with h8 | h8
          · exact f2 (List.mem_cons_of_mem _ h8)
          · rcases List.mem_cons.1 h8 with e | h7
            · exact g4 (e ▸ my)
            · exact g5 (List.mem_singleton.1 h7 ▸ mz)
        · rw [List.mem_singleton.1 h9]
          refine ⟨fk, fun hm => ?_⟩
          rcases List.mem_append.1 hm with h8 | h8
          · exact n3 h8
          · rcases List.mem_cons.1 h8 with e | h7
            · exact n0 (e ▸ my)
            · exact n1 (List.mem_singleton.1 h7 ▸ mz)
      have ln : (c ++ [(k : Int)]).length ≤ h.l.length := nodup_below nd fun x hx => by
        have h8 := (cf' x hx).1
        obtain ⟨j, rfl⟩ := fr_nat h8
        have := (fr_iff.1 h8).1
        simp at this; omega
      have ln2 : c.length + 1 ≤ h.l.length := by simpa using ln
      obtain ⟨q1, q2, _⟩ := hv_rng v
      refine ⟨⟨v', by simpa using nl, fun x hx => ?_, fun j hj => ?_, by simpa using ln2, cf', nd⟩, by simp [muD]; omega⟩
      · show -1 ≤ x ∧ x < ((h.l.set k (-1)).length : Int)
        rw [List.length_set]
        rcases List.mem_append.1 hx with h8 | h8
        · exact rng x (List.mem_cons_of_mem _ h8)
        · rcases List.mem_cons.1 h8 with e | h7
          · exact e ▸ q1 _ my
          · exact List.mem_singleton.1 h7 ▸ q2 _ mz
      · show (n.set k 0)[j]? = some (((h.l.set k (-1)).count (j : Int) + (h.r.set k (-1)).count (j : Int) + h.t.count (j : Int) + (r ++ [y, z]).count (j : Int) : Nat) : Int)
        have hj' : j < h.l.length := by simpa using hj
        have s1 := count_set h.l (z := -1) (j := (j : Int)) gl
        have s2 := count_set h.r (z := -1) (j := (j : Int)) gr
        have hneg : ¬ ((-1 : Int) = (j : Int)) := by omega
        rw [if_neg hneg] at s1 s2
        have s3 : (r ++ [y, z]).count (j : Int) = r.count (j : Int) + (if y = (j : Int) then 1 else 0) + (if z = (j : Int) then 1 else 0) := by
          rw [List.count_append, List.count_cons, List.count_cons, List.count_nil]
          simp only [beq_iff_eq]; omega
        by_cases e : k = j
        · subst e
          rw [List.getElem?_set_self (by omega)]
          have y0 : ¬ (y = (k : Int)) := fun e => n0 (e ▸ my)
          have z0' : ¬ (z = (k : Int)) := fun e => n1 (e ▸ mz)
          rw [if_neg y0] at s1 s3; rw [if_neg z0'] at s2 s3
          congr 1; omega
        · rw [List.getElem?_set_ne e, cnt j hj']
          have hc2 : ((k : Int) :: r).count (j : Int) = r.count (j : Int) := by rw [List.count_cons]; simp; omega
          congr 1; omega
    · rw [if_neg h1]
      refine ⟨⟨v, by simpa using nl, fun y hy => rng y (List.mem_cons_of_mem _ hy), fun j hj => ?_, cl, fun y hy => ⟨(cf y hy).1, fun h9 => (cf y hy).2 (List.mem_cons_of_mem _ h9)⟩, cn⟩, by simp [muD]⟩
      show (n.set k (n.getD k 0 - 1))[j]? = some ((h.l.count (j : Int) + h.r.count (j : Int) + h.t.count (j : Int) + r.count (j : Int) : Nat) : Int)
      by_cases e : k = j
      · subst e
        rw [List.getElem?_set_self (by dsimp only at hj; omega)]
        congr 1; omega
      · rw [List.getElem?_set_ne e, cnt j hj]
        have hc2 : ((k : Int) :: r).count (j : Int) = r.count (j : Int) := by rw [List.count_cons]; simp; omega
        rw [hc2]
theorem down_mono : ∀ (f : Nat) (S : Sn), InvD S → muD S ≤ f → down f S = fin_ S := by
  intro f
  induction f using Nat.strongRecOn with
  | ind f ih =>
    intro S I hf
    obtain ⟨h, c, n, ws⟩ := S
    cases ws with
    | nil =>
      have e : ∀ g, down g ⟨h, c, n, []⟩ = Sn.end_ ⟨h, c, n, []⟩ := fun g => by cases g <;> rfl
      unfold fin_; rw [e, e]
    | cons x r =>
      obtain ⟨I', hm⟩ := dn_inv I
      obtain ⟨m, hm'⟩ : ∃ m, muD ⟨h, c, n, x :: r⟩ = m + 1 := ⟨_, (Nat.succ_pred_eq_of_pos (by omega)).symm⟩
      obtain ⟨g, rfl⟩ : ∃ g, f = g + 1 := ⟨f - 1, by omega⟩
      unfold fin_
      rw [hm']
      show down g (dn h c n x r) = down m (dn h c n x r)
      rw [ih g (by omega) _ I' (by omega)]
      by_cases e : m = g
      · subst e; exact (ih m (by omega) _ I' (by omega)).symm
      · exact (ih m (by omega) _ I' (by omega)).symm
theorem fin_nil (h : Hp) (c n : List Int) : fin_ ⟨h, c, n, []⟩ = ⟨⟨h, c⟩, n⟩ := by
  unfold fin_; cases muD ⟨h, c, n, []⟩ <;> rfl
theorem fin_cons {h : Hp} {c n : List Int} {x : Int} {r : List Int} (I : InvD ⟨h, c, n, x :: r⟩) : fin_ ⟨h, c, n, x :: r⟩ = fin_ (dn h c n x r) := by
  obtain ⟨I', hm⟩ := dn_inv I
  obtain ⟨m, hm'⟩ : ∃ m, muD ⟨h, c, n, x :: r⟩ = m + 1 := ⟨_, (Nat.succ_pred_eq_of_pos (by omega)).symm⟩
  have h9 := down_mono m (dn h c n x r) I' (by omega)
  rw [← h9]
  show down (muD ⟨h, c, n, x :: r⟩) ⟨h, c, n, x :: r⟩ = _
  rw [hm']; rfl
theorem inv_end {h : Hp} {c n : List Int} (I : InvD ⟨h, c, n, []⟩) : dpB ⟨⟨h, c⟩, n⟩ = true := by
  obtain ⟨v, nl, rng, cnt, cl, cf, cn⟩ := I
  dsimp only at v nl rng cnt cl cf cn
  refine dpB_iff.2 ⟨stoB_of v cl (fun x hx => (cf x hx).1) cn, ?_⟩
  apply List.ext_getElem?; intro k
  by_cases hk : k < h.l.length
  · rw [cnt k hk]; show _ = (cnts h)[k]?; rw [cnts_get hk]; simp
  · rw [List.getElem?_eq_none (by show n.length ≤ k; omega)]; show _ = (cnts h)[k]?; rw [List.getElem?_eq_none (by rw [cnts_len]; omega)]
/-- What holds of all that giving up goes through holds at the end. -/
theorem fin_ind (Q : Sn → Prop) (step : ∀ h c n x r, InvD ⟨h, c, n, x :: r⟩ → Q ⟨h, c, n, x :: r⟩ → Q (dn h c n x r)) : ∀ (m : Nat) (S : Sn), muD S ≤ m → InvD S → Q S → ∃ h c n, fin_ S = ⟨⟨h, c⟩, n⟩ ∧ InvD ⟨h, c, n, []⟩ ∧ Q ⟨h, c, n, []⟩ := by
  intro m
  induction m with
  | zero =>
    intro S hm I hQ
    obtain ⟨h, c, n, ws⟩ := S
    cases ws with
    | nil => exact ⟨h, c, n, fin_nil h c n, I, hQ⟩
    | cons x r => simp [muD] at hm
  | succ m ih =>
    intro S hm I hQ
    obtain ⟨h, c, n, ws⟩ := S
    cases ws with
    | nil => exact ⟨h, c, n, fin_nil h c n, I, hQ⟩
    | cons x r =>
      obtain ⟨I', hl⟩ := dn_inv I
      rw [fin_cons I]
      exact ih _ (by omega) I' (step h c n x r I hQ)
theorem fin_valid {S : Sn} (I : InvD S) : dpB (fin_ S) = true := by
  obtain ⟨h, c, n, e, I', _⟩ := fin_ind (fun _ => True) (fun _ _ _ _ _ _ _ => trivial) _ S (Nat.le_refl _) I trivial
  rw [e]; exact inv_end I'
theorem dn_len {h : Hp} {c n : List Int} {x : Int} {r : List Int} : (dn h c n x r).h.l.length = h.l.length ∧ (dn h c n x r).h.t = h.t := by
  unfold dn; split
  · exact ⟨rfl, rfl⟩
  · split
    · exact ⟨by simp, rfl⟩
    · exact ⟨rfl, rfl⟩

end Go.Proofs.Yteogflkahoanlaa
