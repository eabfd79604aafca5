import Derived.Test.YtdakmbheokcpdaaGcI
import Derived.Test.YtdakmbheokcpdaaLawSs
import Derived.Test.YtdakmbheokcpdaaGSms
import Derived.Test.YtdakmbheokcpdaaIStos
/- What the laws ask of a collector's steps and runs. Plain words. -/
namespace Go.Proofs.Ytdakmbheokcpdaa
open Go.RowKit

/-- A step that sweeps nothing leaves the store; another one makes a cell free. -/
theorem step_sw {C : Cp} {G : Gp} (h : goB C G = true) : (swI C G = -1 ∧ (stepG C G).1 = C) ∨ ∃ k : Nat, swI C G = (k : Int) ∧ G.p = 3 ∧ k < C.h.l.length ∧ (stepG C G).1 = clearC C [(k : Int)] ∧ isFreeB (stepG C G).1 (k : Int) = true := by
  obtain ⟨hg, hb⟩ := goB_iff.1 h
  have hsv := clrS_valid h
  rcases swI_cases C G with h1 | ⟨h1, h3, h4, h5⟩
  · refine .inl ⟨h1, ?_⟩
    unfold stepG
    rw [h1]
    unfold clrS
    simp only [if_true]
    split
    · rfl
    · split
      · rfl
      · split <;> rfl
  · have hp := phB_iff.1 (gcB_iff.1 hg).2.2
    have ha : 0 ≤ G.a ∧ G.a < C.h.l.length := by omega
    obtain ⟨k, hk⟩ := Int.eq_ofNat_of_zero_le ha.1
    have e : (stepG C G).1 = clearC C [(k : Int)] := by
      unfold stepG
      rw [if_neg (by omega), if_neg (by omega), if_neg (by omega), h1, hk]
      show clrS C (k : Int) = _
      unfold clrS
      rw [if_neg (by omega)]
    refine .inr ⟨k, by rw [h1, hk], h3, by omega, e, ?_⟩
    have e2 : clrS C (swI C G) = clearC C [(k : Int)] := by
      rw [h1, hk]; unfold clrS; rw [if_neg (by omega)]
    rw [e2] at hsv
    rw [e]
    exact isFree_in hsv (by show (k : Int) ∈ C.c ++ [(k : Int)]; simp)
theorem step_phase {C : Cp} {G : Gp} (h : gcB C G = true) : (stepG C G).2.p = G.p ∨ ((stepG C G).2.a = 0 ∧ (stepG C G).2.p = if G.p = 3 then 0 else G.p + 1) := by
  have hp := phB_iff.1 (gcB_iff.1 h).2.2
  unfold stepG
  split
  · rename_i h0; exact .inr ⟨rfl, by rw [h0]; rfl⟩
  · split
    · rename_i h1
      rw [h1]
      unfold nextG; split
      · exact .inl rfl
      · exact .inr ⟨rfl, by simp⟩
    · split
      · rename_i h2
        rw [h2]
        unfold markG; split
        · split
          · exact .inl rfl
          · exact .inr ⟨rfl, by simp⟩
        · exact .inl rfl
      · have h3 : G.p = 3 := by omega
        rw [h3]
        unfold nextG; split
        · exact .inl rfl
        · exact .inr ⟨rfl, by simp⟩
/-- At how many places two rows differ. -/
def diffN (a b : List Int) : Nat → Nat
  | 0 => 0
  | k + 1 => diffN a b k + (if a[k]? = b[k]? then 0 else 1)
theorem diff_self (a : List Int) : ∀ k, diffN a a k = 0 := by
  intro k; induction k with
  | zero => rfl
  | succ k ih => show diffN a a k + _ = 0; rw [ih]; simp
theorem diff_tri (a b c : List Int) : ∀ k, diffN a c k ≤ diffN a b k + diffN b c k := by
  intro k; induction k with
  | zero => exact Nat.le_refl _
  | succ k ih =>
    show diffN a c k + _ ≤ (diffN a b k + _) + (diffN b c k + _)
    by_cases h1 : a[k]? = b[k]?
    · by_cases h2 : b[k]? = c[k]?
      · rw [if_pos h1, if_pos h2, if_pos (h1.trans h2)]; omega
      · rw [if_pos h1, if_neg h2]; split <;> omega
    · rw [if_neg h1]; split <;> (split <;> omega)
theorem diff_set' (c : List Int) (j : Nat) (x : Int) : ∀ k, diffN c (c.set j x) k ≤ if j < k then 1 else 0 := by
  intro k; induction k with
  | zero => simp [diffN]
  | succ k ih =>
    show diffN c (c.set j x) k + _ ≤ _
    by_cases h : j = k
    · subst h
      rw [if_neg (by omega)] at ih
      rw [if_pos (show j < j + 1 by omega)]
      by_cases h9 : c[j]? = (c.set j x)[j]?
      · rw [if_pos h9]; omega
      · rw [if_neg h9]; omega
    · have e : (c.set j x)[k]? = c[k]? := List.getElem?_set_ne h
      rw [e, if_pos rfl]
      split at ih <;> split <;> omega
theorem diff_set (c : List Int) (j : Nat) (x : Int) (k : Nat) : diffN c (c.set j x) k ≤ 1 := by
  have := diff_set' c j x k
  split at this <;> omega
theorem diff_shade (c : List Int) (x : Int) (k : Nat) : diffN c (shade c x) k ≤ 1 := by
  unfold shade; split
  · exact diff_set _ _ _ _
  · rw [diff_self]; omega
theorem diff_black (h : Hp) (c : List Int) (j k : Nat) : diffN c (blackC h c j) k ≤ 3 := by
  unfold blackC
  have h1 := diff_tri c (shade c (h.l.getD j 0)) ((shade (shade c (h.l.getD j 0)) (h.r.getD j 0)).set j 2) k
  have h2 := diff_tri (shade c (h.l.getD j 0)) (shade (shade c (h.l.getD j 0)) (h.r.getD j 0)) ((shade (shade c (h.l.getD j 0)) (h.r.getD j 0)).set j 2) k
  have h3 := diff_shade c (h.l.getD j 0) k
  have h4 := diff_shade (shade c (h.l.getD j 0)) (h.r.getD j 0) k
  have h5 := diff_set (shade (shade c (h.l.getD j 0)) (h.r.getD j 0)) j 2 k
  omega
theorem shade_up {c : List Int} (k : Int) {i : Nat} {x : Int} (h : c[i]? = some x) : ∃ y, (shade c k)[i]? = some y ∧ x ≤ y := by
  rw [shade_at]
  split
  · rename_i h9; rw [h9.2] at h; cases h; exact ⟨1, rfl, by omega⟩
  · exact ⟨x, h, Int.le_refl _⟩
/-- While a collector marks, colors grow, at three places at most. -/
theorem step_white {C : Cp} {G : Gp} (h : gcB C G = true) (hp : G.p = 1 ∨ G.p = 2) : (∀ (i : Nat) (x : Int), G.c[i]? = some x → ∃ y, (stepG C G).2.c[i]? = some y ∧ x ≤ y) ∧ ∀ k, diffN G.c (stepG C G).2.c k ≤ 3 := by
  obtain ⟨hC, hv, _⟩ := gcB_iff.1 h
  obtain ⟨_, _, hvc⟩ := cvB_parts hv
  simp only at hvc
  unfold stepG
  rw [if_neg (by omega)]
  by_cases h1 : G.p = 1
  · rw [if_pos h1]
    show (∀ (i : Nat) (x : Int), G.c[i]? = some x → ∃ y, (nextG 1 (shade G.c (C.h.t.getD G.a.toNat 0)) G.a C.h.t.length 2).c[i]? = some y ∧ x ≤ y) ∧ ∀ k, diffN G.c (nextG 1 (shade G.c (C.h.t.getD G.a.toNat 0)) G.a C.h.t.length 2).c k ≤ 3
    rw [nextG_c]
    exact ⟨fun i x hx => shade_up _ hx, fun k => Nat.le_trans (diff_shade _ _ _) (by omega)⟩
  · rw [if_neg h1, if_pos (by omega)]
    show (∀ (i : Nat) (x : Int), G.c[i]? = some x → ∃ y, (markG C G.c).c[i]? = some y ∧ x ≤ y) ∧ ∀ k, diffN G.c (markG C G.c).c k ≤ 3
    unfold markG
    split
    · split
      · exact ⟨fun i x hx => shade_up _ hx, fun k => Nat.le_trans (diff_shade _ _ _) (by omega)⟩
      · exact ⟨fun i x hx => ⟨x, hx, Int.le_refl _⟩, fun k => by rw [diff_self]; omega⟩
    · refine ⟨fun i x hx => ?_, fun k => diff_black _ _ _ _⟩
      have hi := (List.getElem?_eq_some_iff.1 hx).1
      by_cases hik : i = (firstOf G.c 1).toNat
      · rw [hik]
        refine ⟨2, black_here (by omega), ?_⟩
        have := hvc x (List.mem_of_getElem? hx); omega
      · dsimp only
        rw [black_at hik]
        obtain ⟨y, hy, hxy⟩ := shade_up (C.h.l.getD (firstOf G.c 1).toNat 0) hx
        obtain ⟨z, hz, hyz⟩ := shade_up (C.h.r.getD (firstOf G.c 1).toNat 0) hy
        exact ⟨z, hz, by omega⟩
theorem step_sweep {C : Cp} {G : Gp} (hp : G.p = 3) : (stepG C G).2.c = G.c.set G.a.toNat 0 := by
  unfold stepG
  rw [if_neg (by omega), if_neg (by omega), if_neg (by omega)]
  exact nextG_c _ _ _ _ _
/-- Marking ends where nothing is gray and no root points to a white cell. -/
theorem step_end {C : Cp} {G : Gp} (h : gcB C G = true) (hp : G.p = 2) (he : (stepG C G).2.p = 3) : (stepG C G).2.c = G.c ∧ G.c.count 1 = 0 ∧ ∀ k : Nat, (k : Int) ∈ C.h.t → G.c[k]? = some 2 := by
  obtain ⟨hC, hv, _⟩ := gcB_iff.1 h
  obtain ⟨hvh, hvl, hvc⟩ := cvB_parts hv
  simp only at hvh hvl hvc
  unfold stepG at he ⊢
  rw [if_neg (by omega), if_neg (by omega), if_pos hp] at he ⊢
  dsimp only at he ⊢
  unfold markG at he ⊢
  by_cases e : firstOf G.c 1 = -1
  · rw [if_pos e] at he ⊢
    rcases er : rootW G.c C.h.t with _ | x
    · rw [er] at he
      have n1 := first_no e
      refine ⟨rfl, List.count_eq_zero.2 n1, fun k hk => ?_⟩
      have hkl : k < C.h.l.length := by have := (hv_range hvh).2.2 _ hk; omega
      have ek := List.getElem?_eq_getElem (l := G.c) (i := k) (by omega)
      have hr := rootW_none er _ hk (by omega)
      rw [Int.toNat_natCast] at hr
      rw [ek] at hr ⊢
      have hm := List.getElem_mem (l := G.c) (n := k) (by omega)
      have h2 := hvc _ hm
      have h3 : G.c[k]'(by omega) ≠ 1 := fun e9 => n1 (by rw [← e9]; exact hm)
      have h4 : G.c[k]'(by omega) ≠ 0 := fun e9 => hr (by rw [e9])
      rw [show G.c[k]'(by omega) = 2 by omega]
    · rw [er] at he; simp at he
  · rw [if_neg e] at he; simp at he
theorem color_twice (G : Gp) (k : Int) : colorG (colorG G k) k = colorG G k := by
  unfold colorG
  simp only [List.set_set]
theorem shadeG_parts (G : Gp) (k : Int) : (shadeG G k).p = G.p ∧ (shadeG G k).a = G.a ∧ (shadeG G k).c.length = G.c.length := by
  unfold shadeG; refine ⟨rfl, rfl, ?_⟩; dsimp only; split
  · exact shade_len _ _
  · rfl
theorem colorG_valid {C : Cp} {G : Gp} (h : gcB C G = true) (k : Int) : gcB C (colorG G k) = true := by
  obtain ⟨hC, hv, hp⟩ := gcB_iff.1 h
  exact gcB_iff.2 ⟨hC, cvB_set hv _ (by split <;> omega), hp⟩
theorem shadeG_valid {C : Cp} {G : Gp} (h : gcB C G = true) (k : Int) : gcB C (shadeG G k) = true := by
  obtain ⟨hC, hv, hp⟩ := gcB_iff.1 h
  refine gcB_iff.2 ⟨hC, ?_, hp⟩
  unfold shadeG; dsimp only; split
  · exact cvB_shade hv k
  · exact hv
/-- A store while cells are swept: the leaked ones ahead of the place are free. -/
def sweptL (C : Cp) (a : Int) : List Int := (leakL C).filter (fun x => decide (x < a))
def InvR (C0 C : Cp) (G : Gp) : Prop := InvG C G ∧ G.p ≠ 0 ∧ ((G.p = 1 ∨ G.p = 2) → C = C0) ∧ (G.p = 3 → C = clearC C0 (sweptL C0 G.a))
theorem up_filter {l : List Int} (h : l.Pairwise (· < ·)) (a : Int) : l.filter (fun x => decide (x < a + 1)) = l.filter (fun x => decide (x < a)) ++ (if a ∈ l then [a] else []) := by
  induction l with
  | nil => simp
  | cons x r ih =>
    obtain ⟨h1, h2⟩ := List.pairwise_cons.1 h
    have ih := ih h2
    rcases Int.lt_trichotomy x a with hx | hx | hx
    · rw [List.filter_cons, if_pos (by simp; omega), List.filter_cons, if_pos (by simp; omega), ih, List.cons_append]
      have e : (a ∈ x :: r) = (a ∈ r) := propext ⟨fun h => (List.mem_cons.1 h).resolve_left (by omega), List.mem_cons_of_mem _⟩
      simp only [e]
    · subst hx
      have hn : x ∉ r := fun hm => by have := h1 x hm; omega
      rw [if_neg hn, List.append_nil] at ih
      rw [List.filter_cons, if_pos (by simp; omega), List.filter_cons, if_neg (by simp), ih, if_pos (List.mem_cons_self ..)]
      have e : r.filter (fun y => decide (y < x)) = [] := by
        rw [List.filter_eq_nil_iff]; intro y hy; have := h1 y hy; simp; omega
      rw [e]; rfl
    · have hn : a ∉ x :: r := fun hm => by
        rcases List.mem_cons.1 hm with h9 | h9
        · omega
        · have := h1 a h9; omega
      have hn2 : a ∉ r := fun hm => hn (List.mem_cons_of_mem _ hm)
      rw [if_neg hn2, List.append_nil] at ih
      rw [if_neg hn, List.append_nil, List.filter_cons, if_neg (by simp; omega), List.filter_cons, if_neg (by simp; omega), ih]
theorem sweptL_all {C : Cp} {a : Int} (h : ∀ x ∈ leakL C, x < a) : sweptL C a = leakL C := by
  unfold sweptL
  rw [List.filter_eq_self]
  intro x hx; simpa using h x hx
theorem sweptL_sub (C : Cp) (a : Int) : ∀ x ∈ sweptL C a, x ∈ leakL C := fun _ hx => (List.mem_filter.1 hx).1
theorem sweptL_nodup (C : Cp) (a : Int) : (sweptL C a).Nodup := (leak_nodup C).filter _
theorem leak_lt {C : Cp} {x : Int} (h : x ∈ leakL C) : 0 ≤ x ∧ x < C.h.l.length := by
  obtain ⟨_, hg, _⟩ := mem_leak h
  obtain ⟨k, rfl⟩ := garb_nat hg
  have hv := (stoB_parts (mem_leak h).1).1
  have := (List.getElem?_eq_some_iff.1 (mem_garb.1 hg)).1
  rw [liveL_len hv] at this
  omega
/-- One step of a run, and what the end of it is. -/
theorem invR_step {C0 C : Cp} {G : Gp} (h0 : stoB C0 = true) (h : InvR C0 C G) : ((stepG C G).2.p = 0 ∧ (stepG C G).1 = clearC C0 (leakL C0)) ∨ InvR C0 (stepG C G).1 (stepG C G).2 := by
  obtain ⟨hI, hp0, h12, h3⟩ := h
  have hS := inv_step hI
  have hgo := inv_go hI
  obtain ⟨hC, hv, hp⟩ := gcB_iff.1 hI.1
  obtain ⟨z1, z2, z3, z4, z5⟩ := gcB_sizes hI.1
  have hpa := phB_iff.1 hp
  have hl0 : C0.h.r.length = C0.h.l.length := (hvB_parts (stoB_parts h0).1).1.1
  rcases Int.lt_or_le G.p 3 with hlt | hge
  · have hC0 : C = C0 := h12 (by omega)
    right
    refine ⟨hS, ?_, ?_, ?_⟩
    · rcases step_phase hI.1 with e | ⟨_, e⟩
      · rw [e]; exact hp0
      · rw [e, if_neg (by omega)]; omega
    · intro _
      rcases step_sw hgo with ⟨_, e⟩ | ⟨k, _, e, _⟩
      · rw [e]; exact hC0
      · omega
    · intro e3
      have ha : (stepG C G).2.a = 0 := by
        rcases step_phase hI.1 with e | ⟨e, _⟩
        · omega
        · exact e
      have e1 : (stepG C G).1 = C := by
        rcases step_sw hgo with ⟨_, e⟩ | ⟨k, _, e, _⟩
        · exact e
        · omega
      rw [e1, ha, hC0]
      have : sweptL C0 0 = [] := by
        unfold sweptL
        rw [List.filter_eq_nil_iff]
        intro x hx; have := leak_lt hx; simp; omega
      rw [this, clear_none hl0]
  · have hp3 : G.p = 3 := by omega
    have eC := h3 hp3
    have hll : C.h.l.length = C0.h.l.length := by rw [eC]; simp [clearC, clrN_len]
    have hlk : leakL C = (leakL C0).filter (outF (sweptL C0 G.a)) := by rw [eC]; exact clear_leak h0 (sweptL_sub C0 G.a) (sweptL_nodup C0 G.a)
    have hlv : liveL C.h = liveL C0.h := by rw [eC]; exact clear_live h0 (sweptL_sub C0 G.a)
    have ein : G.a ∈ leakL C0 ↔ G.a ∈ leakL C := by
      rw [hlk, List.mem_filter, outF_iff]
      refine ⟨fun h9 => ⟨h9, fun h8 => ?_⟩, fun h9 => h9.1⟩
      have := (List.mem_filter.1 h8).2
      simp at this
    have e1 : (stepG C G).1 = clearC C0 (sweptL C0 (G.a + 1)) := by
      unfold sweptL
      rw [up_filter (leak_up C0) G.a]
      show _ = clearC C0 (sweptL C0 G.a ++ _)
      rcases inv_leak hI with hs | ⟨hs, _, hm⟩
      · have hnm : G.a ∉ leakL C0 := fun hm => by
          have hm2 := ein.1 hm
          obtain ⟨_, hg, hf⟩ := mem_leak hm2
          have ha : 0 ≤ G.a ∧ G.a < C.h.l.length := by omega
          obtain ⟨k, hk⟩ := Int.eq_ofNat_of_zero_le ha.1
          rw [hk] at hg
          have hw := (hI.2.2.2 hp3 k (by omega) (by omega)).2 (mem_garb.1 hg)
          have : swI C G = G.a := by
            unfold swI
            rw [if_pos ⟨hp3, by rw [hk]; simpa using hw, hf⟩]
          omega
        rw [if_neg hnm, List.append_nil, ← eC]
        rcases step_sw hgo with ⟨_, e⟩ | ⟨k, e, _⟩
        · exact e
        · omega
      · rw [if_pos (ein.2 hm), ← clear_snoc hl0, ← eC]
        rcases step_sw hgo with ⟨e, _⟩ | ⟨k, e, _, _, e9, _⟩
        · have := (leak_lt hm).1; omega
        · rw [e9, ← e, hs]
    have e2 : (stepG C G).2 = nextG 3 (G.c.set G.a.toNat 0) G.a G.c.length 0 := by
      unfold stepG
      rw [if_neg (by omega), if_neg (by omega), if_neg (by omega)]
    by_cases hl : G.a + 1 < G.c.length
    · right
      have e3 : (stepG C G).2.p = 3 ∧ (stepG C G).2.a = G.a + 1 := by rw [e2]; unfold nextG; rw [if_pos hl]; exact ⟨rfl, rfl⟩
      exact ⟨hS, by omega, fun h9 => by omega, fun _ => by rw [e3.2]; exact e1⟩
    · left
      refine ⟨by rw [e2]; unfold nextG; rw [if_neg hl], ?_⟩
      rw [e1, sweptL_all]
      intro x hx
      have := leak_lt hx
      omega
/-- A run from a collector that does nothing is a collection. -/
theorem run_collect {C : Cp} {G : Gp} (h : gcB C G = true) (hp : G.p = 0) : ∃ (H : Gp) (k : Int), runO C G = some (clearC C (leakL C), H, k) ∧ H.p = 0 ∧ 1 ≤ k ∧ gcB (clearC C (leakL C)) H = true := by
  have hI : InvG C G := ⟨h, fun e => by omega, fun e => by omega, fun e => by omega⟩
  obtain ⟨hC, hv, _⟩ := gcB_iff.1 h
  obtain ⟨z1, z2, z3, z4, z5⟩ := gcB_sizes h
  have hS := inv_step hI
  have e : stepG C G = (C, ⟨1, List.replicate G.c.length 0, 0⟩) := by unfold stepG; rw [if_pos hp]
  have hR : InvR C (stepG C G).1 (stepG C G).2 := ⟨hS, by rw [e]; simp, fun _ => by rw [e], fun h9 => by rw [e] at h9; simp at h9⟩
  have key : ∀ (m : Nat) (D : Cp) (K : Gp) (n : Int), muG D K ≤ m → InvR C D K → ∃ (H : Gp) (k : Int), runN D K n = some (clearC C (leakL C), H, k) ∧ H.p = 0 ∧ n + 1 ≤ k ∧ gcB (clearC C (leakL C)) H = true := by
    intro m
    induction m with
    | zero => intro D K n hm hR; have := mu_pos hR.1.1; omega
    | succ m ih =>
      intro D K n hm hR
      have hgo := inv_go hR.1
      have hval := step_valid hgo
      rcases invR_step hC hR with ⟨h0, h1⟩ | hR2
      · refine ⟨(stepG D K).2, n + 1, ?_, h0, by omega, by rw [← h1]; exact hval⟩
        rw [runN_end n hgo h0, h1]
      · have h0 : (stepG D K).2.p ≠ 0 := hR2.2.1
        have hmu := mu_step hgo h0
        obtain ⟨H, k, h1, h2, h3, h4⟩ := ih _ _ (n + 1) (by omega) hR2
        exact ⟨H, k, by rw [runN_on n hgo h0]; exact h1, h2, by omega, h4⟩
  have hgo := inv_go hI
  have h0 : (stepG C G).2.p ≠ 0 := hR.2.1
  obtain ⟨H, k, h1, h2, h3, h4⟩ := key _ _ _ (0 + 1) (Nat.le_refl _) hR
  refine ⟨H, k, ?_, h2, by omega, h4⟩
  unfold runO
  rw [runN_on 0 hgo h0]; exact h1
/-- What a run gives, whatever the collector was. -/
theorem run_parts {C D : Cp} {G H : Gp} {k : Int} (h : runO C G = some (D, H, k)) : gcB D H = true ∧ H.p = 0 ∧ 1 ≤ k ∧ k ≤ C.h.t.length + 3 * C.h.l.length + 2 := by
  have h1 := runN_ind (fun _ _ _ => True) (fun _ _ _ _ _ => trivial) _ C G 0 (Nat.le_refl _) trivial D H k h
  have h2 := runN_count h
  exact ⟨h1.2.2, h1.2.1, h2⟩
end Go.Proofs.Ytdakmbheokcpdaa

/- Words for the walks of the laws of collectors. -/
namespace Go.Proofs.Ytdakmbheokcpdaa
open Go.RowKit

theorem BL_dr {w w' : World} (h : Below w.heap.size w w') : Below w.heap.size w w'.drew := h.drew
theorem BL_al {w w' : World} (h : Below w.heap.size w w') (o : Obj) : Below w.heap.size w (w'.alloc o) := h.alloc h.size o
theorem BL_th {w w' w'' : World} (h : Below w.heap.size w w') (k : Below w'.heap.size w' w'') : Below w.heap.size w w'' := h.trans (k.mono h.size)
theorem sto_sameG {w : World} {lo lo' : Nat} {v v' : Value} {C : Cp} (h : Cv w lo v C) (h' : Cv w lo' v' C) : Calls Try.prog 12 #[v, v'] w (RetB w true) := by
  have h9 := implStoreSame_any w lo lo' v v' C C h h'
  rwa [sameC_self] at h9
theorem gc_sameG {w : World} {lo lo' : Nat} {v v' : Value} {G : Gp} (h : Gv w lo v G) (h' : Gv w lo' v' G) : Calls Try.prog 13 #[v, v'] w (RetB w true) := by
  have h9 := implGcSame_any w lo lo' v v' G G h h'
  rwa [sameG_self] at h9
theorem short_sto {C : Cp} (h : stoB C = true) : C.h.l.length ≤ 1048576 ∧ C.h.r.length ≤ 1048576 ∧ C.h.t.length ≤ 1048576 ∧ C.c.length ≤ 1048576 := by
  obtain ⟨hv, h9, _⟩ := stoB_parts h
  have h8 := hvB_len hv
  obtain ⟨⟨h7, _⟩, _⟩ := hvB_parts hv
  omega
theorem hvB_szN {h : Hp} (hv : hvB h = true) : 1 ≤ h.t.length ∧ h.t.length ≤ 3 := by
  obtain ⟨⟨_, _⟩, _⟩ := hvB_parts hv
  unfold hvB szB at hv
  simp only [Bool.and_eq_true, decide_eq_true_eq] at hv
  omega
end Go.Proofs.Ytdakmbheokcpdaa

