/- What holds between a collector's steps, from its beginning on: what is swept is garbage. Plain words. -/
import Derived.Test.YtdakmbheokcpdaaGcs
import Derived.Test.YtdakmbheokcpdaaPureKS
namespace Go.Proofs.Ytdakmbheokcpdaa
open Go.RowKit

def InvG (C : Cp) (G : Gp) : Prop := gcB C G = true ∧
  (G.p = 1 → G.c = shadeAll (List.replicate C.h.l.length 0) (C.h.t.take G.a.toNat)) ∧
  (G.p = 2 → (∀ k : Nat, (k : Int) ∈ C.h.t → G.c[k]? ≠ some 0) ∧ HoldsP C.h G.c ∧ ∀ (i : Nat) (y : Int), G.c[i]? = some y → y ≠ 0 → (liveL C.h)[i]? = some true) ∧
  (G.p = 3 → ∀ i : Nat, G.a ≤ i → i < C.h.l.length → (G.c[i]? = some 0 ↔ (liveL C.h)[i]? = some false))
theorem inv_new {C : Cp} (hC : stoB C = true) : InvG C ⟨0, List.replicate C.h.l.length 0, 0⟩ := by
  refine ⟨gcB_iff.2 ⟨hC, cvB_of (stoB_parts hC).1 (by simp) (fun x hx => by have := (List.mem_replicate.1 hx).2; omega), phB_iff.2 (by simp)⟩, fun h => by simp at h, fun h => by simp at h, fun h => by simp at h⟩
/-- What is swept is leaked. -/
theorem inv_leak {C : Cp} {G : Gp} (h : InvG C G) : swI C G = -1 ∨ (swI C G = G.a ∧ G.p = 3 ∧ G.a ∈ leakL C) := by
  rcases swI_cases C G with h1 | ⟨h1, h3, h4, h5⟩
  · exact .inl h1
  · obtain ⟨hg, _, _, h9⟩ := h
    obtain ⟨hC, hv, hp⟩ := gcB_iff.1 hg
    have hpa := phB_iff.1 hp
    have ha : 0 ≤ G.a ∧ G.a < C.h.l.length := by omega
    obtain ⟨k, hk⟩ := Int.eq_ofNat_of_zero_le ha.1
    have h6 := (h9 h3 k (by omega) (by omega)).1 (by rw [hk] at h4; simpa using h4)
    refine .inr ⟨h1, h3, ?_⟩
    rw [hk] at h5 ⊢
    exact leak_mem hC (mem_garb.2 h6) h5
theorem inv_go {C : Cp} {G : Gp} (h : InvG C G) : goB C G = true := by
  refine goB_iff.2 ⟨h.1, fun hne ht => ?_⟩
  rcases inv_leak h with h1 | ⟨h1, h3, h4⟩
  · exact hne h1
  · obtain ⟨hC, hg, _⟩ := mem_leak h4
    obtain ⟨k, hk⟩ := garb_nat hg
    rw [h1, hk] at ht
    have a := live_root (stoB_parts hC).1 ht
    rw [hk] at hg
    have b := mem_garb.1 hg
    rw [a] at b; cases b
theorem live_not {h : Hp} {k : Nat} (hk : k < (liveL h).length) (hn : (liveL h)[k]? ≠ some true) : (liveL h)[k]? = some false := by
  rw [List.getElem?_eq_getElem hk] at hn ⊢
  cases e : (liveL h)[k]
  · rfl
  · rw [e] at hn; exact absurd rfl hn
theorem inv_mark {C : Cp} {G : Gp} (h : InvG C G) (hp : G.p = 2) (hn : firstOf G.c 1 = -1) : ∀ i : Nat, i < C.h.l.length → (G.c[i]? = some 0 ↔ (liveL C.h)[i]? = some false) := by
  obtain ⟨hg, _, h2, _⟩ := h
  obtain ⟨hr, hH, hL⟩ := h2 hp
  obtain ⟨hC, hv, _⟩ := gcB_iff.1 hg
  obtain ⟨hvh, hvl, hvc⟩ := cvB_parts hv
  simp only at hvh hvl hvc
  have n1 := first_no hn
  have ll := liveL_len hvh
  have two : ∀ (i : Nat) (y : Int), G.c[i]? = some y → y ≠ 0 → y = 2 := fun i y hy h0 => by
    have hm := List.mem_of_getElem? hy
    have := hvc y hm
    have : y ≠ 1 := fun e => n1 (by rw [← e]; exact hm)
    omega
  have key : ∀ k : Nat, (liveL C.h)[k]? = some true → G.c[k]? = some 2 := by
    intro k hk
    have hb : ∀ k : Nat, k < C.h.l.length → G.c[k]? ≠ some 0 → G.c[k]? = some 2 := fun k hk hn => by
      have e := List.getElem?_eq_getElem (l := G.c) (i := k) (by omega)
      rw [e] at hn ⊢
      rw [two k _ e (fun h0 => hn (by rw [h0]))]
    refine live_least hvh (fun k => G.c[k]? = some 2) (fun k hk => hb k ?_ (hr k hk)) (fun i k hi _ hx => ?_) hk
    · have := (hv_range hvh).2.2 _ hk; omega
    · have hkr : k < C.h.l.length := by
        rcases hx with hx | hx
        · have := (hv_range hvh).1 _ (List.mem_of_getElem? hx); omega
        · have := (hv_range hvh).2.1 _ (List.mem_of_getElem? hx); omega
      exact hb k hkr (by simpa using hH i hi k hx (by omega))
  intro i hi
  constructor
  · intro h0
    refine live_not (by omega) fun ht => ?_
    have := key i ht
    rw [h0] at this; cases this
  · intro hf
    have e := List.getElem?_eq_getElem (l := G.c) (i := i) (by omega)
    by_cases h0 : G.c[i]'(by omega) = 0
    · rw [e, h0]
    · have := hL i _ e h0
      rw [hf] at this; cases this
theorem inv_noroot {C : Cp} {G : Gp} (h : InvG C G) (hp : G.p = 2) : rootW G.c C.h.t = none := by
  rcases er : rootW G.c C.h.t with _ | x
  · rfl
  · obtain ⟨hx, x0, xw⟩ := rootW_some er
    obtain ⟨k, rfl⟩ := Int.eq_ofNat_of_zero_le x0
    exact absurd (by simpa using xw) ((h.2.2.1 hp).1 k hx)
theorem getD_at {l : List Int} {i : Nat} {p : Int} (h : l.getD i 0 = p) (hi : i < l.length) : l[i]? = some p := by
  rw [← h]; simp [List.getD, List.getElem?_eq_getElem hi]
theorem inv_step {C : Cp} {G : Gp} (h : InvG C G) : InvG (stepG C G).1 (stepG C G).2 := by
  have hgo := inv_go h
  have hval := step_valid hgo
  have hll := inv_leak h
  have hmk := inv_mark h
  have hnr := inv_noroot h
  obtain ⟨hg, h1, h2, h3⟩ := h
  obtain ⟨hC, hv, hp⟩ := gcB_iff.1 hg
  obtain ⟨z1, z2, z3, z4, z5⟩ := gcB_sizes hg
  obtain ⟨hvh, hvl, hvc⟩ := cvB_parts hv
  simp only at hvh hvl hvc
  have hpa := phB_iff.1 hp
  refine ⟨hval, ?_⟩
  clear hval hgo
  unfold stepG
  by_cases p0 : G.p = 0
  · simp only [if_pos p0]
    refine ⟨fun _ => ?_, fun h => by simp at h, fun h => by simp at h⟩
    rw [z1]; rfl
  · by_cases p1 : G.p = 1
    · simp only [if_neg p0, if_pos p1]
      have ha : 0 ≤ G.a ∧ G.a < C.h.t.length := by omega
      obtain ⟨k, hk⟩ := Int.eq_ofNat_of_zero_le ha.1
      have hkl : k < C.h.t.length := by omega
      have e := h1 p1
      have ek : C.h.t[k]? = some (C.h.t.getD k 0) := getD_some hkl
      have en : shade G.c (C.h.t.getD G.a.toNat 0) = shadeAll (List.replicate C.h.l.length 0) (C.h.t.take (k + 1)) := by
        rw [shadeAll_take ek, e, hk]; rfl
      rw [en]
      unfold nextG
      by_cases hl : G.a + 1 < C.h.t.length
      · rw [if_pos hl]
        refine ⟨fun _ => ?_, fun h => by simp at h, fun h => by simp at h⟩
        have : (G.a + 1).toNat = k + 1 := by omega
        rw [this]
      · rw [if_neg hl]
        refine ⟨fun h => by simp at h, fun _ => ?_, fun h => by simp at h⟩
        have hall : C.h.t.take (k + 1) = C.h.t := List.take_of_length_le (by omega)
        rw [hall]
        refine ⟨fun j hj hw => (shadeAll_white hw).2 _ hj rfl, holds_noblack ?_, fun i y hy h0 => ?_⟩
        · refine count_zero_of fun hm => ?_
          rcases shadeAll_01 (rep01 _) _ hm with h9 | h9 <;> exact absurd h9 (by decide)
        · rcases shadeAll_nonwhite hy h0 with h9 | h9
          · exact absurd (List.mem_replicate.1 (List.mem_of_getElem? h9)).2 h0
          · exact live_root hvh h9
    · by_cases p2 : G.p = 2
      · simp only [if_neg p0, if_neg p1, if_pos p2]
        obtain ⟨hr, hH, hL⟩ := h2 p2
        unfold markG
        rcases first_cases G.c 1 with e | ⟨k, e, hk, hk1⟩
        · rw [if_pos e, hnr p2]
          refine ⟨fun h => by simp at h, fun h => by simp at h, fun _ i _ hi => hmk p2 e i hi⟩
        · rw [if_neg (by rw [e]; omega), e]
          refine ⟨fun h => by simp at h, fun _ => ?_, fun h => by simp at h⟩
          simp only [Int.toNat_natCast]
          refine ⟨fun j hj hw => ?_, holds_black hk1 hH, fun i y hy h0 => ?_⟩
          · have hjl : j < C.h.l.length := by have := (hv_range hvh).2.2 _ hj; omega
            have ej := List.getElem?_eq_getElem (l := G.c) (i := j) (by omega)
            obtain ⟨y, y0, ey⟩ := black_keeps (h := C.h) hk1 ej (fun h0 => hr j hj (by rw [ej, h0]))
            rw [ey] at hw; cases hw; exact y0 rfl
          · have lk := hL k 1 hk1 (by decide)
            by_cases hik : i = k
            · rw [hik]; exact lk
            · rw [black_at hik] at hy
              have hyl : i < G.c.length := by
                have := (List.getElem?_eq_some_iff.1 hy).1
                rw [shade_len, shade_len] at this; exact this
              rw [shade_at] at hy
              split at hy
              · rename_i hc
                exact live_next hvh lk (.inr (getD_at hc.1 (by omega)))
              · rw [shade_at] at hy
                split at hy
                · rename_i hc
                  exact live_next hvh lk (.inl (getD_at hc.1 (by omega)))
                · exact hL i y hy h0
      · simp only [if_neg p0, if_neg p1, if_neg p2]
        have p3 : G.p = 3 := by omega
        have ha : 0 ≤ G.a ∧ G.a < C.h.l.length := by omega
        obtain ⟨k, hk⟩ := Int.eq_ofNat_of_zero_le ha.1
        unfold nextG
        by_cases hl : G.a + 1 < G.c.length
        · rw [if_pos hl]
          refine ⟨fun h => by simp at h, fun h => by simp at h, fun _ i hi hil => ?_⟩
          simp only at hi
          have hne : G.a.toNat ≠ i := by omega
          rw [(clrS_heap (C := C) _).1] at hil
          rw [List.getElem?_set_ne hne]
          rw [h3 p3 i (by omega) hil]
          have : liveL (clrS C (swI C G)).h = liveL C.h := by
            unfold clrS
            split
            · rfl
            · rename_i hne'
              rcases hll with h9 | ⟨h9, _, h8⟩
              · exact absurd h9 hne'
              · rw [h9]; exact clear_live hC (fun x hx => by rw [List.mem_singleton.1 hx]; exact h8)
          rw [this]
        · rw [if_neg hl]
          exact ⟨fun h => by simp at h, fun h => by simp at h, fun h => by simp at h⟩
end Go.Proofs.Ytdakmbheokcpdaa
