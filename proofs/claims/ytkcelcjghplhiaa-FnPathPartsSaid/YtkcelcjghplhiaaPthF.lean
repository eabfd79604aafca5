/- Facts of ways: each cell of a way is one further than the one before it, and that one points to it; the first one is a root's. -/
import Derived.Test.YtkcelcjghplhiaaPthP
import Derived.Test.YtkcelcjghplhiaaCc
namespace Go.Proofs.Ytkcelcjghplhiaa
open Go.RowKit

theorem row_maxP {w : World} {lo n c : Nat} {A : Option Addr} {xs : List Int} (h : Row w lo (.slice A n c) xs) : xs.length ≤ 9223372036854775807 := by
  obtain ⟨A', c', _, h1, h2⟩ := h.form
  unfold maxLen at h2; omega
theorem ccInts_sameP (w : World) (lo lo' : Nat) (A A' : Option Addr) (c c' : Nat) (xs : List Int) (h : Row w lo (.slice A xs.length c) xs) (h' : Row w lo' (.slice A' xs.length c') xs) :
    Calls Try.prog 10 #[.slice A xs.length c, .slice A' xs.length c'] w (RetB w true) :=
  (ccInts_any w lo lo' A A' xs.length c xs.length c' xs xs h rfl (row_maxP h) h' rfl (row_maxP h')).mono fun _ _ ⟨he, nq, hw⟩ => ⟨by rw [he]; simp, by rw [hw]; exact below_drewN (Below.refl _ _) _⟩

theorem ccInts_sameN (w : World) (lo lo' : Nat) (A A' : Option Addr) (n c c' : Nat) (xs : List Int) (hn : xs.length = n) (h : Row w lo (.slice A n c) xs) (h' : Row w lo' (.slice A' n c') xs) :
    Calls Try.prog 10 #[.slice A n c, .slice A' n c'] w (RetB w true) := by
  subst hn
  exact ccInts_sameP w lo lo' A A' c c' xs h h'
theorem prev_pos {h : Hp} {c : Int} {k : Nat} (hv : hvB h = true) (h0 : 0 ≤ c) (hk : 1 ≤ k) (hc : gd (dist h h.t) c = (k : Int) + 1) : 0 ≤ prevC h (dist h h.t) c k := by
  obtain ⟨q1, _⟩ := prev_some hv h0 hk hc
  unfold srcs at q1
  split at q1
  · unfold srcN at q1
    rw [List.mem_map] at q1
    obtain ⟨j, _, e⟩ := q1
    rw [← e]; omega
  · simp at q1
theorem way_one (h : Hp) (D : List Int) (c : Int) : wayL h D 1 c = [c] := rfl
theorem way_last (h : Hp) (D : List Int) (d : Nat) (c : Int) : (wayL h D (d + 1) c)[d]? = some c := by
  rcases Nat.eq_zero_or_pos d with rfl | hd
  · rfl
  · rw [way_succ h D hd, List.getElem?_append_right (by rw [wayL_len]; omega), wayL_len]
    simp
theorem way_at {h : Hp} (hv : hvB h = true) : ∀ (d : Nat) (c : Int), 0 ≤ c → gd (dist h h.t) c = d → ∀ (i : Nat) (y : Int), (wayL h (dist h h.t) d c)[i]? = some y → 0 ≤ y ∧ gd (dist h h.t) y = (i : Int) + 1 := by
  intro d
  induction d with
  | zero => intro c _ _ i y hy; simp [wayL] at hy
  | succ d ih =>
    intro c h0 hc i y hy
    have hil := (List.getElem?_eq_some_iff.1 hy).1
    rw [wayL_len] at hil
    by_cases hid : i = d
    · subst hid
      rw [way_last] at hy
      obtain rfl : c = y := by simpa using hy
      exact ⟨h0, by rw [hc]; omega⟩
    · have hd : 1 ≤ d := by omega
      rw [way_succ h _ hd, List.getElem?_append_left (by rw [wayL_len]; omega)] at hy
      have hc' : gd (dist h h.t) c = (d : Int) + 1 := by rw [hc]; omega
      exact ih _ (prev_pos hv h0 hd hc') (prev_some hv h0 hd hc').2 i y hy
theorem way_next {h : Hp} (hv : hvB h = true) : ∀ (d : Nat) (c : Int), 0 ≤ c → gd (dist h h.t) c = d → ∀ (i : Nat) (x y : Int), (wayL h (dist h h.t) d c)[i]? = some x → (wayL h (dist h h.t) d c)[i + 1]? = some y → x ∈ srcs h y := by
  intro d
  induction d with
  | zero => intro c _ _ i x y hx _; simp [wayL] at hx
  | succ d ih =>
    intro c h0 hc i x y hx hy
    have hil := (List.getElem?_eq_some_iff.1 hy).1
    rw [wayL_len] at hil
    have hd : 1 ≤ d := by omega
    have hc' : gd (dist h h.t) c = (d : Int) + 1 := by rw [hc]; omega
    obtain ⟨q1, q2⟩ := prev_some hv h0 hd hc'
    rw [way_succ h _ hd, List.getElem?_append_left (by rw [wayL_len]; omega)] at hx
    by_cases hid : i + 1 = d
    · subst hid
      rw [way_last] at hy
      obtain rfl : c = y := by simpa using hy
      rw [way_last] at hx
      obtain rfl : prevC h (dist h h.t) c ((i + 1 : Nat) : Int) = x := by simpa using hx
      exact q1
    · rw [way_succ h _ hd, List.getElem?_append_left (by rw [wayL_len]; omega)] at hy
      exact ih _ (prev_pos hv h0 hd hc') q2 i x y hx hy
theorem bfs_one {l r t : List Int} {n : Nat} (hl : l.length = n) (hr : r.length = n) (h1 : l.all (ptB · n) = true) (h2 : r.all (ptB · n) = true) :
    ∀ (f : Nat) (D : List Int) (d : Int) (xs : List Int), D.length = n → 2 ≤ d → xs.all (ptB · n) = true → (∀ c, 0 ≤ c → gd D c = 1 → c ∈ t) → ∀ c, 0 ≤ c → gd (bfs l r f D d xs) c = 1 → c ∈ t := by
  intro f
  induction f with
  | zero => intro D d xs _ _ _ P c h0 hc; exact P c h0 hc
  | succ f ih =>
    intro D d xs hD hd hx P
    have hvals := marks_vals (n := n) (d := d) (s := (D, [])) (xs := xs) hx hD (by omega) (by rfl) (by simp)
    have hm : ∀ c, 0 ≤ c → gd (marks d (D, []) xs).1 c = 1 → c ∈ t := by
      intro c h0 hc
      rcases marks_new (s := (D, [])) hx h0 (by rw [hc]; omega) with h9 | h9
      · have e := marks_keep (d := d) (s := (D, [])) hx h0 h9
        exact P c h0 (by rw [← hc, e])
      · have := hvals c h9; omega
    by_cases hq : (marks d (D, []) xs).2 = []
    · have hb : bfs l r (f + 1) D d xs = (marks d (D, []) xs).1 := by
        show (if (marks d (D, []) xs).2 = [] then _ else _) = _
        rw [if_pos hq]
      rw [hb]; exact hm
    · have hb : bfs l r (f + 1) D d xs = bfs l r f (marks d (D, []) xs).1 (d + 1) (kids l r (marks d (D, []) xs).2) := by
        show (if (marks d (D, []) xs).2 = [] then _ else _) = _
        rw [if_neg hq]
      rw [hb]
      have hcells := marks_cells (n := n) (d := d) (s := (D, [])) (by rfl) hx
      exact ih _ _ _ (by rw [marks_len]; exact hD) (by omega) (kids_pt hl hr h1 h2 hcells) hm
theorem one_root {h : Hp} (hv : hvB h = true) {c : Int} (h0 : 0 ≤ c) (hc : gd (dist h h.t) c = 1) : c ∈ h.t := by
  obtain ⟨⟨hr, _⟩, h3, h4, h5⟩ := hvB_parts hv
  have hm : ∀ c, 0 ≤ c → gd (marks 1 (List.replicate h.l.length (-1), []) h.t).1 c = 1 → c ∈ h.t := by
    intro c h0 hc
    rcases marks_new (s := (List.replicate h.l.length (-1), [])) h5 h0 (by rw [hc]; omega) with h9 | h9
    · have h8 : gd (List.replicate h.l.length (-1)) c = -1 := gd_rep _ _
      simp only at h9; omega
    · rcases marks_from h9 with h7 | h7
      · simp at h7
      · exact h7.1
  unfold dist at hc
  by_cases hq : (marks 1 (List.replicate h.l.length (-1), []) h.t).2 = []
  · have hb : bfs h.l h.r (h.l.length + 1) (List.replicate h.l.length (-1)) 1 h.t = (marks 1 (List.replicate h.l.length (-1), []) h.t).1 := by
      show (if (marks 1 (List.replicate h.l.length (-1), []) h.t).2 = [] then _ else _) = _
      rw [if_pos hq]
    rw [hb] at hc; exact hm c h0 hc
  · have hb : bfs h.l h.r (h.l.length + 1) (List.replicate h.l.length (-1)) 1 h.t = bfs h.l h.r h.l.length (marks 1 (List.replicate h.l.length (-1), []) h.t).1 (1 + 1) (kids h.l h.r (marks 1 (List.replicate h.l.length (-1), []) h.t).2) := by
      show (if (marks 1 (List.replicate h.l.length (-1), []) h.t).2 = [] then _ else _) = _
      rw [if_neg hq]
    have hcells := marks_cells (n := h.l.length) (d := 1) (s := (List.replicate h.l.length (-1), [])) (by rfl) h5
    rw [hb] at hc
    exact bfs_one (n := h.l.length) rfl hr h3 h4 _ _ _ _ (by rw [marks_len]; simp) (by omega) (kids_pt rfl hr h3 h4 hcells) hm c h0 hc
theorem src_points {h : Hp} {x y : Int} (hx : x ∈ srcs h y) : ∃ k : Nat, x = k ∧ k < h.l.length ∧ (h.l[k]? = some y ∨ h.r[k]? = some y) := by
  unfold srcs at hx
  split at hx
  · rename_i hc
    rw [Bool.and_eq_true] at hc
    obtain ⟨⟨hr, _⟩, _⟩ := hvB_parts hc.1
    unfold srcN at hx
    rw [List.mem_map] at hx
    obtain ⟨k, hk, rfl⟩ := hx
    rw [List.mem_filter, List.mem_range] at hk
    obtain ⟨hk1, hp⟩ := hk
    have hk2 : k < h.r.length := by rw [hr]; exact hk1
    unfold pntB at hp
    rw [Bool.or_eq_true] at hp
    refine ⟨k, rfl, hk1, hp.imp (fun e => ?_) (fun e => ?_)⟩
    · have e' : h.l.getD k 0 = y := by simpa using e
      rw [← e']; simp [List.getD, List.getElem?_eq_getElem hk1]
    · have e' : h.r.getD k 0 = y := by simpa using e
      rw [← e']; simp [List.getD, List.getElem?_eq_getElem hk2]
  · simp at hx
theorem pth_facts {h : Hp} {c : Int} (hok : dokB h c = true) : ∃ N : Nat, hvB h = true ∧ dstN h c = N ∧ 1 ≤ N ∧ N ≤ 8 ∧ (pthL h c).length = N ∧ (pthL h c)[N - 1]? = some c ∧ (∃ y0, (pthL h c)[0]? = some y0 ∧ y0 ∈ h.t) ∧
    (∀ (i : Nat) (y : Int), (pthL h c)[i]? = some y → (∃ k : Nat, y = k ∧ k < h.l.length) ∧ dokB h y = true ∧ dstN h y = (i : Int) + 1) ∧
    (∀ (i : Nat) (x y : Int), (pthL h c)[i]? = some x → (pthL h c)[i + 1]? = some y → ∃ k : Nat, x = k ∧ k < h.l.length ∧ (h.l[k]? = some y ∨ h.r[k]? = some y)) := by
  have hd : dstN h c = gd (dist h h.t) c := by unfold dstN; rw [if_pos hok]
  have hok2 := hok
  unfold dokB at hok2
  rw [Bool.and_eq_true, Bool.and_eq_true, decide_eq_true_eq] at hok2
  obtain ⟨⟨hv, hpl⟩, hg⟩ := hok2
  have hc0 : 0 ≤ c := by simp only [plB, decide_eq_true_eq] at hpl; omega
  obtain ⟨b1, b2⟩ := dist_bounds hv hc0 hg
  have hcb := liveL_bd h
  have hcb2 := (cntB_bd (liveL h)).2
  obtain ⟨N, hN⟩ : ∃ N : Nat, gd (dist h h.t) c = (N : Int) := ⟨_, (Int.toNat_of_nonneg hg).symm⟩
  have hpe : pthL h c = wayL h (dist h h.t) N c := by unfold pthL; rw [if_pos hok, hN]; simp
  have hN1 : 1 ≤ N := by omega
  obtain ⟨M, rfl⟩ : ∃ M, N = M + 1 := ⟨N - 1, by omega⟩
  rw [hpe]
  refine ⟨M + 1, hv, by rw [hd, hN], by omega, by omega, wayL_len _ _ _ _, way_last _ _ _ _, ?_, fun i y hy => ?_, fun i x y hx hy => src_points (way_next hv _ _ hc0 hN i x y hx hy)⟩
  · have hl : 0 < (wayL h (dist h h.t) (M + 1) c).length := by rw [wayL_len]; omega
    refine ⟨_, List.getElem?_eq_getElem hl, ?_⟩
    obtain ⟨q1, q2⟩ := way_at hv _ _ hc0 hN 0 _ (List.getElem?_eq_getElem hl)
    exact one_root hv q1 (by rw [q2]; rfl)
  · obtain ⟨q1, q2⟩ := way_at hv _ _ hc0 hN i y hy
    have hp := gd_plB q1 (by rw [q2]; omega)
    rw [dist_len] at hp
    have hoy : dokB h y = true := by
      unfold dokB
      rw [Bool.and_eq_true, Bool.and_eq_true, decide_eq_true_eq]
      exact ⟨⟨hv, hp⟩, by rw [q2]; omega⟩
    exact ⟨plB_nat hp, hoy, by unfold dstN; rw [if_pos hoy, q2]⟩
end Go.Proofs.Ytkcelcjghplhiaa
