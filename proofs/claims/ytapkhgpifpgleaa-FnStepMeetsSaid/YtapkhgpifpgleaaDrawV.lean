/- spec.l1Draw draws a valid heap. -/
import Derived.Test.YtapkhgpifpgleaaDraws
import Derived.Test.YtapkhgpifpgleaaPure
namespace Go.Proofs.Ytapkhgpifpgleaa
open Go.RowKit

/-- The ints at [a, b) of block g lie in [lo, hi]. -/
def Bd (w : World) (g a b : Nat) (lo hi : Int) : Prop := ∀ j, a ≤ j → j < b → ∃ x : Int, w.cell? ⟨g, j, none⟩ = some (.int .i64 x) ∧ lo ≤ x ∧ x ≤ hi
theorem Bd.none {w : World} {g a : Nat} {lo hi : Int} : Bd w g a a lo hi := fun j h1 h2 => by omega
theorem Bd.drew {w : World} {g a b : Nat} {lo hi : Int} (h : Bd w g a b lo hi) : Bd w.drew g a b lo hi := h
theorem Bd.only {w w' : World} {g a b rb : Nat} {lo hi : Int} (h : Bd w g a b lo hi) (hO : Only rb w w') (hne : g ≠ rb) : Bd w' g a b lo hi := fun j h1 h2 => by
  obtain ⟨x, hc, h3⟩ := h j h1 h2
  exact ⟨x, hO.1.cell hc (fun e => hne (Option.some.inj e)), h3⟩
theorem Bd.far {w : World} {g a b : Nat} {lo hi : Int} (h : Bd w g a b lo hi) {p : Addr} (hne : g ≠ p.block) (u : Value) : Bd (w.setCell p u) g a b lo hi := fun j h1 h2 => by
  obtain ⟨x, hc, h3⟩ := h j h1 h2
  exact ⟨x, (World.cell?_setCell_far w p _ u hne.symm).trans hc, h3⟩
theorem Bd.past {w : World} {g a b k : Nat} {lo hi : Int} (h : Bd w g a b lo hi) (hk : b ≤ k) (u : Value) : Bd (w.setCell ⟨g, k, Option.none⟩ u) g a b lo hi := fun j h1 h2 => by
  obtain ⟨x, hc, h3⟩ := h j h1 h2
  exact ⟨x, (World.cell?_setCell_other w _ _ u (fun e => by have h9 : k = j := congrArg Addr.off e; omega)).trans hc, h3⟩
theorem Bd.at_ {w : World} {g k : Nat} {x lo hi : Int} (hc : w.cell? ⟨g, k, Option.none⟩ = some (.int .i64 x)) (h1 : lo ≤ x) (h2 : x ≤ hi) : Bd w g k (k + 1) lo hi := fun j a b => by
  obtain rfl : j = k := by omega
  exact ⟨x, hc, h1, h2⟩
theorem Bd.join {w : World} {g a b c : Nat} {lo hi : Int} (h : Bd w g a b lo hi) (h' : Bd w g b c lo hi) : Bd w g a c lo hi := fun j h1 h2 => by
  rcases Nat.lt_or_ge j b with h9 | h9
  · exact h j h1 h9
  · exact h' j h9 h2
theorem Bd.val {w : World} {g a b k : Nat} {lo hi x : Int} (h : Bd w g a b lo hi) (h1 : a ≤ k) (h2 : k < b) (hc : w.cell? ⟨g, k, Option.none⟩ = some (.int .i64 x)) : lo ≤ x ∧ x ≤ hi := by
  obtain ⟨y, hy, h3⟩ := h k h1 h2
  rw [hc] at hy
  cases hy
  exact h3
theorem bd_all {w : World} {lo g n c N : Nat} {xs : List Int} (r : Row w lo (.slice (some ⟨g, 0, none⟩) n c) xs) (hn : xs.length = n) (b : Bd w g 0 n (-1) ((N : Int) - 1)) : xs.all (ptB · N) = true := by
  rw [List.all_eq_true]
  intro x hx
  obtain ⟨k, hk, rfl⟩ := List.getElem_of_mem hx
  obtain ⟨g', y, e, _, _, hy, hc, _⟩ := r.get hk
  cases e
  have h9 := hy.out
  rw [List.getElem?_eq_getElem hk] at h9
  cases h9
  have := b.val (Nat.zero_le _) (by omega) hc
  simp only [ptB, decide_eq_true_eq]
  omega

/-- A drawn heap comes back, and it is valid. -/
def DrawnHV (w : World) (B rb : Nat) (A : Option Addr) (nb c p : Nat) (e : Ending) (w' : World) : Prop :=
  ∃ v h p', e = .returned v ∧ Hv w' w.heap.size v h ∧ hvB h = true ∧ Rd w' B rb A nb c p' ∧ p' ≤ p + 32 ∧ w.grownBy w' (some rb)

set_option maxRecDepth 100000 in
set_option maxHeartbeats 600000 in
theorem l1DrawV_any (w : World) (B rb : Nat) (A : Option Addr) (nb c p : Nat) (h : Rd w B rb A nb c p) (hp : p ≤ 10000) :
    Calls Try.prog 61 #[.pointer (some ⟨rb, 0, none⟩)] w (DrawnHV w B rb A nb c p) := by
  have hrl := h.lt
  have Y0 := Blk3.new w (.slice none 0 0) (.slice none 0 0) (.slice none 0 0) 27
  have h0 := h.alloc (.cells #[.slice none 0 0, .slice none 0 0, .slice none 0 0] 27)
  go_enter Try.func61, Try.ntmps61
  go_wp2_with fail
  refine (num_any _ _ _ _ _ _ _ (h0.alloc _) (by omega) _ _ _ [4, 3, 5, 6, 2, 8, 1] 0 (Row.lit_at (g := w.heap.size + 1) (by simp) [4, 3, 5, 6, 2, 8, 1] (by decide)) rfl (by decide) (by decide) (by simp; omega)).mono ?_
  rintro e w1 ⟨x, hx, rfl, hR1, hO1⟩
  have hxn : ∃ n : Nat, x = n ∧ 1 ≤ n ∧ n ≤ 8 := by
    simp at hx; exact ⟨x.toNat, by omega, by omega, by omega⟩
  obtain ⟨n, rfl, hn1, hn8⟩ := hxn
  clear hx
  go_wp2_with fail
  refine (num_any _ _ _ _ _ _ _ (hR1.alloc _) (by omega) _ _ _ [2, 1, 3] 0 (Row.lit_at (w := w1) (g := w1.heap.size) rfl [2, 1, 3] (by decide)) rfl (by decide) (by decide) (by have := hR1.lt; omega)).mono ?_
  rintro e w2 ⟨x, hx, rfl, hR2, hO2⟩
  have hxm : ∃ m : Nat, x = m ∧ 1 ≤ m ∧ m ≤ 3 := by
    simp at hx; exact ⟨x.toNat, by omega, by omega, by omega⟩
  obtain ⟨m, rfl, hm1, hm3⟩ := hxm
  clear hx
  have N := fun W => specNewHeap_any W n m
  have hnew : newO (n : Int) (m : Int) = some ⟨List.replicate n (-1), List.replicate n (-1), List.replicate m (-1)⟩ := by
    unfold newO; rw [if_pos (by simp [szB]; omega)]; simp
  rw [hnew] at N
  clear hnew
  go_wp2_with fail
  refine (N _).mono ?_
  rintro e w3 ⟨v, rfl, hv3, hb3⟩
  simp only [Option.isSome_some, Option.getD_some] at hv3 ⊢
  obtain ⟨A0, n0, c0, A1, n1, c1, A2, n2, c2, rfl, ⟨r0, r1, r2⟩, ⟨l0, l1, l2⟩, _, _, a01, a02, a12⟩ := hv3.open_
  obtain rfl : n = n0 := by have := l0.out; simpa using this
  obtain rfl : n = n1 := by have := l1.out; simpa using this
  obtain rfl : m = n2 := by have := l2.out; simpa using this
  obtain ⟨g0, _, rfl, _⟩ := RowN.get (w := w3) (lo := w2.heap.size) (n := n) ⟨_, l0.out, r0⟩ (k := 0) (by omega)
  obtain ⟨g1, _, rfl, _⟩ := RowN.get (w := w3) (lo := w2.heap.size) (n := n) ⟨_, l1.out, r1⟩ (k := 0) (by omega)
  obtain ⟨g2, _, rfl, _⟩ := RowN.get (w := w3) (lo := w2.heap.size) (n := m) ⟨_, l2.out, r2⟩ (k := 0) (by omega)
  have z2 : w.heap.size + 2 ≤ w2.heap.size := by have a := hO1.2; have b := hO2.2; simp at a b; omega
  have G2 : w.grownBy w2 (some rb) := grown_trans (grown_alloc (grown_trans (grown_alloc (grown_alloc (World.grownBy.refl w _) _) _) hO1.1) _) hO2.1
  have st : DrawSt w (w3.alloc (.cells #[.slice (some ⟨g0, 0, none⟩) n c0, .slice (some ⟨g1, 0, none⟩) n c1, .slice (some ⟨g2, 0, none⟩) m c2] 27)) B rb w3.heap.size A nb c (p + 1 + 1)
      (.slice (some ⟨g0, 0, none⟩) n c0) (.slice (some ⟨g1, 0, none⟩) n c1) (.slice (some ⟨g2, 0, none⟩) m c2) n m (w.heap.size + 1) w.heap.size := {
    r0 := ⟨_, l0.out, (r0.mono (by omega)).alloc _⟩
    r1 := ⟨_, l1.out, (r1.mono (by omega)).alloc _⟩
    r2 := ⟨_, l2.out, (r2.mono (by omega)).alloc _⟩
    res := (((((Y0.alloc _).kept hO1.1 (by omega)).alloc _).kept hO2.1 (by omega)).below hb3).alloc _
    blk := Blk3.new w3 _ _ _ _
    rd := (hR2.below hb3).alloc _
    gr := grown_alloc (grown_of G2 hb3) _
    bb := by have := hb3.size; omega
    rbl := hrl
    rsl := Nat.le_refl _
    rsh := by omega
    n0 := fun e => by have := (r0.lt _ e).2; omega
    n1 := fun e => by have := (r1.lt _ e).2; omega
    n2 := fun e => by have := (r2.lt _ e).2; omega
    a01 := a01
    a02 := a02
    a12 := a12 }
  clear hv3 r0 r1 r2 l0 l1 l2 a01 a02 a12 hb3 hR2 hO2 hR1 hO1 h0 Y0 h N G2 z2
  go_wp2_with fail
  generalize w3.heap.size = bx at st ⊢
  go_loopw [6] (fun i wr => ∃ k q : Nat, k ≤ n ∧ i = .int .i64 k ∧ q ≤ p + 2 + 2 * k ∧ DrawSt w wr B rb bx A nb c q (.slice (some ⟨g0, 0, none⟩) n c0) (.slice (some ⟨g1, 0, none⟩) n c1) (.slice (some ⟨g2, 0, none⟩) m c2) n m (w.heap.size + 1) w.heap.size ∧ Bd wr g0 0 k (-1) ((n : Int) - 1) ∧ Bd wr g1 0 k (-1) ((n : Int) - 1)) (fun i _ => n - (intOf i).toNat)
  case atStart => exact ⟨0, _, Nat.zero_le _, rfl, by omega, st, Bd.none, Bd.none⟩
  case round =>
    clear st
    obtain ⟨k, q, hk, rfl, hq, st, bd0, bd1⟩ := hrel
    by_cases hlt : k < n
    · obtain ⟨x0, x1, x2, _⟩ := st.blk.cells
      have gn0 : g0 ≠ rb := by
        obtain ⟨g', _, e', hgl, _⟩ := st.r0.get hlt
        cases e'; omega
      have gn1 : g1 ≠ rb := by
        obtain ⟨g', _, e', hgl, _⟩ := st.r1.get hlt
        cases e'; omega
      have a01 : g0 ≠ g1 := fun e => st.a01 g0 rfl (by rw [e]; rfl)
      have u1 : 1 ≤ (n : Int) + 2 := by omega
      have u2 : (n : Int) + 2 ≤ 1048576 := by omega
      have v1 : q ≤ 1048576 := by omega
      have v2 : q + 1 ≤ 1048576 := by omega
      have b3 : (k : Int) < (n : Int) := by omega
      have sA : IntKind.i64.wrap ((n : Int) + 2) = (n : Int) + 2 := IntWalk.i64_in _ (by omega)
      go_wp2_with fail
      go_region_held3 (fun w' => w'.cell? ⟨bx, 0, none⟩ = some (.slice (some ⟨g0, 0, none⟩) n c0))
        ((first | exact x0 | exact y0 | (rw [World.cell?_setCell_far _ _ _ _ (by exact hgb)]; exact y0)))
        (((go_at_call 62; refine (pick_any _ B rb A nb c q st.rd.drew ((n : Int) + 2) u1 u2 v1).mono ?_; rintro e w4 ⟨xv, rfl, hx, hR, hO⟩; have sB := wrap_sub1 hx u2; have st1 := st.drew.pick hR hO; obtain ⟨y0, y1, y2, _⟩ := st1.blk.cells; obtain ⟨g', _, e', hg1, hg2, hc4, hf4⟩ := st1.r0.get hlt; cases e'; have hgb : g0 ≠ bx := (fun e => st1.n0 (by rw [e]; rfl)))))
      have st2 := st1.put0 hg1 k ((xv : Int) - 1)
      have bd0a := (bd0.drew.only hO gn0).past (Nat.le_refl _) (.int .i64 ((xv : Int) - 1))
      have bd1a := (bd1.drew.only hO gn1).far (p := ⟨g0, k, none⟩) a01.symm (.int .i64 ((xv : Int) - 1))
      have bx0 : Bd (w4.setCell ⟨g0, k, none⟩ (.int .i64 ((xv : Int) - 1))) g0 k (k + 1) (-1) n := Bd.at_ (World.cell?_setCell_same w4 _ _ hc4) (by omega) (by omega)
      generalize w4.setCell ⟨g0, k, none⟩ (.int .i64 ((xv : Int) - 1)) = W2 at st2 bd0a bd1a bx0 ⊢
      clear bd0 bd1
      rename_i hHeld
      clear hHeld y0 y1 y2 hc4 hf4 hg2 hgb st1 hR hO hx sB
      clear x0 x1 x2 st
      obtain ⟨x0, x1, x2, _⟩ := st2.blk.cells
      go_wp2_with fail
      go_region_held3 (fun w' => w'.cell? ⟨bx, 1, none⟩ = some (.slice (some ⟨g1, 0, none⟩) n c1))
        ((first | exact x1 | exact y1 | (rw [World.cell?_setCell_far _ _ _ _ (by exact hgb)]; exact y1)))
        (((go_at_call 62; refine (pick_any _ B rb A nb c (q + 1) st2.rd.drew ((n : Int) + 2) u1 u2 v2).mono ?_; rintro e w5 ⟨xw, rfl, hx, hR, hO⟩; have sB := wrap_sub2 hx u2; have st3 := st2.drew.pick hR hO; obtain ⟨y0, y1, y2, _⟩ := st3.blk.cells; obtain ⟨g', _, e', hg1, hg2, hc4, hf4⟩ := st3.r1.get hlt; cases e'; have hgb : g1 ≠ bx := (fun e => st3.n1 (by rw [e]; rfl)))))
      have st4 := st3.put1 hg1 k ((xw : Int) - 2)
      have bd0b := (bd0a.drew.only hO gn0).far (p := ⟨g1, k, none⟩) a01 (.int .i64 ((xw : Int) - 2))
      have bx0b := (bx0.drew.only hO gn0).far (p := ⟨g1, k, none⟩) a01 (.int .i64 ((xw : Int) - 2))
      have bd1b := (bd1a.drew.only hO gn1).past (Nat.le_refl _) (.int .i64 ((xw : Int) - 2))
      have bx1 : Bd (w5.setCell ⟨g1, k, none⟩ (.int .i64 ((xw : Int) - 2))) g1 k (k + 1) (-2) ((n : Int) - 1) := Bd.at_ (World.cell?_setCell_same w5 _ _ hc4) (by omega) (by omega)
      generalize w5.setCell ⟨g1, k, none⟩ (.int .i64 ((xw : Int) - 2)) = W4 at st4 bd0b bx0b bd1b bx1 ⊢
      clear bd0a bd1a bx0
      rename_i hHeld
      clear hHeld y0 y1 y2 hc4 hf4 hg2 hgb st3 hR hO hx sB sA
      clear x0 x1 x2 st2
      obtain ⟨x0, x1, x2, _⟩ := st4.blk.cells
      obtain ⟨g', u0, e', hg1, hg2, hc0, hf0⟩ := st4.r0.get hlt
      cases e'
      obtain ⟨g', u1, e', hg1', hg2', hc1, hf1⟩ := st4.r1.get hlt
      cases e'
      have v0 := bx0b.val (Nat.le_refl _) (Nat.lt_succ_self _) hc0
      have v1' := bx1.val (Nat.le_refl _) (Nat.lt_succ_self _) hc1
      have b0 : g0 ≠ bx := fun e => st4.n0 (by rw [e]; rfl)
      have b1 : g1 ≠ bx := fun e => st4.n1 (by rw [e]; rfl)
      by_cases t0 : (n : Int) ≤ u0
      · have st5 := st4.put0 hg1 k (-1)
        have c0 : Bd (W4.setCell ⟨g0, k, none⟩ (.int .i64 (-1))) g0 0 (k + 1) (-1) ((n : Int) - 1) := (bd0b.past (Nat.le_refl _) _).join (Bd.at_ (World.cell?_setCell_same W4 _ _ hc0) (by omega) (by omega))
        have c1 := bd1b.far (p := ⟨g0, k, none⟩) a01.symm (.int .i64 (-1))
        have cx1 := bx1.far (p := ⟨g0, k, none⟩) a01.symm (.int .i64 (-1))
        obtain ⟨z0, z1, z2, _⟩ := st5.blk.cells
        obtain ⟨g', u2, e', _, _, hc2, hf2⟩ := st5.r1.get hlt
        cases e'
        have v2' := cx1.val (Nat.le_refl _) (Nat.lt_succ_self _) hc2
        by_cases t1 : u2 < -1
        · have st6 := st5.put1 hg1' k (-1)
          have d0 := c0.far (p := ⟨g1, k, none⟩) a01 (.int .i64 (-1))
          have d1 : Bd ((W4.setCell ⟨g0, k, none⟩ (.int .i64 (-1))).setCell ⟨g1, k, none⟩ (.int .i64 (-1))) g1 0 (k + 1) (-1) ((n : Int) - 1) := (c1.past (Nat.le_refl _) _).join (Bd.at_ (World.cell?_setCell_same _ _ _ hc2) (by omega) (by omega))
          go_wp2_with fail
          go_roundw
          case rel => exact ⟨k + 1, q + 1 + 1, by omega, by go_num, by omega, st6, d0, d1⟩
          case measure => simp [intOf]; omega
        · have d1 : Bd (W4.setCell ⟨g0, k, none⟩ (.int .i64 (-1))) g1 0 (k + 1) (-1) ((n : Int) - 1) := c1.join (Bd.at_ hc2 (by omega) (by omega))
          go_wp2_with fail
          go_roundw
          case rel => exact ⟨k + 1, q + 1 + 1, by omega, by go_num, by omega, st5, c0, d1⟩
          case measure => simp [intOf]; omega
      · by_cases t1 : u1 < -1
        · have st6 := st4.put1 hg1' k (-1)
          have d0 : Bd (W4.setCell ⟨g1, k, none⟩ (.int .i64 (-1))) g0 0 (k + 1) (-1) ((n : Int) - 1) := (bd0b.join (Bd.at_ hc0 (by omega) (by omega))).far a01 _
          have d1 : Bd (W4.setCell ⟨g1, k, none⟩ (.int .i64 (-1))) g1 0 (k + 1) (-1) ((n : Int) - 1) := (bd1b.past (Nat.le_refl _) _).join (Bd.at_ (World.cell?_setCell_same _ _ _ hc1) (by omega) (by omega))
          go_wp2_with fail
          go_roundw
          case rel => exact ⟨k + 1, q + 1 + 1, by omega, by go_num, by omega, st6, d0, d1⟩
          case measure => simp [intOf]; omega
        · have d0 : Bd W4 g0 0 (k + 1) (-1) ((n : Int) - 1) := bd0b.join (Bd.at_ hc0 (by omega) (by omega))
          have d1 : Bd W4 g1 0 (k + 1) (-1) ((n : Int) - 1) := bd1b.join (Bd.at_ hc1 (by omega) (by omega))
          go_wp2_with fail
          go_roundw
          case rel => exact ⟨k + 1, q + 1 + 1, by omega, by go_num, by omega, st4, d0, d1⟩
          case measure => simp [intOf]; omega
    · obtain rfl : n = k := by omega
      go_wp2_with fail
      go_loopw [7] (fun i wr => ∃ j q : Nat, j ≤ m ∧ i = .int .i64 j ∧ q ≤ p + 18 + j ∧ DrawSt w wr B rb bx A nb c q (.slice (some ⟨g0, 0, none⟩) n c0) (.slice (some ⟨g1, 0, none⟩) n c1) (.slice (some ⟨g2, 0, none⟩) m c2) n m (w.heap.size + 1) w.heap.size ∧ Bd wr g0 0 n (-1) ((n : Int) - 1) ∧ Bd wr g1 0 n (-1) ((n : Int) - 1) ∧ Bd wr g2 0 j (-1) ((n : Int) - 1)) (fun i _ => m - (intOf i).toNat)
      case atStart => exact ⟨0, _, Nat.zero_le _, rfl, by omega, st, bd0, bd1, Bd.none⟩
      case round =>
        clear st hq hlt bd0 bd1
        obtain ⟨k, q, hk, rfl, hq, st, bd0, bd1, bd2⟩ := hrel
        by_cases hlt : k < m
        · obtain ⟨x0, x1, x2, _⟩ := st.blk.cells
          have gn0 : g0 ≠ rb := by
            obtain ⟨g', _, e', hgl, _⟩ := st.r0.get (k := 0) (by omega)
            cases e'; omega
          have gn1 : g1 ≠ rb := by
            obtain ⟨g', _, e', hgl, _⟩ := st.r1.get (k := 0) (by omega)
            cases e'; omega
          have gn2 : g2 ≠ rb := by
            obtain ⟨g', _, e', hgl, _⟩ := st.r2.get hlt
            cases e'; omega
          have a02 : g0 ≠ g2 := fun e => st.a02 g0 rfl (by rw [e]; rfl)
          have a12 : g1 ≠ g2 := fun e => st.a12 g1 rfl (by rw [e]; rfl)
          have u1 : 1 ≤ (n : Int) + 1 := by omega
          have u2 : (n : Int) + 1 ≤ 1048576 := by omega
          have v1 : q ≤ 1048576 := by omega
          have b3 : (k : Int) < (m : Int) := by omega
          have sA : IntKind.i64.wrap ((n : Int) + 1) = (n : Int) + 1 := IntWalk.i64_in _ (by omega)
          go_wp2_with fail
          go_region_held3 (fun w' => w'.cell? ⟨bx, 2, none⟩ = some (.slice (some ⟨g2, 0, none⟩) m c2))
            ((first | exact x2 | exact y2 | (rw [World.cell?_setCell_far _ _ _ _ (by exact hgb)]; exact y2)))
            (((go_at_call 62; refine (pick_any _ B rb A nb c q st.rd.drew ((n : Int) + 1) u1 u2 v1).mono ?_; rintro e w4 ⟨xv, rfl, hx, hR, hO⟩; have sB := wrap_sub1 hx u2; have st1 := st.drew.pick hR hO; obtain ⟨y0, y1, y2, _⟩ := st1.blk.cells; obtain ⟨g', _, e', hg1, hg2, hc4, hf4⟩ := st1.r2.get hlt; cases e'; have hgb : g2 ≠ bx := (fun e => st1.n2 (by rw [e]; rfl)))))
          have st2 := st1.put2 hg1 k ((xv : Int) - 1)
          have e0 := (bd0.drew.only hO gn0).far (p := ⟨g2, k, none⟩) a02 (.int .i64 ((xv : Int) - 1))
          have e1 := (bd1.drew.only hO gn1).far (p := ⟨g2, k, none⟩) a12 (.int .i64 ((xv : Int) - 1))
          have e2 : Bd (w4.setCell ⟨g2, k, none⟩ (.int .i64 ((xv : Int) - 1))) g2 0 (k + 1) (-1) ((n : Int) - 1) := ((bd2.drew.only hO gn2).past (Nat.le_refl _) _).join (Bd.at_ (World.cell?_setCell_same w4 _ _ hc4) (by omega) (by omega))
          generalize w4.setCell ⟨g2, k, none⟩ (.int .i64 ((xv : Int) - 1)) = W2 at st2 e0 e1 e2 ⊢
          clear bd0 bd1 bd2
          rename_i hHeld
          clear hHeld y0 y1 y2 hc4 hf4 hg2 hgb st1 hR hO hx sB sA
          clear x0 x1 x2 st
          go_wp2_with fail
          go_roundw
          case rel => exact ⟨k + 1, q + 1, by omega, by go_num, by omega, st2, e0, e1, e2⟩
          case measure => simp [intOf]; omega
        · obtain ⟨h, hH, e0, e1, e2, hR, hG⟩ := draw_done st
          obtain ⟨x0, x1, x2, _⟩ := st.blk.cells
          obtain ⟨r0, r1, r2, f0, f1, f2⟩ := st.res.cells
          have hbx : w.heap.size ≠ bx := by have := st.bb; omega
          have b3 : ¬ (k : Int) < (m : Int) := by omega
          obtain rfl : m = k := by omega
          have hval : hvB h = true := by
            obtain ⟨_, _, _, _, _, _, _, _, _, ev, ⟨q0, q1, q2⟩, ⟨l0, l1, l2⟩, _⟩ := hH.open_
            cases ev
            have far : ∀ g, g ≠ w.heap.size → ∀ N : Nat, Bd wr g 0 N (-1) ((n : Int) - 1) → Bd (((wr.setCell ⟨w.heap.size, 0, none⟩ (.slice (some ⟨g0, 0, none⟩) n c0)).setCell ⟨w.heap.size, 1, none⟩ (.slice (some ⟨g1, 0, none⟩) n c1)).setCell ⟨w.heap.size, 2, none⟩ (.slice (some ⟨g2, 0, none⟩) m c2)) g 0 N (-1) ((n : Int) - 1) := fun g hg N b => ((b.far hg _).far hg _).far hg _
            have ge0 : g0 ≠ w.heap.size := by
              obtain ⟨g', _, e', hgl, _⟩ := st.r0.get (k := 0) (by omega)
              cases e'; omega
            have ge1 : g1 ≠ w.heap.size := by
              obtain ⟨g', _, e', hgl, _⟩ := st.r1.get (k := 0) (by omega)
              cases e'; omega
            have ge2 : g2 ≠ w.heap.size := by
              obtain ⟨g', _, e', hgl, _⟩ := st.r2.get (k := 0) (by omega)
              cases e'; omega
            have p0 := bd_all q0 e0 (far g0 ge0 n bd0)
            have p1 := bd_all q1 e1 (far g1 ge1 n bd1)
            have p2 := bd_all q2 e2 (far g2 ge2 m bd2)
            rw [← e0] at p0 p1 p2
            exact hvB_mk (by omega) (by rw [e0, e2]; simp [szB]; omega) p0 p1 p2
          go_wp2_with fail
          refine bodyPost_ret (v := .agg #[.slice (some ⟨g0, 0, none⟩) n c0, .slice (some ⟨g1, 0, none⟩) n c1, .slice (some ⟨g2, 0, none⟩) m c2]) ?_ rfl ⟨_, h, q, rfl, hH, hval, hR, by omega, hG⟩
          simp [results, Try.results61, go_sem, r0, r1, r2]
end Go.Proofs.Ytapkhgpifpgleaa
