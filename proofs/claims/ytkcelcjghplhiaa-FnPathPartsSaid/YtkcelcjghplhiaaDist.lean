/- impl.distancesFrom: the search, by a map, a label and a goto. -/
import Derived.Test.YtkcelcjghplhiaaBfs
import Derived.Test.YtkcelcjghplhiaaPut
import Derived.Test.YtkcelcjghplhiaaPure
import Derived.Test.YtkcelcjghplhiaaWrong
import Derived.Test.YtkcelcjghplhiaaExactH
import Derived.Deep.AppendLies
import Derived.Deep.RegionLaw
import Derived.Maps.OwnSet
import Derived.ScopeJumps
import Derived.WalkMore
import Derived.Deep.LoopGhost
namespace Go.Proofs.Ytkcelcjghplhiaa
open Go.RowKit Go.Maps

theorem lawInt : Keyed Try.prog 3 := int_keyed Try.underlying3
theorem zeroInt (w : World) : (zeroValue 3).run Try.prog w = .ok (.int .i64 0) w := by kernel_rfl
theorem wfI {n : Int} (h : -9223372036854775808 ≤ n ∧ n ≤ 9223372036854775807) : (Lit.int .i64 n).wf = true := WalkArith.wf_i64 h

/-- The map holds the numbers that are not negative, at their places. -/
def MapIs (M : DataW Unit) (D : List Int) : Prop :=
  ∀ x : Int, Maps.has M (.int .i64 x) = decide (0 ≤ x ∧ 0 ≤ gd D x) ∧ (0 ≤ x → 0 ≤ gd D x → M.atKey (.int .i64 x) (.lit (.int .i64 0)) = .lit (.int .i64 (gd D x)))
theorem mapIs_empty (n : Nat) : MapIs (.map []) (List.replicate n (-1)) := by
  intro x
  have hg : gd (List.replicate n (-1)) x = -1 := by
    unfold gd
    rw [List.getD_eq_getElem?_getD]
    by_cases h : x.toNat < n
    · simp [h]
    · simp [h]
  rw [hg]
  exact ⟨by simp [Maps.has], fun _ h => absurd h (by omega)⟩
theorem gd_set_same {D : List Int} {x d : Int} (h0 : 0 ≤ x) (hn : x < D.length) : gd (D.set x.toNat d) x = d := by
  have : x.toNat < D.length := by omega
  simp [gd, List.getD, this]
theorem gd_set_other {D : List Int} {x y d : Int} (hx : 0 ≤ x) (hy : 0 ≤ y) (hne : y ≠ x) : gd (D.set x.toNat d) y = gd D y := by
  have : x.toNat ≠ y.toNat := by omega
  simp [gd, List.getD, List.getElem?_set_ne this]
theorem MapIs.put {M : DataW Unit} {D : List Int} (h : MapIs M D) (hM : IsMap M) {x d : Int} (h0 : 0 ≤ x) (hn : x < D.length) (hd : 0 ≤ d) : MapIs (M.put (.int .i64 x) (.lit (.int .i64 d))) (D.set x.toNat d) := by
  intro y
  by_cases hy : y = x
  · subst hy
    rw [gd_set_same h0 hn]
    refine ⟨?_, fun _ _ => atKey_put_same hM (by exact trivial) _ _⟩
    rw [has_put_same hM (by exact trivial)]; simp; omega
  · have hk : (Lit.int .i64 y) ≠ (Lit.int .i64 x) := fun e => hy (by simpa using e)
    rw [has_put_other hk, atKey_put_other hk]
    by_cases hy0 : 0 ≤ y
    · rw [gd_set_other h0 hy0 hy]; exact h y
    · refine ⟨?_, fun e => absurd e hy0⟩
      rw [(h y).1]; simp [hy0]

/-- A map comes back that holds the distances; nothing that was there has turned. -/
def DistMap (w : World) (D : List Int) (e : Ending) (w' : World) : Prop :=
  ∃ b m M, e = .returned (.map (some b)) ∧ w.heap.size ≤ b ∧ w'.ownsMap Try.prog 3 (plainElem (H := Unit) Try.prog 3) b m M ∧ MapIs M D ∧ Below w.heap.size w w'

theorem scope_jumps_at {P : Program} {a : Act} {w : World} {Q : Exit → Act → World → Prop} {c rest : Code} (l : Nat) (J : Act → World → Prop) (μ : Act → World → Nat) (hf : findLabel c l = some (Code.skip.seq rest))
    (first : ∀ Q', (∀ a w, J a w → rest.wp P Q' a w) → c.wp P Q' a w)
    (pass : ∀ a w, J a w → rest.wp P (Exit.jump l (fun a' w' => J a' w' ∧ μ a' w' < μ a w) Q) a w) : (Code.scope c).wp P Q a w :=
  wp_scope_jumps l J μ hf (first _ fun a w hJ => wp_mono (pass a w hJ) fun e a' w' h => by
    cases e <;> first | exact h | exact ⟨h.1, h.2.1⟩) fun a w hJ => wp_seq (wp_skip (pass a w hJ))

theorem wp_into_label {P : Program} {l : Nat} {rest : Code} {Q : Exit → Act → World → Prop} {a : Act} {w : World} (h : rest.wp P Q a w) : ((Code.label l).seq rest).wp P Q a w := by
  apply wp_seq
  apply wp_label
  exact h

/-- The state at the label. -/
def AtSearch (w : World) (h : Hp) (fin : List Int) (A0 A1 A2 SA : Option Addr) (n0 c0 n1 c1 n2 c2 sn sc : Nat) (a' : Act) (w' : World) : Prop :=
  ∃ (d : Int) (FA : Option Addr) (fn fc f m lo : Nat) (D xs : List Int) (M : DataW Unit) (u3 u9 u10 u11 u12 u13 u14 u15 u16 u17 u18 u19 u20 u21 u22 u23 u24 u25 u26 u27 u28 u29 u30 u31 u32 u33 u34 u35 u36 u37 u38 u39 u40 u41 u42 u43 u44 u45 u46 u47 u48 u49 u50 u51 u52 u53 u54 u55 : Value),
    a' = { tmps := #[.agg #[.slice A0 n0 c0, .slice A1 n1 c1, .slice A2 n2 c2], .slice SA sn sc, .pointer (some ⟨w.heap.size, 0, none⟩), u3, .map none, .map (some (w.heap.size + 1)), .int .i64 d, .slice FA fn fc, .slice none 0 0, u9, u10, u11, u12, u13, u14, u15, u16, u17, u18, u19, u20, u21, u22, u23, u24, u25, u26, u27, u28, u29, u30, u31, u32, u33, u34, u35, u36, u37, u38, u39, u40, u41, u42, u43, u44, u45, u46, u47, u48, u49, u50, u51, u52, u53, u54, u55], defers := [] } ∧
    Row w' lo (.slice FA fn fc) xs ∧ Hid (xs.length = fn) ∧ (Value.slice FA fn fc).ownBlock ≠ some (w.heap.size + 1) ∧ Hid (xs.all (ptB · n0) = true) ∧
    Hid (bfs h.l h.r (f + 1) D d xs = fin ∧ D.length = n0 ∧ negs D ≤ f ∧ MapIs M D) ∧
    (1 ≤ d ∧ d + negs D ≤ (n0 : Int) + 1 ∧ m + negs D ≤ n0) ∧ w'.ownsMap Try.prog 3 (plainElem (H := Unit) Try.prog 3) (w.heap.size + 1) m M ∧ Blk3 w' w.heap.size (.slice A0 n0 c0) (.slice A1 n1 c1) (.slice A2 n2 c2) 25 ∧ Below w.heap.size w w'

theorem Below.of_map {w w' : World} {b : Nat} (h : w.grownBy w' (some b)) (hb : b ≤ w.heap.size := by omega) : Below b w w' := ⟨h.os, h.tape, h.output, h.size, fun k hk => h.block k (by omega) (fun e => by cases e; omega)⟩
theorem Blk3.drew' {w : World} {b : Nat} {x y z : Value} {t : TypeId} (h : Blk3 w b x y z t) : Blk3 w.drew b x y z t := h
theorem two_cells (x y : Int) : ∀ u ∈ [Value.int .i64 x, Value.int .i64 y], u.oneCell' = true := fun u hu => by simp at hu; rcases hu with rfl | rfl <;> rfl
theorem mark_hit {d x : Int} {s : List Int × List Int} (h : ¬ (x ≠ -1 ∧ gd s.1 x < 0)) : mark d s x = s := by unfold mark; rw [if_neg h]
theorem mark_new {d x : Int} {s : List Int × List Int} (h1 : x ≠ -1) (h2 : gd s.1 x < 0) : mark d s x = (s.1.set x.toNat d, s.2 ++ [x]) := by unfold mark; rw [if_pos ⟨h1, h2⟩]
theorem grown_mono_none {a b : World} {row : Option Nat} (h : a.grownBy b none) : a.grownBy b row := ⟨h.os, h.tape, h.output, h.size, fun k hk _ => h.block k hk (by simp)⟩
theorem row2 {w : World} {lo : Nat} {v : Value} {n : Nat} {ys : List Int} (x y : Int) (h : w.ownsRow lo 3 1 v (n + 2) (ys.map iv ++ [.int .i64 x, .int .i64 y])) (hn : n = ys.length) : Row w lo v (ys ++ [x, y]) :=
  Row.of_own h (by simp) (by simp [hn])
theorem two_new {w : World} {x y : Value} {t : TypeId} : ∀ j u, [x, y][j]? = some u → (w.alloc (.cells #[x, y] t)).cell? ((⟨w.heap.size, 0, none⟩ : Addr).add j) = some u := by
  intro j u hj
  match j, hj with
  | 0, hj => simp at hj; subst hj; simp [Addr.add]
  | 1, hj => simp at hj; subst hj; simp [Addr.add]
theorem two_newD {w : World} {x y : Value} {t : TypeId} : ∀ j u, [x, y][j]? = some u → (w.alloc (.cells #[x, y] t)).drew.cell? ((⟨w.heap.size, 0, none⟩ : Addr).add j) = some u := two_new

set_option maxRecDepth 100000 in
set_option maxHeartbeats 4000000 in
theorem distancesFrom_any (w : World) (lo : Nat) (v : Value) (h : Hp) (hv : Hv w lo v h) (hva : hvB h = true) (SA : Option Addr) (sn sc : Nat) (starts : List Int) (ls : Nat) (hs : Row w ls (.slice SA sn sc) starts) (hsn : starts.length = sn) (hst : starts.all (ptB · h.l.length) = true) :
    Calls Try.prog 25 #[v, .slice SA sn sc] w (DistMap w (dist h starts)) := by
  obtain ⟨i0, hi, hz0, hz1, hz2⟩ := info_parts Try.infoInt
  obtain ⟨A0, n0, c0, A1, n1, c1, A2, n2, c2, rfl, ⟨h0, h1, h2⟩, ⟨l0, l1, l2⟩, _⟩ := hv.open_
  have hl := hvB_len hva
  obtain ⟨⟨_, _⟩, hp0, hp1, _⟩ := hvB_parts hva
  have u0 : n0 ≤ 8 ∧ Hid (n1 = n0) := by have := l0.out; have := l1.out; exact ⟨by omega, by unfold Hid; omega⟩
  obtain ⟨u0a, u0b⟩ := u0
  obtain ⟨fin, hfin⟩ : ∃ fin, Hid (dist h starts = fin) := ⟨_, rfl⟩
  have hst' : Hid (starts.all (ptB · n0) = true) := by unfold Hid; rw [← l0.out]; exact hst
  have HP0 : Hid (h.l.all (ptB · n0) = true) := by unfold Hid; rw [← l0.out]; exact hp0
  have HP1 : Hid (h.r.all (ptB · n0) = true) := by unfold Hid; rw [← l0.out]; exact hp1
  have HSN := Lib.hid hsn
  clear hst hp0 hp1 hl hsn
  rw [hfin.out]
  have hmm := @run_makeMap Try.prog
  go_enter Try.func25, Try.ntmps25
  go_wp2
  refine scope_jumps_at 0 (AtSearch w h fin A0 A1 A2 SA n0 c0 n1 c1 n2 c2 sn sc) (fun a' _ => (10 - intOf (a'.tmps.getD 6 undef)).toNat) rfl ?_ ?_
  · intro Q' hQ
    go_wp2
    refine wp_label ?_
    rename_i K hK
    refine hK _ _ (hQ _ _ ?_)
    have X := (Blk3.new w (.slice A0 n0 c0) (.slice A1 n1 c1) (.slice A2 n2 c2) 25).alloc (.map #[] 0)
    refine ⟨1, SA, sn, sc, n0, 0, ls, List.replicate n0 (-1), starts, .map [], _, _, _, _, _, _, _, _, _, _, _, _, _, _, _, _, _, _, _, _, _, _, _, _, _, _, _, _, _, _, _, _, _, _, _, _, _, _, _, _, _, _, _, _, _, _, _, _, rfl, (hs.alloc _).alloc _, HSN, ?_, hst', ⟨?_, by simp, by rw [negs_rep]; omega, mapIs_empty n0⟩, ⟨by omega, by rw [negs_rep]; omega, by rw [negs_rep]; omega⟩, ?_, X, ((Below.refl _ _).alloc (Nat.le_refl _) _).alloc (by simp) _⟩
    · intro e; have := (hs.lt _ e).2; omega
    · have := hfin.out; unfold dist at this; rw [l0.out] at this; exact this
    · have := World.ownsMap_made (w.alloc (.cells #[.slice A0 n0 c0, .slice A1 n1 c1, .slice A2 n2 c2] 25)) Try.prog 3 (plainElem (H := Unit) Try.prog 3)
      simpa using this
  · rintro a' wl ⟨d, FA, fn, fc, f, m, lf, D, xs, M, u3, u9, u10, u11, u12, u13, u14, u15, u16, u17, u18, u19, u20, u21, u22, u23, u24, u25, u26, u27, u28, u29, u30, u31, u32, u33, u34, u35, u36, u37, u38, u39, u40, u41, u42, u43, u44, u45, u46, u47, u48, u49, u50, u51, u52, u53, u54, u55, rfl, hrow, hxl, hne, hxp, hbfs, hd, hown, X, hB⟩
    obtain ⟨hb1, hb2, hb3, hb4⟩ := hbfs.out
    obtain ⟨hd1, hd2, hd3⟩ := hd
    have HB := Lib.hid hbfs.out
    have lb : w.heap.size + 1 < wl.heap.size := hown.lt
    have hd9 : d ≤ 9 := by omega
    have hfront : ∀ g, (Value.slice FA fn fc).ownBlock = some g → g < wl.heap.size := fun g e => (hrow.lt g e).2
    have HF := Lib.hid hfront
    have HNE := Lib.hid hne
    have hnd := hd3
    clear hb1 hb2 hb3 hb4 hbfs hfront hne
    have hfm : fn ≤ 9223372036854775807 := by obtain ⟨_, _, _, q1, q2⟩ := hrow.form; have := hxl.out; unfold maxLen at q2; omega
    go_wp2
    go_loopg [8, 17] fn (fun g nx i wr => ∃ (k : Nat) (A : Option Addr) (cc m' : Nat) (s : List Int × List Int) (M' : DataW Unit), Hid (g + k = fn) ∧ i = .int .i64 k ∧ Hid (s = marks d (D, []) (xs.take k)) ∧ nx = .slice A (kids h.l h.r s.2).length cc ∧ Row wr wl.heap.size (.slice A (kids h.l h.r s.2).length cc) (kids h.l h.r s.2) ∧ Row wr lf (.slice FA fn fc) xs ∧ wr.ownsMap Try.prog 3 (plainElem (H := Unit) Try.prog 3) (w.heap.size + 1) m' M' ∧ Hid (MapIs M' s.1 ∧ s.1.length = n0 ∧ s.2.all (plB · n0) = true ∧ negs s.1 + s.2.length = negs D) ∧ m' + negs s.1 ≤ n0 ∧ Blk3 wr w.heap.size (.slice A0 n0 c0) (.slice A1 n1 c1) (.slice A2 n2 c2) 25 ∧ Below w.heap.size w wr ∧ wl.heap.size ≤ wr.heap.size)
    case atStart => exact ⟨0, none, 0, m, (D, []), M, by unfold Hid; simp, rfl, rfl, rfl, Row.nil _ _, hrow, hown, ⟨HB.out.2.2.2, HB.out.2.1, rfl, rfl⟩, hd3, X, hB, Nat.le_refl _⟩
    case round =>
      obtain ⟨k, A, cc, m', s, M', hg, rfl, hs', rfl, hnx, hfr, hmap, hinv, hm8, X', hB', hsz⟩ := hrel
      by_cases hlt : k < fn
      · obtain ⟨gf, x, rfl, _, _, hx, hcell, _⟩ := hfr.get (k := k) (by have := hxl.out; omega)
        have hpt : -1 ≤ x ∧ x < n0 := by
          have h1 := hxp.out
          rw [List.all_eq_true] at h1
          have := h1 x (List.mem_of_getElem? hx.out)
          simpa [ptB] using this
        obtain ⟨hpt1, hpt2⟩ := hpt
        have hwfx : (Lit.int .i64 x).wf = true := wfI (by omega)
        have hkey : keyOf Try.prog 3 (.int .i64 x) = some (.int .i64 x) := keyOf_int_mk Try.underlying3 hwfx
        have htk : Hid (marks d (D, []) (xs.take (k + 1)) = mark d s x) := by
          unfold Hid; rw [take_snoc hx.out, marks_snoc, hs'.out]
        have hhas := (hinv.out.1 x).1
        clear hx hs'
        by_cases hm : x ≠ -1 ∧ gd s.1 x < 0
        · have hmk := mark_new (d := d) (s := s) hm.1 hm.2
          obtain ⟨hm1, hm2⟩ := hm
          obtain ⟨kk, rfl⟩ : ∃ kk : Nat, x = kk := ⟨x.toNat, by omega⟩
          have hkk : kk < n0 := by omega
          have hkk1 : kk < n1 := by have := u0b.out; omega
          have hhas2 : Maps.has M' (.int .i64 (kk : Int)) = false := by rw [hhas]; simp; omega
          have hne1 : (((kk : Nat) : Int) == -1) = false := by simp
          have hnn := negs_set (d := d) (gd_get (D := s.1) (x := (kk : Int)) (by omega) (by have := hinv.out.2.1; omega)) hm2 (by omega)
          have HNN : Hid (negs (s.1.set kk d) + 1 = negs s.1) := by unfold Hid; simpa using hnn
          have HMK := Lib.hid hmk
          have HM2 := Lib.hid hm2
          clear hhas hmk hm1 hm2 hnn
          obtain ⟨q0, q1, q2, _⟩ := X'.cells
          have lx := X'.lt
          have e0 := h0.below hB'
          have e1 := h1.below hB'
          obtain ⟨ga, lx0, eA0, _, hga, hl0, hcl, _⟩ := e0.get (k := kk) (by have := l0.out; omega)
          obtain ⟨gb, rx0, eA1, _, hgb, hr0, hcr, _⟩ := e1.get (k := kk) (by have := l1.out; omega)
          subst eA0 eA1
          have g1 : ga < w.heap.size := (h0.lt ga rfl).2
          have g2 : gb < w.heap.size := (h1.lt gb rfl).2
          have hK : Hid (kids h.l h.r (s.2 ++ [(kk : Int)]) = kids h.l h.r s.2 ++ [lx0, rx0]) := by
            unfold Hid
            rw [kids_snoc]
            simp [gd, List.getD, hl0.out, hr0.out]
          have HIM := Lib.hid hmap.isMap
          have hnl : (kids h.l h.r s.2).length ≤ 16 := by
            rw [kids_len]; have := hinv.out.2.2.2; omega
          clear hl0 hr0 e0 e1
          go_wp2_with (first
            | (at_lookup; refine wpList_lookup_own_ok_int _ rfl _ _ 46 rfl 3 3 .i64 lawInt Try.underlying46 Try.underlying3 (zeroInt _) (w.heap.size + 1) m' M' rfl hmap _ _ rfl hkey ?_; intro cv hat hwc)
            | (at_mapUpdate; refine wpList_mapUpdate_own _ rfl _ _ _ 46 rfl 3 3 lawInt Try.underlying46 _ (w.heap.size + 1) m' M' rfl hmap (by unfold maxLen; omega) _ _ _ rfl rfl hkey (.lit (.int .i64 d)) [] (plainElem_int Try.underlying3 (wfI (by omega))) ?_; intro w1 hmap1 hgrow1; have X1 := X'.kept hgrow1 (by omega); have hcl1 : w1.cell? ⟨ga, kk, none⟩ = some (.int .i64 lx0) := ((Below.of_map hgrow1).cell (p := ⟨ga, kk, none⟩) (by simp; omega)).trans hcl; have hcr1 : w1.cell? ⟨gb, kk, none⟩ = some (.int .i64 rx0) := ((Below.of_map hgrow1).cell (p := ⟨gb, kk, none⟩) (by simp; omega)).trans hcr; obtain ⟨r0, r1, r2, _⟩ := X1.cells; have lx1 := X1.lt; have zz1 := hgrow1.size; have hnx1 := hnx.kept hgrow1 (.inr fun e => by have := (hnx.lt _ e).1; omega); have hfr1 := hfr.kept hgrow1 (.inr fun e => HNE.out e); have hB1 := hB'.grown hgrow1 hB'.size (fun j hj => by cases hj; omega))
            | go_in)
          go_region_law (first
            | (refine step_append_lies _ rfl (.tmp 35) (.tmp 46) 23 rfl wl.heap.size 3 i0 (.int .i64 0) 1 8 Try.underlying23 hi hz0 hz1 hz2 rfl (by decide) (.slice A (kids h.l h.r s.2).length cc) (kids h.l h.r s.2).length ((kids h.l h.r s.2).map iv) (by rfl) (own_of (lo := wl.heap.size) (zs := kids h.l h.r s.2) (by repeat (with_reducible (first | refine Row.drew ?_ | refine Row.alloc ?_ _ | exact hnx1))) rfl) ⟨w1.heap.size, 0, none⟩ 2 2 [.int .i64 lx0, .int .i64 rx0] (by rfl) rfl (by first | exact two_newD | exact two_new) (two_cells _ _) (by omega) (by unfold maxLen; omega) (by omega) (by first | omega | (simp <;> omega)) _ rfl ?_; intro g2 cap w2 hown2 hgr2 hat2 hlt2; have X2 : Blk3 w2 w.heap.size (.slice (some ⟨ga, 0, none⟩) n0 c0) (.slice (some ⟨gb, 0, none⟩) n1 c1) (.slice A2 n2 c2) 25 := Blk3.keptR (by repeat (with_reducible (first | exact X1 | refine Blk3.drew' ?_ | refine Blk3.alloc ?_ _))) hgr2 (fun e => by have := (hnx1.lt _ e.symm).1; omega); have hmap2 := (hmap1.alloc (.cells #[.int .i64 lx0, .int .i64 rx0] 3)).drew.kept hgr2 (fun e => by have := (hnx1.lt _ e.symm).1; omega); have hfr2 : Row w2 lf (.slice (some ⟨gf, 0, none⟩) fn fc) xs := Row.kept (by repeat (with_reducible (first | exact hfr1 | refine Row.drew ?_ | refine Row.alloc ?_ _))) hgr2 (.inr fun e => by have h9 := HF.out gf rfl; have := (hnx1.lt gf e.symm).1; omega); have hnx2 := row2 lx0 rx0 hown2 rfl; have zz2 := hgr2.size; have B2 := (hB1.alloc hB1.size (.cells #[.int .i64 lx0, .int .i64 rx0] 3)).drew.grown hgr2 (by first | omega | (simp <;> omega)) (fun j hj => by have := (hnx1.lt j hj).1; omega)))
          all_goals
            have hsz2 : wl.heap.size ≤ w2.heap.size := by have := zz2; simp at this; omega
            clear hnx hfr hmap hmap1 hfr1 hnx1 hgrow1 hown2 hgr2 X' X1 hcl hcr hcl1 hcr1
            go_wp2_with fail
            go_roundg (gk - 1)
            case rel =>
              refine ⟨k + 1, some ⟨g2, 0, none⟩, cap, m' + 1, (s.1.set kk d, s.2 ++ [(kk : Int)]), _, by have := hg.out; unfold Hid; omega, by go_num, ?_, ?_, ?_, hfr2, hmap2, ⟨?_, ?_, ?_, ?_⟩, ?_, X2, B2, hsz2⟩
              · unfold Hid; rw [htk.out, HMK.out]; simp
              · rw [hK.out]; simp
              · rw [hK.out]; simpa using hnx2
              · have := hinv.out.1.put HIM.out (x := (kk : Int)) (d := d) (by omega) (by have := hinv.out.2.1; omega) (by omega); simpa using this
              · simpa using hinv.out.2.1
              · have := hinv.out.2.2.1; rw [List.all_append, this]; simp [plB, hkk]
              · have h9 := hinv.out.2.2.2; have := HNN.out; show negs (s.1.set kk d) + (s.2 ++ [(kk : Int)]).length = negs D; rw [List.length_append]; simp only [List.length_singleton]; omega
              · have := HNN.out; show m' + 1 + negs (s.1.set kk d) ≤ n0; omega
            case measure => have := hg.out; omega
        · have hmk := mark_hit (d := d) (s := s) hm
          have HMK := Lib.hid hmk
          clear hmk
          by_cases hx0 : 0 ≤ x ∧ 0 ≤ gd s.1 x
          · have hhas2 : Maps.has M' (.int .i64 x) = true := by rw [hhas]; simpa using hx0
            clear hhas hm hx0
            go_wp2_with (first
              | (at_lookup; refine wpList_lookup_own_ok_int _ rfl _ _ 46 rfl 3 3 .i64 lawInt Try.underlying46 Try.underlying3 (zeroInt _) (w.heap.size + 1) m' M' rfl hmap _ _ rfl hkey ?_; intro cv hat hwc)
              | go_in)
            go_roundg (gk - 1)
            case rel => exact ⟨k + 1, A, cc, m', s, M', by have := hg.out; unfold Hid; omega, by go_num, by unfold Hid; rw [htk.out, HMK.out], rfl, hnx, hfr, hmap, hinv, hm8, X', hB', hsz⟩
            case measure => have := hg.out; omega
          · have hx1 : x = -1 := by
              by_cases h1 : x = -1
              · exact h1
              · have : ¬ (gd s.1 x < 0) := fun h => hm ⟨h1, h⟩
                exact absurd ⟨by omega, by omega⟩ hx0
            subst hx1
            have hhas2 : Maps.has M' (.int .i64 (-1)) = false := by rw [hhas]; simp
            clear hhas hm hx0
            go_wp2_with (first
              | (at_lookup; refine wpList_lookup_own_ok_int _ rfl _ _ 46 rfl 3 3 .i64 lawInt Try.underlying46 Try.underlying3 (zeroInt _) (w.heap.size + 1) m' M' rfl hmap _ _ rfl hkey ?_; intro cv hat hwc)
              | go_in)
            go_roundg (gk - 1)
            case rel => exact ⟨k + 1, A, cc, m', s, M', by have := hg.out; unfold Hid; omega, by go_num, by unfold Hid; rw [htk.out, HMK.out], rfl, hnx, hfr, hmap, hinv, hm8, X', hB', hsz⟩
            case measure => have := hg.out; omega
      · have hkf : k = fn := by have := hg.out; omega
        have hs2 : Hid (s = marks d (D, []) xs) := by unfold Hid; rw [hs'.out, List.take_of_length_le (by rw [hxl.out]; omega)]
        have hbr := HB.out.1
        rw [bfs_rest] at hbr
        unfold rest at hbr
        rw [← hs2.out] at hbr
        clear hs' hkf
        by_cases hq : s.2 = []
        · rw [if_pos hq] at hbr
          have hf := Lib.hid hbr
          have hlen0 : (kids h.l h.r s.2).length = 0 := by rw [hq]; rfl
          clear hbr hq
          rw [hlen0]
          go_wp2_with fail
          simp only [Exit.jump]
          go_ret
          exact ⟨w.heap.size + 1, m', M', rfl, by omega, hmap, by rw [← hf.out]; exact hinv.out.1, hB'⟩
        · rw [if_neg hq] at hbr
          have hpos : 0 < s.2.length := List.length_pos_iff.2 hq
          have hng := hinv.out.2.2.2
          have hnf := HB.out.2.2.1
          obtain ⟨f', hf'⟩ : ∃ f', f = f' + 1 := ⟨f - 1, by omega⟩
          have hkp := kids_pt (l := h.l) (r := h.r) l0.out (by rw [l1.out, u0b.out]) HP0.out HP1.out hinv.out.2.2.1
          have HKP := Lib.hid hkp
          have hkl : (kids h.l h.r s.2).length = 2 * s.2.length := kids_len _ _ _
          have hlp : 0 < (kids h.l h.r s.2).length := by omega
          have hll : (kids h.l h.r s.2).length ≤ 16 := by omega
          have HBR : Hid (bfs h.l h.r (f' + 1) s.1 (d + 1) (kids h.l h.r s.2) = fin) := by unfold Hid; rw [← hf']; exact hbr
          have hd10 : d + 1 + negs s.1 ≤ (n0 : Int) + 1 := by omega
          have hnf' : negs s.1 ≤ f' := by omega
          have hxl2 : Hid ((kids h.l h.r s.2).length = (kids h.l h.r s.2).length) := rfl
          clear hbr hkp hf' hng hnf hpos hkl hq
          generalize hL : (kids h.l h.r s.2).length = L at *
          have HL := Lib.hid hL
          clear hL
          go_wp2_with fail
          go_step3
          refine ⟨rfl, ⟨d + 1, A, L, cc, f', m', wl.heap.size, s.1, kids h.l h.r s.2, M', _, _, _, _, _, _, _, _, _, _, _, _, _, _, _, _, _, _, _, _, _, _, _, _, _, _, _, _, _, _, _, _, _, _, _, _, _, _, _, _, _, _, _, _, _, _, _, _, rfl, hnx, HL, ?_, HKP, ⟨HBR.out, hinv.out.2.1, hnf', hinv.out.1⟩, ⟨by omega, hd10, hm8⟩, hmap, X', hB'⟩, ?_⟩
          · intro e; have := (hnx.lt _ e).1; omega
          · simp [intOf]; omega
end Go.Proofs.Ytkcelcjghplhiaa
