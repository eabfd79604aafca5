/- spec.l13Cut: a text cut at its spaces. -/
import Derived.Test.YtpimndfafibgeaaPrt
import Derived.WalkLawsBesides
import Derived.Deep.LoopGhost
import Derived.Deep.CutRange
namespace Go.Proofs.Ytpimndfafibgeaa
open Go.RowKit

theorem infoStr : (Try.prog.info? 9).map (fun i => (i.zero, i.size, i.bytes)) = some (some (.string ⟨#[]⟩), 1, 16) := by kernel_rfl
/-- A row of strings of the call's own. -/
def SRow (w : World) (lo : Nat) (v : Value) (ps : List ByteArray) : Prop := w.ownsRow lo 9 1 v ps.length (ps.map Value.string)

/-- Where the parts of a heap's text begin and end. -/
def pStart (n p : Nat) : Nat := if p ≤ n then 3 * p else 3 * n + 2 * (p - n)
def pStop (n p : Nat) : Nat := if p < n then 3 * p + 2 else 3 * n + 1 + 2 * (p - n)
theorem p_next (n p : Nat) : pStop n p + 1 = pStart n (p + 1) := by unfold pStop pStart; split <;> split <;> omega
theorem text_inside {s : ByteArray} {h : Hp} (hi : IsText s h) {p i : Nat} (hp : p ≤ h.l.length + h.t.length) (h1 : pStart h.l.length p ≤ i) (h2 : i < pStop h.l.length p) : ∃ c, s.data[i]? = some c ∧ c ≠ 32 := by
  have t := istext_text hi
  obtain ⟨hr, b0, b1, b2⟩ := hv_bounds hi.1
  have h8 := hvB_len hi.1
  unfold pStart at h1
  unfold pStop at h2
  by_cases hpn : p < h.l.length
  · rw [if_pos (by omega)] at h1
    rw [if_pos hpn] at h2
    obtain ⟨x0, x1, _⟩ := t.cell p hpn
    have m0 := b0 _ (List.mem_of_getElem? (getD_get hpn))
    have m1 := b1 _ (List.mem_of_getElem? (getD_get (l := h.r) (by rw [hr]; exact hpn)))
    by_cases e : i = 3 * p
    · subst e; exact ⟨_, x0, (ltr_ne m0.1 (by omega)).1⟩
    · obtain rfl : i = 3 * p + 1 := by omega
      exact ⟨_, x1, (ltr_ne m1.1 (by omega)).1⟩
  · rw [if_neg hpn] at h2
    by_cases e : p = h.l.length
    · subst e
      rw [if_pos (Nat.le_refl _)] at h1
      obtain rfl : i = 3 * h.l.length := by omega
      exact ⟨47, t.slash, by decide⟩
    · rw [if_neg (by omega)] at h1
      have hj : p - h.l.length - 1 < h.t.length := by omega
      obtain ⟨_, y1⟩ := t.root _ hj
      have m2 := b2 _ (List.mem_of_getElem? (getD_get hj))
      obtain rfl : i = 3 * h.l.length + 1 + 2 * (p - h.l.length - 1) + 1 := by omega
      exact ⟨_, y1, (ltr_ne m2.1 (by omega)).1⟩
theorem text_stop {s : ByteArray} {h : Hp} (hi : IsText s h) {p : Nat} (hp : p < h.l.length + h.t.length) : s.data[pStop h.l.length p]? = some 32 := by
  have t := istext_text hi
  unfold pStop
  by_cases hpn : p < h.l.length
  · rw [if_pos hpn]; exact (t.cell p hpn).2.2
  · rw [if_neg hpn]; exact (t.root (p - h.l.length) (by omega)).1
theorem text_end {s : ByteArray} {h : Hp} (hi : IsText s h) : pStop h.l.length (h.l.length + h.t.length) = s.size := by
  have t := istext_text hi
  unfold pStop
  rw [if_neg (by omega), t.size]; omega
/-- What has been cut off when i bytes are behind. -/
def CutOk (s : ByteArray) (h : Hp) (i : Nat) (ps : List ByteArray) (f : Nat) : Prop :=
  ps.length ≤ h.l.length + h.t.length + 1 ∧ f = pStart h.l.length ps.length ∧ (ps.length ≤ h.l.length + h.t.length → f ≤ i ∧ i ≤ pStop h.l.length ps.length) ∧ (ps.length = h.l.length + h.t.length + 1 → s.size < i) ∧
    ∀ j, j < ps.length → ps[j]? = some (s.extract (pStart h.l.length j) (pStop h.l.length j))
theorem cut_zero {s : ByteArray} {h : Hp} : CutOk s h 0 [] 0 := by
  refine ⟨by simp, by unfold pStart; simp, fun _ => ⟨by omega, by omega⟩, fun e => by simp at e, fun j hj => by simp at hj⟩
theorem cut_go {s : ByteArray} {h : Hp} (hi : IsText s h) {i : Nat} {ps : List ByteArray} {f : Nat} (hc : CutOk s h i ps f) (hlt : i < s.size) (hne : s.data[i]? ≠ some 32) : CutOk s h (i + 1) ps f := by
  obtain ⟨c1, c2, c3, c4, c5⟩ := hc
  refine ⟨c1, c2, fun e => ?_, fun e => by have := c4 e; omega, c5⟩
  obtain ⟨d1, d2⟩ := c3 e
  refine ⟨by omega, ?_⟩
  rcases Nat.lt_or_ge i (pStop h.l.length ps.length) with h9 | h9
  · exact h9
  · exfalso
    have e9 : i = pStop h.l.length ps.length := by omega
    by_cases hp : ps.length < h.l.length + h.t.length
    · exact hne (by rw [e9]; exact text_stop hi hp)
    · have : ps.length = h.l.length + h.t.length := by omega
      rw [this, text_end hi] at e9; omega
theorem cut_hit {s : ByteArray} {h : Hp} (hi : IsText s h) {i : Nat} {ps : List ByteArray} {f : Nat} (hc : CutOk s h i ps f) (hle : i ≤ s.size) (he : i = s.size ∨ s.data[i]? = some 32) : CutOk s h (i + 1) (ps ++ [s.extract f i]) (i + 1) := by
  obtain ⟨c1, c2, c3, c4, c5⟩ := hc
  have hlen : ps.length ≤ h.l.length + h.t.length := by
    rcases Nat.lt_or_ge (h.l.length + h.t.length) ps.length with h9 | h9
    · have := c4 (by omega); omega
    · exact h9
  obtain ⟨d1, d2⟩ := c3 hlen
  have e9 : i = pStop h.l.length ps.length := by
    rcases Nat.lt_or_ge i (pStop h.l.length ps.length) with h9 | h9
    · exfalso
      rw [c2] at d1
      obtain ⟨c, q1, q2⟩ := text_inside hi hlen d1 h9
      rcases he with rfl | he
      · obtain ⟨h7, _⟩ := Array.getElem?_eq_some_iff.1 q1
        have : s.data.size = s.size := rfl
        omega
      · rw [q1] at he; exact q2 (by simpa using he)
    · omega
  have hn := p_next h.l.length ps.length
  refine ⟨by simp; omega, by rw [List.length_append, List.length_singleton, ← hn, e9], fun e => ?_, fun e => ?_, fun j hj => ?_⟩
  · rw [List.length_append, List.length_singleton] at e ⊢
    refine ⟨by omega, ?_⟩
    rw [e9, hn]
    unfold pStart pStop; split <;> split <;> omega
  · rw [List.length_append, List.length_singleton] at e
    have : ps.length = h.l.length + h.t.length := by omega
    rw [this, text_end hi] at e9; omega
  · rw [List.length_append, List.length_singleton] at hj
    rcases Nat.lt_succ_iff_lt_or_eq.1 hj with h9 | rfl
    · rw [List.getElem?_append_left h9]; exact c5 j h9
    · rw [List.getElem?_append_right (Nat.le_refl _), Nat.sub_self, c2, e9]; rfl

def CutRd (w : World) (s : ByteArray) (e : Ending) (w' : World) : Prop :=
  ∃ A c ps, e = .returned (.slice A ps.length c) ∧ SRow w' w.heap.size (.slice A ps.length c) ps ∧ Below w.heap.size w w' ∧ ∀ h, IsText s h → ps.length = h.l.length + h.t.length + 1 ∧ ∀ j, j < ps.length → ps[j]? = some (s.extract (pStart h.l.length j) (pStop h.l.length j))

set_option maxRecDepth 100000 in
set_option maxHeartbeats 1000000 in
theorem cut_any (w : World) (s : ByteArray) (hs : s.size ≤ 1048576) :
    Calls Try.prog 43 #[.string s, .int .u8 32] w (CutRd w s) := by
  obtain ⟨i0, hi, hz0, hz1, hz2⟩ := info_parts infoStr
  have R1 : SRow (w.alloc (.cells #[] 9)) w.heap.size (.slice (some ⟨w.heap.size, 0, none⟩) 0 0) [] := World.ownsRow_made w #[] 0 (Nat.le_refl _) (by unfold maxLen; omega) rfl
  have B1 := (Below.refl w.heap.size w).alloc (Nat.le_refl _) (.cells #[] 9)
  go_enter Try.func43, Try.ntmps43
  go_wp2_with fail
  go_loopw [5, 6, 7] (fun o fr i wr => ∃ (k f : Nat) (A : Option Addr) (np cc : Nat) (ps : List ByteArray), k ≤ s.size + 1 ∧ f ≤ k ∧ i = .int .i64 k ∧ fr = .int .i64 f ∧ o = .slice A np cc ∧ Hid (ps.length = np) ∧ np ≤ k ∧ SRow wr w.heap.size (.slice A ps.length cc) ps ∧ Below w.heap.size w wr ∧ Hid (∀ h, IsText s h → CutOk s h k ps f)) (fun _ _ i _ => s.size + 1 - (intOf i).toNat)
  case atStart => exact ⟨0, 0, _, 0, 0, [], by omega, by omega, rfl, rfl, rfl, rfl, by omega, R1, B1, fun h _ => cut_zero⟩
  case round =>
    clear R1 B1
    obtain ⟨k, f, A, np, cc, ps, hk, hf, rfl, rfl, rfl, hnp, hnk, hR, hB, hC⟩ := hrel
    have hsz := hB.size
    by_cases hle : k ≤ s.size
    · have hown : wr.ownsRow w.heap.size 9 1 (.slice A np cc) np (ps.map Value.string) := by have h9 := hR; unfold SRow at h9; rw [hnp.out] at h9; exact h9
      have hlt1 : (k : Int) ≤ (s.size : Int) := by omega
      by_cases hend : k = s.size ∨ s.data[k]? = some 32
      · have hC' : Hid (∀ h, IsText s h → CutOk s h (k + 1) (ps ++ [s.extract f k]) (k + 1)) := fun h hi => cut_hit hi (hC.out h hi) hle hend
        have fin : ∀ v' w2, w2.ownsRow w.heap.size 9 1 v' (np + 1) (ps.map Value.string ++ [.string (s.extract f k)]) → SRow w2 w.heap.size v' (ps ++ [s.extract f k]) := fun v' w2 h9 => by
          unfold SRow; rw [List.length_append, List.length_singleton, hnp.out, List.map_append]; exact h9
        have hlenn : Hid ((ps ++ [s.extract f k]).length = np + 1) := by unfold Hid; rw [List.length_append, List.length_singleton, hnp.out]
        generalize ps ++ [s.extract f k] = ps' at hC' fin hlenn
        clear hC hR
        by_cases hks : k = s.size
        · subst hks
          go_wp2_with (at_builtin; refine wpList_append_own _ rfl _ _ 64 rfl w.heap.size 9 i0 (.string ⟨#[]⟩) 1 16 Try.underlying64 hi hz0 hz1 hz2 rfl (by decide) _ _ _ rfl (hown.alloc _) ⟨wr.heap.size, 0, none⟩ 1 1 [.string (s.extract f s.size)] rfl rfl ?ap1 ?ap2 ?ap3 ?ap4 ?ap5 ?_)
          try case ap1 =>
            intro j u hj
            match j, hj with
            | 0, hj => simp at hj; subst hj; simp [Addr.add]
          case ap2 => first | rfl | (intro u hu; simp at hu; subst hu; rfl)
          case ap3 => unfold maxLen; omega
          case ap4 => omega
          case ap5 => first | omega | (simp; omega)
          intro v' w2 hown' hgrow _
          have hrow' := fin v' w2 hown'
          have hb' := (hB.alloc hsz (.cells #[.string (s.extract f s.size)] 9)).grown hgrow (by simp; omega) (fun j hj => (hown.lt j hj).1)
          obtain ⟨A', c', hv'⟩ : ∃ A' c', v' = .slice A' (np + 1) c' := by
            rcases hown'.2 with ⟨_, h0⟩ | ⟨g, cap, cur, hv, _⟩
            · omega
            · exact ⟨_, _, hv⟩
          subst hv'
          clear hown hown' hgrow fin
          go_wp2
          go_roundw
          case rel => exact ⟨s.size + 1, s.size + 1, A', np + 1, c', ps', by omega, by omega, by go_num, by go_num, rfl, hlenn, by omega, by rw [hlenn.out]; exact hrow', hb', hC'⟩
          case measure => simp [intOf] <;> omega
        · have hlt : k < s.size := by omega
          have hlt2 : (k : Int) < (s.size : Int) := by omega
          have hke : ((k : Int) == (s.size : Int)) = false := by simp; omega
          have hsp : s[k] = 32 := by
            rcases hend with h9 | h9
            · exact absurd h9 hks
            · obtain ⟨h7, h8⟩ := Array.getElem?_eq_some_iff.1 h9
              exact h8
          have hsp2 : (s[k].toNat : Int) = 32 := by rw [hsp]; rfl
          clear hend hks
          go_wp2_with (at_builtin; refine wpList_append_own _ rfl _ _ 64 rfl w.heap.size 9 i0 (.string ⟨#[]⟩) 1 16 Try.underlying64 hi hz0 hz1 hz2 rfl (by decide) _ _ _ rfl (hown.alloc _) ⟨wr.heap.size, 0, none⟩ 1 1 [.string (s.extract f k)] rfl rfl ?bp1 ?bp2 ?bp3 ?bp4 ?bp5 ?_)
          try case bp1 =>
            intro j u hj
            match j, hj with
            | 0, hj => simp at hj; subst hj; simp [Addr.add]
          case bp2 => first | rfl | (intro u hu; simp at hu; subst hu; rfl)
          case bp3 => unfold maxLen; omega
          case bp4 => omega
          case bp5 => first | omega | (simp; omega)
          intro v' w2 hown' hgrow _
          have hrow' := fin v' w2 hown'
          have hb' := (hB.alloc hsz (.cells #[.string (s.extract f k)] 9)).grown hgrow (by simp; omega) (fun j hj => (hown.lt j hj).1)
          obtain ⟨A', c', hv'⟩ : ∃ A' c', v' = .slice A' (np + 1) c' := by
            rcases hown'.2 with ⟨_, h0⟩ | ⟨g, cap, cur, hv, _⟩
            · omega
            · exact ⟨_, _, hv⟩
          subst hv'
          clear hown hown' hgrow fin
          go_wp2
          go_roundw
          case rel => exact ⟨k + 1, k + 1, A', np + 1, c', ps', by omega, by omega, by go_num, by go_num, rfl, hlenn, by omega, by rw [hlenn.out]; exact hrow', hb', hC'⟩
          case measure => simp [intOf]; omega
      · have hlt : k < s.size := by
          rcases Nat.lt_or_ge k s.size with h9 | h9
          · exact h9
          · exact absurd (.inl (by omega)) hend
        have hlt2 : (k : Int) < (s.size : Int) := by omega
        have hke : ((k : Int) == (s.size : Int)) = false := by simp; omega
        have hsp2 : ((s[k].toNat : Int) == 32) = false := by
          simp only [beq_eq_false_iff_ne, ne_eq]
          intro e
          refine hend (.inr ?_)
          rw [Array.getElem?_eq_getElem hlt]
          have : s[k] = 32 := UInt8.toNat_inj.1 (by have h9 : (32 : UInt8).toNat = 32 := rfl; omega)
          exact congrArg some this
        have hC' : Hid (∀ h, IsText s h → CutOk s h (k + 1) ps f) := fun h hi => cut_go hi (hC.out h hi) hlt (fun e => hend (.inr e))
        clear hC hend
        go_wp2_with fail
        go_roundw
        case rel => exact ⟨k + 1, f, A, np, cc, ps, by omega, by omega, by go_num, rfl, rfl, hnp, by omega, hR, hB, hC'⟩
        case measure => simp [intOf]; omega
    · obtain rfl : k = s.size + 1 := by omega
      have hfin : ∀ h, IsText s h → ps.length = h.l.length + h.t.length + 1 ∧ ∀ j, j < ps.length → ps[j]? = some (s.extract (pStart h.l.length j) (pStop h.l.length j)) := fun h hi => by
        obtain ⟨c1, c2, c3, c4, c5⟩ := hC.out h hi
        refine ⟨?_, c5⟩
        rcases Nat.lt_or_ge (h.l.length + h.t.length) ps.length with h9 | h9
        · omega
        · exfalso
          obtain ⟨_, d2⟩ := c3 h9
          have : pStop h.l.length ps.length ≤ pStop h.l.length (h.l.length + h.t.length) := by unfold pStop; split <;> split <;> omega
          rw [text_end hi] at this
          omega
      clear hC
      go_wp2_with fail
      go_ret
      exact ⟨A, cc, ps, by rw [hnp.out]; rfl, hR, hB, hfin⟩
end Go.Proofs.Ytpimndfafibgeaa
