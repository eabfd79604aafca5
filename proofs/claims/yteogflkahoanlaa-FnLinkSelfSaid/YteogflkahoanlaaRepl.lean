/- replace of impl: a pointer is put, what it points to is counted, and what it pointed to is given up. -/
import Derived.Test.YteogflkahoanlaaGivU
namespace Go.Proofs.Yteogflkahoanlaa
open Go.RowKit

set_option maxRecDepth 100000 in
set_option maxHeartbeats 4000000 in
theorem replace_any (K : Bool) (w : World) (lo b gp k : Nat) (_hlo : lo ≤ w.heap.size) (A0 A1 A3 A4 : Option Addr) (n0 c0 n1 c1 n3 c3 n4 c4 : Nat) (x2 : Value) (h : Hp) (c n : List Int) (old to : Int)
    (hgp : OwnM b (.slice A0 n0 c0) (.slice A1 n1 c1) x2 (.slice A3 n3 c3) (.slice A4 n4 c4) gp) (hc : w.cell? ⟨gp, k, none⟩ = some (.int .i64 old)) (hf : w.frozen? ⟨gp, k, none⟩ = false)
    (M : MAt K (w.setCell ⟨gp, k, none⟩ (.int .i64 to)) lo b 61 (.slice A0 n0 c0) (.slice A1 n1 c1) x2 (.slice A3 n3 c3) (.slice A4 n4 c4) ⟨⟨h, c⟩, n⟩)
    (hI : Hid (InvD ⟨h, c, bump n to, [old]⟩)) (hto : -1 ≤ to ∧ to < h.l.length) :
    Calls Try.prog 46 #[.pointer (some ⟨b, 0, none⟩), .pointer (some ⟨gp, k, none⟩), .int .i64 to] w fun e w' => e = .returned (.tuple #[]) ∧ ∃ A' n' c', MAt K w' lo b 61 (.slice A0 n0 c0) (.slice A1 n1 c1) x2 (.slice A' n' c') (.slice A4 n4 c4) (fin_ ⟨h, c, bump n to, [old]⟩) ∧
      ((Value.slice A' n' c').ownBlock = (Value.slice A3 n3 c3).ownBlock ∨ ∃ j, w.heap.size ≤ j ∧ (Value.slice A' n' c').ownBlock = some j) ∧ Fr (OwnM b (.slice A0 n0 c0) (.slice A1 n1 c1) x2 (.slice A3 n3 c3) (.slice A4 n4 c4)) w w' := by
  have F1 : Fr (OwnM b (.slice A0 n0 c0) (.slice A1 n1 c1) x2 (.slice A3 n3 c3) (.slice A4 n4 c4)) w (w.setCell ⟨gp, k, none⟩ (.int .i64 to)) := (Fr.refl _ w).setCell (p := ⟨gp, k, none⟩) (.inl hgp) _
  have s1 := F1.size
  by_cases ht : to = -1
  · subst ht
    rw [bump_none] at hI ⊢
    go_enter_defers Try.func46, Try.ntmps46
    go_wp2_with fail
    refine leaves_cons (f := 74) (args := #[.pointer (some ⟨b, 0, none⟩), .int .i64 old]) (by simp) (by simp [go_sem]) ?_
    refine (giveUp_any K _ lo b (by omega) A0 A1 A3 A4 n0 c0 n1 c1 n3 c3 n4 c4 x2 _ M old hI .returning).mono ?_
    rintro e u' w'' ⟨rfl, rfl, A', n', c', M2, o2, F2⟩
    refine ⟨_, results_none rfl _ _ _, rfl, A', n', c', M2, ?_, F1.trans F2⟩
    rcases o2 with e | ⟨j, hj, e⟩
    · exact .inl e
    · exact .inr ⟨j, by omega, e⟩
  · obtain ⟨j, rfl⟩ := Int.eq_ofNat_of_zero_le (by omega : 0 ≤ to)
    have hj : j < h.l.length := by have := hto.2; omega
    have hnl : n.length = h.l.length := by have := hI.out.nl; dsimp only at this; rw [bump_len] at this; exact this
    obtain ⟨g4, z, hA4, _, _, hz, hcz, hfz⟩ := M.r4.get (k := j) (by show j < n.length; omega)
    have hz' : n[j]? = some z := hz.out
    have hbz := inv_bd hI.out (bump_get (x := (j : Int)) hz')
    rw [if_pos rfl] at hbz
    have hj2 : ((j : Int) != -1) = true := by simp
    have hn4 : n.length = n4 := (RowC.ofRow M.r4).form.1
    have hjn : (j : Int) < (n4 : Int) := by omega
    have hz0 : -1 ≤ z := by omega
    have hz1 : z ≤ 1000000 := by have := hbz.2.1; simp at this; omega
    have hb := bump_at hz'
    have M2 := M.setN hA4 j (z + 1)
    have hg4 : OwnM b (.slice A0 n0 c0) (.slice A1 n1 c1) x2 (.slice A3 n3 c3) (.slice A4 n4 c4) g4 := .inr (.inr (.inr (.inr (.inr (by rw [hA4]; rfl)))))
    have F2 := F1.setCell (p := ⟨g4, j, none⟩) (.inl hg4) (.int .i64 (z + 1))
    have s2 := F2.size
    rw [← hb] at M2
    have hI2 := hI
    obtain ⟨b0, b1, b2, b3, b4, -⟩ := M.blk.cells
    subst hA4
    clear M F1 hI hz hz' hbz hb hto ht hg4 hgp
    go_enter_defers Try.func46, Try.ntmps46
    go_wp2_with fail
    refine leaves_cons (f := 74) (args := #[.pointer (some ⟨b, 0, none⟩), .int .i64 old]) (by simp) (by simp [go_sem]) ?_
    refine (giveUp_any K _ lo b (by omega) A0 A1 A3 (some ⟨g4, 0, none⟩) n0 c0 n1 c1 n3 c3 n4 c4 x2 _ M2 old hI2 .returning).mono ?_
    rintro e u' w'' ⟨rfl, rfl, A', n', c', M3, o2, F3⟩
    refine ⟨_, results_none rfl _ _ _, rfl, A', n', c', M3, ?_, F2.trans F3⟩
    rcases o2 with e | ⟨j, hj, e⟩
    · exact .inl e
    · exact .inr ⟨j, by omega, e⟩
end Go.Proofs.Yteogflkahoanlaa
