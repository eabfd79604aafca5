/- opsValid of impl: are all operations of a list valid? -/
import Derived.Test.YtfoimicbmkiigaaGreatIOp
import Derived.Test.YtfoimicbmkiigaaGreatOps
namespace Go.Proofs.YtfoimicbmkiigaaGreat
open Go.RowKit

set_option maxRecDepth 100000 in
set_option maxHeartbeats 4000000 in
theorem opsValid_any (w : World) (lo : Nat) (A : Option Addr) (n c : Nat) (os : List Opv) (hu : ORow w lo (.slice A n c) os) (hn : Hid (os.length = n)) (hn63 : n ≤ 9223372036854775807) (r : Int) :
    Calls Tryz.prog 44 #[.slice A n c, .int .i64 r] w (RetB w (decide (n ≤ 12) && opsB r os)) := by
  by_cases h12 : 12 < n
  · have hf : Hid ((decide (n ≤ 12) && opsB r os) = false) := by unfold Hid; rw [decide_eq_false (by omega)]; rfl
    have hb12 : (12 : Int) < (n : Int) := by omega
    go_enter Tryz.func44, Tryz.ntmps44
    go_wp2_with fail
    go_ret
    exact ⟨ret_bool hf.out.symm, Below.refl _ _⟩
  · have hf0 : Hid ((decide (n ≤ 12) && opsB r os) = opsB r os) := by unfold Hid; rw [decide_eq_true (by omega)]; rfl
    have hb12 : ¬ ((12 : Int) < (n : Int)) := by omega
    have OV := fun W o => implOpValid_any W o r
    go_enter Tryz.func44, Tryz.ntmps44
    go_wp2_with fail
    go_loopw [12] (fun i wr => ∃ k : Nat, k ≤ n ∧ i = .int .i64 (k : Int) ∧ Hid (∀ (j : Nat) (o : Opv), j < k → os[j]? = some o → opB o r = true) ∧ ORow wr lo (.slice A n c) os ∧ Below w.heap.size w wr) (fun i _ => n - (intOf i).toNat)
    case atStart => exact ⟨0, Nat.zero_le _, rfl, fun j o hj => absurd hj (Nat.not_lt_zero _), hu, Below.refl _ _⟩
    case round =>
      obtain ⟨k, hk, rfl, hpre, U3, B3⟩ := hrel
      clear hu
      by_cases hkn : k < n
      · obtain ⟨g, ⟨ok, oa, oq⟩, rfl, _, hg, ho, o0, o1, o2⟩ := U3.get (k := k) (by rw [hn.out]; exact hkn)
        simp only at o0 o1 o2
        have hkni : (k : Int) < (n : Int) := by omega
        have OO := fun W => OV W ⟨ok, oa, oq⟩
        have B4 : Below w.heap.size w (wr.alloc (.cells #[.int .i64 ok, .int .i64 oa, .int .i64 oq] 40)) := B3.alloc B3.size _
        have U4 := U3.alloc (.cells #[.int .i64 ok, .int .i64 oa, .int .i64 oq] 40)
        rcases eo : opB ⟨ok, oa, oq⟩ r
        · have hf : Hid ((decide (n ≤ 12) && opsB r os) = false) := by unfold Hid; rw [hf0.out]; exact opsB_not ho.out eo
          rw [eo] at OO
          clear eo hpre OV hf0
          go_wp2_with fail
          refine (OO _).mono ?_; rintro e w4 ⟨rfl, hb4⟩
          have B5 := B4.trans (hb4.mono B4.size)
          go_wp2_with fail
          go_ret
          exact ⟨ret_bool hf.out.symm, B5⟩
        · have hnx : Hid (∀ (j : Nat) (o : Opv), j < k + 1 → os[j]? = some o → opB o r = true) := fun j o hj h => by
            by_cases e : j = k
            · subst e; have h9 := ho.out; rw [h] at h9; cases h9; exact eo
            · exact hpre.out j o (by omega) h
          rw [eo] at OO
          clear eo hpre OV
          go_wp2_with fail
          refine (OO _).mono ?_; rintro e w4 ⟨rfl, hb4⟩
          have B5 := B4.trans (hb4.mono B4.size)
          have U5 := U4.below hb4
          go_wp2_with fail
          go_roundw
          case rel => exact ⟨k + 1, by omega, by go_num, hnx, U5, B5⟩
          case measure => simp [intOf]; omega
      · obtain rfl : n = k := by omega
        have hall : opsB r os = true := opsB_all fun j o hj => hpre.out j o (by have := (List.getElem?_eq_some_iff.1 hj).1; have := hn.out; omega) hj
        have hf : Hid ((decide (n ≤ 12) && opsB r os) = true) := by unfold Hid; rw [hf0.out]; exact hall
        clear hall hpre hf0
        go_wp2_with fail
        go_ret
        exact ⟨ret_bool hf.out.symm, B3⟩

end Go.Proofs.YtfoimicbmkiigaaGreat
