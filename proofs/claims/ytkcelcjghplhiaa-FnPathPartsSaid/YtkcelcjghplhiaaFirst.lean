/- firstAtDistance. -/
import Derived.Test.YtkcelcjghplhiaaDist
import Derived.Test.YtkcelcjghplhiaaPre
import Derived.Maps.OwnOps
namespace Go.Proofs.Ytkcelcjghplhiaa
open Go.RowKit Go.Maps

theorem find_hit {xs : List Int} {p : Int → Bool} {j : Nat} {x : Int} (hx : xs[j]? = some x) (hn : (xs.take j).find? p = none) (hp : p x = true) : xs.find? p = some x := by
  have e : xs = xs.take (j + 1) ++ xs.drop (j + 1) := (List.take_append_drop _ _).symm
  rw [e, List.find?_append, take_snoc hx, List.find?_append, hn]
  simp [hp]
theorem find_miss {xs : List Int} {p : Int → Bool} {j : Nat} {x : Int} (hx : xs[j]? = some x) (hn : (xs.take j).find? p = none) (hp : p x = false) : (xs.take (j + 1)).find? p = none := by
  rw [take_snoc hx, List.find?_append, hn]
  simp [hp]

set_option maxRecDepth 100000 in
set_option maxHeartbeats 2000000 in
theorem firstAt_any (w : World) (lo : Nat) (A : Option Addr) (n c : Nat) (xs : List Int) (hr : Row w lo (.slice A n c) xs) (hn : xs.length = n) (hn8 : n ≤ 8) (b m : Nat) (M : DataW Unit) (D : List Int)
    (hown : w.ownsMap Try.prog 3 (plainElem (H := Unit) Try.prog 3) b m M) (hm : MapIs M D) (k : Int) (hk : 1 ≤ k) (hxs : ∀ x ∈ xs, 0 ≤ x ∧ x ≤ 8) :
    Calls Try.prog 26 #[.slice A n c, .map (some b), .int .i64 k] w (fun e w' => e = .returned (.int .i64 ((xs.find? (fun y => gd D y == k)).getD (-1))) ∧ w' = w) := by
  have HN := Lib.hid hn
  have HX := Lib.hid hxs
  have HM := Lib.hid hm
  clear hn hxs hm
  go_enter Try.func26, Try.ntmps26
  go_wp2_with fail
  go_loop [11] (fun i => ∃ j : Nat, j ≤ n ∧ i = .int .i64 j ∧ Hid ((xs.take j).find? (fun y => gd D y == k) = none)) (fun i => n - (intOf i).toNat)
  case atStart => exact ⟨0, Nat.zero_le _, rfl, by unfold Hid; simp⟩
  case round =>
    obtain ⟨j, hj, rfl, hf⟩ := hrel
    by_cases hlt : j < n
    · obtain ⟨g, x, eg, _, _, hx, hcell, _⟩ := hr.get (k := j) (by have := HN.out; omega)
      cases eg
      have hxb := HX.out x (List.mem_of_getElem? hx.out)
      have hkey : keyOf Try.prog 3 (.int .i64 x) = some (.int .i64 x) := keyOf_int_mk Try.underlying3 (wfI (by omega))
      have hcv : Hid (∀ cv : Int, M.atKey (.int .i64 x) (.lit (.int .i64 0)) = .lit (.int .i64 cv) → (cv == k) = (gd D x == k)) := fun cv e => by
        obtain ⟨h1, h2⟩ := HM.out x
        by_cases hg : 0 ≤ gd D x
        · have h3 := h2 hxb.1 hg
          rw [h3] at e
          have : gd D x = cv := by simpa using e
          rw [this]
        · have h4 : Maps.has M (.int .i64 x) = false := by rw [h1]; simp; omega
          rw [atKey_of_not_has h4] at e
          have : cv = 0 := by simpa using e.symm
          have e1 : (cv == k) = false := by simp; omega
          have e2 : (gd D x == k) = false := by simp; omega
          rw [e1, e2]
      cases hq : (gd D x == k)
      · have hmiss := find_miss hx.out hf.out hq
        have HMI := Lib.hid hmiss
        have HQ := Lib.hid hq
        clear hmiss hf hx hq hxb
        go_wp2_with (first
          | (at_lookup; refine wpList_lookup_own_int _ rfl _ _ 46 rfl 3 3 .i64 lawInt Try.underlying46 Try.underlying3 (zeroInt _) b m M rfl hown _ _ rfl hkey ?_; intro cv hat hwc; have hcv2 := (hcv.out cv hat).trans HQ.out)
          | go_in)
        go_round
        case rel => exact ⟨j + 1, by omega, by go_num, HMI⟩
        case measure => simp [intOf]; omega
      · have hhit := find_hit hx.out hf.out hq
        have HMI := Lib.hid hhit
        have HQ := Lib.hid hq
        clear hhit hf hx hq hxb
        go_wp2_with (first
          | (at_lookup; refine wpList_lookup_own_int _ rfl _ _ 46 rfl 3 3 .i64 lawInt Try.underlying46 Try.underlying3 (zeroInt _) b m M rfl hown _ _ rfl hkey ?_; intro cv hat hwc; have hcv2 := (hcv.out cv hat).trans HQ.out)
          | go_in)
        go_ret
        exact ⟨by rw [HMI.out]; simp, rfl⟩
    · obtain rfl : j = n := by omega
      have hend : xs.find? (fun y => gd D y == k) = none := by have := hf.out; rw [List.take_of_length_le (by rw [HN.out]; omega)] at this; exact this
      have HE := Lib.hid hend
      clear hf hend
      go_wp2_with fail
      go_ret
      exact ⟨by rw [HE.out]; simp, rfl⟩
end Go.Proofs.Ytkcelcjghplhiaa
