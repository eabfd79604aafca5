import Derived.Test.YtapkhgpifpgleaaMemos
import Derived.Outline
import Derived.BigQuiet
import Derived.Deep.QuietTactic
import Derived.Laws.CopyOwn
import Derived.Deep.RegionWith
import Derived.Deep.RegionHeld3
/- Loops over rows of ints: they only read. -/
namespace Go.Proofs.Ytapkhgpifpgleaa
open Go.RowKit

theorem take_snoc {α : Type} {l : List α} {k : Nat} {x : α} (h : l[k]? = some x) : l.take (k + 1) = l.take k ++ [x] := by
  rw [List.take_add_one, h]; rfl

set_option maxHeartbeats 400000 in
theorem pointersValid_any (w : World) (lo : Nat) (A : Option Addr) (n c : Nat) (xs : List Int) (h : Row w lo (.slice A n c) xs) (hn : xs.length = n) (hm : n ≤ 9223372036854775807) (cells : Int) (hc : 0 ≤ cells) :
    Calls Try.prog 59 #[.slice A n c, .int .i64 cells] w fun e w' => e = .returned (.bool (xs.all (ptB · cells))) ∧ w = w' := by
  go_enter Try.func59, Try.ntmps59
  go_wp2
  go_loop [6, 9] (fun _ i => ∃ k : Nat, k ≤ n ∧ i = .int .i64 k ∧ Hid ((xs.take k).all (ptB · cells) = true)) (fun _ i => n - (intOf i).toNat)
  case atStart => exact ⟨0, Nat.zero_le _, rfl, rfl⟩
  case round =>
    obtain ⟨k, hk, rfl, ht⟩ := hrel
    by_cases hlt : k < n
    · obtain ⟨g, x, rfl, _, _, hx, hcell, _⟩ := h.get (k := k) (by omega)
      have H := pointerValid_any x cells hc
      have Ht : Hid ((xs.take (k + 1)).all (ptB · cells) = ptB x cells) := by
        unfold Hid; rw [take_snoc hx.out, List.all_append, ht.out]; simp
      rcases hb : ptB x cells
      · rw [hb] at H
        have Hf : Hid (xs.all (ptB · cells) = false) := by
          unfold Hid; rw [List.all_eq_false]; exact ⟨x, List.mem_of_getElem? hx.out, by simp [hb]⟩
        clear ht Ht hb hx
        go_wp2_with (go_at_call 74; refine (H _).mono ?_; rintro e w' ⟨rfl, rfl⟩)
        go_ret
        exact ⟨ret_bool Hf.out.symm, rfl⟩
      · rw [hb] at H
        have Ht' : Hid ((xs.take (k + 1)).all (ptB · cells) = true) := by unfold Hid; rw [Ht.out, hb]
        clear ht Ht hb hx
        go_wp2_with (go_at_call 74; refine (H _).mono ?_; rintro e w' ⟨rfl, rfl⟩)
        go_round
        case rel => exact ⟨k + 1, by omega, by go_num, Ht'⟩
        case measure => simp [intOf]; omega
    · obtain rfl : k = n := by omega
      have Hf : Hid (xs.all (ptB · cells) = true) := by
        have := ht.out; rw [List.take_of_length_le (by omega)] at this; exact this
      go_wp2
      go_ret
      exact ⟨ret_bool Hf.out.symm, rfl⟩

def cntN (xs : List Int) : Int := ((xs.filter (· != -1)).length : Nat)
theorem cntN_snoc (l : List Int) (x : Int) : cntN (l ++ [x]) = cntN l + if x = -1 then 0 else 1 := by
  unfold cntN; by_cases h : x = -1 <;> simp [List.filter_append, h]
theorem cntN_bd (l : List Int) : 0 ≤ cntN l ∧ cntN l ≤ l.length := by
  unfold cntN; exact ⟨by omega, by have := List.length_filter_le (· != (-1 : Int)) l; omega⟩

/-- Two rows are held against each other: spec.l1Ints, laws.ccInts and slices.Equal. -/
theorem eq_take {xs ys : List Int} {k : Nat} {x : Int} (hx : xs[k]? = some x) (hy : ys[k]? = some x) (h : xs.take k = ys.take k) : xs.take (k + 1) = ys.take (k + 1) := by
  rw [take_snoc hx, take_snoc hy, h]

set_option maxHeartbeats 400000 in
theorem slicesEqual_any (w : World) (lo lo' : Nat) (A A' : Option Addr) (n c n' c' : Nat) (xs ys : List Int) (h : Row w lo (.slice A n c) xs) (hn : xs.length = n) (hm : n ≤ 9223372036854775807)
    (h' : Row w lo' (.slice A' n' c') ys) (hn' : ys.length = n') (hm' : n' ≤ 9223372036854775807) :
    Calls Try.prog 70 #[.slice A n c, .slice A' n' c'] w fun e w' => e = .returned (.bool (decide (xs = ys))) ∧ ∃ nq, w' = w.drewN nq := by
  by_cases hne : n = n'
  · subst hne
    go_enter Try.func70, Try.ntmps70
    go_wp2
    go_loopw [5, 13] (fun _ i wr => (∃ k : Nat, k ≤ n ∧ i = .int .i64 k ∧ Hid (xs.take k = ys.take k)) ∧ ∃ nq, wr = w.drewN nq) (fun _ i _ => n - (intOf i).toNat)
    case atStart => exact ⟨⟨0, Nat.zero_le _, rfl, rfl⟩, 0, rfl⟩
    case round =>
      obtain ⟨⟨k, hk, rfl, ht⟩, nq, rfl⟩ := hrel
      by_cases hlt : k < n
      · obtain ⟨g, x, rfl, _, _, hx, hcell, _⟩ := h.get (k := k) (by omega)
        obtain ⟨g', y, rfl, _, _, hy, hcell', _⟩ := h'.get (k := k) (by omega)
        have hb1 : (k : Int) < (n : Int) := by omega
        by_cases hxy : x = y
        · subst hxy
          have Ht : Hid (xs.take (k + 1) = ys.take (k + 1)) := eq_take hx.out hy.out ht.out
          clear ht hx hy
          go_wp2
          go_quiet (fail)
          go_wp2
          go_roundw
          case rel => exact ⟨⟨k + 1, by omega, by go_num, Ht⟩, _, by first | rfl | (rw [World.drewN_drewN])⟩
          case measure => simp [intOf]; omega
        · have hxy2 : (x != y) = true := by simpa using hxy
          have Hf : Hid (decide (xs = ys) = false) := by
            unfold Hid; simp only [decide_eq_false_iff_not]; rintro rfl
            have e := hx.out.symm.trans hy.out
            exact hxy (by simpa using e)
          clear ht hx hy
          go_wp2
          go_quiet (fail)
          go_wp2
          go_ret
          exact ⟨ret_bool Hf.out.symm, _, by first | rfl | (rw [World.drewN_drewN])⟩
      · obtain rfl : k = n := by omega
        have Hf : Hid (decide (xs = ys) = true) := by
          have := ht.out; rw [List.take_of_length_le (by omega), List.take_of_length_le (by omega)] at this; unfold Hid; simpa using this
        go_wp2
        go_ret
        exact ⟨ret_bool Hf.out.symm, _, rfl⟩
  · have hne2 : ((n : Int) != (n' : Int)) = true := by simp; omega
    have Hf : Hid (decide (xs = ys) = false) := by
      unfold Hid; simp only [decide_eq_false_iff_not]; rintro rfl; omega
    go_enter Try.func70, Try.ntmps70
    go_wp2
    go_ret
    exact ⟨ret_bool Hf.out.symm, 0, rfl⟩
end Go.Proofs.Ytapkhgpifpgleaa

/- Rows that are made: nonePointers, l1Many, copyOfInts. -/
namespace Go.Proofs.Ytapkhgpifpgleaa
open Go.RowKit

theorem Try.infoInt : (Try.prog.info? 3).map (fun i => (i.zero, i.size, i.bytes)) = some (some (.int .i64 0), 1, 8) := by kernel_rfl

/-- A new row comes back, and nothing that was there has turned. -/
def NewRow (w : World) (xs : List Int) (e : Ending) (w' : World) : Prop := ∃ A c, e = .returned (.slice A xs.length c) ∧ Row w' w.heap.size (.slice A xs.length c) xs ∧ Below w.heap.size w w'

theorem mc_int (n : Nat) : (madeCells #[Value.int .i64 0] n).toList = (List.replicate n (0 : Int)).map iv := by
  rw [toList_madeCells_one]; simp

theorem set_rep (k n : Nat) (x : Int) (hk : k < n) : (List.replicate k x ++ List.replicate (n - k) (0 : Int)).set k x = List.replicate (k + 1) x ++ List.replicate (n - (k + 1)) 0 := by
  rw [List.set_append, if_neg (by simp), List.length_replicate, Nat.sub_self, show n - k = (n - (k + 1)) + 1 from by omega, List.replicate_succ, List.set_cons_zero, List.replicate_succ' (n := k)]
  simp

set_option maxHeartbeats 400000 in
theorem nonePointers_any (w : World) (n : Nat) (hn : n ≤ 1048576) :
    Calls Try.prog 46 #[.int .i64 n] w (NewRow w (List.replicate n (-1))) := by
  obtain ⟨i0, hi, hz0, hz1, hz2⟩ := info_parts Try.infoInt
  go_enter Try.func46, Try.ntmps46
  go_wp2_with (at_make; refine wpList_make_full _ rfl _ _ 22 rfl w.heap.size 3 i0 (.int .i64 0) 1 Try.underlying22 hi hz0 hz1 _ _ _ _ n rfl rfl rfl rfl ?b2 ?b3 (Nat.le_refl _) ?_)
  case b2 => rw [hz2]; omega
  case b3 => unfold maxLen; omega
  intro w0 hown0 hgrow0
  rw [mc_int] at hown0
  have hrow0 : Row w0 w.heap.size (.slice (some ⟨w.heap.size, 0, none⟩) n n) (List.replicate n 0) := by unfold Row; simpa using hown0
  have hb0 : Below w.heap.size w w0 := (Below.refl _ _).grown hgrow0 (Nat.le_refl _) (fun k h => by cases h)
  clear hown0 hgrow0 hz0 hz1 hz2
  go_wp2
  go_loopw [4, 9] (fun _ i wr => ∃ k : Nat, k ≤ n ∧ i = .int .i64 k ∧ Row wr w.heap.size (.slice (some ⟨w.heap.size, 0, none⟩) n n) (List.replicate k (-1) ++ List.replicate (n - k) 0) ∧ Below w.heap.size w wr) (fun _ i _ => n - (intOf i).toNat)
  case atStart => exact ⟨0, Nat.zero_le _, rfl, by simpa using hrow0, hb0⟩
  case round =>
    obtain ⟨k, hk, rfl, hrow, hb⟩ := hrel
    by_cases hlt : k < n
    · obtain ⟨g, x, e, _, _, _, hcell, hfr⟩ := hrow.get (k := k) (by simp; omega)
      cases e
      have hnext := hrow.set_ k (-1)
      rw [set_rep k n (-1) hlt] at hnext
      have hb' : Below w.heap.size w (wr.setCell ⟨w.heap.size, k, none⟩ (iv (-1))) := hb.setCell (Nat.le_refl _) _
      clear hrow hrow0
      go_wp2
      go_roundw
      case rel => exact ⟨k + 1, by omega, by go_num, hnext, hb'⟩
      case measure => simp [intOf]; omega
    · obtain rfl : k = n := by omega
      have hrow' : Row wr w.heap.size (.slice (some ⟨w.heap.size, 0, none⟩) (List.replicate k (-1 : Int)).length k) (List.replicate k (-1)) := by simpa using hrow
      clear hrow hrow0
      go_wp2
      go_ret
      exact ⟨_, k, by simp, hrow', hb⟩

theorem Row.of_own {w : World} {lo : Nat} {v : Value} {n : Nat} {xs : List Int} {l : List Value} (h : w.ownsRow lo 3 1 v n l) (hl : l = xs.map iv) (hn : n = xs.length) : Row w lo v xs := by
  subst hl hn; exact h

theorem one_new {w : World} {x : Value} {t : TypeId} : ∀ j u, [x][j]? = some u → (w.alloc (.cells #[x] t)).cell? ((⟨w.heap.size, 0, none⟩ : Addr).add j) = some u := by
  intro j u hj
  match j, hj with
  | 0, hj => simp at hj; subst hj; simp [Addr.add]

set_option maxHeartbeats 400000 in
theorem l1Many_any (w : World) (n : Nat) (hn : n ≤ 1048576) :
    Calls Try.prog 44 #[.int .i64 n] w (NewRow w (List.replicate n (-1))) := by
  obtain ⟨i0, hi, hz0, hz1, hz2⟩ := info_parts Try.infoInt
  go_enter Try.func44, Try.ntmps44
  go_wp2
  go_loopw [3, 4] (fun v i wr => ∃ (k : Nat) (A : Option Addr) (c : Nat), k ≤ n ∧ i = .int .i64 k ∧ v = .slice A k c ∧ Row wr w.heap.size (.slice A k c) (List.replicate k (-1)) ∧ Below w.heap.size w wr) (fun _ i _ => n - (intOf i).toNat)
  case atStart => exact ⟨0, _, _, Nat.zero_le _, rfl, rfl, Row.of_own (World.ownsRow_lit w #[] 0 (Nat.le_refl _) (by unfold maxLen; omega) rfl) rfl rfl, (Below.refl _ _).alloc (Nat.le_refl _) _⟩
  case round =>
    obtain ⟨k, A, c, hk, rfl, rfl, hrow, hb⟩ := hrel
    by_cases hlt : k < n
    · have hown : wr.ownsRow w.heap.size 3 1 (.slice A k c) k ((List.replicate k (-1 : Int)).map iv) := by simpa [Row] using hrow
      have hsz := hb.size
      clear hrow
      go_wp2_with (at_builtin; refine wpList_append_own _ rfl _ _ 22 rfl w.heap.size 3 i0 (.int .i64 0) 1 8 Try.underlying22 hi hz0 hz1 hz2 rfl (by decide) _ _ _ rfl (hown.alloc _) ⟨wr.heap.size, 0, none⟩ 1 1 [.int .i64 (-1)] rfl rfl ?c1 ?c2 ?c3 ?c4 ?c5 ?_)
      case c1 => exact one_new
      case c2 => intro u hu; simp at hu; subst hu; rfl
      case c3 => unfold maxLen; omega
      case c4 => omega
      case c5 => simp; omega
      intro v' w1 hown' hgrow _
      have hrow' : Row w1 w.heap.size v' (List.replicate (k + 1) (-1)) := Row.of_own hown' (by simp [List.replicate_succ']) (by simp)
      have hb' : Below w.heap.size w w1 := (hb.alloc hb.size _).grown hgrow (by simp; omega) (fun j hj => (hown.lt j hj).1)
      obtain ⟨A', c', hv', _⟩ := hrow'.form
      rw [List.length_replicate] at hv'
      subst hv'
      clear hown hown' hgrow hz0 hz1 hz2 hi
      go_wp2
      go_roundw
      case rel => exact ⟨k + 1, A', c', by omega, by go_num, rfl, hrow', hb'⟩
      case measure => simp [intOf]; omega
    · obtain rfl : k = n := by omega
      go_wp2
      go_ret
      exact ⟨A, c, by simp, by simpa using hrow, hb⟩

/-- The cells of a row, as a copy asks for them. -/
theorem Row.src {w : World} {lo : Nat} {A : Option Addr} {n c : Nat} {xs : List Int} (h : Row w lo (.slice A n c) xs) (hp : 0 < xs.length) :
    ∃ ad, A = some ad ∧ ∀ (j : Nat) (u : Int), xs[j]? = some u → w.cell? (ad.add j) = some (iv u) := by
  obtain ⟨g, e, _, _, _⟩ := h.at_ (k := 0) hp
  refine ⟨_, e, fun j u hj => ?_⟩
  have hjl : j < xs.length := (List.getElem?_eq_some_iff.1 hj).1
  obtain ⟨g', e', _, _, hcell, _⟩ := h.at_ hjl
  rw [e] at e'; cases e'
  have hadd : (⟨g, 0, none⟩ : Addr).add j = ⟨g, j, none⟩ := by unfold Addr.add; split <;> simp_all
  rw [hadd, hcell]
  simp [List.getD, hj]

set_option maxHeartbeats 400000 in
theorem copyOfInts_any (w : World) (lo : Nat) (A : Option Addr) (n c : Nat) (xs : List Int) (h : Row w lo (.slice A n c) xs) (hn : xs.length = n) (hm : n ≤ 1048576) :
    Calls Try.prog 55 #[.slice A n c] w (NewRow w xs) := by
  obtain ⟨i0, hi, hz0, hz1, hz2⟩ := info_parts Try.infoInt
  have hii : (Try.prog.info? 3).map (·.size) = some 1 := by rw [hi]; simp [hz1]
  go_enter Try.func55, Try.ntmps55
  go_wp2_with (at_make; refine wpList_make_full _ rfl _ _ 22 rfl w.heap.size 3 i0 (.int .i64 0) 1 Try.underlying22 hi hz0 hz1 _ _ _ _ n rfl rfl rfl rfl ?b2 ?b3 (Nat.le_refl _) ?_)
  case b2 => rw [hz2]; omega
  case b3 => unfold maxLen; omega
  intro w0 hown0 hgrow0
  rw [mc_int] at hown0
  have hrow0 : Row w0 w.heap.size (.slice (some ⟨w.heap.size, 0, none⟩) n n) (List.replicate n 0) := by unfold Row; simpa using hown0
  have hb0 : Below w.heap.size w w0 := (Below.refl _ _).grown hgrow0 (Nat.le_refl _) (fun k h => by cases h)
  have h0 : Row w0 lo (.slice A n c) xs := h.below hb0
  have hblk : ∃ cur : List Value, Hid (w0.heap[w.heap.size]? = some (.cells cur.toArray 3 (0, 0))) ∧ cur.length = n := by
    rcases hown0.2 with ⟨e, _⟩ | ⟨g, cap, cur, e, _, hg, _, _, h3, _⟩
    · cases e
    · cases e; exact ⟨cur.toList, by unfold Hid; simpa using hg, by simpa using h3⟩
  obtain ⟨cur, hcur, hcl⟩ := hblk
  clear hown0 hgrow0 hz0 hz1 hz2 hrow0
  go_wp2_with (refine wpList_copy_splice rfl _ _ 22 22 rfl 3 Try.underlying22 hii _ _ _ _ _ _ rfl rfl w.heap.size 0 cur 3 hcur.out (xs.map iv) ?d1 ?d2 ?d3 ?d4 w.heap.size w hb0 (Nat.le_refl _) ?_)
  case d1 => simp [hn]
  case d2 =>
    intro hp
    first | exact h0.src (by omega) | exact ⟨rfl, h0.src (by omega)⟩
  case d3 => simp; omega
  case d4 => exact ints_oneCell _ _
  intro w' hw' hb'
  have hrow' : Row w' w.heap.size (.slice (some ⟨w.heap.size, 0, none⟩) n n) xs := by
    have e : splice cur 0 (xs.map iv) = xs.map iv := by simp [splice]; omega
    have hh := hw'.out
    rw [e] at hh
    refine ⟨by simp, .inr ⟨w.heap.size, n, _, by rw [hn], Nat.le_refl _, hh, by omega, by unfold maxLen; omega, by simp [hn], by rw [Nat.mul_one]; exact List.take_of_length_le (by simp)⟩⟩
  clear hw' hcur hb0 h0
  go_wp2
  go_ret
  refine ⟨some ⟨w.heap.size, 0, none⟩, n, ?_, ?_, hb'⟩
  · rw [hn]; rfl
  · rw [hn]; exact hrow'
end Go.Proofs.Ytapkhgpifpgleaa

/- Heaps by value: valid, same, copied. -/
namespace Go.Proofs.Ytapkhgpifpgleaa
open Go.RowKit

def hvB (h : Hp) : Bool := decide (h.r.length = h.l.length) && szB h.l.length h.t.length && h.l.all (ptB · h.l.length) && h.r.all (ptB · h.l.length) && h.t.all (ptB · h.l.length)

/-- A Bool comes back, and nothing that was there has turned. -/
def RetB (w : World) (b : Bool) (e : Ending) (w' : World) : Prop := e = .returned (.bool b) ∧ Below w.heap.size w w'

set_option maxHeartbeats 400000 in
theorem implHeapValid_any (w : World) (lo : Nat) (v : Value) (h : Hp) (hv : Hv w lo v h) : Calls Try.prog 33 #[v] w (RetB w (hvB h)) := by
  obtain ⟨A0, n0, c0, A1, n1, c1, A2, n2, c2, rfl, ⟨h0, h1, h2⟩, ⟨l0, l1, l2⟩, ⟨m0, m1, m2⟩, _⟩ := hv.open_
  have k0 := h0.alloc (.cells #[.slice A0 n0 c0, .slice A1 n1 c1, .slice A2 n2 c2] 27)
  have k1 := h1.alloc (.cells #[.slice A0 n0 c0, .slice A1 n1 c1, .slice A2 n2 c2] 27)
  have k2 := h2.alloc (.cells #[.slice A0 n0 c0, .slice A1 n1 c1, .slice A2 n2 c2] 27)
  have hdef : Hid (hvB h = (decide (n1 = n0) && szB n0 n2 && h.l.all (ptB · n0) && h.r.all (ptB · n0) && h.t.all (ptB · n0))) := by
    unfold Hid hvB; rw [l0.out, l1.out, l2.out]
  have P0 := pointersValid_any _ _ _ _ _ _ k0 l0.out m0 (n0 : Int) (by omega)
  have P1 := pointersValid_any _ _ _ _ _ _ k1 l1.out m1 (n0 : Int) (by omega)
  have P2 := pointersValid_any _ _ _ _ _ _ k2 l2.out m2 (n0 : Int) (by omega)
  have S := sizesValid_any (n0 : Int) (n2 : Int)
  have fin : Below w.heap.size w (w.alloc (.cells #[.slice A0 n0 c0, .slice A1 n1 c1, .slice A2 n2 c2] 27)) := (Below.refl _ _).alloc (Nat.le_refl _) _
  clear k0 k1 k2 h0 h1 h2
  by_cases e1 : n1 = n0
  · subst e1
    have e1' : ((n1 : Int) != (n1 : Int)) = false := by simp
    rcases es : szB n1 n2
    · rw [es] at S hdef
      have hf : Hid (hvB h = false) := by unfold Hid; rw [hdef.out]; simp
      clear P0 P1 P2 es hdef
      go_enter Try.func33, Try.ntmps33
      go_wp2_with (go_at_call 58; refine (S _).mono ?_; rintro e w' ⟨rfl, rfl⟩)
      go_ret
      exact ⟨ret_bool hf.out.symm, fin⟩
    · rw [es] at S hdef
      rcases ea : h.l.all (ptB · n1)
      · rw [ea] at P0 hdef
        have hf : Hid (hvB h = false) := by unfold Hid; rw [hdef.out]; simp
        clear P1 P2 es hdef ea
        go_enter Try.func33, Try.ntmps33
        go_wp2_with (first | (go_at_call 58; refine (S _).mono ?_; rintro e w' ⟨rfl, rfl⟩) | (go_at_call 59; refine P0.mono ?_; rintro e w' ⟨rfl, rfl⟩))
        go_ret
        exact ⟨ret_bool hf.out.symm, fin⟩
      · rw [ea] at P0 hdef
        rcases eb : h.r.all (ptB · n1)
        · rw [eb] at P1 hdef
          have hf : Hid (hvB h = false) := by unfold Hid; rw [hdef.out]; simp
          clear P2 es hdef ea eb
          go_enter Try.func33, Try.ntmps33
          go_wp2_with fail
          refine (S _).mono ?_; rintro e w' ⟨rfl, rfl⟩
          go_wp2_with fail
          refine P0.mono ?_; rintro e w' ⟨rfl, rfl⟩
          go_wp2_with fail
          refine P1.mono ?_; rintro e w' ⟨rfl, rfl⟩
          go_wp2_with fail
          go_ret
          exact ⟨ret_bool hf.out.symm, fin⟩
        · rw [eb] at P1 hdef
          have hf : Hid (hvB h = h.t.all (ptB · n1)) := by unfold Hid; rw [hdef.out]; simp
          clear es hdef ea eb
          go_enter Try.func33, Try.ntmps33
          go_wp2_with fail
          refine (S _).mono ?_; rintro e w' ⟨rfl, rfl⟩
          go_wp2_with fail
          refine P0.mono ?_; rintro e w' ⟨rfl, rfl⟩
          go_wp2_with fail
          refine P1.mono ?_; rintro e w' ⟨rfl, rfl⟩
          go_wp2_with fail
          refine P2.mono ?_; rintro e w' ⟨rfl, rfl⟩
          go_wp2_with fail
          go_ret
          exact ⟨ret_bool hf.out.symm, fin⟩
  · have e1' : ((n1 : Int) != (n0 : Int)) = true := by simp; omega
    have hf : Hid (hvB h = false) := by unfold Hid; rw [hdef.out]; simp [e1]
    clear P0 P1 P2 S hdef
    go_enter Try.func33, Try.ntmps33
    go_wp2_with fail
    go_ret
    exact ⟨ret_bool hf.out.symm, fin⟩
end Go.Proofs.Ytapkhgpifpgleaa

