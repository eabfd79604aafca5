/- Which cells point to a cell: hasCell, l2Points, SourcesOf of both. -/
import Derived.Test.YtfgkafbdaalkoaaCan
import Derived.Test.YtfgkafbdaalkoaaPut
import Derived.Test.YtfgkafbdaalkoaaWrong
namespace Go.Proofs.Ytfgkafbdaalkoaa
open Go.RowKit

set_option maxHeartbeats 1000000 in
theorem hasCell_any (w : World) (lo : Nat) (v : Value) (h : Hp) (hv : Hv w lo v h) (x : Int) :
    Calls Try.prog 63 #[v, .int .i64 x] w (RetB w (hvB h && plB x h.l.length)) := by
  obtain ⟨A0, n0, c0, A1, n1, c1, A2, n2, c2, rfl, ⟨h0, h1, h2⟩, ⟨l0, l1, l2⟩, _⟩ := hv.open_
  have X0 := Blk3.new w (.slice A0 n0 c0) (.slice A1 n1 c1) (.slice A2 n2 c2) 25
  have V := implHeapValid_any _ _ _ _ (hv.alloc (.cells #[.slice A0 n0 c0, .slice A1 n1 c1, .slice A2 n2 c2] 25))
  have fin : Below w.heap.size w (w.alloc (.cells #[.slice A0 n0 c0, .slice A1 n1 c1, .slice A2 n2 c2] 25)) := (Below.refl _ _).alloc (Nat.le_refl _) _
  have hdef : Hid ((hvB h && plB x h.l.length) = (hvB h && plB x n0)) := by unfold Hid; rw [l0.out]
  rcases ev : hvB h
  · rw [ev] at V
    have hf : Hid ((false && plB x h.l.length) = false) := by unfold Hid; simp
    clear ev hdef
    go_enter Try.func63, Try.ntmps63
    go_wp2_with fail
    refine V.mono ?_; rintro e w1 ⟨rfl, hb1⟩
    go_wp2_with fail
    go_ret
    exact ⟨ret_bool hf.out.symm, fin.trans (hb1.mono (by simp))⟩
  · rw [ev] at V hdef
    have PL := hasPlace_any A0 n0 c0 x
    have hf : Hid ((true && plB x h.l.length) = plB x n0) := by unfold Hid; rw [hdef.out]; simp
    clear ev hdef
    generalize plB x n0 = r at PL hf
    go_enter Try.func63, Try.ntmps63
    go_wp2_with fail
    refine V.mono ?_; rintro e w1 ⟨rfl, hb1⟩
    obtain ⟨p0, p1, p2, _⟩ := (Blk3.below (by exact X0) hb1).cells
    go_wp2_with fail
    refine (PL _).mono ?_; rintro e w' ⟨rfl, rfl⟩
    go_wp2_with fail
    go_ret
    exact ⟨ret_bool hf.out.symm, fin.trans (hb1.mono (by simp))⟩

/-- Does cell k point to c? -/
def pntB (h : Hp) (k : Nat) (c : Int) : Bool := h.l.getD k 0 == c || h.r.getD k 0 == c
def srcN (h : Hp) (c : Int) (k : Nat) : List Int := ((List.range k).filter (pntB h · c)).map fun i : Nat => (i : Int)
def srcs (h : Hp) (c : Int) : List Int := if (hvB h && plB c h.l.length) = true then srcN h c h.l.length else []
theorem srcN_succ (h : Hp) (c : Int) (k : Nat) : srcN h c (k + 1) = if pntB h k c = true then srcN h c k ++ [(k : Int)] else srcN h c k := by
  unfold srcN
  rw [List.range_succ, List.filter_append]
  by_cases hp : pntB h k c = true <;> simp [hp]
theorem srcN_len (h : Hp) (c : Int) (k : Nat) : (srcN h c k).length ≤ k := by
  unfold srcN; rw [List.length_map]; exact Nat.le_trans (List.length_filter_le _ _) (by simp)

theorem srcs_len (h : Hp) (c : Int) : (srcs h c).length ≤ h.l.length := by
  unfold srcs; split
  · exact srcN_len _ _ _
  · simp

set_option maxHeartbeats 1000000 in
theorem l2Points_any (w : World) (lo : Nat) (v : Value) (h : Hp) (hv : Hv w lo v h) (k : Nat) (hk : k < h.l.length) (hk2 : k < h.r.length) (c : Int) :
    Calls Try.prog 64 #[v, .int .i64 k, .int .i64 c] w (RetB w (pntB h k c)) := by
  obtain ⟨A0, n0, c0, A1, n1, c1, A2, n2, c2, rfl, ⟨h0, h1, h2⟩, ⟨l0, l1, l2⟩, _⟩ := hv.open_
  have fin : Below w.heap.size w (w.alloc (.cells #[.slice A0 n0 c0, .slice A1 n1 c1, .slice A2 n2 c2] 25)) := (Below.refl _ _).alloc (Nat.le_refl _) _
  obtain ⟨g0, x, rfl, _, hg0, hx, hcx, _⟩ := (h0.alloc (.cells #[.slice A0 n0 c0, .slice A1 n1 c1, .slice A2 n2 c2] 25)).get hk
  obtain ⟨g1, y, rfl, _, hg1, hy, hcy, _⟩ := (h1.alloc (.cells #[.slice (some ⟨g0, 0, none⟩) n0 c0, .slice A1 n1 c1, .slice A2 n2 c2] 25)).get hk2
  have e0 : k < n0 := by have := l0.out; omega
  have e1 : k < n1 := by have := l1.out; omega
  have hd : pntB h k c = (x == c || y == c) := by
    unfold pntB; simp only [List.getD, hx.out, hy.out, Option.getD_some]
  rw [hd]
  clear hd hx hy h0 h1 h2 hv
  by_cases hxc : x = c
  · subst hxc
    go_enter Try.func64, Try.ntmps64
    go_wp2_with fail
    go_ret
    exact ⟨ret_bool (by simp), fin⟩
  · have hxc2 : (x == c) = false := by simpa using hxc
    rw [hxc2]
    by_cases hyc : y = c
    · subst hyc
      go_enter Try.func64, Try.ntmps64
      go_wp2_with fail
      go_ret
      exact ⟨ret_bool (by simp), fin⟩
    · have hyc2 : (y == c) = false := by simpa using hyc
      go_enter Try.func64, Try.ntmps64
      go_wp2_with fail
      go_ret
      exact ⟨ret_bool (by simp [hyc2]), fin⟩

set_option maxHeartbeats 2000000 in
theorem implSources_any (w : World) (lo : Nat) (v : Value) (h : Hp) (hv : Hv w lo v h) (c : Int) :
    Calls Try.prog 36 #[v, .int .i64 c] w (NewRow w (srcs h c)) := by
  obtain ⟨i0, hi, hz0, hz1, hz2⟩ := info_parts Try.infoInt
  obtain ⟨A0, n0, c0, A1, n1, c1, A2, n2, c2, rfl, ⟨h0, h1, h2⟩, ⟨l0, l1, l2⟩, _⟩ := hv.open_
  have X0 := Blk3.new w (.slice A0 n0 c0) (.slice A1 n1 c1) (.slice A2 n2 c2) 25
  have V := hasCell_any _ _ _ _ (hv.alloc (.cells #[.slice A0 n0 c0, .slice A1 n1 c1, .slice A2 n2 c2] 25)) c
  have fin : Below w.heap.size w (w.alloc (.cells #[.slice A0 n0 c0, .slice A1 n1 c1, .slice A2 n2 c2] 25)) := (Below.refl _ _).alloc (Nat.le_refl _) _
  rcases ev : (hvB h && plB c h.l.length)
  · rw [ev] at V
    have hf : srcs h c = [] := by unfold srcs; rw [ev]; simp
    rw [hf]
    clear ev hf
    go_enter Try.func36, Try.ntmps36
    go_wp2_with fail
    refine V.mono ?_; rintro e w1 ⟨rfl, hb1⟩
    go_wp2_with fail
    go_ret
    exact ⟨none, 0, rfl, Row.nil _ _, fin.trans (hb1.mono (by simp))⟩
  · rw [ev] at V
    have hf : srcs h c = srcN h c n0 := by unfold srcs; rw [ev, l0.out]; simp
    rw [hf]
    have hl := hvB_len (h := h) (by simp only [Bool.and_eq_true] at ev; exact ev.1)
    have u0 : n0 ≤ 8 ∧ Hid (n1 = n0) := by have := l0.out; have := l1.out; exact ⟨by omega, by unfold Hid; omega⟩
    obtain ⟨u0a, u0b⟩ := u0
    clear ev hf hl
    go_enter Try.func36, Try.ntmps36
    go_wp2_with fail
    refine V.mono ?_; rintro e w1 ⟨rfl, hb1⟩
    have X1 := Blk3.below (by exact X0) hb1
    have R0 := Row.below (by exact h0.alloc (.cells #[.slice A0 n0 c0, .slice A1 n1 c1, .slice A2 n2 c2] 25)) hb1
    have R1 := Row.below (by exact h1.alloc (.cells #[.slice A0 n0 c0, .slice A1 n1 c1, .slice A2 n2 c2] 25)) hb1
    have B1 : Below w.heap.size w w1 := fin.trans (hb1.mono (by simp))
    have z1 : w.heap.size < w1.heap.size := by have := hb1.size; simp at this; omega
    obtain ⟨p0, p1, p2, _⟩ := X1.cells
    clear h0 h1 h2 hv V
    go_wp2_with fail
    go_loopw [5, 14] (fun v i wr => ∃ (k : Nat) (A : Option Addr) (cc : Nat), k ≤ n0 ∧ i = .int .i64 k ∧ v = .slice A (srcN h c k).length cc ∧ Row wr w1.heap.size (.slice A (srcN h c k).length cc) (srcN h c k) ∧ Below w1.heap.size w1 wr) (fun _ i _ => n0 - (intOf i).toNat)
    case atStart => exact ⟨0, none, 0, Nat.zero_le _, rfl, rfl, Row.nil _ _, Below.refl _ _⟩
    case round =>
      obtain ⟨k, A, cc, hk, rfl, rfl, hrow, hb⟩ := hrel
      obtain ⟨q0, q1, q2, _⟩ := (X1.below hb).cells
      have lx := (X1.below hb).lt
      by_cases hlt : k < n0
      · obtain ⟨g0, x, rfl, _, hg0, hx, hcx, _⟩ := (R0.below hb).get (k := k) (by have := l0.out; omega)
        obtain ⟨g1, y, rfl, _, hg1, hy, hcy, _⟩ := (R1.below hb).get (k := k) (by have := l1.out; have := u0b.out; omega)
        have hk1 : k < n1 := by have := u0b.out; omega
        have hsl := srcN_len h c k
        have hd : pntB h k c = (x == c || y == c) := by
          unfold pntB; simp only [List.getD, hx.out, hy.out, Option.getD_some]
        have hS := srcN_succ h c k
        rw [hd] at hS
        clear hd hx hy
        by_cases hany : x = c ∨ y = c
        · have hany2 : (x == c || y == c) = true := by simpa using hany
          rw [if_pos hany2] at hS
          have HS := Lib.hid hS
          clear hS hany2
          have hown : wr.ownsRow w1.heap.size 3 1 (.slice A (srcN h c k).length cc) (srcN h c k).length ((srcN h c k).map iv) := hrow
          generalize hsn : srcN h c k = sn at *
          have HSN := Lib.hid hsn
          clear hsn hrow
          have hsz := hb.size
          have step : ∀ (Q : Prop), Q → Q := fun _ q => q
          by_cases hx1 : x = c
          all_goals
            first
              | subst hx1
              | (have hx2 : (x == c) = false := by simpa using hx1
                 obtain rfl : y = c := by rcases hany with h | h; exact absurd h hx1; exact h)
            go_wp2_with (at_builtin; refine wpList_append_own _ rfl _ _ 23 rfl w1.heap.size 3 i0 (.int .i64 0) 1 8 Try.underlying23 hi hz0 hz1 hz2 rfl (by decide) _ _ _ rfl (hown.alloc _) ⟨wr.heap.size, 0, none⟩ 1 1 [.int .i64 k] rfl rfl ?ap1 ?ap2 ?ap3 ?ap4 ?ap5 ?_)
            try case ap1 => exact one_new
            case ap2 => first | rfl | (intro u hu; simp at hu; subst hu; rfl)
            case ap3 => unfold maxLen; omega
            case ap4 => omega
            case ap5 => first | omega | (simp; omega)
            intro v' w2 hown' hgrow _
            have hrow' : Row w2 w1.heap.size v' (sn ++ [(k : Int)]) := Row.of_own hown' (by simp) (by simp)
            rw [← HS.out] at hrow'
            have hb' := (hb.alloc hsz _).grown hgrow (by simp; omega) (fun j hj => (hown.lt j hj).1)
            obtain ⟨A', c', hv', _⟩ := hrow'.form
            subst hv'
            clear hown hown' hgrow hz0 hz1 hz2 hi
            go_wp2
            go_roundw
            case rel => exact ⟨k + 1, A', c', by omega, by go_num, rfl, hrow', hb'⟩
            case measure => simp [intOf]; omega
        · have hany2 : (x == c || y == c) = false := by simp at hany ⊢; exact hany
          rw [if_neg (by rw [hany2]; simp)] at hS
          have hx2 : (x == c) = false := by simp at hany ⊢; exact hany.1
          have hy2 : (y == c) = false := by simp at hany ⊢; exact hany.2
          have HS := Lib.hid hS
          clear hS hany2 hany
          go_wp2_with fail
          go_roundw
          case rel => exact ⟨k + 1, A, cc, by omega, by go_num, by rw [HS.out], by rw [HS.out]; exact hrow, hb⟩
          case measure => simp [intOf]; omega
      · obtain rfl : k = n0 := by omega
        go_wp2_with fail
        go_ret
        exact ⟨A, cc, rfl, hrow.mono B1.size, B1.trans (hb.mono B1.size)⟩

set_option maxHeartbeats 2000000 in
theorem specSources_any (w : World) (lo : Nat) (v : Value) (h : Hp) (hv : Hv w lo v h) (c : Int) :
    Calls Try.prog 38 #[v, .int .i64 c] w (NewRow w (srcs h c)) := by
  obtain ⟨i0, hi, hz0, hz1, hz2⟩ := info_parts Try.infoInt
  obtain ⟨A0, n0, c0, A1, n1, c1, A2, n2, c2, rfl, ⟨h0, h1, h2⟩, ⟨l0, l1, l2⟩, ⟨mm0, _, _⟩, _⟩ := hv.open_
  have C := fun W (hW : Hv W lo (.agg #[.slice A0 n0 c0, .slice A1 n1 c1, .slice A2 n2 c2]) h) => l1Cell_any W lo _ h hW c
  have P := fun W (hW : Hv W lo (.agg #[.slice A0 n0 c0, .slice A1 n1 c1, .slice A2 n2 c2]) h) k a b => l2Points_any W lo _ h hW k a b c
  have u0 : (hvB h && plB c h.l.length) = true → n0 ≤ 8 ∧ n1 = n0 := fun ev => by
    have hl := hvB_len (h := h) (by simp only [Bool.and_eq_true] at ev; exact ev.1)
    have := l0.out; have := l1.out; omega
  have hfin : ∀ k, (hvB h && plB c h.l.length) = true → k = n0 → srcs h c = srcN h c k := fun k ev e => by unfold srcs; rw [ev, l0.out, e]; simp
  have hnon : (hvB h && plB c h.l.length) = false → srcs h c = [] := fun ev => by unfold srcs; rw [ev]; simp
  generalize (hvB h && plB c h.l.length) = ok at C u0 hfin hnon
  have X1 := (Blk3.new w (.slice A0 n0 c0) (.slice A1 n1 c1) (.slice A2 n2 c2) 25).alloc (.cells #[] 3)
  have R1 : Row ((w.alloc (.cells #[.slice A0 n0 c0, .slice A1 n1 c1, .slice A2 n2 c2] 25)).alloc (.cells #[] 3)) (w.heap.size + 1) (.slice (some ⟨w.heap.size + 1, 0, none⟩) 0 0) [] := Row.lit_lo (w := w.alloc (.cells #[.slice A0 n0 c0, .slice A1 n1 c1, .slice A2 n2 c2] 25)) (by simp) (w.heap.size + 1) (by simp) [] (by simp)
  have B1 : Below w.heap.size w ((w.alloc (.cells #[.slice A0 n0 c0, .slice A1 n1 c1, .slice A2 n2 c2] 25)).alloc (.cells #[] 3)) := ((Below.refl _ _).alloc (Nat.le_refl _) _).alloc (by simp) _
  go_enter Try.func38, Try.ntmps38
  go_wp2_with fail
  go_loopw [5, 6] (fun v i wr => ∃ (k : Nat) (A : Option Addr) (cc : Nat), k ≤ n0 ∧ i = .int .i64 k ∧ v = .slice A (srcN h c k).length cc ∧ Row wr (w.heap.size + 1) (.slice A (srcN h c k).length cc) (srcN h c k) ∧ Below w.heap.size w wr ∧ Blk3 wr w.heap.size (.slice A0 n0 c0) (.slice A1 n1 c1) (.slice A2 n2 c2) 25 ∧ (k ≠ 0 → ok = true)) (fun _ i _ => n0 - (intOf i).toNat)
  case atStart => exact ⟨0, _, _, Nat.zero_le _, rfl, rfl, R1, B1, X1, fun e => absurd rfl e⟩
  case round =>
    obtain ⟨k, A, cc, hk, rfl, rfl, hrow, hb, X, hok⟩ := hrel
    have H := hv.below hb
    obtain ⟨q0, q1, q2, _⟩ := X.cells
    have lx := X.lt
    by_cases hlt : k < n0
    · have CC := C wr H
      rcases ok
      · have hk0 : k = 0 := by
          rcases Nat.eq_zero_or_pos k with e | e
          · exact e
          · exact absurd (hok (by omega)) (by simp)
        subst hk0
        have hn := hnon rfl
        have HN := Lib.hid hn
        clear hn u0 hfin hnon hok C
        go_wp2_with fail
        refine CC.mono ?_; rintro e w2 ⟨rfl, hb2⟩
        have hrow2 := hrow.below hb2
        go_wp2_with fail
        go_ret
        refine ⟨A, cc, ?_, ?_, hb.trans (hb2.mono hb.size)⟩
        · rw [HN.out]; rfl
        · rw [HN.out]; exact hrow2.mono (by omega)
      · obtain ⟨u1, u2⟩ := u0 rfl
        have PP := fun W (hW : Hv W lo (.agg #[.slice A0 n0 c0, .slice A1 n1 c1, .slice A2 n2 c2]) h) => P W hW k (by rw [l0.out]; omega) (by rw [l1.out]; omega)
        have hS := srcN_succ h c k
        have hsl := srcN_len h c k
        have HF := Lib.hid (hfin (k + 1) rfl)
        clear u2 C P u0 hfin hnon
        go_wp2_with fail
        refine CC.mono ?_; rintro e w2 ⟨rfl, hb2⟩
        have X2 := X.below hb2
        have H2 := H.below hb2
        have hrow2 := hrow.below hb2
        have hb2' := hb.trans (hb2.mono hb.size)
        have PQ := PP w2 H2
        obtain ⟨r0, r1, r2, _⟩ := X2.cells
        have lx2 := X2.lt
        rcases hp : pntB h k c
        · rw [hp] at PQ hS
          rw [if_neg (by simp)] at hS
          have HS := Lib.hid hS
          clear hS hp
          go_wp2_with fail
          refine PQ.mono ?_; rintro e w3 ⟨rfl, hb3⟩
          go_wp2_with fail
          go_roundw
          case rel => exact ⟨k + 1, A, cc, by omega, by go_num, by rw [HS.out], by rw [HS.out]; exact hrow2.below hb3, hb2'.trans (hb3.mono hb2'.size), X2.below hb3, fun _ => by trivial⟩
          case measure => simp [intOf]; omega
        · rw [hp] at PQ hS
          rw [if_pos rfl] at hS
          have HS := Lib.hid hS
          clear hS hp
          go_wp2_with fail
          refine PQ.mono ?_; rintro e w3 ⟨rfl, hb3⟩
          have X3 := X2.below hb3
          have hrow3 := hrow2.below hb3
          have hb3' := hb2'.trans (hb3.mono hb2'.size)
          have hown : w3.ownsRow (w.heap.size + 1) 3 1 (.slice A (srcN h c k).length cc) (srcN h c k).length ((srcN h c k).map iv) := hrow3
          generalize hsn : srcN h c k = sn at *
          have HSN := Lib.hid hsn
          clear hsn hrow hrow2 hrow3
          have hsz := hb3'.size
          have lx3 := X3.lt
          go_wp2_with (at_builtin; refine wpList_append_own _ rfl _ _ 23 rfl (w.heap.size + 1) 3 i0 (.int .i64 0) 1 8 Try.underlying23 hi hz0 hz1 hz2 rfl (by decide) _ _ _ rfl (hown.alloc _) ⟨w3.heap.size, 0, none⟩ 1 1 [.int .i64 k] rfl rfl ?ap1 ?ap2 ?ap3 ?ap4 ?ap5 ?_)
          try case ap1 => exact one_new
          case ap2 => first | rfl | (intro u hu; simp at hu; subst hu; rfl)
          case ap3 => unfold maxLen; omega
          case ap4 => omega
          case ap5 => first | omega | (simp; omega)
          intro v' w4 hown' hgrow hnil
          have hrow' : Row w4 (w.heap.size + 1) v' (srcN h c (k + 1)) := by rw [HS.out]; exact Row.of_own hown' (by simp) (by simp)
          have hb' := (hb3'.alloc hsz _).grown hgrow (by simp; omega) (fun j hj => by have := (hown.lt j hj).1; omega)
          have X4 : Blk3 w4 w.heap.size (.slice A0 n0 c0) (.slice A1 n1 c1) (.slice A2 n2 c2) 25 := (hgrow.block _ (X3.alloc _).lt (fun e => by have := (hown.lt _ e.symm).1; omega)).trans (X3.alloc _)
          obtain ⟨A', c', hv', _⟩ := hrow'.form
          subst hv'
          clear hown hown' hgrow hz0 hz1 hz2 hi hnil
          go_wp2
          go_roundw
          case rel => exact ⟨k + 1, A', c', by omega, by go_num, rfl, hrow', hb', X4, fun _ => by trivial⟩
          case measure => simp [intOf]; omega
    · obtain rfl : k = n0 := by omega
      have hres : Hid (srcs h c = srcN h c k) := by
        unfold Hid
        rcases ok
        · rcases Nat.eq_zero_or_pos k with e | e
          · rw [hnon rfl, e]; rfl
          · exact absurd (hok (by omega)) (by simp)
        · exact hfin k rfl rfl
      clear hnon hfin hok u0 C P
      go_wp2_with fail
      go_ret
      refine ⟨A, cc, ?_, ?_, hb⟩
      · simp [hres.out]
      · rw [hres.out]; exact hrow.mono (by omega)
end Go.Proofs.Ytfgkafbdaalkoaa
