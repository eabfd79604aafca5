import Derived.Test.YthbflohanjnaeaaCan
import Derived.Test.YthbflohanjnaeaaPut
import Derived.Test.YthbflohanjnaeaaWrong
import Derived.Test.YthbflohanjnaeaaIStos
import Derived.Test.YthbflohanjnaeaaStoKs
/- Which cells point to a cell: hasCell, l2Points, SourcesOf of both. -/
namespace Go.Proofs.Ythbflohanjnaeaa
open Go.RowKit

set_option maxHeartbeats 1000000 in
theorem hasCell_any (w : World) (lo : Nat) (v : Value) (h : Hp) (hv : Hv w lo v h) (x : Int) :
    Calls Try.prog 52 #[v, .int .i64 x] w (RetB w (hvB h && plB x h.l.length)) := by
  obtain ⟨A0, n0, c0, A1, n1, c1, A2, n2, c2, rfl, ⟨h0, h1, h2⟩, ⟨l0, l1, l2⟩, _⟩ := hv.open_
  have X0 := Blk3.new w (.slice A0 n0 c0) (.slice A1 n1 c1) (.slice A2 n2 c2) 25
  have V := implHeapValid_any _ _ _ _ (hv.alloc (.cells #[.slice A0 n0 c0, .slice A1 n1 c1, .slice A2 n2 c2] 25))
  have fin : Below w.heap.size w (w.alloc (.cells #[.slice A0 n0 c0, .slice A1 n1 c1, .slice A2 n2 c2] 25)) := (Below.refl _ _).alloc (Nat.le_refl _) _
  have hdef : Hid ((hvB h && plB x h.l.length) = (hvB h && plB x n0)) := by unfold Hid; rw [l0.out]
  rcases ev : hvB h
  · rw [ev] at V
    have hf : Hid ((false && plB x h.l.length) = false) := by unfold Hid; simp
    clear ev hdef
    go_enter Try.func52, Try.ntmps52
    go_wp2_with fail
    refine V.mono ?_; rintro e w1 ⟨rfl, hb1⟩
    go_wp2_with fail
    go_ret
    exact ⟨ret_bool hf.out.symm, fin.trans (hb1.mono (by simp))⟩
  · rw [ev] at V hdef
    have PL := hasPlace_any A0 n0 c0 x
    have hf : Hid ((true && plB x h.l.length) = plB x n0) := by unfold Hid; rw [hdef.out]; simp
    clear ev hdef
    generalize plB x n0 = r at PL hf
    go_enter Try.func52, Try.ntmps52
    go_wp2_with fail
    refine V.mono ?_; rintro e w1 ⟨rfl, hb1⟩
    obtain ⟨p0, p1, p2, _⟩ := (Blk3.below (by exact X0) hb1).cells
    go_wp2_with fail
    refine (PL _).mono ?_; rintro e w' ⟨rfl, rfl⟩
    go_wp2_with fail
    go_ret
    exact ⟨ret_bool hf.out.symm, fin.trans (hb1.mono (by simp))⟩

/-- Does cell k point to c? -/
def pntB (h : Hp) (k : Nat) (c : Int) : Bool := h.l.getD k 0 == c || h.r.getD k 0 == c
def srcN (h : Hp) (c : Int) (k : Nat) : List Int := ((List.range k).filter (pntB h · c)).map fun i : Nat => (i : Int)
def srcs (h : Hp) (c : Int) : List Int := if (hvB h && plB c h.l.length) = true then srcN h c h.l.length else []
theorem srcN_succ (h : Hp) (c : Int) (k : Nat) : srcN h c (k + 1) = if pntB h k c = true then srcN h c k ++ [(k : Int)] else srcN h c k := by
  unfold srcN
  rw [List.range_succ, List.filter_append]
  by_cases hp : pntB h k c = true <;> simp [hp]
theorem srcN_len (h : Hp) (c : Int) (k : Nat) : (srcN h c k).length ≤ k := by
  unfold srcN; rw [List.length_map]; exact Nat.le_trans (List.length_filter_le _ _) (by simp)

theorem srcs_len (h : Hp) (c : Int) : (srcs h c).length ≤ h.l.length := by
  unfold srcs; split
  · exact srcN_len _ _ _
  · simp

set_option maxHeartbeats 2000000 in
theorem implSources_any (w : World) (lo : Nat) (v : Value) (h : Hp) (hv : Hv w lo v h) (c : Int) :
    Calls Try.prog 25 #[v, .int .i64 c] w (NewRow w (srcs h c)) := by
  obtain ⟨i0, hi, hz0, hz1, hz2⟩ := info_parts Try.infoInt
  obtain ⟨A0, n0, c0, A1, n1, c1, A2, n2, c2, rfl, ⟨h0, h1, h2⟩, ⟨l0, l1, l2⟩, _⟩ := hv.open_
  have X0 := Blk3.new w (.slice A0 n0 c0) (.slice A1 n1 c1) (.slice A2 n2 c2) 25
  have V := hasCell_any _ _ _ _ (hv.alloc (.cells #[.slice A0 n0 c0, .slice A1 n1 c1, .slice A2 n2 c2] 25)) c
  have fin : Below w.heap.size w (w.alloc (.cells #[.slice A0 n0 c0, .slice A1 n1 c1, .slice A2 n2 c2] 25)) := (Below.refl _ _).alloc (Nat.le_refl _) _
  rcases ev : (hvB h && plB c h.l.length)
  · rw [ev] at V
    have hf : srcs h c = [] := by unfold srcs; rw [ev]; simp
    rw [hf]
    clear ev hf
    go_enter Try.func25, Try.ntmps25
    go_wp2_with fail
    refine V.mono ?_; rintro e w1 ⟨rfl, hb1⟩
    go_wp2_with fail
    go_ret
    exact ⟨none, 0, rfl, Row.nil _ _, fin.trans (hb1.mono (by simp))⟩
  · rw [ev] at V
    have hf : srcs h c = srcN h c n0 := by unfold srcs; rw [ev, l0.out]; simp
    rw [hf]
    have hl := hvB_len (h := h) (by simp only [Bool.and_eq_true] at ev; exact ev.1)
    have u0 : n0 ≤ 8 ∧ Hid (n1 = n0) := by have := l0.out; have := l1.out; exact ⟨by omega, by unfold Hid; omega⟩
    obtain ⟨u0a, u0b⟩ := u0
    clear ev hf hl
    go_enter Try.func25, Try.ntmps25
    go_wp2_with fail
    refine V.mono ?_; rintro e w1 ⟨rfl, hb1⟩
    have X1 := Blk3.below (by exact X0) hb1
    have R0 := Row.below (by exact h0.alloc (.cells #[.slice A0 n0 c0, .slice A1 n1 c1, .slice A2 n2 c2] 25)) hb1
    have R1 := Row.below (by exact h1.alloc (.cells #[.slice A0 n0 c0, .slice A1 n1 c1, .slice A2 n2 c2] 25)) hb1
    have B1 : Below w.heap.size w w1 := fin.trans (hb1.mono (by simp))
    have z1 : w.heap.size < w1.heap.size := by have := hb1.size; simp at this; omega
    obtain ⟨p0, p1, p2, _⟩ := X1.cells
    clear h0 h1 h2 hv V
    go_wp2_with fail
    go_loopw [5, 14] (fun v i wr => ∃ (k : Nat) (A : Option Addr) (cc : Nat), k ≤ n0 ∧ i = .int .i64 k ∧ v = .slice A (srcN h c k).length cc ∧ Row wr w1.heap.size (.slice A (srcN h c k).length cc) (srcN h c k) ∧ Below w1.heap.size w1 wr) (fun _ i _ => n0 - (intOf i).toNat)
    case atStart => exact ⟨0, none, 0, Nat.zero_le _, rfl, rfl, Row.nil _ _, Below.refl _ _⟩
    case round =>
      obtain ⟨k, A, cc, hk, rfl, rfl, hrow, hb⟩ := hrel
      obtain ⟨q0, q1, q2, _⟩ := (X1.below hb).cells
      have lx := (X1.below hb).lt
      by_cases hlt : k < n0
      · obtain ⟨g0, x, rfl, _, hg0, hx, hcx, _⟩ := (R0.below hb).get (k := k) (by have := l0.out; omega)
        obtain ⟨g1, y, rfl, _, hg1, hy, hcy, _⟩ := (R1.below hb).get (k := k) (by have := l1.out; have := u0b.out; omega)
        have hk1 : k < n1 := by have := u0b.out; omega
        have hsl := srcN_len h c k
        have hd : pntB h k c = (x == c || y == c) := by
          unfold pntB; simp only [List.getD, hx.out, hy.out, Option.getD_some]
        have hS := srcN_succ h c k
        rw [hd] at hS
        clear hd hx hy
        by_cases hany : x = c ∨ y = c
        · have hany2 : (x == c || y == c) = true := by simpa using hany
          rw [if_pos hany2] at hS
          have HS := Lib.hid hS
          clear hS hany2
          have hown : wr.ownsRow w1.heap.size 3 1 (.slice A (srcN h c k).length cc) (srcN h c k).length ((srcN h c k).map iv) := hrow
          generalize hsn : srcN h c k = sn at *
          have HSN := Lib.hid hsn
          clear hsn hrow
          have hsz := hb.size
          have step : ∀ (Q : Prop), Q → Q := fun _ q => q
          by_cases hx1 : x = c
          all_goals
            first
              | subst hx1
              | (have hx2 : (x == c) = false := by simpa using hx1
                 obtain rfl : y = c := by rcases hany with h | h; exact absurd h hx1; exact h)
            go_wp2_with (at_builtin; refine wpList_append_own _ rfl _ _ 23 rfl w1.heap.size 3 i0 (.int .i64 0) 1 8 Try.underlying23 hi hz0 hz1 hz2 rfl (by decide) _ _ _ rfl (hown.alloc _) ⟨wr.heap.size, 0, none⟩ 1 1 [.int .i64 k] rfl rfl ?ap1 ?ap2 ?ap3 ?ap4 ?ap5 ?_)
            try case ap1 => exact one_new
            case ap2 => first | rfl | (intro u hu; simp at hu; subst hu; rfl)
            case ap3 => unfold maxLen; omega
            case ap4 => omega
            case ap5 => first | omega | (simp; omega)
            intro v' w2 hown' hgrow _
            have hrow' : Row w2 w1.heap.size v' (sn ++ [(k : Int)]) := Row.of_own hown' (by simp) (by simp)
            rw [← HS.out] at hrow'
            have hb' := (hb.alloc hsz _).grown hgrow (by simp; omega) (fun j hj => (hown.lt j hj).1)
            obtain ⟨A', c', hv', _⟩ := hrow'.form
            subst hv'
            clear hown hown' hgrow hz0 hz1 hz2 hi
            go_wp2
            go_roundw
            case rel => exact ⟨k + 1, A', c', by omega, by go_num, rfl, hrow', hb'⟩
            case measure => simp [intOf]; omega
        · have hany2 : (x == c || y == c) = false := by simp at hany ⊢; exact hany
          rw [if_neg (by rw [hany2]; simp)] at hS
          have hx2 : (x == c) = false := by simp at hany ⊢; exact hany.1
          have hy2 : (y == c) = false := by simp at hany ⊢; exact hany.2
          have HS := Lib.hid hS
          clear hS hany2 hany
          go_wp2_with fail
          go_roundw
          case rel => exact ⟨k + 1, A, cc, by omega, by go_num, by rw [HS.out], by rw [HS.out]; exact hrow, hb⟩
          case measure => simp [intOf]; omega
      · obtain rfl : k = n0 := by omega
        go_wp2_with fail
        go_ret
        exact ⟨A, cc, rfl, hrow.mono B1.size, B1.trans (hb.mono B1.size)⟩

end Go.Proofs.Ythbflohanjnaeaa

/- LeakedOf and IsFree of impl. -/
namespace Go.Proofs.Ythbflohanjnaeaa
open Go.RowKit

set_option maxRecDepth 100000 in
set_option maxHeartbeats 4000000 in
theorem implIsFree_any (w : World) (lo : Nat) (v : Value) (C : Cp) (hv : Cv w lo v C) (x : Int) : Calls Try.prog 19 #[v, .int .i64 x] w (RetB w (isFreeB C x)) := by
  have hvo := hv
  obtain ⟨A0, n0, c0, A1, n1, c1, A2, n2, c2, A3, n3, c3, rfl, hh, ⟨r0, r1, r2, r3⟩, ⟨l0, l1, l2, l3⟩, ⟨mm0, mm1, mm2, mm3⟩, _⟩ := hvo.open_
  have X0 := Blk4.new w (.slice A0 n0 c0) (.slice A1 n1 c1) (.slice A2 n2 c2) (.slice A3 n3 c3) 27
  have fin : Below w.heap.size w (w.alloc (.cells #[.slice A0 n0 c0, .slice A1 n1 c1, .slice A2 n2 c2, .slice A3 n3 c3] 27)) := (Below.refl _ _).alloc (Nat.le_refl _) _
  have VV := hv.alloc (.cells #[.slice A0 n0 c0, .slice A1 n1 c1, .slice A2 n2 c2, .slice A3 n3 c3] 27)
  have HH := hh.alloc (.cells #[.slice A0 n0 c0, .slice A1 n1 c1, .slice A2 n2 c2, .slice A3 n3 c3] 27)
  have S0 := r0.alloc (.cells #[.slice A0 n0 c0, .slice A1 n1 c1, .slice A2 n2 c2, .slice A3 n3 c3] 27)
  have S1 := r1.alloc (.cells #[.slice A0 n0 c0, .slice A1 n1 c1, .slice A2 n2 c2, .slice A3 n3 c3] 27)
  have S2 := r2.alloc (.cells #[.slice A0 n0 c0, .slice A1 n1 c1, .slice A2 n2 c2, .slice A3 n3 c3] 27)
  have S3 := r3.alloc (.cells #[.slice A0 n0 c0, .slice A1 n1 c1, .slice A2 n2 c2, .slice A3 n3 c3] 27)
  have V := implStoreValid_any _ _ _ _ VV
  clear hv hh r0 r1 r2 r3 S0 S1 S2 VV HH
  rcases ev : stoB C
  · rw [ev] at V
    have hf : Hid (isFreeB C x = false) := by unfold Hid isFreeB; rw [ev]; rfl
    clear ev
    go_enter Try.func19, Try.ntmps19
    go_wp2_with fail
    refine V.mono ?_; rintro e w1 ⟨rfl, hb1⟩
    have B1 := fin.trans (hb1.mono fin.size)
    go_wp2_with fail
    go_ret
    exact ⟨ret_bool hf.out.symm, B1⟩
  · rw [ev] at V
    have hf : Hid (isFreeB C x = decide (x ∈ C.c)) := by unfold Hid isFreeB; rw [ev]; rfl
    clear ev
    go_enter Try.func19, Try.ntmps19
    go_wp2_with fail
    refine V.mono ?_; rintro e w1 ⟨rfl, hb1⟩
    have B1 := fin.trans (hb1.mono fin.size)
    obtain ⟨x0, x1, x2, x3, _⟩ := (Blk4.below (by exact X0) hb1).cells
    have I := slicesContains_any w1 lo A3 n3 c3 C.c (Row.below (by exact S3) hb1) l3.out mm3 x
    generalize decide (x ∈ C.c) = q at I hf
    clear V X0 S3 fin hb1
    go_wp2_with fail
    refine I.mono ?_; rintro e w3 ⟨rfl, rfl⟩
    go_wp2_with fail
    go_ret
    exact ⟨ret_bool hf.out.symm, B1⟩
end Go.Proofs.Ythbflohanjnaeaa

