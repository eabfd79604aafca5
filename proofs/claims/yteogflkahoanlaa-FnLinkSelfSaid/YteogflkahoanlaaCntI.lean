/- countTargets and CountsOf of impl. -/
import Derived.Test.YteogflkahoanlaaCnt
import Derived.Test.YteogflkahoanlaaCntA
import Derived.Test.YteogflkahoanlaaShades
namespace Go.Proofs.Yteogflkahoanlaa
open Go.RowKit

set_option maxHeartbeats 1000000 in
theorem countTargets_any (w : World) (lo lo' g n c : Nat) (xs : List Int) (h : Row w lo (.slice (some ⟨g, 0, none⟩) n c) xs) (hn : Hid (xs.length = n)) (A : Option Addr) (m c' : Nat) (ys : List Int) (h' : Row w lo' (.slice A m c') ys) (hm : Hid (ys.length = m)) (hm8 : m ≤ 1048576)
    (hap : (Value.slice A m c').ownBlock ≠ some g) (hr : Hid (∀ y ∈ ys, -1 ≤ y ∧ y < n)) (hb : Hid (∀ x ∈ xs, 0 ≤ x ∧ x ≤ 1048576)) :
    Calls Try.prog 63 #[.slice (some ⟨g, 0, none⟩) n c, .slice A m c'] w fun e w' => e = .returned (.tuple #[]) ∧ Row w' lo (.slice (some ⟨g, 0, none⟩) n c) (bumps xs ys) ∧ OnlyB g w w' := by
  go_enter Try.func63, Try.ntmps63
  go_wp2_with fail
  go_loopw [5, 8] (fun _ i wr => ∃ k : Nat, k ≤ m ∧ i = .int .i64 k ∧ Row wr lo (.slice (some ⟨g, 0, none⟩) n c) (bumps xs (ys.take k)) ∧ Row wr lo' (.slice A m c') ys ∧ OnlyB g w wr) (fun _ i _ => m - (intOf i).toNat)
  case atStart => exact ⟨0, Nat.zero_le _, rfl, h, h', World.grownBy.refl w _, rfl⟩
  case round =>
    obtain ⟨k, hk, rfl, R, R', O⟩ := hrel
    clear h h'
    by_cases hlt : k < m
    · obtain ⟨g', y, rfl, _, _, hy, hcy, _⟩ := R'.get (k := k) (by rw [hm.out]; exact hlt)
      have hbd : (k : Int) < (m : Int) := by omega
      have hyr := hr.out y (List.mem_of_getElem? hy.out)
      have T := bumps_take (n := xs) hy.out
      by_cases hy1 : y = -1
      · subst hy1
        rw [bump_none] at T
        rw [← T] at R
        clear T hy hyr
        go_wp2_with fail
        go_roundw
        case rel => exact ⟨k + 1, by omega, by go_num, R, R', O⟩
        case measure => simp [intOf]; omega
      · obtain ⟨j, rfl⟩ := Int.eq_ofNat_of_zero_le (by omega : 0 ≤ y)
        have hy2 : ((j : Int) != -1) = true := by simp
        have hl : (bumps xs (ys.take k)).length = n := by rw [bumps_len]; exact hn.out
        obtain ⟨_, z, e, _, _, hz, hcz, hfz⟩ := R.get (k := j) (by omega)
        cases e
        have hzb := bumps_bd (ys.take k) hb.out z (List.mem_of_getElem? hz.out)
        have hz0 : 0 ≤ z := hzb.1
        have hz1 : z ≤ 2097152 := by
          have : (ys.take k).length ≤ k := List.length_take_le _ _
          omega
        have hj : (j : Int) < (n : Int) := hyr.2
        rw [bump_at hz.out] at T
        have R2 := R.set_ j (z + 1)
        rw [← T] at R2
        have hne : g' ≠ g := fun e => hap (by rw [e]; rfl)
        have R3 := R'.other (a := ⟨g, j, none⟩) (fun e => hap e) (iv (z + 1))
        have O2 : OnlyB g w (wr.setCell ⟨g, j, none⟩ (iv (z + 1))) := ⟨⟨O.1.os, O.1.tape, O.1.output, by simp [World.setCell]; exact O.1.size, fun b hb hne => (Below.heap_setCell _ _ _ _ (fun e => hne (by rw [e]))).trans (O.1.block b hb hne)⟩, by simp [World.setCell]; exact O.2⟩
        clear T hy hyr hz hzb R R' O hl
        go_wp2_with fail
        go_roundw
        case rel => exact ⟨k + 1, by omega, by go_num, R2, R3, O2⟩
        case measure => simp [intOf]; omega
    · obtain rfl : k = m := by omega
      rw [List.take_of_length_le (by rw [hm.out]; omega)] at R
      go_wp2_with fail
      go_end0
      exact ⟨rfl, R, O⟩

set_option maxRecDepth 100000 in
set_option maxHeartbeats 2000000 in
theorem implCountsOf_any (w : World) (lo : Nat) (v : Value) (h : Hp) (hv : Hv w lo v h) : Calls Try.prog 37 #[v] w (NewRow w (cntO h)) := by
  obtain ⟨A0, n0, c0, A1, n1, c1, A2, n2, c2, rfl, ⟨r0, r1, r2⟩, ⟨l0, l1, l2⟩, ⟨m0, m1, m2⟩, _⟩ := hv.open_
  have X := Blk3.new w (.slice A0 n0 c0) (.slice A1 n1 c1) (.slice A2 n2 c2) 25
  have V := implHeapValid_any _ _ _ _ (hv.alloc (.cells #[.slice A0 n0 c0, .slice A1 n1 c1, .slice A2 n2 c2] 25))
  have fin : Below w.heap.size w (w.alloc (.cells #[.slice A0 n0 c0, .slice A1 n1 c1, .slice A2 n2 c2] 25)) := (Below.refl _ _).alloc (Nat.le_refl _) _
  have k0 := r0.alloc (.cells #[.slice A0 n0 c0, .slice A1 n1 c1, .slice A2 n2 c2] 25)
  have k1 := r1.alloc (.cells #[.slice A0 n0 c0, .slice A1 n1 c1, .slice A2 n2 c2] 25)
  have k2 := r2.alloc (.cells #[.slice A0 n0 c0, .slice A1 n1 c1, .slice A2 n2 c2] 25)
  rcases ev : hvB h
  · rw [ev] at V
    have hf : Hid (cntO h = []) := by unfold Hid cntO; rw [ev]; simp
    clear ev
    go_enter Try.func37, Try.ntmps37
    go_wp2_with fail
    refine V.mono ?_; rintro e w1 ⟨rfl, hb1⟩
    go_wp2_with fail
    go_ret
    exact ⟨none, 0, by rw [hf.out]; rfl, by rw [hf.out]; exact Row.nil _ _, fin.trans (hb1.mono (by simp))⟩
  · rw [ev] at V
    obtain ⟨q0, q1, q2⟩ := hv_rng ev
    have hl := hvB_len ev
    have u0 : n0 ≤ 8 := by have := l0.out; omega
    have u1 : n1 ≤ 8 := by have := l1.out; omega
    have u2 : n2 ≤ 8 := by have := l2.out; omega
    have hf : Hid (cntO h = bumps (bumps (bumps (List.replicate n0 0) h.l) h.r) h.t) := by
      unfold Hid cntO cnts; rw [if_pos ev, bumps_app, bumps_app, l0.out]
    rw [l0.out] at q0 q1 q2
    have Q0 := Lib.hid q0
    have Q1 := Lib.hid q1
    have Q2 := Lib.hid q2
    have b0 : ∀ x ∈ bumps (List.replicate n0 0) h.l, 0 ≤ x ∧ x ≤ 8 := fun x hx => by
      have := bumps_bd (B := 0) h.l (n := List.replicate n0 0) (fun y hy => by obtain ⟨_, rfl⟩ := List.mem_replicate.1 hy; omega) x hx
      have := l0.out; omega
    have b1 : ∀ x ∈ bumps (bumps (List.replicate n0 0) h.l) h.r, 0 ≤ x ∧ x ≤ 16 := fun x hx => by
      have := bumps_bd (B := 8) h.r b0 x hx
      have := l1.out; omega
    have g0 : Hid (∀ x ∈ List.replicate n0 (0 : Int), 0 ≤ x ∧ x ≤ 1048576) := fun x hx => by obtain ⟨_, rfl⟩ := List.mem_replicate.1 hx; omega
    have g1 : Hid (∀ x ∈ bumps (List.replicate n0 0) h.l, 0 ≤ x ∧ x ≤ 1048576) := fun x hx => by have := b0 x hx; omega
    have g2 : Hid (∀ x ∈ bumps (bumps (List.replicate n0 0) h.l) h.r, 0 ≤ x ∧ x ≤ 1048576) := fun x hx => by have := b1 x hx; omega
    have s0 : Hid ((List.replicate n0 (0 : Int)).length = n0) := by unfold Hid; simp
    have s1 : Hid ((bumps (List.replicate n0 0) h.l).length = n0) := by unfold Hid; rw [bumps_len]; simp
    have s2 : Hid ((bumps (bumps (List.replicate n0 0) h.l) h.r).length = n0) := by unfold Hid; rw [bumps_len, bumps_len]; simp
    have s3 : Hid ((bumps (bumps (bumps (List.replicate n0 0) h.l) h.r) h.t).length = n0) := by unfold Hid; rw [bumps_len, bumps_len, bumps_len]; simp
    obtain ⟨i0, hi, hz0, hz1, hz2⟩ := info_parts Try.infoInt
    clear ev q0 q1 q2 b0 b1 hl
    go_enter Try.func37, Try.ntmps37
    go_wp2_with fail
    refine V.mono ?_; rintro e w1 ⟨rfl, hb1⟩
    have X1 := Blk3.below (by exact X) hb1
    have B1 := fin.trans (hb1.mono (by simp))
    have z1 : w.heap.size + 1 ≤ w1.heap.size := by have := hb1.size; simp at this; omega
    have a0 := Row.below (by exact k0) hb1
    have a1 := Row.below (by exact k1) hb1
    have a2 := Row.below (by exact k2) hb1
    have own : ∀ (v : Value) (xs : List Int), Row w1 lo v xs → v.ownBlock ≠ some w1.heap.size := fun v xs r e => by have := (r.lt _ e).2; omega
    have o0 := own _ _ a0
    have o1 := own _ _ a1
    have o2 := own _ _ a2
    have lx := X1.lt
    obtain ⟨p0, p1, p2, _⟩ := X1.cells
    clear V X k0 k1 k2 own
    go_wp2_with (at_make; refine wpList_make_full _ rfl _ _ 23 rfl w1.heap.size 3 i0 (.int .i64 0) 1 Try.underlying23 hi hz0 hz1 _ _ _ _ n0 rfl rfl rfl rfl ?b2 ?b3 (Nat.le_refl _) ?_)
    case b2 => rw [hz2]; omega
    case b3 => unfold maxLen; omega
    intro w2 hown hgrow
    rw [mc_int] at hown
    have R2 : Row w2 w1.heap.size (.slice (some ⟨w1.heap.size, 0, none⟩) n0 n0) (List.replicate n0 0) := by unfold Row; simpa using hown
    have hb2 : Below w1.heap.size w1 w2 := (Below.refl _ _).grown hgrow (Nat.le_refl _) (fun k h => by cases h)
    have B2 := B1.trans (hb2.mono B1.size)
    have X2 := X1.below hb2
    have e0 := a0.below hb2
    have e1 := a1.below hb2
    have e2 := a2.below hb2
    have z2 := hb2.size
    obtain ⟨x0, x1, x2, _⟩ := X2.cells
    have T0 := countTargets_any w2 w1.heap.size lo w1.heap.size n0 n0 (List.replicate n0 0) R2 s0 A0 n0 c0 h.l e0 l0 (by omega) o0 Q0 g0
    clear hown hgrow R2 X1 a0 a1 a2 hz0 hz1 hz2 p0 p1 p2 hi
    go_wp2_with fail
    refine T0.mono ?_; rintro e w3 ⟨rfl, R3, O3⟩
    have z3 : w2.heap.size ≤ w3.heap.size := by have := O3.2; omega
    have hb3 := below_only (B := w1.heap.size) O3 (Nat.le_refl _) z2
    have B3 := B2.trans (hb3.mono B1.size)
    have X3 : Blk3 w3 w.heap.size (.slice A0 n0 c0) (.slice A1 n1 c1) (.slice A2 n2 c2) 25 := X2.far hb3 lx
    obtain ⟨y0, y1, y2, _⟩ := X3.cells
    have f1 := onlyB_row e1 O3 o1
    have f2 := onlyB_row e2 O3 o2
    have T1 := countTargets_any w3 w1.heap.size lo w1.heap.size n0 n0 (bumps (List.replicate n0 0) h.l) R3 s1 A1 n1 c1 h.r f1 l1 (by omega) o1 Q1 g1
    clear T0 R3 X2 x0 x1 x2 e0 e1 e2
    go_wp2_with fail
    refine T1.mono ?_; rintro e w4 ⟨rfl, R4, O4⟩
    have z4 : w3.heap.size ≤ w4.heap.size := by have := O4.2; omega
    have hb4 := below_only (B := w1.heap.size) O4 (Nat.le_refl _) (by omega)
    have B4 := B3.trans (hb4.mono B1.size)
    have X4 : Blk3 w4 w.heap.size (.slice A0 n0 c0) (.slice A1 n1 c1) (.slice A2 n2 c2) 25 := X3.far hb4 lx
    obtain ⟨x0, x1, x2, _⟩ := X4.cells
    have j2 := onlyB_row f2 O4 o2
    have T2 := countTargets_any w4 w1.heap.size lo w1.heap.size n0 n0 (bumps (bumps (List.replicate n0 0) h.l) h.r) R4 s2 A2 n2 c2 h.t j2 l2 (by omega) o2 Q2 g2
    clear T1 R4 X3 y0 y1 y2 f1 f2
    go_wp2_with fail
    refine T2.mono ?_; rintro e w5 ⟨rfl, R5, O5⟩
    have hb5 := below_only (B := w1.heap.size) O5 (Nat.le_refl _) (by omega)
    have B5 := B4.trans (hb5.mono B1.size)
    go_wp2_with fail
    go_ret
    exact ⟨some ⟨w1.heap.size, 0, none⟩, n0, by rw [hf.out, s3.out]; rfl, by rw [hf.out, s3.out]; exact R5.mono B1.size, B5⟩
end Go.Proofs.Yteogflkahoanlaa
