/- newCountedHeap, counted, hasCountedRoot, DropRoot of impl. -/
import Derived.Test.YteogflkahoanlaaRepl
import Derived.Test.YteogflkahoanlaaCnt2
import Derived.Test.YteogflkahoanlaaCVal
namespace Go.Proofs.Yteogflkahoanlaa
open Go.RowKit

theorem mat_new {w1 w2 w3 : World} {lo : Nat} {x0 x1 x2 x3 x4 : Value} {D : Dp} {ty : TypeId} (H : Hv w1 lo (.agg #[x0, x1, x2]) D.C.h) (F : Row w2 w1.heap.size x3 D.C.c) (N : Row w3 w2.heap.size x4 D.n) (hl : lo ≤ w1.heap.size) (b2 : Below w1.heap.size w1 w2) (b3 : Below w2.heap.size w2 w3) :
    MAt false (w3.alloc (.cells #[x0, x1, x2, x3, x4] ty)) lo w3.heap.size ty x0 x1 x2 x3 x4 D := by
  obtain ⟨_, _, _, e, r0, r1, r2, a01, a02, a12⟩ := H
  cases e
  have z2 := b2.size
  have z3 := b3.size
  have k : ∀ {v : Value} {xs : List Int}, Row w1 lo v xs → Row (w3.alloc (.cells #[x0, x1, x2, x3, x4] ty)) lo v xs := fun r => ((r.below b2).below b3).alloc _
  have n : ∀ {v : Value} {xs : List Int}, Row w1 lo v xs → v.ownBlock ≠ some w3.heap.size := fun r e => by have := (r.lt _ e).2; omega
  have a3 : ∀ {v : Value} {xs : List Int}, Row w1 lo v xs → Apart v x3 := fun r k e e' => by have := (r.lt _ e).2; have := (F.lt _ e').1; omega
  have a4 : ∀ {v : Value} {xs : List Int}, Row w1 lo v xs → Apart v x4 := fun r k e e' => by have := (r.lt _ e).2; have := (N.lt _ e').1; omega
  exact ⟨Blk5.new w3 _ _ _ _ _ _, k r0, k r1, k r2, ((F.below b3).alloc _).mono hl, (N.alloc _).mono (by omega), n r0, n r1, n r2, fun e => by have := (F.lt _ e).2; omega, fun e => by have := (N.lt _ e).2; omega, a01, a02, a12, a3 r0, a3 r1, a3 r2, a4 r0, a4 r1, a4 r2, fun k e e' => by have := (F.lt _ e).2; have := (N.lt _ e').1; omega⟩
def ShortD9 (D : Dp) : Prop := D.C.h.l.length ≤ 1048576 ∧ D.C.h.r.length ≤ 1048576 ∧ D.C.h.t.length ≤ 1048576 ∧ D.C.c.length ≤ 1048576 ∧ D.n.length ≤ 1048576
theorem short9 {D : Dp} (h : dpB D = true) : ShortD9 D := by
  obtain ⟨h1, h2⟩ := dpB_iff.1 h
  obtain ⟨hv, hl, _⟩ := stoB_parts h1
  have := hvB_len hv
  exact ⟨by omega, by omega, by omega, by omega, by rw [h2, cnts_len]; omega⟩
def NewMAt (w : World) (D : Dp) (e : Ending) (w' : World) : Prop := ∃ b A0 n0 c0 A1 n1 c1 A2 n2 c2 A3 n3 c3 A4 n4 c4, e = .returned (.pointer (some ⟨b, 0, none⟩)) ∧ w.heap.size ≤ b ∧ MAt false w' w.heap.size b 61 (.slice A0 n0 c0) (.slice A1 n1 c1) (.slice A2 n2 c2) (.slice A3 n3 c3) (.slice A4 n4 c4) D ∧ Below w.heap.size w w'
set_option maxRecDepth 100000 in
set_option maxHeartbeats 3000000 in
theorem newCounted_heap (w : World) (lo : Nat) (v : Value) (D : Dp) (hv : Dv w lo v D) (hs : ShortD9 D) : Calls Try.prog 45 #[v] w (NewMAt w D) := by
  obtain ⟨A0, n0, c0, A1, n1, c1, A2, n2, c2, A3, n3, c3, A4, n4, c4, rfl, -, hh, ⟨-, -, -, r3, r4⟩, ⟨l0, l1, l2, l3, l4⟩, -⟩ := hv.open_
  obtain ⟨b0, b1, b2, b3, b4⟩ := hs
  have X := Blk5.new w (.slice A0 n0 c0) (.slice A1 n1 c1) (.slice A2 n2 c2) (.slice A3 n3 c3) (.slice A4 n4 c4) 29
  have HH := hh.alloc (.cells #[.slice A0 n0 c0, .slice A1 n1 c1, .slice A2 n2 c2, .slice A3 n3 c3, .slice A4 n4 c4] 29)
  have R3 := r3.alloc (.cells #[.slice A0 n0 c0, .slice A1 n1 c1, .slice A2 n2 c2, .slice A3 n3 c3, .slice A4 n4 c4] 29)
  have R4 := r4.alloc (.cells #[.slice A0 n0 c0, .slice A1 n1 c1, .slice A2 n2 c2, .slice A3 n3 c3, .slice A4 n4 c4] 29)
  have BB : Below w.heap.size w (w.alloc (.cells #[.slice A0 n0 c0, .slice A1 n1 c1, .slice A2 n2 c2, .slice A3 n3 c3, .slice A4 n4 c4] 29)) := (Below.refl _ _).alloc (Nat.le_refl _) _
  have sz : w.heap.size + 1 ≤ (w.alloc (.cells #[.slice A0 n0 c0, .slice A1 n1 c1, .slice A2 n2 c2, .slice A3 n3 c3, .slice A4 n4 c4] 29)).heap.size := by simp
  clear hh r3 r4 hv
  generalize hW : w.alloc (.cells #[.slice A0 n0 c0, .slice A1 n1 c1, .slice A2 n2 c2, .slice A3 n3 c3, .slice A4 n4 c4] 29) = W at X HH R3 R4 BB sz
  obtain ⟨x0, x1, x2, x3, x4, -⟩ := X.cells
  have c3n : n3 ≤ 1048576 := by have := l3.out; omega
  have c4n : n4 ≤ 1048576 := by have := l4.out; omega
  have SO : ∀ w' : World, Below W.heap.size W w' → w'.cell? ⟨w.heap.size, 0, none⟩ = some (.slice A0 n0 c0) ∧ w'.cell? ⟨w.heap.size, 1, none⟩ = some (.slice A1 n1 c1) ∧ w'.cell? ⟨w.heap.size, 2, none⟩ = some (.slice A2 n2 c2) ∧ w'.cell? ⟨w.heap.size, 3, none⟩ = some (.slice A3 n3 c3) ∧ w'.cell? ⟨w.heap.size, 4, none⟩ = some (.slice A4 n4 c4) := fun w' hb => ⟨(X.below hb).cells.1, (X.below hb).cells.2.1, (X.below hb).cells.2.2.1, (X.below hb).cells.2.2.2.1, (X.below hb).cells.2.2.2.2.1⟩
  have CPH := copyOfHeap_any W.drew lo _ D.C.h HH.drew b0 b1 b2
  have L3 := l3.out
  have L4 := l4.out
  go_enter Try.func45, Try.ntmps45
  go_wp2_with fail
  (try rw [hW])
  go_region_held3 (fun w' => w'.cell? ⟨w.heap.size, 0, none⟩ = some (.slice A0 n0 c0) ∧ w'.cell? ⟨w.heap.size, 1, none⟩ = some (.slice A1 n1 c1) ∧ w'.cell? ⟨w.heap.size, 2, none⟩ = some (.slice A2 n2 c2) ∧ w'.cell? ⟨w.heap.size, 3, none⟩ = some (.slice A3 n3 c3) ∧ w'.cell? ⟨w.heap.size, 4, none⟩ = some (.slice A4 n4 c4))
    (((try dsimp only); (refine SO _ ?_); (repeat (with_reducible (first | exact Below.refl _ _ | exact hR3 | exact hR2 | exact hR1 | refine B5_dr ?_ | refine B5_al ?_ _)))))
    (first
      | (go_at_call 72; (with_reducible refine CPH.mono ?_); rintro e w1 ⟨vv, rfl, HN, hb1⟩; (have hR1 : Below W.heap.size W w1 := B5_th (B5_dr (Below.refl _ _)) hb1); (have HNo := HN); (obtain ⟨B0, u0, e0, B1, u1, e1, B2, u2, e2, rfl, -⟩ := HNo.open_))
      | (go_at_call_of 73 (Value.slice A3 n3 c3); (with_reducible refine (copyOfInts_any w1 lo A3 n3 c3 D.C.c (R3.below hR1) L3 c3n).mono ?_); rintro e w2 ⟨B3, e3, rfl, RF, hb2⟩; (have hR2 : Below W.heap.size W w2 := B5_th hR1 hb2))
      | (go_at_call_of 73 (Value.slice A4 n4 c4); (with_reducible refine (copyOfInts_any w2 lo A4 n4 c4 D.n (R4.below hR2) L4 c4n).mono ?_); rintro e w3 ⟨B4, e4, rfl, RN, hb3⟩; (have hR3 : Below W.heap.size W w3 := B5_th hR2 hb3)))
  all_goals
    rename_i hHeld
    clear hHeld
    have M := mat_new (lo := W.heap.size) (ty := 61) HN RF RN hR1.size hb2 hb3
    have BF3 := (BB.trans (hR3.mono BB.size)).alloc (by have := hR3.size; omega) (.cells #[.slice B0 u0 e0, .slice B1 u1 e1, .slice B2 u2 e2, .slice B3 D.C.c.length e3, .slice B4 D.n.length e4] 61)
    have z3 := hR3.size
    rw [L3, L4] at M BF3
    go_wp2_with fail
    go_ret
    exact ⟨_, _, _, _, _, _, _, _, _, _, _, _, _, _, _, _, rfl, by omega, M.mono (by omega), BF3⟩

set_option maxRecDepth 100000 in
set_option maxHeartbeats 2000000 in
theorem counted_any (w : World) (b : Nat) (A0 A1 A2 A3 A4 : Option Addr) (n0 c0 n1 c1 n2 c2 n3 c3 n4 c4 : Nat) (hM : Blk5 w b (.slice A0 n0 c0) (.slice A1 n1 c1) (.slice A2 n2 c2) (.slice A3 n3 c3) (.slice A4 n4 c4) 61) : Calls Try.prog 47 #[.pointer (some ⟨b, 0, none⟩)] w fun e w' => e = .returned (.agg #[.slice A0 n0 c0, .slice A1 n1 c1, .slice A2 n2 c2, .slice A3 n3 c3, .slice A4 n4 c4]) ∧ Below w.heap.size w w' := by
  have X := hM.alloc (.cells #[.slice none 0 0, .slice none 0 0, .slice none 0 0, .slice none 0 0, .slice none 0 0] 29)
  have Y := Blk5.new w (.slice none 0 0) (.slice none 0 0) (.slice none 0 0) (.slice none 0 0) (.slice none 0 0) 29
  have BB : Below w.heap.size w (w.alloc (.cells #[.slice none 0 0, .slice none 0 0, .slice none 0 0, .slice none 0 0, .slice none 0 0] 29)) := (Below.refl _ _).alloc (Nat.le_refl _) _
  have hnb : b < w.heap.size := hM.lt
  clear hM
  generalize hW : w.alloc (.cells #[.slice none 0 0, .slice none 0 0, .slice none 0 0, .slice none 0 0, .slice none 0 0] 29) = W at X Y BB
  have SO : ∀ w' : World, Below w.heap.size W w' → w'.cell? ⟨b, 0, none⟩ = some (.slice A0 n0 c0) ∧ w'.cell? ⟨b, 1, none⟩ = some (.slice A1 n1 c1) ∧ w'.cell? ⟨b, 2, none⟩ = some (.slice A2 n2 c2) ∧ w'.cell? ⟨b, 3, none⟩ = some (.slice A3 n3 c3) ∧ w'.cell? ⟨b, 4, none⟩ = some (.slice A4 n4 c4) := fun w' hb => ⟨(X.far hb hnb).cells.1, (X.far hb hnb).cells.2.1, (X.far hb hnb).cells.2.2.1, (X.far hb hnb).cells.2.2.2.1, (X.far hb hnb).cells.2.2.2.2.1⟩
  obtain ⟨x0, x1, x2, x3, x4, -⟩ := X.cells
  obtain ⟨y0, y1, y2, y3, y4, f0, f1, f2, f3, f4⟩ := Y.cells
  have nb1 : b ≠ w.heap.size := by omega
  have nb2 : w.heap.size ≠ b := by omega
  have YF := Y.set5 (.slice A0 n0 c0) (.slice A1 n1 c1) (.slice A2 n2 c2) (.slice A3 n3 c3) (.slice A4 n4 c4)
  have FF := below_set5 BB (c := w.heap.size) (Nat.le_refl _) (.slice A0 n0 c0) (.slice A1 n1 c1) (.slice A2 n2 c2) (.slice A3 n3 c3) (.slice A4 n4 c4)
  go_enter Try.func47, Try.ntmps47
  go_wp2_with fail
  (try rw [hW])
  go_region_held3 (fun w' => w'.cell? ⟨b, 0, none⟩ = some (.slice A0 n0 c0) ∧ w'.cell? ⟨b, 1, none⟩ = some (.slice A1 n1 c1) ∧ w'.cell? ⟨b, 2, none⟩ = some (.slice A2 n2 c2) ∧ w'.cell? ⟨b, 3, none⟩ = some (.slice A3 n3 c3) ∧ w'.cell? ⟨b, 4, none⟩ = some (.slice A4 n4 c4))
    (((try dsimp only); (refine SO _ ?_); (repeat (with_reducible (first | exact Below.refl _ _ | refine Below.drew ?_ | refine B5_lo ?_ _ _)))))
    (fail)
  all_goals
    rename_i hHeld
    clear hHeld
    obtain ⟨v0, v1, v2, v3, v4, -⟩ := YF.drew.cells
    go_wp2_with fail
    refine bodyPost_ret (v := .agg #[.slice A0 n0 c0, .slice A1 n1 c1, .slice A2 n2 c2, .slice A3 n3 c3, .slice A4 n4 c4]) ?_ rfl ⟨rfl, FF.drew⟩
    simp [results, Try.results47, go_sem, v0, v1, v2, v3, v4]

set_option maxRecDepth 100000 in
set_option maxHeartbeats 2000000 in
theorem hasCountedRoot_any (w : World) (lo : Nat) (v : Value) (D : Dp) (hv : Dv w lo v D) (k : Int) : Calls Try.prog 44 #[v, .int .i64 k] w (RetB w (dpB D && plB k D.C.h.t.length)) := by
  have hvo := hv
  obtain ⟨A0, n0, c0, A1, n1, c1, A2, n2, c2, A3, n3, c3, A4, n4, c4, rfl, -, -, -, ⟨-, -, l2, -, -⟩, ⟨-, -, m2, -, -⟩, -⟩ := hvo.open_
  have X := Blk5.new w (.slice A0 n0 c0) (.slice A1 n1 c1) (.slice A2 n2 c2) (.slice A3 n3 c3) (.slice A4 n4 c4) 29
  have DD := hv.alloc (.cells #[.slice A0 n0 c0, .slice A1 n1 c1, .slice A2 n2 c2, .slice A3 n3 c3, .slice A4 n4 c4] 29)
  have BB : Below w.heap.size w (w.alloc (.cells #[.slice A0 n0 c0, .slice A1 n1 c1, .slice A2 n2 c2, .slice A3 n3 c3, .slice A4 n4 c4] 29)) := (Below.refl _ _).alloc (Nat.le_refl _) _
  clear hv hvo
  generalize hW : w.alloc (.cells #[.slice A0 n0 c0, .slice A1 n1 c1, .slice A2 n2 c2, .slice A3 n3 c3, .slice A4 n4 c4] 29) = W at X DD BB
  obtain ⟨x0, x1, x2, x3, x4, -⟩ := X.cells
  have V := implCountedValid_any W lo _ D DD
  rcases ev : dpB D
  · have hf : Hid ((dpB D && plB k D.C.h.t.length) = false) := by unfold Hid; rw [ev]; rfl
    rw [ev] at V hf
    clear ev
    go_enter Try.func44, Try.ntmps44
    go_wp2_with fail
    (try rw [hW])
    refine V.mono ?_; rintro e w1 ⟨rfl, hb1⟩
    go_wp2_with fail
    go_ret
    exact ⟨ret_bool hf.out.symm, BB.trans (hb1.mono BB.size)⟩
  · have hf : Hid ((dpB D && plB k D.C.h.t.length) = plB k n2) := by unfold Hid; rw [ev, l2.out]; rfl
    rw [ev] at V hf
    clear ev
    have HP := fun W' => hasPlace_any A2 n2 c2 k W'
    generalize plB k n2 = q at HP hf
    go_enter Try.func44, Try.ntmps44
    go_wp2_with fail
    (try rw [hW])
    refine V.mono ?_; rintro e w1 ⟨rfl, hb1⟩
    obtain ⟨p0, p1, p2, p3, p4, -⟩ := (X.below hb1).cells
    clear x0 x1 x2 x3 x4
    go_wp2_with fail
    refine (HP _).mono ?_; rintro e w2 ⟨rfl, rfl⟩
    go_wp2_with fail
    go_ret
    exact ⟨ret_bool hf.out.symm, BB.trans (hb1.mono BB.size)⟩

set_option maxRecDepth 100000 in
set_option maxHeartbeats 4000000 in
theorem implDropRoot_any (w : World) (lo : Nat) (v : Value) (D : Dp) (hv : Dv w lo v D) (k : Int) : Calls Try.prog 16 #[v, .int .i64 k] w (OptDv w (dropO D k)) := by
  have hvo := hv
  obtain ⟨A0, n0, c0, A1, n1, c1, A2, n2, c2, A3, n3, c3, A4, n4, c4, rfl, -, -, -, ⟨l0, l1, l2, l3, l4⟩, -⟩ := hvo.open_
  have X := (Blk5.new w (.slice A0 n0 c0) (.slice A1 n1 c1) (.slice A2 n2 c2) (.slice A3 n3 c3) (.slice A4 n4 c4) 29).alloc (.cells #[.slice none 0 0, .slice none 0 0, .slice none 0 0, .slice none 0 0, .slice none 0 0] 29)
  have Y := Blk5.new_at (w := w.alloc (.cells #[.slice A0 n0 c0, .slice A1 n1 c1, .slice A2 n2 c2, .slice A3 n3 c3, .slice A4 n4 c4] 29)) (b := w.heap.size + 1) (by simp) (.slice none 0 0) (.slice none 0 0) (.slice none 0 0) (.slice none 0 0) (.slice none 0 0) 29
  have DD := (hv.alloc (.cells #[.slice A0 n0 c0, .slice A1 n1 c1, .slice A2 n2 c2, .slice A3 n3 c3, .slice A4 n4 c4] 29)).alloc (.cells #[.slice none 0 0, .slice none 0 0, .slice none 0 0, .slice none 0 0, .slice none 0 0] 29)
  have BB : Below w.heap.size w ((w.alloc (.cells #[.slice A0 n0 c0, .slice A1 n1 c1, .slice A2 n2 c2, .slice A3 n3 c3, .slice A4 n4 c4] 29)).alloc (.cells #[.slice none 0 0, .slice none 0 0, .slice none 0 0, .slice none 0 0, .slice none 0 0] 29)) := ((Below.refl _ _).alloc (Nat.le_refl _) _).alloc (by simp) _
  have sz : w.heap.size + 2 ≤ ((w.alloc (.cells #[.slice A0 n0 c0, .slice A1 n1 c1, .slice A2 n2 c2, .slice A3 n3 c3, .slice A4 n4 c4] 29)).alloc (.cells #[.slice none 0 0, .slice none 0 0, .slice none 0 0, .slice none 0 0, .slice none 0 0] 29)).heap.size := by simp
  clear hv hvo
  generalize hW : ((w.alloc (.cells #[.slice A0 n0 c0, .slice A1 n1 c1, .slice A2 n2 c2, .slice A3 n3 c3, .slice A4 n4 c4] 29)).alloc (.cells #[.slice none 0 0, .slice none 0 0, .slice none 0 0, .slice none 0 0, .slice none 0 0] 29)) = W at X Y DD BB sz
  obtain ⟨x0, x1, x2, x3, x4, -⟩ := X.cells
  have V := hasCountedRoot_any W lo _ D DD k
  rcases ev : (dpB D && plB k D.C.h.t.length)
  · have hf : Hid (dropO D k = none) := by unfold Hid dropO; rw [ev]; rfl
    rw [ev] at V
    clear ev
    go_enter Try.func16, Try.ntmps16
    go_wp2_with fail
    (try rw [hW])
    refine V.mono ?_; rintro e w1 ⟨rfl, hb1⟩
    obtain ⟨y0, y1, y2, y3, y4, f0, f1, f2, f3, f4⟩ := (Y.below hb1).cells
    obtain ⟨hZ, hB⟩ := dv_zero (w := w) (b := w.heap.size + 1) (by omega) (BB.trans (hb1.mono BB.size))
    go_wp2_with fail
    rw [hf.out]
    refine bodyPost_ret (v := .tuple #[.agg #[.slice none 0 0, .slice none 0 0, .slice none 0 0, .slice none 0 0, .slice none 0 0], .bool false]) ?_ rfl ⟨_, rfl, hZ, hB⟩
    simp [results, Try.results16, go_sem, y0, y1, y2, y3, y4]
  · rw [Bool.and_eq_true] at ev
    obtain ⟨evd, evp⟩ := ev
    have hk : 0 ≤ k ∧ k < D.C.h.t.length := by simpa [plB] using evp
    obtain ⟨j, rfl⟩ := Int.eq_ofNat_of_zero_le hk.1
    have hj : j < D.C.h.t.length := by omega
    obtain ⟨old, hold⟩ : ∃ old, D.C.h.t[j]? = some old := ⟨_, List.getElem?_eq_getElem hj⟩
    have hf := Lib.hid (dropO_some evd hold)
    have hI := Lib.hid (drop_inv evd hold)
    have sh := short9 evd
    have hold' := Lib.hid hold
    rw [evd, evp] at V
    have vT : (true && true) = true := rfl
    rw [vT] at V
    have hj2 : (j : Int) < (n2 : Int) := by rw [← l2.out]; omega
    clear evd evp hk vT hold
    go_enter Try.func16, Try.ntmps16
    go_wp2_with fail
    (try rw [hW])
    refine V.mono ?_; rintro e w1 ⟨rfl, hb1⟩
    have X1 := X.below hb1
    have Y1 := Y.below hb1
    have D1 := DD.below hb1
    have B1 := BB.trans (hb1.mono BB.size)
    have z1 := hb1.size
    have NC := newCounted_heap w1 lo _ D D1 sh
    obtain ⟨p0, p1, p2, p3, p4, -⟩ := X1.cells
    clear x0 x1 x2 x3 x4 X Y DD V
    go_wp2_with fail
    refine NC.mono ?_; rintro e w2 ⟨b, Q0, q0, k0, Q1, q1, k1, Q2, q2, k2, Q3, q3, k3, Q4, q4, k4, rfl, hb, M, hb2⟩
    have Y2 := Y1.below hb2
    have B2 := B1.trans (hb2.mono B1.size)
    have z2 := hb2.size
    obtain ⟨gt, u, hQ2, hg1, hg2, hu, hcu, hfu⟩ := M.r2.get (k := j) hj
    obtain rfl : u = old := by have h9 := hu.out; rw [hold'.out] at h9; cases h9; rfl
    have hq2 : (j : Int) < (q2 : Int) := by have : D.C.h.t.length = q2 := (RowC.ofRow M.r2).form.1; omega
    have M' := M.setT hQ2 j (-1)
    obtain ⟨b0, b1, b2, b3, b4, -⟩ := M.blk.cells
    have hbn : D.C.h.l.length ≤ 1048576 := sh.1
    have RP := replace_any false w2 w1.heap.size b gt j (by omega) Q0 Q1 Q3 Q4 q0 k0 q1 k1 q3 k3 q4 k4 (.slice Q2 q2 k2) ⟨D.C.h.l, D.C.h.r, D.C.h.t.set j (-1)⟩ D.C.c D.n u (-1) (.inr (.inr (.inr (.inl (by rw [hQ2]; rfl))))) hcu hfu M' (by rw [bump_none]; exact hI) ⟨by omega, by show (-1 : Int) < (D.C.h.l.length : Int); omega⟩
    rw [bump_none] at RP
    subst hQ2
    clear p0 p1 p2 p3 p4 X1 Y1 D1 NC M' hI hu hcu hfu hold'
    have own := M.own
    clear M
    go_wp2_with fail
    refine RP.mono ?_; rintro e w3 ⟨rfl, A', n', c', M3, o3, F3⟩
    have hB3 : Below w1.heap.size w2 w3 := F3.below (fun q hq => by rcases (own q hq).2 with e | e <;> omega) z2
    have Y3 : Blk5 w3 (w.heap.size + 1) (.slice none 0 0) (.slice none 0 0) (.slice none 0 0) (.slice none 0 0) (.slice none 0 0) 29 := Y2.far hB3 (by omega)
    have B3 := B2.trans (hB3.mono B1.size)
    have z3 := F3.size
    clear b0 b1 b2 b3 b4 RP Y2 F3 own
    have CT := counted_any w3 b Q0 Q1 (some ⟨gt, 0, none⟩) A' Q4 q0 k0 q1 k1 q2 k2 n' c' q4 k4 M3.blk
    go_wp2_with fail
    refine CT.mono ?_; rintro e w4 ⟨rfl, hb4⟩
    have M4 := M3.below hb4
    have B4 := B3.trans (hb4.mono B3.size)
    have Y4 := Y3.below hb4
    obtain ⟨y0, y1, y2, y3, y4, f0, f1, f2, f3, f4⟩ := Y4.cells
    obtain ⟨hZ, hB⟩ := dv_done (w := w) (b := w.heap.size + 1) M4.dv (by omega) (by omega) B4 (.slice Q0 q0 k0) (.slice Q1 q1 k1) (.slice (some ⟨gt, 0, none⟩) q2 k2) (.slice A' n' c') (.slice Q4 q4 k4)
    clear M4 Y4 M3 Y3 CT
    go_wp2_with fail
    rw [hf.out]
    refine bodyPost_ret (v := .tuple #[.agg #[.slice Q0 q0 k0, .slice Q1 q1 k1, .slice (some ⟨gt, 0, none⟩) q2 k2, .slice A' n' c', .slice Q4 q4 k4], .bool true]) ?_ rfl ⟨_, rfl, hZ, hB⟩
    simp [results, Try.results16, go_sem, y0, y1, y2, y3, y4]

end Go.Proofs.Yteogflkahoanlaa
