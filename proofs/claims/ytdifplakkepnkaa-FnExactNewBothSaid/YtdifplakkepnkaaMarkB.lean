/- The helpers of the exact laws of chapter 7: equality, marks. -/
import Derived.Test.YtdifplakkepnkaaExactT
namespace Go.Proofs.Ytdifplakkepnkaa
open Go.RowKit

theorem seqO_at {k n j : Nat} (h : j < n) : (seqO k n)[j]? = some ⟨((k + j * 3 : Nat) : Int), ((k + j * 3 + 1 : Nat) : Int), ((k + j * 3 + 2 : Nat) : Int)⟩ := by
  simp [seqO, List.getElem?_range h]
theorem far_or {v r : Value} (h : Apart v r) : v.ownBlock = none ∨ v.ownBlock ≠ r.ownBlock := by
  cases e : v.ownBlock with
  | none => exact .inl rfl
  | some b => exact .inr (fun e' => h b e e'.symm)
theorem Cv.keptA {w w' : World} {lo : Nat} {v0 v1 v2 v3 r : Value} {C : Cp} (h : Cv w lo (.agg #[v0, v1, v2, v3]) C) (hg : w.grownBy w' r.ownBlock) (a : Apart v0 r ∧ Apart v1 r ∧ Apart v2 r ∧ Apart v3 r) : Cv w' lo (.agg #[v0, v1, v2, v3]) C := by
  obtain ⟨_, _, _, _, e, ⟨_, _, _, e', r0, r1, r2, x⟩, r3, y⟩ := h
  cases e; cases e'
  exact ⟨_, _, _, _, rfl, ⟨_, _, _, rfl, r0.kept hg (far_or a.1), r1.kept hg (far_or a.2.1), r2.kept hg (far_or a.2.2.1), x⟩, r3.kept hg (far_or a.2.2.2), y⟩
/-- Block b is none of a Both's own. -/
def FarB (v : Value) (b : Nat) : Prop := ∀ v0 v1 v2 v3 p r a u i z, v = .agg #[v0, v1, v2, v3, p, r, a, u, i, z] → (some b ≠ v0.ownBlock ∧ some b ≠ v1.ownBlock ∧ some b ≠ v2.ownBlock ∧ some b ≠ v3.ownBlock) ∧ some b ≠ r.ownBlock ∧ some b ≠ u.ownBlock
def markB (B : Bp) : Bp := ⟨markC 1 B.C, ⟨B.G.p, seqI (1 + sizeC B.C) B.G.c.length, B.G.a⟩, seqO (1 + sizeC B.C + B.G.c.length) B.os.length, B.i, B.z⟩
def numB (B : Bp) : Nat := 1 + sizeC B.C + B.G.c.length + B.os.length * 3
/-- A Both was marked: the number is N; below lo, and in every block that is not its own, nothing has turned. -/
def MarkedB (w : World) (lo : Nat) (N : Int) (v : Value) (B : Bp) (e : Ending) (w' : World) : Prop :=
  e = .returned (.int .i64 N) ∧ Bv w' lo v (markB B) ∧ Below lo w w' ∧ ∀ b, b < w.heap.size → FarB v b → w'.heap[b]? = w.heap[b]?
theorem farB_new {W : World} {lo b : Nat} {u : Value} {B : Bp} (hu : Bv W lo u B) (hb : W.heap.size ≤ b) : FarB u b := by
  obtain ⟨u0, u1, u2, u3, ur, uu, rfl, hc, ho, _⟩ := hu
  have hn := notC_new hc.cv hb
  obtain ⟨_, _, _, _, _, _, e, _, hr, _⟩ := hc
  cases e
  intro v0 v1 v2 v3 p r a u i z e
  cases e
  exact ⟨hn _ _ _ _ rfl, fun e => by have := (hr.lt b e.symm).2; omega, fun e => by have := (ho.lt b e.symm).2; omega⟩
theorem farB_old {W : World} {lo b : Nat} {u : Value} {B : Bp} (hu : Bv W lo u B) (hb : b < lo) : FarB u b := by
  obtain ⟨u0, u1, u2, u3, ur, uu, rfl, hc, ho, _⟩ := hu
  have hn := notC_old hc.cv hb
  obtain ⟨_, _, _, _, _, _, e, _, hr, _⟩ := hc
  cases e
  intro v0 v1 v2 v3 p r a u i z e
  cases e
  exact ⟨hn _ _ _ _ rfl, fun e => by have := (hr.lt b e.symm).1; omega, fun e => by have := (ho.lt b e.symm).1; omega⟩
theorem Blk10.frameB {w w' : World} {b : Nat} {x0 x1 x2 x3 x4 x5 x6 x7 x8 x9 u : Value} {t : TypeId} (h : Blk10 w b x0 x1 x2 x3 x4 x5 x6 x7 x8 x9 t) (fr : ∀ b, b < w.heap.size → FarB u b → w'.heap[b]? = w.heap[b]?) (hn : FarB u b) : Blk10 w' b x0 x1 x2 x3 x4 x5 x6 x7 x8 x9 t := (fr b h.lt hn).trans h
theorem Blk4.frameB {w w' : World} {b : Nat} {x y z q u : Value} {t : TypeId} (h : Blk4 w b x y z q t) (fr : ∀ b, b < w.heap.size → FarB u b → w'.heap[b]? = w.heap[b]?) (hn : FarB u b) : Blk4 w' b x y z q t := (fr b h.lt hn).trans h
theorem Blk3.frameB {w w' : World} {b : Nat} {x y z u : Value} {t : TypeId} (h : Blk3 w b x y z t) (fr : ∀ b, b < w.heap.size → FarB u b → w'.heap[b]? = w.heap[b]?) (hn : FarB u b) : Blk3 w' b x y z t := (fr b h.lt hn).trans h
theorem Row.keptF {w w' : World} {lo : Nat} {v u : Value} {xs : List Int} (hv : Row w lo v xs) (fr : ∀ b, b < w.heap.size → FarB u b → w'.heap[b]? = w.heap[b]?) (hn : ∀ b, lo ≤ b → b < w.heap.size → FarB u b) : Row w' lo v xs := by
  refine ⟨hv.1, ?_⟩
  rcases hv.2 with h2 | ⟨g, cap, cur, rfl, hg, hh, r⟩
  · exact .inl h2
  · have hb := (hv.lt g rfl)
    exact .inr ⟨g, cap, cur, rfl, hg, by rw [fr g hb.2 (hn g hb.1 hb.2)]; exact hh, r⟩
theorem ORow.keptF {w w' : World} {lo : Nat} {v u : Value} {os : List Opv} (hv : ORow w lo v os) (fr : ∀ b, b < w.heap.size → FarB u b → w'.heap[b]? = w.heap[b]?) (hn : ∀ b, lo ≤ b → b < w.heap.size → FarB u b) : ORow w' lo v os := by
  refine ⟨hv.1, ?_⟩
  rcases hv.2 with h2 | ⟨g, cap, cur, rfl, hg, hh, r⟩
  · exact .inl h2
  · have hb := (ORow.lt hv g rfl)
    exact .inr ⟨g, cap, cur, rfl, hg, by rw [fr g hb.2 (hn g hb.1 hb.2)]; exact hh, r⟩
theorem Cv.keptF {w w' : World} {lo : Nat} {v u : Value} {C : Cp} (hv : Cv w lo v C) (fr : ∀ b, b < w.heap.size → FarB u b → w'.heap[b]? = w.heap[b]?) (hn : ∀ b, lo ≤ b → b < w.heap.size → FarB u b) : Cv w' lo v C := by
  obtain ⟨v0, v1, v2, v3, e, ⟨_, _, _, e', r0, r1, r2, x⟩, r3, y⟩ := hv
  exact ⟨v0, v1, v2, v3, e, ⟨_, _, _, e', r0.keptF fr hn, r1.keptF fr hn, r2.keptF fr hn, x⟩, r3.keptF fr hn, y⟩
theorem Bv.keptF {w w' : World} {lo : Nat} {v u : Value} {B : Bp} (hv : Bv w lo v B) (fr : ∀ b, b < w.heap.size → FarB u b → w'.heap[b]? = w.heap[b]?) (hn : ∀ b, lo ≤ b → b < w.heap.size → FarB u b) : Bv w' lo v B := by
  obtain ⟨v0, v1, v2, v3, r, o, e, ⟨_, _, _, _, _, e1, e2, hc, hr, ap⟩, ho, a⟩ := hv
  exact ⟨v0, v1, v2, v3, r, o, e, ⟨_, _, _, _, _, e1, e2, hc.keptF fr hn, hr.keptF fr hn, ap⟩, ho.keptF fr hn, a⟩
theorem Bv.keptFar {w w' : World} {lo Bd : Nat} {v : Value} {B : Bp} (hv : Bv w lo v B) (hb : Below Bd w w') {W : World} {B' : Bp} (hW : Bv W lo v B') (hs : W.heap.size ≤ Bd) : Bv w' lo v B := by
  obtain ⟨v0, v1, v2, v3, r, o, e, ⟨_, _, _, _, _, e1, e2, ⟨_, _, _, _, e3, ⟨_, _, _, e4, r0, r1, r2, x⟩, r3, y⟩, hr, ap⟩, ho, a⟩ := hv
  obtain ⟨_, _, _, _, _, _, e', ⟨_, _, _, _, _, f1, f2, ⟨_, _, _, _, f3, ⟨_, _, _, f4, s0, s1, s2, _⟩, s3, _⟩, sr, _⟩, so, _⟩ := hW
  subst e
  simp only [Value.agg.injEq, Array.mk.injEq, List.cons.injEq, and_true] at e'
  obtain ⟨rfl, rfl, rfl, rfl, -, rfl, -, rfl, -⟩ := e'
  cases e1; cases e2; cases e3; cases e4; cases f1; cases f2; cases f3; cases f4
  have k : ∀ (v : Value) (xs ys : List Int), Row w lo v xs → Row W lo v ys → Row w' lo v xs := fun v xs ys h h' => h.far hb (fun j e => by have := (h'.lt j e).2; omega)
  exact ⟨_, _, _, _, _, _, rfl, ⟨_, _, _, _, _, rfl, rfl, ⟨_, _, _, _, rfl, ⟨_, _, _, rfl, k _ _ _ r0 s0, k _ _ _ r1 s1, k _ _ _ r2 s2, x⟩, k _ _ _ r3 s3, y⟩, k _ _ _ hr sr, ap⟩, ho.farO hb (fun j e => by have := (ORow.lt so j e).2; omega), a⟩
set_option maxRecDepth 100000 in
set_option maxHeartbeats 2000000 in
theorem eqBoth_same (w : World) (lo lo' : Nat) (v v' : Value) (B : Bp) (h : Bv w lo v B) (h' : Bv w lo' v' B) : Calls Try.prog 19 #[v, v'] w (RetB w true) := by
  obtain ⟨A0, n0, c0, A1, n1, c1, A2, n2, c2, A3, n3, c3, A4, n4, c4, A5, n5, c5, C, p, cc, a, os, i, z, rfl, rfl, hc, ho, ⟨l0, l1, l2, l3, l4, l5⟩, ⟨m0, m1, m2, m3, m4, m5⟩⟩ := h.open_
  obtain ⟨A0', n0', c0', A1', n1', c1', A2', n2', c2', A3', n3', c3', A4', n4', c4', A5', n5', c5', C', p', cc', a', os', i', z', e, rfl, hc', ho', ⟨l0', l1', l2', l3', l4', l5'⟩, ⟨m0', m1', m2', m3', m4', m5'⟩⟩ := h'.open_
  cases e
  have X := (Blk10.new w (.slice A0 n0 c0) (.slice A1 n1 c1) (.slice A2 n2 c2) (.slice A3 n3 c3) (.int .i64 p) (.slice A4 n4 c4) (.int .i64 a) (.slice A5 n5 c5) (.int .i64 i) (.bool z) 34).alloc (.cells #[.slice A0' n0' c0', .slice A1' n1' c1', .slice A2' n2' c2', .slice A3' n3' c3', .int .i64 p, .slice A4' n4' c4', .int .i64 a, .slice A5' n5' c5', .int .i64 i, .bool z] 34)
  have Y := Blk10.new_at (w := w.alloc (.cells #[.slice A0 n0 c0, .slice A1 n1 c1, .slice A2 n2 c2, .slice A3 n3 c3, .int .i64 p, .slice A4 n4 c4, .int .i64 a, .slice A5 n5 c5, .int .i64 i, .bool z] 34)) (b := w.heap.size + 1) (by simp) (.slice A0' n0' c0') (.slice A1' n1' c1') (.slice A2' n2' c2') (.slice A3' n3' c3') (.int .i64 p) (.slice A4' n4' c4') (.int .i64 a) (.slice A5' n5' c5') (.int .i64 i) (.bool z) 34
  have HC := (hc.alloc (.cells #[.slice A0 n0 c0, .slice A1 n1 c1, .slice A2 n2 c2, .slice A3 n3 c3, .int .i64 p, .slice A4 n4 c4, .int .i64 a, .slice A5 n5 c5, .int .i64 i, .bool z] 34)).alloc (.cells #[.slice A0' n0' c0', .slice A1' n1' c1', .slice A2' n2' c2', .slice A3' n3' c3', .int .i64 p, .slice A4' n4' c4', .int .i64 a, .slice A5' n5' c5', .int .i64 i, .bool z] 34)
  have HC' := (hc'.alloc (.cells #[.slice A0 n0 c0, .slice A1 n1 c1, .slice A2 n2 c2, .slice A3 n3 c3, .int .i64 p, .slice A4 n4 c4, .int .i64 a, .slice A5 n5 c5, .int .i64 i, .bool z] 34)).alloc (.cells #[.slice A0' n0' c0', .slice A1' n1' c1', .slice A2' n2' c2', .slice A3' n3' c3', .int .i64 p, .slice A4' n4' c4', .int .i64 a, .slice A5' n5' c5', .int .i64 i, .bool z] 34)
  have HO := (ho.alloc (.cells #[.slice A0 n0 c0, .slice A1 n1 c1, .slice A2 n2 c2, .slice A3 n3 c3, .int .i64 p, .slice A4 n4 c4, .int .i64 a, .slice A5 n5 c5, .int .i64 i, .bool z] 34)).alloc (.cells #[.slice A0' n0' c0', .slice A1' n1' c1', .slice A2' n2' c2', .slice A3' n3' c3', .int .i64 p, .slice A4' n4' c4', .int .i64 a, .slice A5' n5' c5', .int .i64 i, .bool z] 34)
  have HO' := (ho'.alloc (.cells #[.slice A0 n0 c0, .slice A1 n1 c1, .slice A2 n2 c2, .slice A3 n3 c3, .int .i64 p, .slice A4 n4 c4, .int .i64 a, .slice A5 n5 c5, .int .i64 i, .bool z] 34)).alloc (.cells #[.slice A0' n0' c0', .slice A1' n1' c1', .slice A2' n2' c2', .slice A3' n3' c3', .int .i64 p, .slice A4' n4' c4', .int .i64 a, .slice A5' n5' c5', .int .i64 i, .bool z] 34)
  have BB : Below w.heap.size w ((w.alloc (.cells #[.slice A0 n0 c0, .slice A1 n1 c1, .slice A2 n2 c2, .slice A3 n3 c3, .int .i64 p, .slice A4 n4 c4, .int .i64 a, .slice A5 n5 c5, .int .i64 i, .bool z] 34)).alloc (.cells #[.slice A0' n0' c0', .slice A1' n1' c1', .slice A2' n2' c2', .slice A3' n3' c3', .int .i64 p, .slice A4' n4' c4', .int .i64 a, .slice A5' n5' c5', .int .i64 i, .bool z] 34)) := ((Below.refl _ _).alloc (Nat.le_refl _) _).alloc (by simp) _
  clear hc hc' ho ho' h h'
  generalize hW : (w.alloc (.cells #[.slice A0 n0 c0, .slice A1 n1 c1, .slice A2 n2 c2, .slice A3 n3 c3, .int .i64 p, .slice A4 n4 c4, .int .i64 a, .slice A5 n5 c5, .int .i64 i, .bool z] 34)).alloc (.cells #[.slice A0' n0' c0', .slice A1' n1' c1', .slice A2' n2' c2', .slice A3' n3' c3', .int .i64 p, .slice A4' n4' c4', .int .i64 a, .slice A5' n5' c5', .int .i64 i, .bool z] 34) = W at X Y HC HC' HO HO' BB
  obtain ⟨⟨x0, x1, x2, x3, x4, x5, x6, x7, x8, x9⟩, -⟩ := X.cells
  obtain ⟨⟨y0, y1, y2, y3, y4, y5, y6, y7, y8, y9⟩, -⟩ := Y.cells
  have E1 := eqColored_same _ _ _ _ _ _ HC.cv HC'.cv
  have E2 := fun W' (hb : Below W.heap.size W W') => eqGc_same W' _ _ _ _ _ (HC.gv.below hb) (HC'.gv.below hb)
  have E3 := fun W' (hb : Below W.heap.size W W') => eqOpS_any W' _ _ A5 A5' n5 c5 n5' c5' os os (HO.below hb) l5.out m5 (HO'.below hb) l5'.out m5'
  simp only [decide_true] at E3
  have hi : (i != i) = false := by simp
  have hz : (z != z) = false := by simp
  clear HC HC' HO HO'
  go_enter Try.func19, Try.ntmps19
  go_wp2_with fail
  (try rw [hW])
  refine E1.mono ?_; rintro e w1 ⟨rfl, hb1⟩
  obtain ⟨⟨q0, q1, q2, q3, q4, q5, q6, q7, q8, q9⟩, -⟩ := (X.below hb1).cells
  obtain ⟨⟨r0, r1, r2, r3, r4, r5, r6, r7, r8, r9⟩, -⟩ := (Y.below hb1).cells
  clear x0 x1 x2 x3 x4 x5 x6 x7 x8 x9 y0 y1 y2 y3 y4 y5 y6 y7 y8 y9 E1
  go_wp2_with fail
  refine (E2 _ hb1).mono ?_; rintro e w2 ⟨rfl, hb2⟩
  have hB2 := hb1.trans (hb2.mono hb1.size)
  clear q0 q1 q2 q3 q4 q5 q6 q7 q8 q9 r0 r1 r2 r3 r4 r5 r6 r7 r8 r9 E2
  obtain ⟨⟨q0, q1, q2, q3, q4, q5, q6, q7, q8, q9⟩, -⟩ := (X.below hB2).cells
  obtain ⟨⟨r0, r1, r2, r3, r4, r5, r6, r7, r8, r9⟩, -⟩ := (Y.below hB2).cells
  go_wp2_with fail
  refine (E3 _ hB2).mono ?_; rintro e w3 ⟨rfl, hb3⟩
  have hB3 := hB2.trans (hb3.mono hB2.size)
  clear q0 q1 q2 q3 q4 q5 q6 q7 q8 q9 r0 r1 r2 r3 r4 r5 r6 r7 r8 r9 E3
  obtain ⟨⟨q0, q1, q2, q3, q4, q5, q6, q7, q8, q9⟩, -⟩ := (X.below hB3).cells
  obtain ⟨⟨r0, r1, r2, r3, r4, r5, r6, r7, r8, r9⟩, -⟩ := (Y.below hB3).cells
  have fin := BB.trans (hB3.mono BB.size)
  go_wp2_with fail
  go_ret
  exact ⟨rfl, fin⟩

set_option maxRecDepth 100000 in
set_option maxHeartbeats 2000000 in
theorem heldOpS_any (w : World) (lo : Nat) (A : Option Addr) (n c : Nat) (k : Nat) (h : ORow w lo (.slice A n c) (seqO k n)) (hm : n ≤ 1048576) (hk : k ≤ 1073741824) :
    Calls Try.prog 58 #[.slice A n c, .int .i64 k] w fun e w' => e = .returned (.int .i64 ((k + n * 3 : Nat) : Int)) ∧ w = w' := by
  go_enter Try.func58, Try.ntmps58
  go_wp2_with fail
  go_loop [1, 5] (fun q i => ∃ j : Nat, j ≤ n ∧ i = .int .i64 j ∧ q = .int .i64 ((k + j * 3 : Nat) : Int)) (fun _ i => n - (intOf i).toNat)
  case atStart => exact ⟨0, Nat.zero_le _, rfl, rfl⟩
  case round =>
    obtain ⟨j, hj, rfl, rfl⟩ := hrel
    by_cases hlt : j < n
    · obtain ⟨g, ⟨zk, za, zq⟩, rfl, _, _, hx, z0, z1, z2⟩ := h.get (k := j) (by rw [seqO_len]; exact hlt)
      simp only at z0 z1 z2
      have hx' := hx.out
      rw [seqO_at hlt] at hx'
      simp only [Option.some.injEq, Opv.mk.injEq] at hx'
      obtain ⟨f0, f1, f2⟩ := hx'
      have e1 : za = ((k + j * 3 : Nat) : Int) + 1 := by omega
      have e2 : zq = ((k + j * 3 : Nat) : Int) + 1 + 1 := by omega
      have eS : (((k + j * 3 : Nat) : Int) + 1 + 1 + 1) = ((k + (j + 1) * 3 : Nat) : Int) := by omega
      have HS := Lib.hid eS
      subst e1 e2
      rw [← f0] at z0
      clear f0 f1 f2 eS hx h
      have hq : 0 ≤ ((k + j * 3 : Nat) : Int) ∧ ((k + j * 3 : Nat) : Int) ≤ 1077936128 := by omega
      generalize hkj : ((k + j * 3 : Nat) : Int) = kj at *
      have HK := Lib.hid hkj
      clear hkj
      obtain ⟨hb1, hb2⟩ := hq
      go_wp2_with fail
      go_round
      case rel => exact ⟨j + 1, by omega, by go_num, by rw [HS.out]⟩
      case measure => simp [intOf]; omega
    · obtain rfl : j = n := by omega
      go_wp2_with fail
      go_ret
      exact ⟨rfl, rfl⟩

set_option maxRecDepth 100000 in
set_option maxHeartbeats 1000000 in
theorem markOpS2_any (w : World) (lo : Nat) (A : Option Addr) (n c : Nat) (os : List Opv) (h : ORow w lo (.slice A n c) os) (hn : os.length = n) (hm : n ≤ 1048576) (k : Nat) (hk : k ≤ 1073741824) :
    Calls Try.prog 23 #[.slice A n c, .int .i64 k] w fun e w' => e = .returned (.int .i64 ((k + n * 3 : Nat) : Int)) ∧ ORow w' lo (.slice A n c) (seqO k n) ∧ w.grownBy w' (Value.slice A n c).ownBlock ∧ w'.heap.size = w.heap.size := by
  go_enter Try.func23, Try.ntmps23
  go_wp2_with fail
  go_loopw [1, 5] (fun q i wr => ∃ j : Nat, j ≤ n ∧ i = .int .i64 j ∧ q = .int .i64 ((k + j * 3 : Nat) : Int) ∧ ORow wr lo (.slice A n c) (seqO k j ++ os.drop j) ∧ Hid (w.grownBy wr (Value.slice A n c).ownBlock ∧ wr.heap.size = w.heap.size)) (fun _ i _ => n - (intOf i).toNat)
  case atStart => exact ⟨0, Nat.zero_le _, rfl, rfl, h, World.grownBy.refl _ _, rfl⟩
  case round =>
    obtain ⟨j, hj, rfl, rfl, hr, hg⟩ := hrel
    by_cases hlt : j < n
    · have hrl : (seqO k j ++ os.drop j).length = n := by simp [seqO_len]; omega
      obtain ⟨g, ⟨zk, za, zq⟩, rfl, _, _, _, z0, z1, z2⟩ := hr.get (k := j) (by rw [hrl]; exact hlt)
      simp only at z0 z1 z2
      have f0 := hr.frozen (j * 3)
      have f1 := hr.frozen (j * 3 + 1)
      have f2 := hr.frozen (j * 3 + 2)
      obtain ⟨hr', hgr⟩ := hr.set3 (k := j) (by rw [hrl]; exact hlt) ⟨((k + j * 3 : Nat) : Int), ((k + j * 3 + 1 : Nat) : Int), ((k + j * 3 + 2 : Nat) : Int)⟩
      rw [seqO_set (by omega)] at hr'
      have e1 : ((k + j * 3 + 1 : Nat) : Int) = ((k + j * 3 : Nat) : Int) + 1 := by omega
      have e2 : ((k + j * 3 + 2 : Nat) : Int) = ((k + j * 3 : Nat) : Int) + 1 + 1 := by omega
      simp only [e1, e2] at hr' hgr
      have hg' : Hid (w.grownBy ((((wr.setCell ⟨g, j * 3, none⟩ (.int .i64 ((k + j * 3 : Nat) : Int))).setCell ⟨g, j * 3 + 1, none⟩ (.int .i64 (((k + j * 3 : Nat) : Int) + 1))).setCell ⟨g, j * 3 + 2, none⟩ (.int .i64 (((k + j * 3 : Nat) : Int) + 1 + 1)))) (Value.slice (some ⟨g, 0, none⟩) n c).ownBlock ∧ ((((wr.setCell ⟨g, j * 3, none⟩ (.int .i64 ((k + j * 3 : Nat) : Int))).setCell ⟨g, j * 3 + 1, none⟩ (.int .i64 (((k + j * 3 : Nat) : Int) + 1))).setCell ⟨g, j * 3 + 2, none⟩ (.int .i64 (((k + j * 3 : Nat) : Int) + 1 + 1)))).heap.size = w.heap.size) :=
        ⟨⟨hgr.os.trans hg.out.1.os, hgr.tape.trans hg.out.1.tape, hgr.output.trans hg.out.1.output, Nat.le_trans hg.out.1.size hgr.size, fun i hi hne => (hgr.block i (Nat.lt_of_lt_of_le hi hg.out.1.size) hne).trans (hg.out.1.block i hi hne)⟩, by simpa [World.setCell] using hg.out.2⟩
      have eS : (((k + j * 3 : Nat) : Int) + 1 + 1 + 1) = ((k + (j + 1) * 3 : Nat) : Int) := by omega
      have HS := Lib.hid eS
      clear hr hg h eS hgr e1 e2
      generalize hkj : ((k + j * 3 : Nat) : Int) = kj at *
      have hb : 0 ≤ kj ∧ kj ≤ 1077936128 := by omega
      obtain ⟨hb1, hb2⟩ := hb
      have HK := Lib.hid hkj
      clear hkj
      go_wp2_with fail
      go_roundw
      case rel => exact ⟨j + 1, by omega, by go_num, by rw [HS.out], hr', hg'⟩
      case measure => simp [intOf]; omega
    · obtain rfl : j = n := by omega
      rw [List.drop_of_length_le (by omega), List.append_nil] at hr
      go_wp2_with fail
      go_ret
      exact ⟨rfl, hr, hg.out.1, hg.out.2⟩
theorem Blk10.frameN {w w' : World} {b : Nat} {x0 x1 x2 x3 x4 x5 x6 x7 x8 x9 u : Value} {t : TypeId} (h : Blk10 w b x0 x1 x2 x3 x4 x5 x6 x7 x8 x9 t) (fr : ∀ b, b < w.heap.size → NotC u b → w'.heap[b]? = w.heap[b]?) (hn : NotC u b) : Blk10 w' b x0 x1 x2 x3 x4 x5 x6 x7 x8 x9 t := (fr b h.lt hn).trans h
theorem far_or' {r u : Value} (h : Apart r u) : u.ownBlock = none ∨ u.ownBlock ≠ r.ownBlock := by
  cases e : u.ownBlock with
  | none => exact .inl rfl
  | some b => exact .inr (fun e' => h b e'.symm e)
set_option maxRecDepth 100000 in
set_option maxHeartbeats 2000000 in
theorem markBoth_any (w : World) (lo : Nat) (v : Value) (B : Bp) (hv : Bv w lo v B) (hlo : lo ≤ w.heap.size) (hs : ShortL B 1048576) : Calls Try.prog 24 #[v, .int .i64 1] w (MarkedB w lo ((numB B : Nat) : Int) v B) := by
  have hvo := hv
  obtain ⟨A0, n0, c0, A1, n1, c1, A2, n2, c2, A3, n3, c3, A4, n4, c4, A5, n5, c5, C, p, cc, a, os, i, z, rfl, rfl, hc, ho, ⟨l0, l1, l2, l3, l4, l5⟩, ⟨m0, m1, m2, m3, m4, m5⟩⟩ := hvo.open_
  obtain ⟨b0, b1, b2, b3, b4, b5⟩ := hs
  obtain ⟨_, _, _, _, _, _, e, hcg, _, ⟨a0, a1, a2, a3, a4⟩⟩ := hv
  cases e
  obtain ⟨_, _, _, _, _, e, e', hcv, hr, c0', c1', c2', c3'⟩ := hcg
  cases e; cases e'
  dsimp only at *
  have X := Blk10.new w (.slice A0 n0 c0) (.slice A1 n1 c1) (.slice A2 n2 c2) (.slice A3 n3 c3) (.int .i64 p) (.slice A4 n4 c4) (.int .i64 a) (.slice A5 n5 c5) (.int .i64 i) (.bool z) 34
  have HC := hcv.alloc (.cells #[.slice A0 n0 c0, .slice A1 n1 c1, .slice A2 n2 c2, .slice A3 n3 c3, .int .i64 p, .slice A4 n4 c4, .int .i64 a, .slice A5 n5 c5, .int .i64 i, .bool z] 34)
  have HR := hr.alloc (.cells #[.slice A0 n0 c0, .slice A1 n1 c1, .slice A2 n2 c2, .slice A3 n3 c3, .int .i64 p, .slice A4 n4 c4, .int .i64 a, .slice A5 n5 c5, .int .i64 i, .bool z] 34)
  have HO := ho.alloc (.cells #[.slice A0 n0 c0, .slice A1 n1 c1, .slice A2 n2 c2, .slice A3 n3 c3, .int .i64 p, .slice A4 n4 c4, .int .i64 a, .slice A5 n5 c5, .int .i64 i, .bool z] 34)
  have Bl : Below lo w (w.alloc (.cells #[.slice A0 n0 c0, .slice A1 n1 c1, .slice A2 n2 c2, .slice A3 n3 c3, .int .i64 p, .slice A4 n4 c4, .int .i64 a, .slice A5 n5 c5, .int .i64 i, .bool z] 34)) := (Below.refl _ _).alloc hlo _
  have z0 : w.heap.size + 1 = (w.alloc (.cells #[.slice A0 n0 c0, .slice A1 n1 c1, .slice A2 n2 c2, .slice A3 n3 c3, .int .i64 p, .slice A4 n4 c4, .int .i64 a, .slice A5 n5 c5, .int .i64 i, .bool z] 34)).heap.size := by simp
  have ff : ∀ b, b < w.heap.size → (w.alloc (.cells #[.slice A0 n0 c0, .slice A1 n1 c1, .slice A2 n2 c2, .slice A3 n3 c3, .int .i64 p, .slice A4 n4 c4, .int .i64 a, .slice A5 n5 c5, .int .i64 i, .bool z] 34)).heap[b]? = w.heap[b]? := fun b hb => Below.heap_alloc w _ b hb
  have nX : NotC (.agg #[.slice A0 n0 c0, .slice A1 n1 c1, .slice A2 n2 c2, .slice A3 n3 c3]) w.heap.size := notC_new hcv (Nat.le_refl _)
  have oR : ∀ b, (Value.slice A4 n4 c4).ownBlock = some b → b < w.heap.size := fun b e => (hr.lt b e).2
  have oO : ∀ b, (Value.slice A5 n5 c5).ownBlock = some b → b < w.heap.size := fun b e => (ORow.lt ho b e).2
  have aR : ∀ b, (Value.slice A4 n4 c4).ownBlock = some b → NotC (.agg #[.slice A0 n0 c0, .slice A1 n1 c1, .slice A2 n2 c2, .slice A3 n3 c3]) b := fun b e u0 u1 u2 u3 e' => by
    cases e'
    exact ⟨fun h => c0' b h.symm e, fun h => c1' b h.symm e, fun h => c2' b h.symm e, fun h => c3' b h.symm e⟩
  have aO : ∀ b, (Value.slice A5 n5 c5).ownBlock = some b → NotC (.agg #[.slice A0 n0 c0, .slice A1 n1 c1, .slice A2 n2 c2, .slice A3 n3 c3]) b := fun b e u0 u1 u2 u3 e' => by
    cases e'
    exact ⟨fun h => a0 b h.symm e, fun h => a1 b h.symm e, fun h => a2 b h.symm e, fun h => a3 b h.symm e⟩
  generalize hW : w.alloc (.cells #[.slice A0 n0 c0, .slice A1 n1 c1, .slice A2 n2 c2, .slice A3 n3 c3, .int .i64 p, .slice A4 n4 c4, .int .i64 a, .slice A5 n5 c5, .int .i64 i, .bool z] 34) = W at X HC HR HO Bl z0 ff
  obtain ⟨⟨x0, x1, x2, x3, x4, x5, x6, x7, x8, x9⟩, -⟩ := X.cells
  have M1 := markColored_any W lo _ C HC (by omega) b0 b1 b2 b3
  have hsz : sizeC C ≤ 4194304 := by unfold sizeC sizeH; omega
  go_enter Try.func24, Try.ntmps24
  go_wp2_with fail
  (try rw [hW])
  refine M1.mono ?_; rintro e w1 ⟨rfl, HC1, hl1, fr1⟩
  have s1 := hl1.size
  have X1 := Blk10.frameN X fr1 nX
  have HR1 := Row.keptC HR fr1 aR
  have HO1 := ORow.keptC HO fr1 aO
  obtain ⟨⟨y0, y1, y2, y3, y4, y5, y6, y7, y8, y9⟩, -⟩ := X1.cells
  clear X HC HR HO M1 x0 x1 x2 x3 x4 x5 x6 x7 x8 x9
  have M2 := markGc_any w1 lo p a A4 n4 c4 cc HR1 l4.out (by have := l4.out; omega) (1 + sizeC C) (by omega)
  generalize hk1 : 1 + sizeC C = k1 at *
  go_wp2_with fail
  refine M2.mono ?_; rintro e w2 ⟨rfl, HR2, hg2⟩
  have s2 := hg2.size
  have X2 := Blk10.keptG X1 hg2 (fun e => by have := oR _ e.symm; omega)
  have HC2 := Cv.keptA HC1 hg2 ⟨c0', c1', c2', c3'⟩
  have HO2 := ORow.kept HO1 hg2 (far_or' a4)
  obtain ⟨⟨x0, x1, x2, x3, x4, x5, x6, x7, x8, x9⟩, -⟩ := X2.cells
  clear X1 HC1 HR1 HO1 M2 y0 y1 y2 y3 y4 y5 y6 y7 y8 y9
  have M3 := markOpS2_any w2 lo A5 n5 c5 os HO2 l5.out (by have := l5.out; omega) (k1 + n4) (by have := l4.out; omega)
  have hk2 : Hid (k1 + n4 + n5 * 3 = k1 + cc.length + os.length * 3) := by unfold Hid; rw [l4.out, l5.out]
  go_wp2_with fail
  refine M3.mono ?_; rintro e w3 ⟨rfl, HO3, hg3, s3⟩
  have HC3 := Cv.keptA HC2 hg3 ⟨a0, a1, a2, a3⟩
  have HR3 := Row.kept HR2 hg3 (far_or a4)
  clear X2 HC2 HR2 HO2 M3 x0 x1 x2 x3 x4 x5 x6 x7 x8 x9
  have Fin : Below lo w w3 := by
    refine ⟨?_, ?_, ?_, ?_, fun k hk => ?_⟩
    · exact hg3.os.trans (hg2.os.trans (hl1.os.trans Bl.os))
    · exact hg3.tape.trans (hg2.tape.trans (hl1.tape.trans Bl.tape))
    · exact hg3.output.trans (hg2.output.trans (hl1.output.trans Bl.output))
    · have := Bl.size; omega
    · have e2 := hg2.block k (by omega) (fun e => by have := (hr.lt k e.symm).1; omega)
      have e3 := hg3.block k (by omega) (fun e => by have := (ORow.lt ho k e.symm).1; omega)
      exact e3.trans (e2.trans ((hl1.block k hk).trans (Bl.block k hk)))
  have Fr : ∀ b, b < w.heap.size → FarB (.agg #[.slice A0 n0 c0, .slice A1 n1 c1, .slice A2 n2 c2, .slice A3 n3 c3, .int .i64 p, .slice A4 n4 c4, .int .i64 a, .slice A5 n5 c5, .int .i64 i, .bool z]) b → w3.heap[b]? = w.heap[b]? := fun b hb hn => by
    obtain ⟨q1, q2, q3⟩ := hn _ _ _ _ _ _ _ _ _ _ rfl
    have e1 := fr1 b (by omega) (fun u0 u1 u2 u3 e' => by cases e'; exact q1)
    exact (hg3.block b (by omega) q3).trans ((hg2.block b (by omega) q2).trans (e1.trans (ff b hb)))
  go_wp2_with fail
  go_ret
  refine ⟨ret_int (by unfold numB; dsimp only; rw [hk1, ← hk2.out]; (try simp); (try omega)), ?_, Fin, Fr⟩
  unfold markB
  dsimp only
  rw [hk1, l4.out, l5.out]
  exact ⟨_, _, _, _, _, _, rfl, ⟨_, _, _, _, _, rfl, rfl, HC3, HR3, c0', c1', c2', c3'⟩, HO3, a0, a1, a2, a3, a4⟩

set_option maxRecDepth 100000 in
set_option maxHeartbeats 2000000 in
theorem heldBoth_any (w : World) (lo : Nat) (v : Value) (B : Bp) (hv : Bv w lo v (markB B)) (hs : ShortL B 1048576) : Calls Try.prog 25 #[v, .int .i64 1] w (RetI w ((numB B : Nat) : Int)) := by
  obtain ⟨b0, b1, b2, b3, b4, b5⟩ := hs
  obtain ⟨C, ⟨p, cc, a⟩, os, i, z⟩ := B
  unfold markB at hv
  dsimp only at *
  obtain ⟨A0, n0, c0, A1, n1, c1, A2, n2, c2, A3, n3, c3, A4, n4, c4, A5, n5, c5, C', p', cc', a', os', i', z', e, rfl, hc, ho, ⟨l0, l1, l2, l3, l4, l5⟩, ⟨m0, m1, m2, m3, m4, m5⟩⟩ := hv.open_
  cases e
  have e4 : cc.length = n4 := by have := l4.out; rw [seqI_len] at this; exact this
  have e5 : os.length = n5 := by have := l5.out; rw [seqO_len] at this; exact this
  rw [e4] at hc ho
  rw [e5] at ho
  have X := Blk10.new w (.slice A0 n0 c0) (.slice A1 n1 c1) (.slice A2 n2 c2) (.slice A3 n3 c3) (.int .i64 p) (.slice A4 n4 c4) (.int .i64 a) (.slice A5 n5 c5) (.int .i64 i) (.bool z) 34
  have HC := hc.alloc (.cells #[.slice A0 n0 c0, .slice A1 n1 c1, .slice A2 n2 c2, .slice A3 n3 c3, .int .i64 p, .slice A4 n4 c4, .int .i64 a, .slice A5 n5 c5, .int .i64 i, .bool z] 34)
  have HO := ho.alloc (.cells #[.slice A0 n0 c0, .slice A1 n1 c1, .slice A2 n2 c2, .slice A3 n3 c3, .int .i64 p, .slice A4 n4 c4, .int .i64 a, .slice A5 n5 c5, .int .i64 i, .bool z] 34)
  have BB : Below w.heap.size w (w.alloc (.cells #[.slice A0 n0 c0, .slice A1 n1 c1, .slice A2 n2 c2, .slice A3 n3 c3, .int .i64 p, .slice A4 n4 c4, .int .i64 a, .slice A5 n5 c5, .int .i64 i, .bool z] 34)) := (Below.refl _ _).alloc (Nat.le_refl _) _
  clear hc ho hv l4 l5
  generalize hW : w.alloc (.cells #[.slice A0 n0 c0, .slice A1 n1 c1, .slice A2 n2 c2, .slice A3 n3 c3, .int .i64 p, .slice A4 n4 c4, .int .i64 a, .slice A5 n5 c5, .int .i64 i, .bool z] 34) = W at X HC HO BB
  obtain ⟨⟨x0, x1, x2, x3, x4, x5, x6, x7, x8, x9⟩, -⟩ := X.cells
  have hsz : sizeC C ≤ 4194304 := by unfold sizeC sizeH; omega
  have M1 := heldColored_any W lo _ C HC.cv b0 b1 b2 b3
  have M2 := fun W' (hb : Below W.heap.size W W') => heldGc_any W' lo p a A4 n4 c4 (1 + sizeC C) (by obtain ⟨_, _, _, _, _, _, e, _, hr, _⟩ := HC; cases e; exact hr.below hb) (by omega) (by omega)
  have M3 := fun W' (hb : Below W.heap.size W W') => heldOpS_any W' lo A5 n5 c5 (1 + sizeC C + n4) (HO.below hb) (by omega) (by omega)
  have hN : Hid (numB ⟨C, ⟨p, cc, a⟩, os, i, z⟩ = 1 + sizeC C + n4 + n5 * 3) := by unfold Hid numB; dsimp only; rw [e4, e5]
  have g1 : ¬ (((1 + sizeC C : Nat) : Int) < 0) := by omega
  have g2 : ¬ (((1 + sizeC C + n4 : Nat) : Int) < 0) := by omega
  have g3 : ¬ (((1 + sizeC C + n4 + n5 * 3 : Nat) : Int) < 0) := by omega
  clear HC HO
  go_enter Try.func25, Try.ntmps25
  go_wp2_with fail
  (try rw [hW])
  refine M1.mono ?_; rintro e w1 ⟨rfl, hb1⟩
  obtain ⟨⟨q0, q1, q2, q3, q4, q5, q6, q7, q8, q9⟩, -⟩ := (X.below hb1).cells
  clear x0 x1 x2 x3 x4 x5 x6 x7 x8 x9 M1
  go_wp2_with fail
  refine (M2 _ hb1).mono ?_; rintro e w2 ⟨rfl, hb2⟩
  have hB2 := hb1.trans (hb2.mono hb1.size)
  obtain ⟨⟨r0, r1, r2, r3, r4, r5, r6, r7, r8, r9⟩, -⟩ := (X.below hB2).cells
  clear q0 q1 q2 q3 q4 q5 q6 q7 q8 q9 M2
  go_wp2_with fail
  refine (M3 _ hB2).mono ?_; rintro e w3 ⟨rfl, rfl⟩
  have fin := BB.trans (hB2.mono BB.size)
  go_wp2_with fail
  go_ret
  exact ⟨ret_int (by rw [hN.out]; (try simp); (try omega)), fin⟩

theorem markB1 (B : Bp) (hs : ShortL B 1048576) : ∃ N : Int, ¬ (N < 0) ∧ (N != N) = false ∧
    (∀ (w : World) (lo : Nat) (v : Value), Bv w lo v B → lo ≤ w.heap.size → Calls Try.prog 24 #[v, .int .i64 1] w (MarkedB w lo N v B)) ∧
    (∀ (w : World) (lo : Nat) (v : Value), Bv w lo v (markB B) → Calls Try.prog 25 #[v, .int .i64 1] w (RetI w N)) :=
  ⟨((numB B : Nat) : Int), by omega, by simp, fun w lo v hv hlo => markBoth_any w lo v B hv hlo hs, fun w lo v hv => heldBoth_any w lo v B hv hs⟩
end Go.Proofs.Ytdifplakkepnkaa
