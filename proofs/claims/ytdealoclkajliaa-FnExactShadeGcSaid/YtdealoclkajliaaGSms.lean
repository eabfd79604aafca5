import Derived.Test.YtdealoclkajliaaGcs
import Derived.Test.YtdealoclkajliaaLoops
import Derived.Test.YtdealoclkajliaaStos
import Derived.Test.YtdealoclkajliaaIStos
import Derived.Test.YtdealoclkajliaaWhite
import Derived.Test.YtdealoclkajliaaSNewC
import Derived.Test.YtdealoclkajliaaCopys
import Derived.OrdersHeld
import Derived.Deep.RegionHeld3
/- Collectors of spec and of impl: equality, copies, new ones. -/
namespace Go.Proofs.Ytdealoclkajliaa
open Go.RowKit

/-- A collector that was stored into a result. -/
theorem g_done {w w3 : World} {lo b : Nat} {r : Value} {G : Gp} (hr : Row w3 lo r G.c) (hlo : w.heap.size ≤ lo) (hne : r.ownBlock ≠ some b) (hb : w.heap.size ≤ b) (hB : Below w.heap.size w w3) (x y z : Value) :
    Gv (((w3.setCell ⟨b, 0, none⟩ x).setCell ⟨b, 1, none⟩ y).setCell ⟨b, 2, none⟩ z) w.heap.size (.agg #[.int .i64 G.p, r, .int .i64 G.a]) G ∧ Below w.heap.size w (((w3.setCell ⟨b, 0, none⟩ x).setCell ⟨b, 1, none⟩ y).setCell ⟨b, 2, none⟩ z) :=
  ⟨⟨_, rfl, (((hr.other (a := ⟨b, 0, none⟩) hne x).other (a := ⟨b, 1, none⟩) hne y).other (a := ⟨b, 2, none⟩) hne z).mono hlo⟩, ((hB.setCell (p := ⟨b, 0, none⟩) hb x).setCell (p := ⟨b, 1, none⟩) hb y).setCell (p := ⟨b, 2, none⟩) hb z⟩
theorem own_ne {w : World} {lo b : Nat} {v : Value} {xs : List Int} (h : Row w lo v xs) (hb : b < lo) : v.ownBlock ≠ some b := fun e => by have := (h.lt _ e).1; omega
theorem own_new {w : World} {lo b : Nat} {v : Value} {xs : List Int} (h : Row w lo v xs) (hb : w.heap.size ≤ b) : v.ownBlock ≠ some b := fun e => by have := (h.lt _ e).2; omega
theorem sameG_eq {p a p' a' : Int} {cc cc' : List Int} : sameG ⟨p, cc, a⟩ ⟨p', cc', a'⟩ = (decide (p = p') && decide (cc = cc') && decide (a = a')) := by
  unfold sameG; simp [Bool.decide_and, Bool.and_assoc]

set_option maxRecDepth 100000 in
set_option maxHeartbeats 2000000 in
theorem implGcSame_any (w : World) (lo lo' : Nat) (v v' : Value) (G G' : Gp) (hg : Gv w lo v G) (hg' : Gv w lo' v' G') : Calls Try.prog 25 #[v, v'] w (RetB w (sameG G G')) := by
  obtain ⟨p, cc, a⟩ := G
  obtain ⟨p', cc', a'⟩ := G'
  obtain ⟨A, n, c, rfl, r, l, m, _⟩ := hg.open_
  obtain ⟨A', n', c', rfl, r', l', m', _⟩ := hg'.open_
  dsimp only at r l r' l' ⊢
  have X := (Blk3.new w (.int .i64 p) (.slice A n c) (.int .i64 a) 29).alloc (.cells #[.int .i64 p', .slice A' n' c', .int .i64 a'] 29)
  have Y := Blk3.new_at (w := w.alloc (.cells #[.int .i64 p, .slice A n c, .int .i64 a] 29)) (b := w.heap.size + 1) (by simp) (.int .i64 p') (.slice A' n' c') (.int .i64 a') 29
  have R := (r.alloc (.cells #[.int .i64 p, .slice A n c, .int .i64 a] 29)).alloc (.cells #[.int .i64 p', .slice A' n' c', .int .i64 a'] 29)
  have R' := (r'.alloc (.cells #[.int .i64 p, .slice A n c, .int .i64 a] 29)).alloc (.cells #[.int .i64 p', .slice A' n' c', .int .i64 a'] 29)
  have BB : Below w.heap.size w ((w.alloc (.cells #[.int .i64 p, .slice A n c, .int .i64 a] 29)).alloc (.cells #[.int .i64 p', .slice A' n' c', .int .i64 a'] 29)) := ((Below.refl _ _).alloc (Nat.le_refl _) _).alloc (by simp) _
  clear hg hg' r r'
  generalize hW : (w.alloc (.cells #[.int .i64 p, .slice A n c, .int .i64 a] 29)).alloc (.cells #[.int .i64 p', .slice A' n' c', .int .i64 a'] 29) = W at X Y R R' BB
  obtain ⟨x0, x1, x2, _⟩ := X.cells
  obtain ⟨y0, y1, y2, _⟩ := Y.cells
  have E := slicesEqual_any W lo lo' A A' n c n' c' cc cc' R l.out m R' l'.out m'
  clear R R' X Y l l'
  by_cases hp : p = p'
  · subst hp
    rcases ec : decide (cc = cc')
    · simp only [ec] at E
      have hf : Hid (sameG ⟨p, cc, a⟩ ⟨p, cc', a'⟩ = false) := by unfold Hid; rw [sameG_eq, ec]; simp
      clear ec
      go_enter Try.func25, Try.ntmps25
      go_wp2_with fail
      try rw [hW]
      refine E.mono ?_; rintro e w1 ⟨rfl, nq, rfl⟩
      have c0 := cellDN x0 nq
      have c1 := cellDN x1 nq
      have c2 := cellDN x2 nq
      have d0 := cellDN y0 nq
      have d1 := cellDN y1 nq
      have d2 := cellDN y2 nq
      have B1 := below_drewN BB nq
      go_wp2_with fail
      go_ret
      exact ⟨ret_bool hf.out.symm, B1⟩
    · simp only [ec] at E
      have hf : Hid (sameG ⟨p, cc, a⟩ ⟨p, cc', a'⟩ = (a == a')) := by unfold Hid; rw [sameG_eq, ec]; rw [Bool.eq_iff_iff]; simp
      clear ec
      go_enter Try.func25, Try.ntmps25
      go_wp2_with fail
      try rw [hW]
      refine E.mono ?_; rintro e w1 ⟨rfl, nq, rfl⟩
      have c0 := cellDN x0 nq
      have c1 := cellDN x1 nq
      have c2 := cellDN x2 nq
      have d0 := cellDN y0 nq
      have d1 := cellDN y1 nq
      have d2 := cellDN y2 nq
      have B1 := below_drewN BB nq
      go_wp2_with fail
      go_ret
      exact ⟨ret_bool hf.out.symm, B1⟩
  · have hf : Hid (sameG ⟨p, cc, a⟩ ⟨p', cc', a'⟩ = false) := by unfold Hid; rw [sameG_eq, decide_eq_false hp]; simp
    have qp : (p == p') = false := by rw [beq_eq_false_iff_ne]; exact hp
    go_enter Try.func25, Try.ntmps25
    go_wp2_with fail
    try rw [hW]
    go_ret
    exact ⟨ret_bool hf.out.symm, BB⟩

set_option maxRecDepth 100000 in
set_option maxHeartbeats 2000000 in
theorem specGcSame_any (w : World) (lo lo' : Nat) (v v' : Value) (G G' : Gp) (hg : Gv w lo v G) (hg' : Gv w lo' v' G') : Calls Try.prog 24 #[v, v'] w (RetB w (sameG G G')) := by
  obtain ⟨p, cc, a⟩ := G
  obtain ⟨p', cc', a'⟩ := G'
  obtain ⟨A, n, c, rfl, r, l, m, _⟩ := hg.open_
  obtain ⟨A', n', c', rfl, r', l', m', _⟩ := hg'.open_
  dsimp only at r l r' l' ⊢
  have X := (Blk3.new w (.int .i64 p) (.slice A n c) (.int .i64 a) 29).alloc (.cells #[.int .i64 p', .slice A' n' c', .int .i64 a'] 29)
  have Y := Blk3.new_at (w := w.alloc (.cells #[.int .i64 p, .slice A n c, .int .i64 a] 29)) (b := w.heap.size + 1) (by simp) (.int .i64 p') (.slice A' n' c') (.int .i64 a') 29
  have R := (r.alloc (.cells #[.int .i64 p, .slice A n c, .int .i64 a] 29)).alloc (.cells #[.int .i64 p', .slice A' n' c', .int .i64 a'] 29)
  have R' := (r'.alloc (.cells #[.int .i64 p, .slice A n c, .int .i64 a] 29)).alloc (.cells #[.int .i64 p', .slice A' n' c', .int .i64 a'] 29)
  have BB : Below w.heap.size w ((w.alloc (.cells #[.int .i64 p, .slice A n c, .int .i64 a] 29)).alloc (.cells #[.int .i64 p', .slice A' n' c', .int .i64 a'] 29)) := ((Below.refl _ _).alloc (Nat.le_refl _) _).alloc (by simp) _
  clear hg hg' r r'
  generalize hW : (w.alloc (.cells #[.int .i64 p, .slice A n c, .int .i64 a] 29)).alloc (.cells #[.int .i64 p', .slice A' n' c', .int .i64 a'] 29) = W at X Y R R' BB
  obtain ⟨x0, x1, x2, _⟩ := X.cells
  obtain ⟨y0, y1, y2, _⟩ := Y.cells
  have E := l1Ints_any W lo lo' A A' n c n' c' cc cc' R l.out m R' l'.out m'
  clear R R' X Y l l'
  by_cases hp : p = p'
  · subst hp
    by_cases ha : a = a'
    · subst ha
      have hf : Hid (sameG ⟨p, cc, a⟩ ⟨p, cc', a⟩ = decide (cc = cc')) := by unfold Hid; rw [sameG_eq]; rw [Bool.eq_iff_iff]; simp
      have qa : (a == a) = true := by simp
      go_enter Try.func24, Try.ntmps24
      go_wp2_with fail
      try rw [hW]
      refine E.mono ?_; rintro e w1 ⟨rfl, nq, rfl⟩
      have c0 := cellDN x0 nq
      have c1 := cellDN x1 nq
      have c2 := cellDN x2 nq
      have d0 := cellDN y0 nq
      have d1 := cellDN y1 nq
      have d2 := cellDN y2 nq
      have B1 := below_drewN BB nq
      go_wp2_with fail
      go_ret
      exact ⟨ret_bool hf.out.symm, B1⟩
    · have hf : Hid (sameG ⟨p, cc, a⟩ ⟨p, cc', a'⟩ = false) := by unfold Hid; rw [sameG_eq, decide_eq_false ha]; simp
      have qa : (a == a') = false := by rw [beq_eq_false_iff_ne]; exact ha
      go_enter Try.func24, Try.ntmps24
      go_wp2_with fail
      try rw [hW]
      go_ret
      exact ⟨ret_bool hf.out.symm, BB⟩
  · have hf : Hid (sameG ⟨p, cc, a⟩ ⟨p', cc', a'⟩ = false) := by unfold Hid; rw [sameG_eq, decide_eq_false hp]; simp
    have qp : (p == p') = false := by rw [beq_eq_false_iff_ne]; exact hp
    go_enter Try.func24, Try.ntmps24
    go_wp2_with fail
    try rw [hW]
    go_ret
    exact ⟨ret_bool hf.out.symm, BB⟩

set_option maxRecDepth 100000 in
set_option maxHeartbeats 2000000 in
theorem implNewGc_any (w : World) (lo : Nat) (v : Value) (C : Cp) (hv : Cv w lo v C) : Calls Try.prog 14 #[v] w (OptGv w (newG C)) := by
  have hvo := hv
  obtain ⟨A0, n0, c0, A1, n1, c1, A2, n2, c2, A3, n3, c3, rfl, _, _, ⟨l0, l1, l2, l3⟩, _⟩ := hvo.open_
  have X := (Blk4.new w (.slice A0 n0 c0) (.slice A1 n1 c1) (.slice A2 n2 c2) (.slice A3 n3 c3) 34).alloc (.cells #[.int .i64 0, .slice none 0 0, .int .i64 0] 29)
  have Y := Blk3.new_at (w := w.alloc (.cells #[.slice A0 n0 c0, .slice A1 n1 c1, .slice A2 n2 c2, .slice A3 n3 c3] 34)) (b := w.heap.size + 1) (by simp) (.int .i64 0) (.slice none 0 0) (.int .i64 0) 29
  have VV := (hv.alloc (.cells #[.slice A0 n0 c0, .slice A1 n1 c1, .slice A2 n2 c2, .slice A3 n3 c3] 34)).alloc (.cells #[.int .i64 0, .slice none 0 0, .int .i64 0] 29)
  have BB : Below w.heap.size w ((w.alloc (.cells #[.slice A0 n0 c0, .slice A1 n1 c1, .slice A2 n2 c2, .slice A3 n3 c3] 34)).alloc (.cells #[.int .i64 0, .slice none 0 0, .int .i64 0] 29)) := ((Below.refl _ _).alloc (Nat.le_refl _) _).alloc (by simp) _
  have sz : ((w.alloc (.cells #[.slice A0 n0 c0, .slice A1 n1 c1, .slice A2 n2 c2, .slice A3 n3 c3] 34)).alloc (.cells #[.int .i64 0, .slice none 0 0, .int .i64 0] 29)).heap.size = w.heap.size + 2 := by simp
  go_enter Try.func14, Try.ntmps14
  go_wp2_with fail
  generalize (w.alloc (.cells #[.slice A0 n0 c0, .slice A1 n1 c1, .slice A2 n2 c2, .slice A3 n3 c3] 34)).alloc (.cells #[.int .i64 0, .slice none 0 0, .int .i64 0] 29) = W at X Y VV BB sz ⊢
  have V := implStoreValid_any _ _ _ _ VV
  rcases ev : stoB C
  · rw [ev] at V
    have hf : Hid (newG C = none) := by unfold Hid newG; rw [ev]; simp
    clear ev
    go_wp2_with fail
    refine V.mono ?_; rintro e w1 ⟨rfl, hb1⟩
    obtain ⟨y0, y1, y2, f0, f1, f2⟩ := (Y.below hb1).cells
    obtain ⟨hZ, hB⟩ := g_done (w := w) (G := Gp.zero) (b := w.heap.size + 1) (Row.nil w1 w.heap.size) (Nat.le_refl _) (by simp [Value.ownBlock]) (by omega) (BB.trans (hb1.mono (by omega))) (.int .i64 0) (.slice none 0 0) (.int .i64 0)
    go_wp2_with fail
    rw [hf.out]
    refine bodyPost_ret (v := .tuple #[.agg #[.int .i64 0, .slice none 0 0, .int .i64 0], .bool false]) ?_ rfl ⟨_, rfl, hZ, hB⟩
    simp [results, Try.results14, go_sem, y0, y1, y2]
  · rw [ev] at V
    have hf : Hid (newG C = some ⟨0, List.replicate n0 0, 0⟩) := by unfold Hid newG; rw [if_pos ev, l0.out]
    have h1n := hvB_len (stoB_parts ev).1
    have u0 : n0 ≤ 8 := by have := l0.out; omega
    have u1 : 1 ≤ n0 := by have := l0.out; omega
    clear ev
    go_wp2_with fail
    refine V.mono ?_; rintro e w1 ⟨rfl, hb1⟩
    have B1 := BB.trans (hb1.mono (by omega))
    obtain ⟨x0, x1, x2, x3, _⟩ := (X.below hb1).cells
    have Y1 := Y.below hb1
    have z1 := hb1.size
    go_wp2_with fail
    refine (whiteColors_any w1 n0 u1 u0).mono ?_; rintro e w2 ⟨B3, e3, rfl, r3n, hb2⟩
    simp only [List.length_replicate] at r3n
    obtain ⟨y0, y1, y2, f0, f1, f2⟩ := (Y1.below hb2).cells
    obtain ⟨hZ, hB⟩ := g_done (w := w) (G := ⟨0, List.replicate n0 0, 0⟩) (b := w.heap.size + 1) r3n (by omega) (own_ne r3n (by omega)) (by omega) (B1.trans (hb2.mono B1.size)) (.int .i64 0) (.slice B3 n0 e3) (.int .i64 0)
    go_wp2_with fail
    rw [hf.out]
    refine bodyPost_ret (v := .tuple #[.agg #[.int .i64 0, .slice B3 n0 e3, .int .i64 0], .bool true]) ?_ rfl ⟨_, rfl, hZ, hB⟩
    simp [results, Try.results14, go_sem, y0, y1, y2]

set_option maxRecDepth 100000 in
set_option maxHeartbeats 2000000 in
theorem specNewGc_any (w : World) (lo : Nat) (v : Value) (C : Cp) (hv : Cv w lo v C) : Calls Try.prog 12 #[v] w (OptGv w (newG C)) := by
  have hvo := hv
  obtain ⟨A0, n0, c0, A1, n1, c1, A2, n2, c2, A3, n3, c3, rfl, _, _, ⟨l0, l1, l2, l3⟩, _⟩ := hvo.open_
  have X := (Blk4.new w (.slice A0 n0 c0) (.slice A1 n1 c1) (.slice A2 n2 c2) (.slice A3 n3 c3) 34).alloc (.cells #[.int .i64 0, .slice none 0 0, .int .i64 0] 29)
  have Y := Blk3.new_at (w := w.alloc (.cells #[.slice A0 n0 c0, .slice A1 n1 c1, .slice A2 n2 c2, .slice A3 n3 c3] 34)) (b := w.heap.size + 1) (by simp) (.int .i64 0) (.slice none 0 0) (.int .i64 0) 29
  have VV := (hv.alloc (.cells #[.slice A0 n0 c0, .slice A1 n1 c1, .slice A2 n2 c2, .slice A3 n3 c3] 34)).alloc (.cells #[.int .i64 0, .slice none 0 0, .int .i64 0] 29)
  have BB : Below w.heap.size w ((w.alloc (.cells #[.slice A0 n0 c0, .slice A1 n1 c1, .slice A2 n2 c2, .slice A3 n3 c3] 34)).alloc (.cells #[.int .i64 0, .slice none 0 0, .int .i64 0] 29)) := ((Below.refl _ _).alloc (Nat.le_refl _) _).alloc (by simp) _
  have sz : ((w.alloc (.cells #[.slice A0 n0 c0, .slice A1 n1 c1, .slice A2 n2 c2, .slice A3 n3 c3] 34)).alloc (.cells #[.int .i64 0, .slice none 0 0, .int .i64 0] 29)).heap.size = w.heap.size + 2 := by simp
  go_enter Try.func12, Try.ntmps12
  go_wp2_with fail
  generalize (w.alloc (.cells #[.slice A0 n0 c0, .slice A1 n1 c1, .slice A2 n2 c2, .slice A3 n3 c3] 34)).alloc (.cells #[.int .i64 0, .slice none 0 0, .int .i64 0] 29) = W at X Y VV BB sz ⊢
  have V := specStoreValid_any _ _ _ _ VV
  rcases ev : stoB C
  · rw [ev] at V
    have hf : Hid (newG C = none) := by unfold Hid newG; rw [ev]; simp
    clear ev
    go_wp2_with fail
    refine V.mono ?_; rintro e w1 ⟨rfl, hb1⟩
    obtain ⟨y0, y1, y2, f0, f1, f2⟩ := (Y.below hb1).cells
    obtain ⟨hZ, hB⟩ := g_done (w := w) (G := Gp.zero) (b := w.heap.size + 1) (Row.nil w1 w.heap.size) (Nat.le_refl _) (by simp [Value.ownBlock]) (by omega) (BB.trans (hb1.mono (by omega))) (.int .i64 0) (.slice none 0 0) (.int .i64 0)
    go_wp2_with fail
    rw [hf.out]
    refine bodyPost_ret (v := .tuple #[.agg #[.int .i64 0, .slice none 0 0, .int .i64 0], .bool false]) ?_ rfl ⟨_, rfl, hZ, hB⟩
    simp [results, Try.results12, go_sem, y0, y1, y2]
  · rw [ev] at V
    have hf : Hid (newG C = some ⟨0, List.replicate n0 0, 0⟩) := by unfold Hid newG; rw [if_pos ev, l0.out]
    have h1n := hvB_len (stoB_parts ev).1
    have u0 : n0 ≤ 8 := by have := l0.out; omega
    have u1 : 1 ≤ n0 := by have := l0.out; omega
    clear ev
    go_wp2_with fail
    refine V.mono ?_; rintro e w1 ⟨rfl, hb1⟩
    have B1 := BB.trans (hb1.mono (by omega))
    obtain ⟨x0, x1, x2, x3, _⟩ := (X.below hb1).cells
    have Y1 := Y.below hb1
    have z1 := hb1.size
    have hmk : ∀ W, (Instr.makeSlice 22 (.int .i64 (n0 : Int)) (.int .i64 (n0 : Int))).run Try.prog W = .ok (.slice (some ⟨W.heap.size, 0, none⟩) n0 n0) (W.alloc (.cells (madeCells #[.int .i64 0] n0) 3)) := fun W => run_make_row' 22 3 (.int .i64 0) 8 Try.underlying22 Try.infoInt rfl .i64 .i64 n0 (by omega) (by omega) W
    have RM := rowMade w1 w1.heap.size n0 (Nat.le_refl _) (by omega)
    obtain ⟨y0, y1, y2, f0, f1, f2⟩ := (Y1.alloc (.cells (madeCells #[.int .i64 0] n0) 3)).cells
    obtain ⟨hZ, hB⟩ := g_done (w := w) (G := ⟨0, List.replicate n0 0, 0⟩) (b := w.heap.size + 1) RM (by omega) (own_ne RM (by omega)) (by omega) (B1.alloc B1.size (.cells (madeCells #[.int .i64 0] n0) 3)) (.int .i64 0) (.slice (some ⟨w1.heap.size, 0, none⟩) n0 n0) (.int .i64 0)
    go_wp2_with fail
    rw [hf.out]
    refine bodyPost_ret (v := .tuple #[.agg #[.int .i64 0, .slice (some ⟨w1.heap.size, 0, none⟩) n0 n0, .int .i64 0], .bool true]) ?_ rfl ⟨_, rfl, hZ, hB⟩
    simp [results, Try.results12, go_sem, y0, y1, y2]
end Go.Proofs.Ytdealoclkajliaa

/- Copies of collectors, of spec and of impl. -/
namespace Go.Proofs.Ytdealoclkajliaa
open Go.RowKit

theorem cellF3g {w : World} {a : Addr} {u : Value} {b : Nat} (h : w.cell? a = some u) (hne : b ≠ a.block) (v0 v1 v2 : Value) : (((w.setCell ⟨b, 0, none⟩ v0).setCell ⟨b, 1, none⟩ v1).setCell ⟨b, 2, none⟩ v2).cell? a = some u := by
  rw [World.cell?_setCell_far _ _ _ _ hne, World.cell?_setCell_far _ _ _ _ hne, World.cell?_setCell_far _ _ _ _ hne]; exact h
def isMk (G : Gp) : Bool := decide (G.p = 1 ∨ G.p = 2)

set_option maxRecDepth 100000 in
set_option maxHeartbeats 2000000 in
theorem copyOfGc_any (w : World) (lo : Nat) (v : Value) (G : Gp) (hg : Gv w lo v G) (hb : G.c.length ≤ 1048576) : Calls Try.prog 64 #[v] w (NewGv w G) := by
  obtain ⟨p, cc, a⟩ := G
  obtain ⟨A, n, c, rfl, r, l, m, _⟩ := hg.open_
  dsimp only at r l hb ⊢
  have X := (Blk3.new w (.int .i64 p) (.slice A n c) (.int .i64 a) 29).alloc (.cells #[.int .i64 0, .slice none 0 0, .int .i64 0] 29)
  have Y := Blk3.new_at (w := w.alloc (.cells #[.int .i64 p, .slice A n c, .int .i64 a] 29)) (b := w.heap.size + 1) (by simp) (.int .i64 0) (.slice none 0 0) (.int .i64 0) 29
  have R := (r.alloc (.cells #[.int .i64 p, .slice A n c, .int .i64 a] 29)).alloc (.cells #[.int .i64 0, .slice none 0 0, .int .i64 0] 29)
  have BB : Below w.heap.size w ((w.alloc (.cells #[.int .i64 p, .slice A n c, .int .i64 a] 29)).alloc (.cells #[.int .i64 0, .slice none 0 0, .int .i64 0] 29)) := ((Below.refl _ _).alloc (Nat.le_refl _) _).alloc (by simp) _
  have sz : ((w.alloc (.cells #[.int .i64 p, .slice A n c, .int .i64 a] 29)).alloc (.cells #[.int .i64 0, .slice none 0 0, .int .i64 0] 29)).heap.size = w.heap.size + 2 := by simp
  have hnb : w.heap.size + 1 ≠ w.heap.size := by omega
  have y3 : n ≤ 1048576 := by have := l.out; omega
  go_enter Try.func64, Try.ntmps64
  go_wp2_with fail
  generalize (w.alloc (.cells #[.int .i64 p, .slice A n c, .int .i64 a] 29)).alloc (.cells #[.int .i64 0, .slice none 0 0, .int .i64 0] 29) = W at X Y R BB sz ⊢
  obtain ⟨x0, x1, x2, _⟩ := X.cells
  go_region_held3 (fun w' => w'.cell? ⟨w.heap.size, 0, none⟩ = some (.int .i64 p) ∧ w'.cell? ⟨w.heap.size, 1, none⟩ = some (.slice A n c) ∧ w'.cell? ⟨w.heap.size, 2, none⟩ = some (.int .i64 a))
    (((try dsimp only); (repeat' apply And.intro) <;> (with_reducible (first | exact cellF3g s0 hnb _ _ _ | exact cellF3g s1 hnb _ _ _ | exact cellF3g s2 hnb _ _ _ | exact s0 | exact s1 | exact s2 | exact cellD x0 | exact cellD x1 | exact cellD x2 | exact x0 | exact x1 | exact x2)) <;> done))
    (first | (go_at_call 83; (with_reducible refine (copyOfInts_any W.drew lo A n c cc R.drew l.out y3).mono ?_); rintro e w2 ⟨B3, e3, rfl, r3n, hb2⟩; (have X2 := (Blk3.drew X).below hb2); (obtain ⟨s0, s1, s2, _⟩ := X2.cells); (have Y2 := (Blk3.drew Y).below hb2); (obtain ⟨q0, q1, q2, k0, k1, k2⟩ := Y2.cells)))
  rename_i hHeld
  clear hHeld
  have r3m : Row w2 W.heap.size (.slice B3 cc.length e3) cc := r3n
  have hb3 : Below W.heap.size W w2 := (Below.refl W.heap.size W).drew.trans (hb2.mono (Nat.le_refl _))
  obtain ⟨hH, hB⟩ := g_done (w := w) (G := ⟨p, cc, a⟩) (b := w.heap.size + 1) r3m (by omega) (own_ne r3m (by omega)) (by omega) (BB.trans (hb3.mono (by omega))) (.int .i64 p) (.slice B3 cc.length e3) (.int .i64 a)
  clear s0 s1 s2 x0 x1 x2
  go_wp2_with fail
  refine bodyPost_ret (v := .agg #[.int .i64 p, .slice B3 cc.length e3, .int .i64 a]) ?_ rfl ⟨_, rfl, hH, hB⟩
  simp [results, Try.results64, go_sem, q0, q1, q2]

set_option maxRecDepth 100000 in
set_option maxHeartbeats 3200000 in
theorem l6Copy_any (w : World) (lo : Nat) (v : Value) (G : Gp) (hg : Gv w lo v G) (hp : 0 < G.c.length) (hb : G.c.length ≤ 1048576) : Calls Try.prog 63 #[v] w (NewGv w G) := by
  obtain ⟨p, cc, a⟩ := G
  obtain ⟨A, n, c, rfl, r, l, m, _⟩ := hg.open_
  dsimp only at r l hb hp ⊢
  obtain ⟨g3, rfl, _, _⟩ := r.at_ (k := 0) hp
  obtain ⟨i0, hi, hz0, hz1, hz2⟩ := info_parts Try.infoInt
  have y3 : n = cc.length := l.out.symm
  have E3 : (cc.map iv).length = n * 1 := by simp; omega
  have M3 : 0 + n ≤ maxLen := by unfold maxLen; omega
  have u3a : 0 < n := by omega
  have u3b : n ≤ 1048576 := by omega
  have L3 : Hid (0 + n = cc.length) := by unfold Hid; omega
  have X := (Blk3.new w (.int .i64 p) (.slice (some ⟨g3, 0, none⟩) n c) (.int .i64 a) 29).alloc (.cells #[.int .i64 0, .slice none 0 0, .int .i64 0] 29)
  have Y := Blk3.new_at (w := w.alloc (.cells #[.int .i64 p, .slice (some ⟨g3, 0, none⟩) n c, .int .i64 a] 29)) (b := w.heap.size + 1) (by simp) (.int .i64 0) (.slice none 0 0) (.int .i64 0) 29
  have R := (r.alloc (.cells #[.int .i64 p, .slice (some ⟨g3, 0, none⟩) n c, .int .i64 a] 29)).alloc (.cells #[.int .i64 0, .slice none 0 0, .int .i64 0] 29)
  have BB : Below w.heap.size w ((w.alloc (.cells #[.int .i64 p, .slice (some ⟨g3, 0, none⟩) n c, .int .i64 a] 29)).alloc (.cells #[.int .i64 0, .slice none 0 0, .int .i64 0] 29)) := ((Below.refl _ _).alloc (Nat.le_refl _) _).alloc (by simp) _
  have sz : ((w.alloc (.cells #[.int .i64 p, .slice (some ⟨g3, 0, none⟩) n c, .int .i64 a] 29)).alloc (.cells #[.int .i64 0, .slice none 0 0, .int .i64 0] 29)).heap.size = w.heap.size + 2 := by simp
  have hnb : w.heap.size + 1 ≠ w.heap.size := by omega
  clear hg r l hp hb y3
  go_enter Try.func63, Try.ntmps63
  go_wp2_with fail
  generalize (w.alloc (.cells #[.int .i64 p, .slice (some ⟨g3, 0, none⟩) n c, .int .i64 a] 29)).alloc (.cells #[.int .i64 0, .slice none 0 0, .int .i64 0] 29) = W at X Y R BB sz ⊢
  obtain ⟨x0, x1, x2, _⟩ := X.cells
  go_region_held3 (fun w' => w'.cell? ⟨w.heap.size, 0, none⟩ = some (.int .i64 p) ∧ w'.cell? ⟨w.heap.size, 1, none⟩ = some (.slice (some ⟨g3, 0, none⟩) n c) ∧ w'.cell? ⟨w.heap.size, 2, none⟩ = some (.int .i64 a))
    (((try dsimp only); (repeat' apply And.intro) <;> (with_reducible (first | exact cellF3g s0 hnb _ _ _ | exact cellF3g s1 hnb _ _ _ | exact cellF3g s2 hnb _ _ _ | exact s0 | exact s1 | exact s2 | exact x0 | exact x1 | exact x2 | exact cellD x0 | exact cellD x1 | exact cellD x2 | exact cellA x0 _ | exact cellA x1 _ | exact cellA x2 _ | exact cellD (cellA x0 _) | exact cellD (cellA x1 _) | exact cellD (cellA x2 _) | exact cellA (cellD x0) _ | exact cellA (cellD x1) _ | exact cellA (cellD x2) _)) <;> done))
    (first | (refine step_append_grows rfl (.tmp 5) (.tmp 7) 22 rfl 3 i0 (.int .i64 0) 1 8 Try.underlying22 hi hz0 hz1 hz2 rfl (by decide) _ 0 0 [] (by rfl) (fun _ => ⟨rfl, rfl⟩) rfl (fun _ _ j u hj => nil_get hj) ⟨g3, 0, none⟩ n c (cc.map iv) (by rfl) E3 ?_ (ints_oneCell _ _) (by omega) (by omega) (by omega) ?_; (exact Row.cellsV (lo := lo) (n := n) (c := c) (xs := cc) (by repeat (with_reducible (first | refine Row.drew ?_ | refine Row.alloc ?_ _ | exact R)))); intro vr w2 hown hgr; obtain ⟨A3', c3', rfl, hr, hb2⟩ := after_append (xs := cc) hown hgr L3.out; have X2 : Blk3 w2 w.heap.size (.int .i64 p) (.slice (some ⟨g3, 0, none⟩) n c) (.int .i64 a) 29 := (by repeat (with_reducible (first | exact X | refine Blk3.drew ?_ | refine Blk3.alloc ?_ _ | refine Blk3.below ?_ hb2))); obtain ⟨s0, s1, s2, _⟩ := X2.cells; have Y2 : Blk3 w2 (w.heap.size + 1) (.int .i64 0) (.slice none 0 0) (.int .i64 0) 29 := (by repeat (with_reducible (first | exact Y | refine Blk3.drew ?_ | refine Blk3.alloc ?_ _ | refine Blk3.below ?_ hb2))); obtain ⟨q0, q1, q2, k0, k1, k2⟩ := Y2.cells))
  all_goals
    rename_i hHeld
    clear hHeld
    have B2' : Below W.heap.size W w2 := Below.trans (by repeat (with_reducible (first | exact Below.refl _ _ | refine Below.drew ?_ | refine Below.alloc ?_ (by first | omega | (simp <;> omega)) _))) (hb2.mono (by first | omega | (simp <;> omega)))
    have hr' : Row w2 (w.heap.size + 2) (.slice A3' cc.length c3') cc := hr.mono (by first | omega | (simp <;> omega))
    obtain ⟨hH, hB⟩ := g_done (w := w) (G := ⟨p, cc, a⟩) (b := w.heap.size + 1) hr' (by omega) (own_ne hr' (by omega)) (by omega) (BB.trans (B2'.mono (by omega))) (.int .i64 p) (.slice A3' cc.length c3') (.int .i64 a)
    clear s0 s1 s2 x0 x1 x2
    go_wp2_with fail
    refine bodyPost_ret (v := .agg #[.int .i64 p, .slice A3' cc.length c3', .int .i64 a]) ?_ rfl ⟨_, rfl, hH, hB⟩
    simp [results, Try.results63, go_sem, q0, q1, q2]

set_option maxRecDepth 100000 in
set_option maxHeartbeats 2000000 in
theorem isMarking_any (w : World) (lo : Nat) (v : Value) (G : Gp) (hg : Gv w lo v G) : Calls Try.prog 65 #[v] w (RetB w (isMk G)) := by
  obtain ⟨p, cc, a⟩ := G
  obtain ⟨A, n, c, rfl, r, l, m, _⟩ := hg.open_
  dsimp only at r l ⊢
  have X := Blk3.new w (.int .i64 p) (.slice A n c) (.int .i64 a) 29
  have BB : Below w.heap.size w (w.alloc (.cells #[.int .i64 p, .slice A n c, .int .i64 a] 29)) := (Below.refl _ _).alloc (Nat.le_refl _) _
  obtain ⟨x0, x1, x2, _⟩ := X.cells
  by_cases p1 : p = 1
  · subst p1
    have hf : Hid (isMk ⟨1, cc, a⟩ = true) := by unfold Hid isMk; simp
    go_enter Try.func65, Try.ntmps65
    go_wp2_with fail
    go_ret
    exact ⟨ret_bool hf.out.symm, BB⟩
  · have q1 : (p == 1) = false := by rw [beq_eq_false_iff_ne]; exact p1
    have hf : Hid (isMk ⟨p, cc, a⟩ = (p == 2)) := by unfold Hid isMk; rw [Bool.eq_iff_iff]; simp [p1]
    go_enter Try.func65, Try.ntmps65
    go_wp2_with fail
    go_ret
    exact ⟨ret_bool hf.out.symm, BB⟩
end Go.Proofs.Ytdealoclkajliaa

