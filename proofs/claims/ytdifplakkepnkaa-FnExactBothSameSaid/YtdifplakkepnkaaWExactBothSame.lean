/- The exact law of BothSame, walked. -/
import Derived.Test.YtdifplakkepnkaaMarkB
import Derived.Test.YtdifplakkepnkaaBSam2
namespace Go.Proofs.Ytdifplakkepnkaa
open Go.RowKit

set_option maxRecDepth 100000 in
set_option maxHeartbeats 6000000 in
theorem lawExactBothSame_walk (w : World) (v : Value) (B : Bp) (hv : BIn w v B) (v' : Value) (B' : Bp) (hv' : BIn w v' B') : Calls Try.prog 6 #[v, v'] w (LawTrue w) := by
  obtain ⟨C, ⟨p, cc, a⟩, os, i, z⟩ := B
  obtain ⟨ha, m0, m1, m2, m3, m4, m5⟩ := hv
  have ha2 := ha
  obtain ⟨A0, c0, A1, c1, A2, c2, A3, c3, A4, c4, A5, c5, rfl, -⟩ := ha2
  obtain ⟨C', ⟨p', cc', a'⟩, os', i', z'⟩ := B'
  obtain ⟨ha', m0', m1', m2', m3', m4', m5'⟩ := hv'
  have ha2' := ha'
  obtain ⟨A0', c0', A1', c1', A2', c2', A3', c3', A4', c4', A5', c5', rfl, -⟩ := ha2'
  dsimp only at *
  have SZ := szBoth_any ((w.alloc (.cells #[.slice A0 C.h.l.length c0, .slice A1 C.h.r.length c1, .slice A2 C.h.t.length c2, .slice A3 C.c.length c3, .int .i64 p, .slice A4 cc.length c4, .int .i64 a, .slice A5 os.length c5, .int .i64 i, .bool z] 56)).alloc (.cells #[.slice A0' C'.h.l.length c0', .slice A1' C'.h.r.length c1', .slice A2' C'.h.t.length c2', .slice A3' C'.c.length c3', .int .i64 p', .slice A4' cc'.length c4', .int .i64 a', .slice A5' os'.length c5', .int .i64 i', .bool z'] 56)) A0 A1 A2 A3 A4 A5 C.h.l.length c0 C.h.r.length c1 C.h.t.length c2 C.c.length c3 cc.length c4 os.length c5 p a i z 1048576 (by omega) (by omega) m0 m1 m2 m3 m4 m5
  have fin0 : Below w.heap.size w ((w.alloc (.cells #[.slice A0 C.h.l.length c0, .slice A1 C.h.r.length c1, .slice A2 C.h.t.length c2, .slice A3 C.c.length c3, .int .i64 p, .slice A4 cc.length c4, .int .i64 a, .slice A5 os.length c5, .int .i64 i, .bool z] 56)).alloc (.cells #[.slice A0' C'.h.l.length c0', .slice A1' C'.h.r.length c1', .slice A2' C'.h.t.length c2', .slice A3' C'.c.length c3', .int .i64 p', .slice A4' cc'.length c4', .int .i64 a', .slice A5' os'.length c5', .int .i64 i', .bool z'] 56)) := B_al (B_al (Below.refl _ _) _) _
  by_cases hsz : ((((C.h.l.length + C.h.r.length + C.h.t.length + C.c.length) + cc.length + os.length) : Nat) : Int) ≤ 1048576
  · have hszv : szV ((C.h.l.length + C.h.r.length + C.h.t.length + C.c.length) + cc.length + os.length) 1048576 = 1048576 - ((((C.h.l.length + C.h.r.length + C.h.t.length + C.c.length) + cc.length + os.length) : Nat) : Int) := by unfold szV; rw [if_pos hsz]
    rw [hszv] at SZ
    have sh : ShortL ⟨C, ⟨p, cc, a⟩, os, i, z⟩ 1048576 := by unfold ShortL; dsimp only; omega
    have s0 : ¬ (1048576 - ((((C.h.l.length + C.h.r.length + C.h.t.length + C.c.length) + cc.length + os.length) : Nat) : Int) < 0) := by omega
    have s1 : 0 ≤ 1048576 - ((((C.h.l.length + C.h.r.length + C.h.t.length + C.c.length) + cc.length + os.length) : Nat) : Int) ∧ 1048576 - ((((C.h.l.length + C.h.r.length + C.h.t.length + C.c.length) + cc.length + os.length) : Nat) : Int) ≤ 1048576 := by omega
    generalize 1048576 - ((((C.h.l.length + C.h.r.length + C.h.t.length + C.c.length) + cc.length + os.length) : Nat) : Int) = sz at SZ s0 s1
    clear hszv hsz m0 m1 m2 m3 m4 m5
    have SZ2 := fun W => szBoth_any W A0' A1' A2' A3' A4' A5' C'.h.l.length c0' C'.h.r.length c1' C'.h.t.length c2' C'.c.length c3' cc'.length c4' os'.length c5' p' a' i' z' sz s1.1 s1.2 m0' m1' m2' m3' m4' m5'
    by_cases hsz2 : ((((C'.h.l.length + C'.h.r.length + C'.h.t.length + C'.c.length) + cc'.length + os'.length) : Nat) : Int) ≤ sz
    · have hszv : szV ((C'.h.l.length + C'.h.r.length + C'.h.t.length + C'.c.length) + cc'.length + os'.length) sz = sz - ((((C'.h.l.length + C'.h.r.length + C'.h.t.length + C'.c.length) + cc'.length + os'.length) : Nat) : Int) := by unfold szV; rw [if_pos hsz2]
      simp only [hszv] at SZ2
      have sh' : ShortL ⟨C', ⟨p', cc', a'⟩, os', i', z'⟩ 1048576 := by unfold ShortL; dsimp only; omega
      have s2 : ¬ (sz - ((((C'.h.l.length + C'.h.r.length + C'.h.t.length + C'.c.length) + cc'.length + os'.length) : Nat) : Int) < 0) := by omega
      generalize sz - ((((C'.h.l.length + C'.h.r.length + C'.h.t.length + C'.c.length) + cc'.length + os'.length) : Nat) : Int) = sz2 at SZ2 s2
      clear hszv hsz2 s1 m0' m1' m2' m3' m4' m5'
      have T := fun W (hW : BArg W w.heap.size (.agg #[.slice A0 C.h.l.length c0, .slice A1 C.h.r.length c1, .slice A2 C.h.t.length c2, .slice A3 C.c.length c3, .int .i64 p, .slice A4 cc.length c4, .int .i64 a, .slice A5 os.length c5, .int .i64 i, .bool z]) ⟨C, ⟨p, cc, a⟩, os, i, z⟩) (hB : w.heap.size ≤ W.heap.size) => toBoth_any W w.heap.size hB _ ⟨C, ⟨p, cc, a⟩, os, i, z⟩ hW sh
      have T' := fun W (hW : BArg W w.heap.size (.agg #[.slice A0' C'.h.l.length c0', .slice A1' C'.h.r.length c1', .slice A2' C'.h.t.length c2', .slice A3' C'.c.length c3', .int .i64 p', .slice A4' cc'.length c4', .int .i64 a', .slice A5' os'.length c5', .int .i64 i', .bool z']) ⟨C', ⟨p', cc', a'⟩, os', i', z'⟩) (hB : w.heap.size ≤ W.heap.size) => toBoth_any W w.heap.size hB _ ⟨C', ⟨p', cc', a'⟩, os', i', z'⟩ hW sh'
      have S := fun W lo lo' v v' hW hW' => specBothSame_any W lo lo' v v' ⟨C, ⟨p, cc, a⟩, os, i, z⟩ ⟨C', ⟨p', cc', a'⟩, os', i', z'⟩ hW hW'
      have I := fun W lo lo' v v' hW hW' => implBothSame_any W lo lo' v v' ⟨C, ⟨p, cc, a⟩, os, i, z⟩ ⟨C', ⟨p', cc', a'⟩, os', i', z'⟩ hW hW'
      generalize sameBo ⟨C, ⟨p, cc, a⟩, os, i, z⟩ ⟨C', ⟨p', cc', a'⟩, os', i', z'⟩ = r at S I
      have hne : (r != r) = false := by simp
      go_enter Try.func6, Try.ntmps6
      go_wp2_with fail
      refine SZ.mono ?_; rintro e w1 ⟨rfl, hb1⟩
      have BW1 : Below w.heap.size w w1 := B_th (B_al (B_al (Below.refl w.heap.size w) (.cells #[.slice A0 C.h.l.length c0, .slice A1 C.h.r.length c1, .slice A2 C.h.t.length c2, .slice A3 C.c.length c3, .int .i64 p, .slice A4 cc.length c4, .int .i64 a, .slice A5 os.length c5, .int .i64 i, .bool z] 56)) (.cells #[.slice A0' C'.h.l.length c0', .slice A1' C'.h.r.length c1', .slice A2' C'.h.t.length c2', .slice A3' C'.c.length c3', .int .i64 p', .slice A4' cc'.length c4', .int .i64 a', .slice A5' os'.length c5', .int .i64 i', .bool z'] 56)) hb1
      have zz1 : w.heap.size + 2 ≤ w1.heap.size := by have := hb1.size; simp at this; omega
      have AB_1 := BArg.below (by exact (BArg.alloc (BArg.alloc ha (Below.refl w.heap.size w).size (.cells #[.slice A0 C.h.l.length c0, .slice A1 C.h.r.length c1, .slice A2 C.h.t.length c2, .slice A3 C.c.length c3, .int .i64 p, .slice A4 cc.length c4, .int .i64 a, .slice A5 os.length c5, .int .i64 i, .bool z] 56)) (B_al (Below.refl w.heap.size w) (.cells #[.slice A0 C.h.l.length c0, .slice A1 C.h.r.length c1, .slice A2 C.h.t.length c2, .slice A3 C.c.length c3, .int .i64 p, .slice A4 cc.length c4, .int .i64 a, .slice A5 os.length c5, .int .i64 i, .bool z] 56)).size (.cells #[.slice A0' C'.h.l.length c0', .slice A1' C'.h.r.length c1', .slice A2' C'.h.t.length c2', .slice A3' C'.c.length c3', .int .i64 p', .slice A4' cc'.length c4', .int .i64 a', .slice A5' os'.length c5', .int .i64 i', .bool z'] 56))) (hb1.mono (B_al (B_al (Below.refl w.heap.size w) (.cells #[.slice A0 C.h.l.length c0, .slice A1 C.h.r.length c1, .slice A2 C.h.t.length c2, .slice A3 C.c.length c3, .int .i64 p, .slice A4 cc.length c4, .int .i64 a, .slice A5 os.length c5, .int .i64 i, .bool z] 56)) (.cells #[.slice A0' C'.h.l.length c0', .slice A1' C'.h.r.length c1', .slice A2' C'.h.t.length c2', .slice A3' C'.c.length c3', .int .i64 p', .slice A4' cc'.length c4', .int .i64 a', .slice A5' os'.length c5', .int .i64 i', .bool z'] 56)).size)
      have AB2_1 := BArg.below (by exact (BArg.alloc (BArg.alloc ha' (Below.refl w.heap.size w).size (.cells #[.slice A0 C.h.l.length c0, .slice A1 C.h.r.length c1, .slice A2 C.h.t.length c2, .slice A3 C.c.length c3, .int .i64 p, .slice A4 cc.length c4, .int .i64 a, .slice A5 os.length c5, .int .i64 i, .bool z] 56)) (B_al (Below.refl w.heap.size w) (.cells #[.slice A0 C.h.l.length c0, .slice A1 C.h.r.length c1, .slice A2 C.h.t.length c2, .slice A3 C.c.length c3, .int .i64 p, .slice A4 cc.length c4, .int .i64 a, .slice A5 os.length c5, .int .i64 i, .bool z] 56)).size (.cells #[.slice A0' C'.h.l.length c0', .slice A1' C'.h.r.length c1', .slice A2' C'.h.t.length c2', .slice A3' C'.c.length c3', .int .i64 p', .slice A4' cc'.length c4', .int .i64 a', .slice A5' os'.length c5', .int .i64 i', .bool z'] 56))) (hb1.mono (B_al (B_al (Below.refl w.heap.size w) (.cells #[.slice A0 C.h.l.length c0, .slice A1 C.h.r.length c1, .slice A2 C.h.t.length c2, .slice A3 C.c.length c3, .int .i64 p, .slice A4 cc.length c4, .int .i64 a, .slice A5 os.length c5, .int .i64 i, .bool z] 56)) (.cells #[.slice A0' C'.h.l.length c0', .slice A1' C'.h.r.length c1', .slice A2' C'.h.t.length c2', .slice A3' C'.c.length c3', .int .i64 p', .slice A4' cc'.length c4', .int .i64 a', .slice A5' os'.length c5', .int .i64 i', .bool z'] 56)).size)
      have P_1 := Blk10.below (by exact ((Blk10.new w (.slice A0 C.h.l.length c0) (.slice A1 C.h.r.length c1) (.slice A2 C.h.t.length c2) (.slice A3 C.c.length c3) (.int .i64 p) (.slice A4 cc.length c4) (.int .i64 a) (.slice A5 os.length c5) (.int .i64 i) (.bool z) 56).alloc (.cells #[.slice A0' C'.h.l.length c0', .slice A1' C'.h.r.length c1', .slice A2' C'.h.t.length c2', .slice A3' C'.c.length c3', .int .i64 p', .slice A4' cc'.length c4', .int .i64 a', .slice A5' os'.length c5', .int .i64 i', .bool z'] 56))) hb1
      obtain ⟨⟨cP_1_0, cP_1_1, cP_1_2, cP_1_3, cP_1_4, cP_1_5, cP_1_6, cP_1_7, cP_1_8, cP_1_9⟩, -⟩ := P_1.cells
      have lP_1 := P_1.lt
      have Q_1 := Blk10.below (by exact (Blk10.new_at (w := (w.alloc (.cells #[.slice A0 C.h.l.length c0, .slice A1 C.h.r.length c1, .slice A2 C.h.t.length c2, .slice A3 C.c.length c3, .int .i64 p, .slice A4 cc.length c4, .int .i64 a, .slice A5 os.length c5, .int .i64 i, .bool z] 56))) (b := (w.heap.size + 1)) (by simp) (.slice A0' C'.h.l.length c0') (.slice A1' C'.h.r.length c1') (.slice A2' C'.h.t.length c2') (.slice A3' C'.c.length c3') (.int .i64 p') (.slice A4' cc'.length c4') (.int .i64 a') (.slice A5' os'.length c5') (.int .i64 i') (.bool z') 56)) hb1
      obtain ⟨⟨cQ_1_0, cQ_1_1, cQ_1_2, cQ_1_3, cQ_1_4, cQ_1_5, cQ_1_6, cQ_1_7, cQ_1_8, cQ_1_9⟩, -⟩ := Q_1.cells
      have lQ_1 := Q_1.lt
      go_wp2_with fail
      refine (SZ2 _).mono ?_; rintro e w1g ⟨rfl, hb1g⟩
      have BW2 : Below w.heap.size w w1g := B_th BW1 hb1g
      have zz2 : w1.heap.size ≤ w1g.heap.size := hb1g.size
      have AB_2 := BArg.below (by exact AB_1) (hb1g.mono BW1.size)
      have AB2_2 := BArg.below (by exact AB2_1) (hb1g.mono BW1.size)
      have P_2 := Blk10.below (by exact P_1) hb1g
      obtain ⟨⟨cP_2_0, cP_2_1, cP_2_2, cP_2_3, cP_2_4, cP_2_5, cP_2_6, cP_2_7, cP_2_8, cP_2_9⟩, -⟩ := P_2.cells
      have lP_2 := P_2.lt
      have Q_2 := Blk10.below (by exact Q_1) hb1g
      obtain ⟨⟨cQ_2_0, cQ_2_1, cQ_2_2, cQ_2_3, cQ_2_4, cQ_2_5, cQ_2_6, cQ_2_7, cQ_2_8, cQ_2_9⟩, -⟩ := Q_2.cells
      have lQ_2 := Q_2.lt
      clear AB_1 AB2_1 P_1 cP_1_0 cP_1_1 cP_1_2 cP_1_3 cP_1_4 cP_1_5 cP_1_6 cP_1_7 cP_1_8 cP_1_9 lP_1 Q_1 cQ_1_0 cQ_1_1 cQ_1_2 cQ_1_3 cQ_1_4 cQ_1_5 cQ_1_6 cQ_1_7 cQ_1_8 cQ_1_9 lQ_1
      go_wp2_with fail
      have SOw3 : ∀ w' : World, Below w1g.heap.size w1g w' → w'.cell? ⟨w.heap.size, 0, none⟩ = some (.slice A0 C.h.l.length c0) ∧ w'.cell? ⟨w.heap.size, 1, none⟩ = some (.slice A1 C.h.r.length c1) ∧ w'.cell? ⟨w.heap.size, 2, none⟩ = some (.slice A2 C.h.t.length c2) ∧ w'.cell? ⟨w.heap.size, 3, none⟩ = some (.slice A3 C.c.length c3) ∧ w'.cell? ⟨w.heap.size, 4, none⟩ = some (.int .i64 p) ∧ w'.cell? ⟨w.heap.size, 5, none⟩ = some (.slice A4 cc.length c4) ∧ w'.cell? ⟨w.heap.size, 6, none⟩ = some (.int .i64 a) ∧ w'.cell? ⟨w.heap.size, 7, none⟩ = some (.slice A5 os.length c5) ∧ w'.cell? ⟨w.heap.size, 8, none⟩ = some (.int .i64 i) ∧ w'.cell? ⟨w.heap.size, 9, none⟩ = some (.bool z) ∧ w'.cell? ⟨(w.heap.size + 1), 0, none⟩ = some (.slice A0' C'.h.l.length c0') ∧ w'.cell? ⟨(w.heap.size + 1), 1, none⟩ = some (.slice A1' C'.h.r.length c1') ∧ w'.cell? ⟨(w.heap.size + 1), 2, none⟩ = some (.slice A2' C'.h.t.length c2') ∧ w'.cell? ⟨(w.heap.size + 1), 3, none⟩ = some (.slice A3' C'.c.length c3') ∧ w'.cell? ⟨(w.heap.size + 1), 4, none⟩ = some (.int .i64 p') ∧ w'.cell? ⟨(w.heap.size + 1), 5, none⟩ = some (.slice A4' cc'.length c4') ∧ w'.cell? ⟨(w.heap.size + 1), 6, none⟩ = some (.int .i64 a') ∧ w'.cell? ⟨(w.heap.size + 1), 7, none⟩ = some (.slice A5' os'.length c5') ∧ w'.cell? ⟨(w.heap.size + 1), 8, none⟩ = some (.int .i64 i') ∧ w'.cell? ⟨(w.heap.size + 1), 9, none⟩ = some (.bool z') := fun w' hb => ⟨(Blk10.below P_2 hb).cells.1.1, (Blk10.below P_2 hb).cells.1.2.1, (Blk10.below P_2 hb).cells.1.2.2.1, (Blk10.below P_2 hb).cells.1.2.2.2.1, (Blk10.below P_2 hb).cells.1.2.2.2.2.1, (Blk10.below P_2 hb).cells.1.2.2.2.2.2.1, (Blk10.below P_2 hb).cells.1.2.2.2.2.2.2.1, (Blk10.below P_2 hb).cells.1.2.2.2.2.2.2.2.1, (Blk10.below P_2 hb).cells.1.2.2.2.2.2.2.2.2.1, (Blk10.below P_2 hb).cells.1.2.2.2.2.2.2.2.2.2, (Blk10.below Q_2 hb).cells.1.1, (Blk10.below Q_2 hb).cells.1.2.1, (Blk10.below Q_2 hb).cells.1.2.2.1, (Blk10.below Q_2 hb).cells.1.2.2.2.1, (Blk10.below Q_2 hb).cells.1.2.2.2.2.1, (Blk10.below Q_2 hb).cells.1.2.2.2.2.2.1, (Blk10.below Q_2 hb).cells.1.2.2.2.2.2.2.1, (Blk10.below Q_2 hb).cells.1.2.2.2.2.2.2.2.1, (Blk10.below Q_2 hb).cells.1.2.2.2.2.2.2.2.2.1, (Blk10.below Q_2 hb).cells.1.2.2.2.2.2.2.2.2.2⟩
      have TSw3 := fun V (hV : Below w1g.heap.size w1g V) => T V (BArg.below AB_2 (hV.mono BW2.size)) (Nat.le_trans BW2.size hV.size)
      have TGw3 := fun V (hV : Below w1g.heap.size w1g V) => T' V (BArg.below AB2_2 (hV.mono BW2.size)) (Nat.le_trans BW2.size hV.size)
      go_region_held3 (fun w' => w'.cell? ⟨w.heap.size, 0, none⟩ = some (.slice A0 C.h.l.length c0) ∧ w'.cell? ⟨w.heap.size, 1, none⟩ = some (.slice A1 C.h.r.length c1) ∧ w'.cell? ⟨w.heap.size, 2, none⟩ = some (.slice A2 C.h.t.length c2) ∧ w'.cell? ⟨w.heap.size, 3, none⟩ = some (.slice A3 C.c.length c3) ∧ w'.cell? ⟨w.heap.size, 4, none⟩ = some (.int .i64 p) ∧ w'.cell? ⟨w.heap.size, 5, none⟩ = some (.slice A4 cc.length c4) ∧ w'.cell? ⟨w.heap.size, 6, none⟩ = some (.int .i64 a) ∧ w'.cell? ⟨w.heap.size, 7, none⟩ = some (.slice A5 os.length c5) ∧ w'.cell? ⟨w.heap.size, 8, none⟩ = some (.int .i64 i) ∧ w'.cell? ⟨w.heap.size, 9, none⟩ = some (.bool z) ∧ w'.cell? ⟨(w.heap.size + 1), 0, none⟩ = some (.slice A0' C'.h.l.length c0') ∧ w'.cell? ⟨(w.heap.size + 1), 1, none⟩ = some (.slice A1' C'.h.r.length c1') ∧ w'.cell? ⟨(w.heap.size + 1), 2, none⟩ = some (.slice A2' C'.h.t.length c2') ∧ w'.cell? ⟨(w.heap.size + 1), 3, none⟩ = some (.slice A3' C'.c.length c3') ∧ w'.cell? ⟨(w.heap.size + 1), 4, none⟩ = some (.int .i64 p') ∧ w'.cell? ⟨(w.heap.size + 1), 5, none⟩ = some (.slice A4' cc'.length c4') ∧ w'.cell? ⟨(w.heap.size + 1), 6, none⟩ = some (.int .i64 a') ∧ w'.cell? ⟨(w.heap.size + 1), 7, none⟩ = some (.slice A5' os'.length c5') ∧ w'.cell? ⟨(w.heap.size + 1), 8, none⟩ = some (.int .i64 i') ∧ w'.cell? ⟨(w.heap.size + 1), 9, none⟩ = some (.bool z'))
        (((try dsimp only); (refine SOw3 _ ?_); (repeat (with_reducible (first | exact Below.refl _ _ | exact hRaw3 | exact hRbw3 | exact hRcw3 | refine B_dr ?_ | refine B_al ?_ _ | refine B_set ?_ ?_ _ _)))))
        (first
          | (go_at_call 28; (with_reducible refine Calls.mono (TSw3 _ ?_) ?_); (· repeat (with_reducible (first | exact Below.refl _ _ | refine B_dr ?_ | refine B_al ?_ _ | refine B_set ?_ ?_ _ _))); rintro e aw3 ⟨vaw3, rfl, Kaw3, hbaw3⟩; (have hRaw3 : Below w1g.heap.size w1g aw3 := (by refine B_th ?_ hbaw3; repeat (with_reducible (first | exact Below.refl _ _ | refine B_dr ?_ | refine B_al ?_ _ | refine B_set ?_ ?_ _ _)))))
          | (go_at_call 28; (with_reducible refine Calls.mono (TGw3 _ hRaw3) ?_); rintro e bw3 ⟨vbw3, rfl, Kbw3, hbbw3⟩; (have hRbw3 : Below w1g.heap.size w1g bw3 := B_th hRaw3 hbbw3); (have Kcw3 := Bv.below Kaw3 hbbw3))
          | (go_at_call 29; (refine (S _ _ _ _ _ Kcw3 Kbw3).mono ?_); rintro e w3 ⟨rfl, hbcw3⟩; (have hRcw3 : Below w1g.heap.size w1g w3 := B_th hRbw3 hbcw3)))
      try (rename_i hHeld; clear hHeld)
      have BW3 : Below w.heap.size w w3 := B_th BW2 hRcw3
      have zz3 : w1g.heap.size ≤ w3.heap.size := hRcw3.size
      have AB_3 := BArg.below (by exact AB_2) (hRcw3.mono BW2.size)
      have AB2_3 := BArg.below (by exact AB2_2) (hRcw3.mono BW2.size)
      have P_3 := Blk10.below (by exact P_2) hRcw3
      obtain ⟨⟨cP_3_0, cP_3_1, cP_3_2, cP_3_3, cP_3_4, cP_3_5, cP_3_6, cP_3_7, cP_3_8, cP_3_9⟩, -⟩ := P_3.cells
      have lP_3 := P_3.lt
      have Q_3 := Blk10.below (by exact Q_2) hRcw3
      obtain ⟨⟨cQ_3_0, cQ_3_1, cQ_3_2, cQ_3_3, cQ_3_4, cQ_3_5, cQ_3_6, cQ_3_7, cQ_3_8, cQ_3_9⟩, -⟩ := Q_3.cells
      have lQ_3 := Q_3.lt
      clear AB_2 AB2_2 P_2 cP_2_0 cP_2_1 cP_2_2 cP_2_3 cP_2_4 cP_2_5 cP_2_6 cP_2_7 cP_2_8 cP_2_9 lP_2 Q_2 cQ_2_0 cQ_2_1 cQ_2_2 cQ_2_3 cQ_2_4 cQ_2_5 cQ_2_6 cQ_2_7 cQ_2_8 cQ_2_9 lQ_2
      go_wp2_with fail
      refine (T _ AB_3 BW3.size).mono ?_; rintro e w4 ⟨v4, rfl, H4, hb4⟩
      have BW4 : Below w.heap.size w w4 := B_th BW3 hb4
      have zz4 : w3.heap.size ≤ w4.heap.size := hb4.size
      have AB_4 := BArg.below (by exact AB_3) (hb4.mono BW3.size)
      have AB2_4 := BArg.below (by exact AB2_3) (hb4.mono BW3.size)
      have P_4 := Blk10.below (by exact P_3) hb4
      obtain ⟨⟨cP_4_0, cP_4_1, cP_4_2, cP_4_3, cP_4_4, cP_4_5, cP_4_6, cP_4_7, cP_4_8, cP_4_9⟩, -⟩ := P_4.cells
      have lP_4 := P_4.lt
      have Q_4 := Blk10.below (by exact Q_3) hb4
      obtain ⟨⟨cQ_4_0, cQ_4_1, cQ_4_2, cQ_4_3, cQ_4_4, cQ_4_5, cQ_4_6, cQ_4_7, cQ_4_8, cQ_4_9⟩, -⟩ := Q_4.cells
      have lQ_4 := Q_4.lt
      clear AB_3 AB2_3 P_3 cP_3_0 cP_3_1 cP_3_2 cP_3_3 cP_3_4 cP_3_5 cP_3_6 cP_3_7 cP_3_8 cP_3_9 lP_3 Q_3 cQ_3_0 cQ_3_1 cQ_3_2 cQ_3_3 cQ_3_4 cQ_3_5 cQ_3_6 cQ_3_7 cQ_3_8 cQ_3_9 lQ_3
      have H4o := H4
      obtain ⟨xA0, xn0, xk0, xA1, xn1, xk1, xA2, xn2, xk2, xA3, xn3, xk3, xA4, xn4, xk4, xA5, xn5, xk5, rfl⟩ := Bv.shape H4
      go_wp2_with fail
      refine (T' _ (BArg.alloc AB2_4 BW4.size (.cells #[.slice xA0 xn0 xk0, .slice xA1 xn1 xk1, .slice xA2 xn2 xk2, .slice xA3 xn3 xk3, .int .i64 p, .slice xA4 xn4 xk4, .int .i64 a, .slice xA5 xn5 xk5, .int .i64 i, .bool z] 34)) (B_al BW4 (.cells #[.slice xA0 xn0 xk0, .slice xA1 xn1 xk1, .slice xA2 xn2 xk2, .slice xA3 xn3 xk3, .int .i64 p, .slice xA4 xn4 xk4, .int .i64 a, .slice xA5 xn5 xk5, .int .i64 i, .bool z] 34)).size).mono ?_; rintro e w5 ⟨v5, rfl, H5, hb5⟩
      have BW5 : Below w.heap.size w w5 := B_th (B_al BW4 (.cells #[.slice xA0 xn0 xk0, .slice xA1 xn1 xk1, .slice xA2 xn2 xk2, .slice xA3 xn3 xk3, .int .i64 p, .slice xA4 xn4 xk4, .int .i64 a, .slice xA5 xn5 xk5, .int .i64 i, .bool z] 34)) hb5
      have zz5 : w4.heap.size + 1 ≤ w5.heap.size := by have := hb5.size; simp at this; omega
      have AB_5 := BArg.below (by exact (BArg.alloc AB_4 BW4.size (.cells #[.slice xA0 xn0 xk0, .slice xA1 xn1 xk1, .slice xA2 xn2 xk2, .slice xA3 xn3 xk3, .int .i64 p, .slice xA4 xn4 xk4, .int .i64 a, .slice xA5 xn5 xk5, .int .i64 i, .bool z] 34))) (hb5.mono (B_al BW4 (.cells #[.slice xA0 xn0 xk0, .slice xA1 xn1 xk1, .slice xA2 xn2 xk2, .slice xA3 xn3 xk3, .int .i64 p, .slice xA4 xn4 xk4, .int .i64 a, .slice xA5 xn5 xk5, .int .i64 i, .bool z] 34)).size)
      have AB2_5 := BArg.below (by exact (BArg.alloc AB2_4 BW4.size (.cells #[.slice xA0 xn0 xk0, .slice xA1 xn1 xk1, .slice xA2 xn2 xk2, .slice xA3 xn3 xk3, .int .i64 p, .slice xA4 xn4 xk4, .int .i64 a, .slice xA5 xn5 xk5, .int .i64 i, .bool z] 34))) (hb5.mono (B_al BW4 (.cells #[.slice xA0 xn0 xk0, .slice xA1 xn1 xk1, .slice xA2 xn2 xk2, .slice xA3 xn3 xk3, .int .i64 p, .slice xA4 xn4 xk4, .int .i64 a, .slice xA5 xn5 xk5, .int .i64 i, .bool z] 34)).size)
      have P_5 := Blk10.below (by exact (P_4.alloc (.cells #[.slice xA0 xn0 xk0, .slice xA1 xn1 xk1, .slice xA2 xn2 xk2, .slice xA3 xn3 xk3, .int .i64 p, .slice xA4 xn4 xk4, .int .i64 a, .slice xA5 xn5 xk5, .int .i64 i, .bool z] 34))) hb5
      obtain ⟨⟨cP_5_0, cP_5_1, cP_5_2, cP_5_3, cP_5_4, cP_5_5, cP_5_6, cP_5_7, cP_5_8, cP_5_9⟩, -⟩ := P_5.cells
      have lP_5 := P_5.lt
      have Q_5 := Blk10.below (by exact (Q_4.alloc (.cells #[.slice xA0 xn0 xk0, .slice xA1 xn1 xk1, .slice xA2 xn2 xk2, .slice xA3 xn3 xk3, .int .i64 p, .slice xA4 xn4 xk4, .int .i64 a, .slice xA5 xn5 xk5, .int .i64 i, .bool z] 34))) hb5
      obtain ⟨⟨cQ_5_0, cQ_5_1, cQ_5_2, cQ_5_3, cQ_5_4, cQ_5_5, cQ_5_6, cQ_5_7, cQ_5_8, cQ_5_9⟩, -⟩ := Q_5.cells
      have lQ_5 := Q_5.lt
      have H4_5 := Bv.below (by exact (H4.alloc (.cells #[.slice xA0 xn0 xk0, .slice xA1 xn1 xk1, .slice xA2 xn2 xk2, .slice xA3 xn3 xk3, .int .i64 p, .slice xA4 xn4 xk4, .int .i64 a, .slice xA5 xn5 xk5, .int .i64 i, .bool z] 34))) hb5
      have X_5 := Blk10.below (by exact (Blk10.new w4 (.slice xA0 xn0 xk0) (.slice xA1 xn1 xk1) (.slice xA2 xn2 xk2) (.slice xA3 xn3 xk3) (.int .i64 p) (.slice xA4 xn4 xk4) (.int .i64 a) (.slice xA5 xn5 xk5) (.int .i64 i) (.bool z) 34)) hb5
      obtain ⟨⟨cX_5_0, cX_5_1, cX_5_2, cX_5_3, cX_5_4, cX_5_5, cX_5_6, cX_5_7, cX_5_8, cX_5_9⟩, -⟩ := X_5.cells
      have lX_5 := X_5.lt
      replace H5 := Bv.mono H5 (lo' := w4.heap.size + 1) (by simp)
      have H5o := H5
      obtain ⟨yA0, yn0, yk0, yA1, yn1, yk1, yA2, yn2, yk2, yA3, yn3, yk3, yA4, yn4, yk4, yA5, yn5, yk5, rfl⟩ := Bv.shape H5
      go_wp2_with fail
      refine (I _ _ _ _ _ (H4_5.alloc (.cells #[.slice yA0 yn0 yk0, .slice yA1 yn1 yk1, .slice yA2 yn2 yk2, .slice yA3 yn3 yk3, .int .i64 p', .slice yA4 yn4 yk4, .int .i64 a', .slice yA5 yn5 yk5, .int .i64 i', .bool z'] 34)) (H5.alloc (.cells #[.slice yA0 yn0 yk0, .slice yA1 yn1 yk1, .slice yA2 yn2 yk2, .slice yA3 yn3 yk3, .int .i64 p', .slice yA4 yn4 yk4, .int .i64 a', .slice yA5 yn5 yk5, .int .i64 i', .bool z'] 34))).mono ?_; rintro e w6 ⟨rfl, hb6⟩
      have BW6 : Below w.heap.size w w6 := B_th (B_al BW5 (.cells #[.slice yA0 yn0 yk0, .slice yA1 yn1 yk1, .slice yA2 yn2 yk2, .slice yA3 yn3 yk3, .int .i64 p', .slice yA4 yn4 yk4, .int .i64 a', .slice yA5 yn5 yk5, .int .i64 i', .bool z'] 34)) hb6
      have zz6 : w5.heap.size + 1 ≤ w6.heap.size := by have := hb6.size; simp at this; omega
      have AB_6 := BArg.below (by exact (BArg.alloc AB_5 BW5.size (.cells #[.slice yA0 yn0 yk0, .slice yA1 yn1 yk1, .slice yA2 yn2 yk2, .slice yA3 yn3 yk3, .int .i64 p', .slice yA4 yn4 yk4, .int .i64 a', .slice yA5 yn5 yk5, .int .i64 i', .bool z'] 34))) (hb6.mono (B_al BW5 (.cells #[.slice yA0 yn0 yk0, .slice yA1 yn1 yk1, .slice yA2 yn2 yk2, .slice yA3 yn3 yk3, .int .i64 p', .slice yA4 yn4 yk4, .int .i64 a', .slice yA5 yn5 yk5, .int .i64 i', .bool z'] 34)).size)
      have AB2_6 := BArg.below (by exact (BArg.alloc AB2_5 BW5.size (.cells #[.slice yA0 yn0 yk0, .slice yA1 yn1 yk1, .slice yA2 yn2 yk2, .slice yA3 yn3 yk3, .int .i64 p', .slice yA4 yn4 yk4, .int .i64 a', .slice yA5 yn5 yk5, .int .i64 i', .bool z'] 34))) (hb6.mono (B_al BW5 (.cells #[.slice yA0 yn0 yk0, .slice yA1 yn1 yk1, .slice yA2 yn2 yk2, .slice yA3 yn3 yk3, .int .i64 p', .slice yA4 yn4 yk4, .int .i64 a', .slice yA5 yn5 yk5, .int .i64 i', .bool z'] 34)).size)
      have P_6 := Blk10.below (by exact (P_5.alloc (.cells #[.slice yA0 yn0 yk0, .slice yA1 yn1 yk1, .slice yA2 yn2 yk2, .slice yA3 yn3 yk3, .int .i64 p', .slice yA4 yn4 yk4, .int .i64 a', .slice yA5 yn5 yk5, .int .i64 i', .bool z'] 34))) hb6
      obtain ⟨⟨cP_6_0, cP_6_1, cP_6_2, cP_6_3, cP_6_4, cP_6_5, cP_6_6, cP_6_7, cP_6_8, cP_6_9⟩, -⟩ := P_6.cells
      have lP_6 := P_6.lt
      have Q_6 := Blk10.below (by exact (Q_5.alloc (.cells #[.slice yA0 yn0 yk0, .slice yA1 yn1 yk1, .slice yA2 yn2 yk2, .slice yA3 yn3 yk3, .int .i64 p', .slice yA4 yn4 yk4, .int .i64 a', .slice yA5 yn5 yk5, .int .i64 i', .bool z'] 34))) hb6
      obtain ⟨⟨cQ_6_0, cQ_6_1, cQ_6_2, cQ_6_3, cQ_6_4, cQ_6_5, cQ_6_6, cQ_6_7, cQ_6_8, cQ_6_9⟩, -⟩ := Q_6.cells
      have lQ_6 := Q_6.lt
      have H4_6 := Bv.below (by exact (H4_5.alloc (.cells #[.slice yA0 yn0 yk0, .slice yA1 yn1 yk1, .slice yA2 yn2 yk2, .slice yA3 yn3 yk3, .int .i64 p', .slice yA4 yn4 yk4, .int .i64 a', .slice yA5 yn5 yk5, .int .i64 i', .bool z'] 34))) hb6
      have X_6 := Blk10.below (by exact (X_5.alloc (.cells #[.slice yA0 yn0 yk0, .slice yA1 yn1 yk1, .slice yA2 yn2 yk2, .slice yA3 yn3 yk3, .int .i64 p', .slice yA4 yn4 yk4, .int .i64 a', .slice yA5 yn5 yk5, .int .i64 i', .bool z'] 34))) hb6
      obtain ⟨⟨cX_6_0, cX_6_1, cX_6_2, cX_6_3, cX_6_4, cX_6_5, cX_6_6, cX_6_7, cX_6_8, cX_6_9⟩, -⟩ := X_6.cells
      have lX_6 := X_6.lt
      have H5_6 := Bv.below (by exact (H5.alloc (.cells #[.slice yA0 yn0 yk0, .slice yA1 yn1 yk1, .slice yA2 yn2 yk2, .slice yA3 yn3 yk3, .int .i64 p', .slice yA4 yn4 yk4, .int .i64 a', .slice yA5 yn5 yk5, .int .i64 i', .bool z'] 34))) hb6
      have X1_6 := Blk10.below (by exact (Blk10.new w5 (.slice yA0 yn0 yk0) (.slice yA1 yn1 yk1) (.slice yA2 yn2 yk2) (.slice yA3 yn3 yk3) (.int .i64 p') (.slice yA4 yn4 yk4) (.int .i64 a') (.slice yA5 yn5 yk5) (.int .i64 i') (.bool z') 34)) hb6
      obtain ⟨⟨cX1_6_0, cX1_6_1, cX1_6_2, cX1_6_3, cX1_6_4, cX1_6_5, cX1_6_6, cX1_6_7, cX1_6_8, cX1_6_9⟩, -⟩ := X1_6.cells
      have lX1_6 := X1_6.lt
      go_wp2_with fail
      have SOw7 : ∀ w' : World, Below w6.heap.size w6 w' → w'.cell? ⟨w4.heap.size, 0, none⟩ = some (.slice xA0 xn0 xk0) ∧ w'.cell? ⟨w4.heap.size, 1, none⟩ = some (.slice xA1 xn1 xk1) ∧ w'.cell? ⟨w4.heap.size, 2, none⟩ = some (.slice xA2 xn2 xk2) ∧ w'.cell? ⟨w4.heap.size, 3, none⟩ = some (.slice xA3 xn3 xk3) ∧ w'.cell? ⟨w4.heap.size, 4, none⟩ = some (.int .i64 p) ∧ w'.cell? ⟨w4.heap.size, 5, none⟩ = some (.slice xA4 xn4 xk4) ∧ w'.cell? ⟨w4.heap.size, 6, none⟩ = some (.int .i64 a) ∧ w'.cell? ⟨w4.heap.size, 7, none⟩ = some (.slice xA5 xn5 xk5) ∧ w'.cell? ⟨w4.heap.size, 8, none⟩ = some (.int .i64 i) ∧ w'.cell? ⟨w4.heap.size, 9, none⟩ = some (.bool z) ∧ w'.cell? ⟨w.heap.size, 0, none⟩ = some (.slice A0 C.h.l.length c0) ∧ w'.cell? ⟨w.heap.size, 1, none⟩ = some (.slice A1 C.h.r.length c1) ∧ w'.cell? ⟨w.heap.size, 2, none⟩ = some (.slice A2 C.h.t.length c2) ∧ w'.cell? ⟨w.heap.size, 3, none⟩ = some (.slice A3 C.c.length c3) ∧ w'.cell? ⟨w.heap.size, 4, none⟩ = some (.int .i64 p) ∧ w'.cell? ⟨w.heap.size, 5, none⟩ = some (.slice A4 cc.length c4) ∧ w'.cell? ⟨w.heap.size, 6, none⟩ = some (.int .i64 a) ∧ w'.cell? ⟨w.heap.size, 7, none⟩ = some (.slice A5 os.length c5) ∧ w'.cell? ⟨w.heap.size, 8, none⟩ = some (.int .i64 i) ∧ w'.cell? ⟨w.heap.size, 9, none⟩ = some (.bool z) := fun w' hb => ⟨(Blk10.below X_6 hb).cells.1.1, (Blk10.below X_6 hb).cells.1.2.1, (Blk10.below X_6 hb).cells.1.2.2.1, (Blk10.below X_6 hb).cells.1.2.2.2.1, (Blk10.below X_6 hb).cells.1.2.2.2.2.1, (Blk10.below X_6 hb).cells.1.2.2.2.2.2.1, (Blk10.below X_6 hb).cells.1.2.2.2.2.2.2.1, (Blk10.below X_6 hb).cells.1.2.2.2.2.2.2.2.1, (Blk10.below X_6 hb).cells.1.2.2.2.2.2.2.2.2.1, (Blk10.below X_6 hb).cells.1.2.2.2.2.2.2.2.2.2, (Blk10.below P_6 hb).cells.1.1, (Blk10.below P_6 hb).cells.1.2.1, (Blk10.below P_6 hb).cells.1.2.2.1, (Blk10.below P_6 hb).cells.1.2.2.2.1, (Blk10.below P_6 hb).cells.1.2.2.2.2.1, (Blk10.below P_6 hb).cells.1.2.2.2.2.2.1, (Blk10.below P_6 hb).cells.1.2.2.2.2.2.2.1, (Blk10.below P_6 hb).cells.1.2.2.2.2.2.2.2.1, (Blk10.below P_6 hb).cells.1.2.2.2.2.2.2.2.2.1, (Blk10.below P_6 hb).cells.1.2.2.2.2.2.2.2.2.2⟩
      have TSw7 := fun V (hV : Below w6.heap.size w6 V) => T V (BArg.below AB_6 (hV.mono BW6.size)) (Nat.le_trans BW6.size hV.size)
      go_region_held3 (fun w' => w'.cell? ⟨w4.heap.size, 0, none⟩ = some (.slice xA0 xn0 xk0) ∧ w'.cell? ⟨w4.heap.size, 1, none⟩ = some (.slice xA1 xn1 xk1) ∧ w'.cell? ⟨w4.heap.size, 2, none⟩ = some (.slice xA2 xn2 xk2) ∧ w'.cell? ⟨w4.heap.size, 3, none⟩ = some (.slice xA3 xn3 xk3) ∧ w'.cell? ⟨w4.heap.size, 4, none⟩ = some (.int .i64 p) ∧ w'.cell? ⟨w4.heap.size, 5, none⟩ = some (.slice xA4 xn4 xk4) ∧ w'.cell? ⟨w4.heap.size, 6, none⟩ = some (.int .i64 a) ∧ w'.cell? ⟨w4.heap.size, 7, none⟩ = some (.slice xA5 xn5 xk5) ∧ w'.cell? ⟨w4.heap.size, 8, none⟩ = some (.int .i64 i) ∧ w'.cell? ⟨w4.heap.size, 9, none⟩ = some (.bool z) ∧ w'.cell? ⟨w.heap.size, 0, none⟩ = some (.slice A0 C.h.l.length c0) ∧ w'.cell? ⟨w.heap.size, 1, none⟩ = some (.slice A1 C.h.r.length c1) ∧ w'.cell? ⟨w.heap.size, 2, none⟩ = some (.slice A2 C.h.t.length c2) ∧ w'.cell? ⟨w.heap.size, 3, none⟩ = some (.slice A3 C.c.length c3) ∧ w'.cell? ⟨w.heap.size, 4, none⟩ = some (.int .i64 p) ∧ w'.cell? ⟨w.heap.size, 5, none⟩ = some (.slice A4 cc.length c4) ∧ w'.cell? ⟨w.heap.size, 6, none⟩ = some (.int .i64 a) ∧ w'.cell? ⟨w.heap.size, 7, none⟩ = some (.slice A5 os.length c5) ∧ w'.cell? ⟨w.heap.size, 8, none⟩ = some (.int .i64 i) ∧ w'.cell? ⟨w.heap.size, 9, none⟩ = some (.bool z))
        (((try dsimp only); (refine SOw7 _ ?_); (repeat (with_reducible (first | exact Below.refl _ _ | exact hRaw7 | exact hRbw7 | refine B_dr ?_ | refine B_al ?_ _ | refine B_set ?_ ?_ _ _)))))
        (first
          | (go_at_call 28; (refine Calls.mono (TSw7 _ ?_) ?_); (· repeat (with_reducible (first | exact Below.refl _ _ | refine B_dr ?_ | refine B_al ?_ _ | refine B_set ?_ ?_ _ _))); rintro e aw7 ⟨vaw7, rfl, Kaw7, hbaw7⟩; (have hRaw7 : Below w6.heap.size w6 aw7 := (by refine B_th ?_ hbaw7; repeat (with_reducible (first | exact Below.refl _ _ | refine B_dr ?_ | refine B_al ?_ _ | refine B_set ?_ ?_ _ _)))))
          | (go_at_call 19; (refine (eqBoth_same _ _ _ _ _ _ (Bv.below (by exact H4_6) hRaw7) Kaw7).mono ?_); rintro e w7 ⟨rfl, hbbw7⟩; (have hRbw7 : Below w6.heap.size w6 w7 := B_th hRaw7 hbbw7)))
      try (rename_i hHeld; clear hHeld)
      have BW7 : Below w.heap.size w w7 := B_th BW6 hRbw7
      have zz7 : w6.heap.size ≤ w7.heap.size := hRbw7.size
      have AB_7 := BArg.below (by exact AB_6) (hRbw7.mono BW6.size)
      have AB2_7 := BArg.below (by exact AB2_6) (hRbw7.mono BW6.size)
      have P_7 := Blk10.below (by exact P_6) hRbw7
      obtain ⟨⟨cP_7_0, cP_7_1, cP_7_2, cP_7_3, cP_7_4, cP_7_5, cP_7_6, cP_7_7, cP_7_8, cP_7_9⟩, -⟩ := P_7.cells
      have lP_7 := P_7.lt
      have Q_7 := Blk10.below (by exact Q_6) hRbw7
      obtain ⟨⟨cQ_7_0, cQ_7_1, cQ_7_2, cQ_7_3, cQ_7_4, cQ_7_5, cQ_7_6, cQ_7_7, cQ_7_8, cQ_7_9⟩, -⟩ := Q_7.cells
      have lQ_7 := Q_7.lt
      have H4_7 := Bv.below (by exact H4_6) hRbw7
      have X_7 := Blk10.below (by exact X_6) hRbw7
      obtain ⟨⟨cX_7_0, cX_7_1, cX_7_2, cX_7_3, cX_7_4, cX_7_5, cX_7_6, cX_7_7, cX_7_8, cX_7_9⟩, -⟩ := X_7.cells
      have lX_7 := X_7.lt
      have H5_7 := Bv.below (by exact H5_6) hRbw7
      have X1_7 := Blk10.below (by exact X1_6) hRbw7
      obtain ⟨⟨cX1_7_0, cX1_7_1, cX1_7_2, cX1_7_3, cX1_7_4, cX1_7_5, cX1_7_6, cX1_7_7, cX1_7_8, cX1_7_9⟩, -⟩ := X1_7.cells
      have lX1_7 := X1_7.lt
      clear AB_6 AB2_6 P_6 cP_6_0 cP_6_1 cP_6_2 cP_6_3 cP_6_4 cP_6_5 cP_6_6 cP_6_7 cP_6_8 cP_6_9 lP_6 Q_6 cQ_6_0 cQ_6_1 cQ_6_2 cQ_6_3 cQ_6_4 cQ_6_5 cQ_6_6 cQ_6_7 cQ_6_8 cQ_6_9 lQ_6 H4_6 X_6 cX_6_0 cX_6_1 cX_6_2 cX_6_3 cX_6_4 cX_6_5 cX_6_6 cX_6_7 cX_6_8 cX_6_9 lX_6 H5_6 X1_6 cX1_6_0 cX1_6_1 cX1_6_2 cX1_6_3 cX1_6_4 cX1_6_5 cX1_6_6 cX1_6_7 cX1_6_8 cX1_6_9 lX1_6
      go_wp2_with fail
      have SOw8 : ∀ w' : World, Below w7.heap.size w7 w' → w'.cell? ⟨w5.heap.size, 0, none⟩ = some (.slice yA0 yn0 yk0) ∧ w'.cell? ⟨w5.heap.size, 1, none⟩ = some (.slice yA1 yn1 yk1) ∧ w'.cell? ⟨w5.heap.size, 2, none⟩ = some (.slice yA2 yn2 yk2) ∧ w'.cell? ⟨w5.heap.size, 3, none⟩ = some (.slice yA3 yn3 yk3) ∧ w'.cell? ⟨w5.heap.size, 4, none⟩ = some (.int .i64 p') ∧ w'.cell? ⟨w5.heap.size, 5, none⟩ = some (.slice yA4 yn4 yk4) ∧ w'.cell? ⟨w5.heap.size, 6, none⟩ = some (.int .i64 a') ∧ w'.cell? ⟨w5.heap.size, 7, none⟩ = some (.slice yA5 yn5 yk5) ∧ w'.cell? ⟨w5.heap.size, 8, none⟩ = some (.int .i64 i') ∧ w'.cell? ⟨w5.heap.size, 9, none⟩ = some (.bool z') ∧ w'.cell? ⟨(w.heap.size + 1), 0, none⟩ = some (.slice A0' C'.h.l.length c0') ∧ w'.cell? ⟨(w.heap.size + 1), 1, none⟩ = some (.slice A1' C'.h.r.length c1') ∧ w'.cell? ⟨(w.heap.size + 1), 2, none⟩ = some (.slice A2' C'.h.t.length c2') ∧ w'.cell? ⟨(w.heap.size + 1), 3, none⟩ = some (.slice A3' C'.c.length c3') ∧ w'.cell? ⟨(w.heap.size + 1), 4, none⟩ = some (.int .i64 p') ∧ w'.cell? ⟨(w.heap.size + 1), 5, none⟩ = some (.slice A4' cc'.length c4') ∧ w'.cell? ⟨(w.heap.size + 1), 6, none⟩ = some (.int .i64 a') ∧ w'.cell? ⟨(w.heap.size + 1), 7, none⟩ = some (.slice A5' os'.length c5') ∧ w'.cell? ⟨(w.heap.size + 1), 8, none⟩ = some (.int .i64 i') ∧ w'.cell? ⟨(w.heap.size + 1), 9, none⟩ = some (.bool z') := fun w' hb => ⟨(Blk10.below X1_7 hb).cells.1.1, (Blk10.below X1_7 hb).cells.1.2.1, (Blk10.below X1_7 hb).cells.1.2.2.1, (Blk10.below X1_7 hb).cells.1.2.2.2.1, (Blk10.below X1_7 hb).cells.1.2.2.2.2.1, (Blk10.below X1_7 hb).cells.1.2.2.2.2.2.1, (Blk10.below X1_7 hb).cells.1.2.2.2.2.2.2.1, (Blk10.below X1_7 hb).cells.1.2.2.2.2.2.2.2.1, (Blk10.below X1_7 hb).cells.1.2.2.2.2.2.2.2.2.1, (Blk10.below X1_7 hb).cells.1.2.2.2.2.2.2.2.2.2, (Blk10.below Q_7 hb).cells.1.1, (Blk10.below Q_7 hb).cells.1.2.1, (Blk10.below Q_7 hb).cells.1.2.2.1, (Blk10.below Q_7 hb).cells.1.2.2.2.1, (Blk10.below Q_7 hb).cells.1.2.2.2.2.1, (Blk10.below Q_7 hb).cells.1.2.2.2.2.2.1, (Blk10.below Q_7 hb).cells.1.2.2.2.2.2.2.1, (Blk10.below Q_7 hb).cells.1.2.2.2.2.2.2.2.1, (Blk10.below Q_7 hb).cells.1.2.2.2.2.2.2.2.2.1, (Blk10.below Q_7 hb).cells.1.2.2.2.2.2.2.2.2.2⟩
      have TSw8 := fun V (hV : Below w7.heap.size w7 V) => T' V (BArg.below AB2_7 (hV.mono BW7.size)) (Nat.le_trans BW7.size hV.size)
      go_region_held3 (fun w' => w'.cell? ⟨w5.heap.size, 0, none⟩ = some (.slice yA0 yn0 yk0) ∧ w'.cell? ⟨w5.heap.size, 1, none⟩ = some (.slice yA1 yn1 yk1) ∧ w'.cell? ⟨w5.heap.size, 2, none⟩ = some (.slice yA2 yn2 yk2) ∧ w'.cell? ⟨w5.heap.size, 3, none⟩ = some (.slice yA3 yn3 yk3) ∧ w'.cell? ⟨w5.heap.size, 4, none⟩ = some (.int .i64 p') ∧ w'.cell? ⟨w5.heap.size, 5, none⟩ = some (.slice yA4 yn4 yk4) ∧ w'.cell? ⟨w5.heap.size, 6, none⟩ = some (.int .i64 a') ∧ w'.cell? ⟨w5.heap.size, 7, none⟩ = some (.slice yA5 yn5 yk5) ∧ w'.cell? ⟨w5.heap.size, 8, none⟩ = some (.int .i64 i') ∧ w'.cell? ⟨w5.heap.size, 9, none⟩ = some (.bool z') ∧ w'.cell? ⟨(w.heap.size + 1), 0, none⟩ = some (.slice A0' C'.h.l.length c0') ∧ w'.cell? ⟨(w.heap.size + 1), 1, none⟩ = some (.slice A1' C'.h.r.length c1') ∧ w'.cell? ⟨(w.heap.size + 1), 2, none⟩ = some (.slice A2' C'.h.t.length c2') ∧ w'.cell? ⟨(w.heap.size + 1), 3, none⟩ = some (.slice A3' C'.c.length c3') ∧ w'.cell? ⟨(w.heap.size + 1), 4, none⟩ = some (.int .i64 p') ∧ w'.cell? ⟨(w.heap.size + 1), 5, none⟩ = some (.slice A4' cc'.length c4') ∧ w'.cell? ⟨(w.heap.size + 1), 6, none⟩ = some (.int .i64 a') ∧ w'.cell? ⟨(w.heap.size + 1), 7, none⟩ = some (.slice A5' os'.length c5') ∧ w'.cell? ⟨(w.heap.size + 1), 8, none⟩ = some (.int .i64 i') ∧ w'.cell? ⟨(w.heap.size + 1), 9, none⟩ = some (.bool z'))
        (((try dsimp only); (refine SOw8 _ ?_); (repeat (with_reducible (first | exact Below.refl _ _ | exact hRaw8 | exact hRbw8 | refine B_dr ?_ | refine B_al ?_ _ | refine B_set ?_ ?_ _ _)))))
        (first
          | (go_at_call 28; (refine Calls.mono (TSw8 _ ?_) ?_); (· repeat (with_reducible (first | exact Below.refl _ _ | refine B_dr ?_ | refine B_al ?_ _ | refine B_set ?_ ?_ _ _))); rintro e aw8 ⟨vaw8, rfl, Kaw8, hbaw8⟩; (have hRaw8 : Below w7.heap.size w7 aw8 := (by refine B_th ?_ hbaw8; repeat (with_reducible (first | exact Below.refl _ _ | refine B_dr ?_ | refine B_al ?_ _ | refine B_set ?_ ?_ _ _)))))
          | (go_at_call 19; (refine (eqBoth_same _ _ _ _ _ _ (Bv.below (by exact H5_7) hRaw8) Kaw8).mono ?_); rintro e w8 ⟨rfl, hbbw8⟩; (have hRbw8 : Below w7.heap.size w7 w8 := B_th hRaw8 hbbw8)))
      try (rename_i hHeld; clear hHeld)
      have BW8 : Below w.heap.size w w8 := B_th BW7 hRbw8
      have zz8 : w7.heap.size ≤ w8.heap.size := hRbw8.size
      have AB_8 := BArg.below (by exact AB_7) (hRbw8.mono BW7.size)
      have AB2_8 := BArg.below (by exact AB2_7) (hRbw8.mono BW7.size)
      have P_8 := Blk10.below (by exact P_7) hRbw8
      obtain ⟨⟨cP_8_0, cP_8_1, cP_8_2, cP_8_3, cP_8_4, cP_8_5, cP_8_6, cP_8_7, cP_8_8, cP_8_9⟩, -⟩ := P_8.cells
      have lP_8 := P_8.lt
      have Q_8 := Blk10.below (by exact Q_7) hRbw8
      obtain ⟨⟨cQ_8_0, cQ_8_1, cQ_8_2, cQ_8_3, cQ_8_4, cQ_8_5, cQ_8_6, cQ_8_7, cQ_8_8, cQ_8_9⟩, -⟩ := Q_8.cells
      have lQ_8 := Q_8.lt
      have H4_8 := Bv.below (by exact H4_7) hRbw8
      have X_8 := Blk10.below (by exact X_7) hRbw8
      obtain ⟨⟨cX_8_0, cX_8_1, cX_8_2, cX_8_3, cX_8_4, cX_8_5, cX_8_6, cX_8_7, cX_8_8, cX_8_9⟩, -⟩ := X_8.cells
      have lX_8 := X_8.lt
      have H5_8 := Bv.below (by exact H5_7) hRbw8
      have X1_8 := Blk10.below (by exact X1_7) hRbw8
      obtain ⟨⟨cX1_8_0, cX1_8_1, cX1_8_2, cX1_8_3, cX1_8_4, cX1_8_5, cX1_8_6, cX1_8_7, cX1_8_8, cX1_8_9⟩, -⟩ := X1_8.cells
      have lX1_8 := X1_8.lt
      clear AB_7 AB2_7 P_7 cP_7_0 cP_7_1 cP_7_2 cP_7_3 cP_7_4 cP_7_5 cP_7_6 cP_7_7 cP_7_8 cP_7_9 lP_7 Q_7 cQ_7_0 cQ_7_1 cQ_7_2 cQ_7_3 cQ_7_4 cQ_7_5 cQ_7_6 cQ_7_7 cQ_7_8 cQ_7_9 lQ_7 H4_7 X_7 cX_7_0 cX_7_1 cX_7_2 cX_7_3 cX_7_4 cX_7_5 cX_7_6 cX_7_7 cX_7_8 cX_7_9 lX_7 H5_7 X1_7 cX1_7_0 cX1_7_1 cX1_7_2 cX1_7_3 cX1_7_4 cX1_7_5 cX1_7_6 cX1_7_7 cX1_7_8 cX1_7_9 lX1_7
      go_wp2_with fail
      go_ret
      exact ⟨rfl, BW8⟩
    · have hszv : szV ((C'.h.l.length + C'.h.r.length + C'.h.t.length + C'.c.length) + cc'.length + os'.length) sz = -1 := by unfold szV; rw [if_neg hsz2]
      simp only [hszv] at SZ2
      have X0 := Blk10.new_at (w := w.alloc (.cells #[.slice A0 C.h.l.length c0, .slice A1 C.h.r.length c1, .slice A2 C.h.t.length c2, .slice A3 C.c.length c3, .int .i64 p, .slice A4 cc.length c4, .int .i64 a, .slice A5 os.length c5, .int .i64 i, .bool z] 56)) (b := w.heap.size + 1) (by simp) (.slice A0' C'.h.l.length c0') (.slice A1' C'.h.r.length c1') (.slice A2' C'.h.t.length c2') (.slice A3' C'.c.length c3') (.int .i64 p') (.slice A4' cc'.length c4') (.int .i64 a') (.slice A5' os'.length c5') (.int .i64 i') (.bool z') 56
      clear hsz2 hszv
      go_enter Try.func6, Try.ntmps6
      go_wp2_with fail
      refine SZ.mono ?_; rintro e w1 ⟨rfl, hb1⟩
      obtain ⟨⟨x0, x1, x2, x3, x4, x5, x6, x7, x8, x9⟩, -⟩ := (Blk10.below (by exact X0) hb1).cells
      have B1 := B_th fin0 hb1
      go_wp2_with fail
      refine (SZ2 _).mono ?_; rintro e w2 ⟨rfl, hb2⟩
      go_wp2_with fail
      go_ret
      exact ⟨rfl, B_th B1 hb2⟩
  · have hszv : szV ((C.h.l.length + C.h.r.length + C.h.t.length + C.c.length) + cc.length + os.length) 1048576 = -1 := by unfold szV; rw [if_neg hsz]
    rw [hszv] at SZ
    clear hsz hszv
    go_enter Try.func6, Try.ntmps6
    go_wp2_with fail
    refine SZ.mono ?_; rintro e w1 ⟨rfl, hb1⟩
    go_wp2_with fail
    go_ret
    exact ⟨rfl, B_th fin0 hb1⟩
end Go.Proofs.Ytdifplakkepnkaa
