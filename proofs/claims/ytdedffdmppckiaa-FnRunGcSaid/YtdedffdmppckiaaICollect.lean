/- CollectStore of impl. -/
import Derived.Test.YtdedffdmppckiaaIFree
import Derived.Test.YtdedffdmppckiaaSFreeG
import Derived.Test.YtdedffdmppckiaaIStos
import Derived.Test.YtdedffdmppckiaaPureKS
namespace Go.Proofs.Ytdedffdmppckiaa
open Go.RowKit

theorem blk4_setAll {w : World} {b : Nat} {x y z u : Value} {t : TypeId} (h : Blk4 w b x y z u t) (x' y' z' u' : Value) : Blk4 ((((w.setCell ⟨b, 0, none⟩ x').setCell ⟨b, 1, none⟩ y').setCell ⟨b, 2, none⟩ z').setCell ⟨b, 3, none⟩ u') b x' y' z' u' t := by
  unfold Blk4 at h ⊢; simp [World.setCell, Array.getElem?_modify, h]

set_option maxRecDepth 100000 in
set_option maxHeartbeats 4000000 in
theorem implCollect_any (w : World) (lo : Nat) (v : Value) (C : Cp) (hv : Cv w lo v C) :
    Calls Try.prog 20 #[v] w (OptCv w (collectO C)) := by
  have hvo := hv
  obtain ⟨A0, n0, c0, A1, n1, c1, A2, n2, c2, A3, n3, c3, rfl, hh, ⟨r0, r1, r2, r3⟩, ⟨l0, l1, l2, l3⟩, ⟨mm0, mm1, mm2, mm3⟩, _⟩ := hvo.open_
  have P := Blk4.new w (.slice A0 n0 c0) (.slice A1 n1 c1) (.slice A2 n2 c2) (.slice A3 n3 c3) 27
  have X := P.alloc (.cells #[.slice none 0 0, .slice none 0 0, .slice none 0 0, .slice none 0 0] 27)
  have Y := Blk4.new_at (w := w.alloc (.cells #[.slice A0 n0 c0, .slice A1 n1 c1, .slice A2 n2 c2, .slice A3 n3 c3] 27)) (b := w.heap.size + 1) (by simp) (.slice none 0 0) (.slice none 0 0) (.slice none 0 0) (.slice none 0 0) 27
  have VV := (hv.alloc (.cells #[.slice A0 n0 c0, .slice A1 n1 c1, .slice A2 n2 c2, .slice A3 n3 c3] 27)).alloc (.cells #[.slice none 0 0, .slice none 0 0, .slice none 0 0, .slice none 0 0] 27)
  have BB : Below w.heap.size w ((w.alloc (.cells #[.slice A0 n0 c0, .slice A1 n1 c1, .slice A2 n2 c2, .slice A3 n3 c3] 27)).alloc (.cells #[.slice none 0 0, .slice none 0 0, .slice none 0 0, .slice none 0 0] 27)) := ((Below.refl _ _).alloc (Nat.le_refl _) _).alloc (by simp) _
  have sz : ((w.alloc (.cells #[.slice A0 n0 c0, .slice A1 n1 c1, .slice A2 n2 c2, .slice A3 n3 c3] 27)).alloc (.cells #[.slice none 0 0, .slice none 0 0, .slice none 0 0, .slice none 0 0] 27)).heap.size = w.heap.size + 2 := by simp
  have V := implStoreValid_any _ _ _ _ VV
  clear hh r0 r1 r2 r3 P hv
  go_enter Try.func20, Try.ntmps20
  go_wp2_with fail
  generalize (w.alloc (.cells #[.slice A0 n0 c0, .slice A1 n1 c1, .slice A2 n2 c2, .slice A3 n3 c3] 27)).alloc (.cells #[.slice none 0 0, .slice none 0 0, .slice none 0 0, .slice none 0 0] 27) = W at X Y VV BB sz V ⊢
  rcases ev : stoB C
  · rw [ev] at V
    have hf : Hid (collectO C = none) := by unfold Hid collectO; rw [ev]; simp
    refine V.mono ?_; rintro e w1 ⟨rfl, hb1⟩
    obtain ⟨y0, y1, y2, y3, f0, f1, f2, f3⟩ := (Y.below hb1).cells
    obtain ⟨hZ, hB⟩ := zero_done (w := w) (b := w.heap.size + 1) (by omega) (BB.trans (hb1.mono (by omega)))
    go_wp2_with fail
    rw [hf.out]
    refine bodyPost_ret (v := .tuple #[.agg #[.slice none 0 0, .slice none 0 0, .slice none 0 0, .slice none 0 0], .bool false]) ?_ rfl ⟨_, rfl, hZ, hB⟩
    simp [results, Try.results20, go_sem, y0, y1, y2, y3]
  · rw [ev] at V
    have hf : Hid (collectO C = some (clearC C (leakL C))) := by unfold Hid collectO; rw [if_pos ev]
    have hlk : (leakL C).length ≤ 8 := by
      unfold leakL; rw [if_pos ev]
      exact Nat.le_trans (leakN_len _ _ _) (garb_len C.h)
    obtain ⟨hvh, hle, _⟩ := stoB_parts ev
    have h8 := hvB_len hvh
    have hnat : Hid (∀ x ∈ leakL C, ∃ j : Nat, x = j ∧ j < C.h.l.length) := fun x hx => leak_nat hx
    have hvk := Lib.hid (fun cs => clear_heap cs hvh : ∀ cs, hvB (clearC C cs).h = true)
    have hc0 := Lib.hid (clear_none (C := C) h8.1)
    have hcs := Lib.hid (fun a x => clear_snoc h8.1 a x : ∀ a x, clearC (clearC C a) [x] = clearC C (a ++ [x]))
    refine V.mono ?_; rintro e w1 ⟨rfl, hb1⟩
    have X1 := X.below hb1
    have Y1 := Y.below hb1
    have V1 := VV.below hb1
    have B1 := BB.trans (hb1.mono (by omega))
    have z1 : w.heap.size + 2 ≤ w1.heap.size := by have := hb1.size; omega
    have Cc := copyS_valid w1 lo _ C V1 ev
    obtain ⟨x0, x1, x2, x3, _⟩ := X1.cells
    clear V VV BB X Y hb1 ev hvh
    go_wp2_with fail
    refine Cc.mono ?_; rintro e w2 ⟨vv, rfl, hD, hb2⟩
    obtain ⟨D0, m0, d0, D1, m1, d1, D2, m2, d2, D3, m3, d3, rfl, _⟩ := hD.open_
    have z2 := hb2.size
    have X2 := (X1.below hb2).alloc (.cells #[.slice D0 m0 d0, .slice D1 m1 d1, .slice D2 m2 d2, .slice D3 m3 d3] 27)
    have Y2 := (Y1.below hb2).alloc (.cells #[.slice D0 m0 d0, .slice D1 m1 d1, .slice D2 m2 d2, .slice D3 m3 d3] 27)
    have V2 := (V1.below hb2).alloc (.cells #[.slice D0 m0 d0, .slice D1 m1 d1, .slice D2 m2 d2, .slice D3 m3 d3] 27)
    have Z2 := Blk4.new_at (w := w2) (b := w2.heap.size) rfl (.slice D0 m0 d0) (.slice D1 m1 d1) (.slice D2 m2 d2) (.slice D3 m3 d3) 27
    have H2 := hD.alloc (.cells #[.slice D0 m0 d0, .slice D1 m1 d1, .slice D2 m2 d2, .slice D3 m3 d3] 27)
    have B2 := (B1.trans (hb2.mono (by omega))).alloc (by omega) (.cells #[.slice D0 m0 d0, .slice D1 m1 d1, .slice D2 m2 d2, .slice D3 m3 d3] 27)
    have zz : (w2.alloc (.cells #[.slice D0 m0 d0, .slice D1 m1 d1, .slice D2 m2 d2, .slice D3 m3 d3] 27)).heap.size = w2.heap.size + 1 := by simp
    have L := implLeaked_any _ lo _ C V2
    obtain ⟨p0, p1, p2, p3, _⟩ := X2.cells
    rw [← hc0.out] at H2
    generalize leakL C = cs at L hlk hf hnat
    clear Cc hD hb2 X1 Y1 V1 B1 x0 x1 x2 x3 V2
    go_wp2_with fail
    refine L.mono ?_; rintro e w3 ⟨E, q, rfl, hr, hb3⟩
    have Y3 := Y2.below hb3
    have Z3 := Z2.below hb3
    have H3 := H2.below hb3
    have B3 := B2.trans (hb3.mono (by rw [zz]; omega))
    have z3 : w2.heap.size + 1 ≤ w3.heap.size := by have := hb3.size; rw [zz] at this; exact this
    have hne := Lib.hid (fun b hb => (hr.lt b hb).1 : ∀ b, (Value.slice E cs.length q).ownBlock = some b → (w2.alloc (.cells #[.slice D0 m0 d0, .slice D1 m1 d1, .slice D2 m2 d2, .slice D3 m3 d3] 27)).heap.size ≤ b)
    have hr0 := hr.mono (lo' := 0) (by omega)
    generalize hn : cs.length = nl at hr0 hlk hne ⊢
    have HN := Lib.hid hn
    clear hn hr L X2 Y2 Z2 H2 B2 hb3 p0 p1 p2 p3
    have nE : (Value.slice E nl q).ownBlock ≠ some w2.heap.size := fun e => by have := hne.out _ e; rw [zz] at this; omega
    have zh := Lib.hid zz
    clear zz
    go_wp2_with fail
    go_loopw [6, 16] (fun _ i wr => ∃ (k : Nat) (D0 : Option Addr) (m0 d0 : Nat) (D1 : Option Addr) (m1 d1 : Nat) (D2 : Option Addr) (m2 d2 : Nat) (D3 : Option Addr) (m3 d3 : Nat), k ≤ nl ∧ i = .int .i64 k ∧ Blk4 wr w2.heap.size (.slice D0 m0 d0) (.slice D1 m1 d1) (.slice D2 m2 d2) (.slice D3 m3 d3) 27 ∧ Cv wr w1.heap.size (.agg #[.slice D0 m0 d0, .slice D1 m1 d1, .slice D2 m2 d2, .slice D3 m3 d3]) (clearC C (cs.take k)) ∧ Row wr 0 (.slice E nl q) cs ∧ Blk4 wr (w.heap.size + 1) (.slice none 0 0) (.slice none 0 0) (.slice none 0 0) (.slice none 0 0) 27 ∧ Below w.heap.size w wr ∧ w2.heap.size + 1 ≤ wr.heap.size) (fun _ i _ => nl - (intOf i).toNat)
    case atStart => exact ⟨0, D0, m0, d0, D1, m1, d1, D2, m2, d2, D3, m3, d3, Nat.zero_le _, rfl, Z3, H3, hr0, Y3, B3, z3⟩
    case round =>
      clear Z3 H3 hr0 Y3 B3 z3
      obtain ⟨k, D0, m0, d0, D1, m1, d1, D2, m2, d2, D3, m3, d3, hk, rfl, Z, H, R, Y, B, zr⟩ := hrel
      obtain ⟨q0, q1, q2, q3, _⟩ := Z.cells
      by_cases hlt : k < nl
      · obtain ⟨g, y, rfl, _, _, hy, hcy, _⟩ := R.get (k := k) (by rw [HN.out]; exact hlt)
        have hkn : (k : Int) < (nl : Int) := by omega
        obtain ⟨j, rfl, hj⟩ := hnat.out y (List.mem_of_getElem? hy.out)
        have hl : (clearC C (cs.take k)).h.l.length = C.h.l.length := clrN_len _ _ _
        have hcl : (clearC C (cs.take k)).c.length ≤ 16 := by
          show (C.c ++ cs.take k).length ≤ 16
          rw [List.length_append, List.length_take]; omega
        have K := implWith_any wr _ _ _ H (hvk.out _) hcl j (by rw [hl]; exact hj)
        rw [hcs.out, ← take_next hy.out] at K
        clear hl hcl hj hy H
        generalize hC9 : clearC C (cs.take (k + 1)) = C' at K
        have HC9 := Lib.hid hC9
        clear hC9
        go_wp2_with fail
        refine K.mono ?_; rintro e w5 ⟨vv, rfl, hD5, hb5⟩
        obtain ⟨E0, u0, f0, E1, u1, f1, E2, u2, f2, E3, u3, f3, rfl, _⟩ := hD5.open_
        have Z5 := Z.below hb5
        have z5 := hb5.size
        have lB : w2.heap.size < wr.heap.size := by omega
        have nY : w.heap.size + 1 ≠ w2.heap.size := by omega
        have Z6 := blk4_setAll Z5 (.slice E0 u0 f0) (.slice E1 u1 f1) (.slice E2 u2 f2) (.slice E3 u3 f3)
        have H6 := ((((hD5.set_low (p := ⟨w2.heap.size, 0, none⟩) lB (.slice E0 u0 f0)).set_low (p := ⟨w2.heap.size, 1, none⟩) lB (.slice E1 u1 f1)).set_low (p := ⟨w2.heap.size, 2, none⟩) lB (.slice E2 u2 f2)).set_low (p := ⟨w2.heap.size, 3, none⟩) lB (.slice E3 u3 f3)).mono (lo' := w1.heap.size) (by omega)
        have R6 := ((((R.below hb5).other (a := ⟨w2.heap.size, 0, none⟩) nE (.slice E0 u0 f0)).other (a := ⟨w2.heap.size, 1, none⟩) nE (.slice E1 u1 f1)).other (a := ⟨w2.heap.size, 2, none⟩) nE (.slice E2 u2 f2)).other (a := ⟨w2.heap.size, 3, none⟩) nE (.slice E3 u3 f3)
        have Y6 := ((((Y.below hb5).other (p := ⟨w2.heap.size, 0, none⟩) nY (.slice E0 u0 f0)).other (p := ⟨w2.heap.size, 1, none⟩) nY (.slice E1 u1 f1)).other (p := ⟨w2.heap.size, 2, none⟩) nY (.slice E2 u2 f2)).other (p := ⟨w2.heap.size, 3, none⟩) nY (.slice E3 u3 f3)
        have B6 := ((((B.trans (hb5.mono B.size)).setCell (p := ⟨w2.heap.size, 0, none⟩) (by simp; omega) (.slice E0 u0 f0)).setCell (p := ⟨w2.heap.size, 1, none⟩) (by simp; omega) (.slice E1 u1 f1)).setCell (p := ⟨w2.heap.size, 2, none⟩) (by simp; omega) (.slice E2 u2 f2)).setCell (p := ⟨w2.heap.size, 3, none⟩) (by simp; omega) (.slice E3 u3 f3)
        have z6 : w2.heap.size + 1 ≤ ((((w5.setCell ⟨w2.heap.size, 0, none⟩ (.slice E0 u0 f0)).setCell ⟨w2.heap.size, 1, none⟩ (.slice E1 u1 f1)).setCell ⟨w2.heap.size, 2, none⟩ (.slice E2 u2 f2)).setCell ⟨w2.heap.size, 3, none⟩ (.slice E3 u3 f3)).heap.size := by simp [World.setCell]; omega
        obtain ⟨v0, v1, v2, v3, g0, g1, g2, g3⟩ := Z5.cells
        clear K hD5 Z R Y B q0 q1 q2 q3 hb5
        go_wp2_with fail
        go_roundw
        case rel => exact ⟨k + 1, E0, u0, f0, E1, u1, f1, E2, u2, f2, E3, u3, f3, by omega, by go_num, Z6, by rw [HC9.out]; exact H6, R6, Y6, B6, z6⟩
        case measure => simp [intOf]; omega
      · obtain rfl : k = nl := by omega
        rw [List.take_of_length_le (by rw [HN.out]; exact Nat.le_refl _)] at H
        obtain ⟨y0, y1, y2, y3, f0, f1, f2, f3⟩ := Y.cells
        have lb : w.heap.size + 1 < w1.heap.size := by omega
        have CF := ((((H.set_low (p := ⟨w.heap.size + 1, 0, none⟩) lb (.slice D0 m0 d0)).set_low (p := ⟨w.heap.size + 1, 1, none⟩) lb (.slice D1 m1 d1)).set_low (p := ⟨w.heap.size + 1, 2, none⟩) lb (.slice D2 m2 d2)).set_low (p := ⟨w.heap.size + 1, 3, none⟩) lb (.slice D3 m3 d3)).mono (lo' := w.heap.size) (by omega)
        have BF := ((((B.setCell (p := ⟨w.heap.size + 1, 0, none⟩) (by simp) (.slice D0 m0 d0)).setCell (p := ⟨w.heap.size + 1, 1, none⟩) (by simp) (.slice D1 m1 d1)).setCell (p := ⟨w.heap.size + 1, 2, none⟩) (by simp) (.slice D2 m2 d2)).setCell (p := ⟨w.heap.size + 1, 3, none⟩) (by simp) (.slice D3 m3 d3))
        go_wp2_with fail
        rw [hf.out]
        refine bodyPost_ret (v := .tuple #[.agg #[.slice D0 m0 d0, .slice D1 m1 d1, .slice D2 m2 d2, .slice D3 m3 d3], .bool true]) ?_ rfl ⟨_, rfl, CF, BF⟩
        simp [results, Try.results20, go_sem, y0, y1, y2, y3]
end Go.Proofs.Ytdedffdmppckiaa
