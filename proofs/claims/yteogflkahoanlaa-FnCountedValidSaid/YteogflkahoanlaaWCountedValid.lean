/- The law FnCountedValid, walked. -/
import Derived.Test.YteogflkahoanlaaLaws0
import Derived.Test.YteogflkahoanlaaWrgDs
import Derived.Test.YteogflkahoanlaaCVal
import Derived.Test.YteogflkahoanlaaStoA
namespace Go.Proofs.Yteogflkahoanlaa
open Go.RowKit

theorem spoil_false {D : Dp} (h : dpB D = true) {z : Int} (hz : D.n[0]? = some z) : dpB ⟨D.C, D.n.set 0 (z + 1)⟩ = false := by
  rcases e : dpB ⟨D.C, D.n.set 0 (z + 1)⟩ with _ | _
  · rfl
  · have h1 := (dpB_iff.1 e).2
    have h2 := (dpB_iff.1 h).2
    dsimp only at h1
    rw [← h2] at h1
    have h3 : (D.n.set 0 (z + 1))[0]? = some (z + 1) := by rw [List.getElem?_set_self (List.getElem?_eq_some_iff.1 hz).1]
    rw [h1, hz] at h3
    have := Option.some.inj h3
    omega
theorem dv_parts6 {w : World} {lo : Nat} {a b c d e : Value} {D : Dp} (h : Dv w lo (.agg #[a, b, c, d, e]) D) : Cv w lo (.agg #[a, b, c, d]) D.C ∧ Row w lo e D.n ∧ (∀ k, a.ownBlock = some k ∨ b.ownBlock = some k ∨ c.ownBlock = some k ∨ d.ownBlock = some k → k < w.heap.size) := by
  obtain ⟨hc, hn, _⟩ := h.cvn
  obtain ⟨q0, q1, q2, q3⟩ := hc.rowsS
  refine ⟨hc, hn, fun k e => ?_⟩
  rcases e with e | e | e | e
  · exact (q0.lt _ e).2
  · exact (q1.lt _ e).2
  · exact (q2.lt _ e).2
  · exact (q3.lt _ e).2

set_option maxRecDepth 100000 in
set_option maxHeartbeats 4000000 in
theorem lawCountedValid_walk (w : World) (A : Option Addr) (n c : Nat) (h : Inp w A n c) :
    Calls Try.prog 8 #[.slice A n c] w (LawTrue w) := by
  by_cases hbig : 1048576 < n
  · go_enter Try.func8, Try.ntmps8
    go_wp2_with fail
    go_ret
    exact ⟨rfl, Below.refl _ _⟩
  go_enter Try.func8, Try.ntmps8
  go_wp2_with fail
  refine (drawCountedValid_any _ _ _ _ h).mono ?_; rintro e w1 ⟨v, D, rfl, HA, hb1⟩
  have BW1 : Below w.heap.size w w1 := (Below.refl w.heap.size w).trans (hb1.mono (Below.refl w.heap.size w).size)
  have zz1 : w.heap.size ≤ w1.heap.size := hb1.size
  have HAo := HA
  obtain ⟨A0, n0, c0, A1, n1, c1, A2, n2, c2, A3, n3, c3, A4, n4, c4, rfl, -⟩ := HAo.open_
  clear HAo
  have V := fun W lo v hW => implCountedValid_any W lo v D hW
  have U := fun W lo v hW => specCountedValid_any W lo v D hW
  rcases hd : dpB D
  · rw [hd] at V U
    go_wp2_with fail
    refine (V _ _ _ (HA.alloc (.cells #[.slice A0 n0 c0, .slice A1 n1 c1, .slice A2 n2 c2, .slice A3 n3 c3, .slice A4 n4 c4] 29))).mono ?_; rintro e w2 ⟨rfl, hb2⟩
    have BW2 : Below w.heap.size w w2 := (BW1.alloc BW1.size (.cells #[.slice A0 n0 c0, .slice A1 n1 c1, .slice A2 n2 c2, .slice A3 n3 c3, .slice A4 n4 c4] 29)).trans (hb2.mono (BW1.alloc BW1.size (.cells #[.slice A0 n0 c0, .slice A1 n1 c1, .slice A2 n2 c2, .slice A3 n3 c3, .slice A4 n4 c4] 29)).size)
    have zz2 : w1.heap.size + 1 ≤ w2.heap.size := by have := hb2.size; simp at this; omega
    have HA_2 := Dv.below (by exact (HA.alloc (.cells #[.slice A0 n0 c0, .slice A1 n1 c1, .slice A2 n2 c2, .slice A3 n3 c3, .slice A4 n4 c4] 29))) hb2
    have X_2 := Blk5.below (by exact (Blk5.new w1 (.slice A0 n0 c0) (.slice A1 n1 c1) (.slice A2 n2 c2) (.slice A3 n3 c3) (.slice A4 n4 c4) 29)) hb2
    obtain ⟨cX_2_0, cX_2_1, cX_2_2, cX_2_3, cX_2_4, -⟩ := X_2.cells
    have lX_2 := X_2.lt
    go_wp2_with fail
    refine (U _ _ _ HA_2).mono ?_; rintro e w3 ⟨rfl, hb3⟩
    have BW3 : Below w.heap.size w w3 := BW2.trans (hb3.mono BW2.size)
    have zz3 : w2.heap.size ≤ w3.heap.size := hb3.size
    have HA_3 := Dv.below (by exact HA_2) hb3
    have X_3 := Blk5.below (by exact X_2) hb3
    obtain ⟨cX_3_0, cX_3_1, cX_3_2, cX_3_3, cX_3_4, -⟩ := X_3.cells
    have lX_3 := X_3.lt
    go_wp2_with fail
    refine (U _ _ _ HA_3).mono ?_; rintro e w4 ⟨rfl, hb4⟩
    have BW4 : Below w.heap.size w w4 := BW3.trans (hb4.mono BW3.size)
    have zz4 : w3.heap.size ≤ w4.heap.size := hb4.size
    have HA_4 := Dv.below (by exact HA_3) hb4
    have X_4 := Blk5.below (by exact X_3) hb4
    obtain ⟨cX_4_0, cX_4_1, cX_4_2, cX_4_3, cX_4_4, -⟩ := X_4.cells
    have lX_4 := X_4.lt
    go_wp2_with fail
    go_ret
    exact ⟨rfl, BW4⟩
  · rw [hd] at V U
    have hlen : 1 ≤ D.n.length := by
      have h1 := (dpB_iff.1 hd).2
      have h2 := hvB_len (stoB_parts (dpB_iff.1 hd).1).1
      rw [h1, cnts_len]; omega
    have hlen8 : D.n.length ≤ 8 := by
      have h1 := (dpB_iff.1 hd).2
      have h2 := hvB_len (stoB_parts (dpB_iff.1 hd).1).1
      rw [h1, cnts_len]; omega
    obtain ⟨z, hz⟩ : ∃ z, D.n[0]? = some z := ⟨_, List.getElem?_eq_getElem hlen⟩
    have hzb := inv_bd (dp_inv hd) hz
    have hsp := spoil_false hd hz
    have SV := fun W lo v hW => implStoreValid_any W lo v D.C hW
    rw [(dpB_iff.1 hd).1] at SV
    have VX := fun W lo v hW => implCountedValid_any W lo v ⟨D.C, D.n.set 0 (z + 1)⟩ hW
    rw [hsp] at VX
    have hz' := Lib.hid hz
    have hz1 : IntKind.i64.wrap (z + 1) = z + 1 := IntWalk.i64_in _ (by have := hzb.1; have := hzb.2.1; simp at this; omega)
    obtain ⟨i0, hi, hz0, hz1', hz2⟩ := info_parts Try.infoInt
    clear hd hz hsp hzb
    go_wp2_with fail
    refine (V _ _ _ (HA.alloc (.cells #[.slice A0 n0 c0, .slice A1 n1 c1, .slice A2 n2 c2, .slice A3 n3 c3, .slice A4 n4 c4] 29))).mono ?_; rintro e w2 ⟨rfl, hb2⟩
    have BW2 : Below w.heap.size w w2 := (BW1.alloc BW1.size (.cells #[.slice A0 n0 c0, .slice A1 n1 c1, .slice A2 n2 c2, .slice A3 n3 c3, .slice A4 n4 c4] 29)).trans (hb2.mono (BW1.alloc BW1.size (.cells #[.slice A0 n0 c0, .slice A1 n1 c1, .slice A2 n2 c2, .slice A3 n3 c3, .slice A4 n4 c4] 29)).size)
    have zz2 : w1.heap.size + 1 ≤ w2.heap.size := by have := hb2.size; simp at this; omega
    have HA_2 := Dv.below (by exact (HA.alloc (.cells #[.slice A0 n0 c0, .slice A1 n1 c1, .slice A2 n2 c2, .slice A3 n3 c3, .slice A4 n4 c4] 29))) hb2
    have X_2 := Blk5.below (by exact (Blk5.new w1 (.slice A0 n0 c0) (.slice A1 n1 c1) (.slice A2 n2 c2) (.slice A3 n3 c3) (.slice A4 n4 c4) 29)) hb2
    obtain ⟨cX_2_0, cX_2_1, cX_2_2, cX_2_3, cX_2_4, -⟩ := X_2.cells
    have lX_2 := X_2.lt
    go_wp2_with fail
    refine (U _ _ _ HA_2).mono ?_; rintro e w3 ⟨rfl, hb3⟩
    have BW3 : Below w.heap.size w w3 := BW2.trans (hb3.mono BW2.size)
    have zz3 : w2.heap.size ≤ w3.heap.size := hb3.size
    have HA_3 := Dv.below (by exact HA_2) hb3
    have X_3 := Blk5.below (by exact X_2) hb3
    obtain ⟨cX_3_0, cX_3_1, cX_3_2, cX_3_3, cX_3_4, -⟩ := X_3.cells
    have lX_3 := X_3.lt
    obtain ⟨hCv, hRn, hown⟩ := dv_parts6 HA_3
    obtain ⟨g4, rfl, _, _⟩ := hRn.at_ (k := 0) (by omega)
    have l4 := lenS hRn
    have hcap4 := hRn.cap
    have X4 := X_3.alloc (.cells #[.slice A0 n0 c0, .slice A1 n1 c1, .slice A2 n2 c2, .slice A3 n3 c3, .slice (some ⟨g4, 0, none⟩) n4 c4] 29)
    have P4 := Blk5.new w3 (.slice A0 n0 c0) (.slice A1 n1 c1) (.slice A2 n2 c2) (.slice A3 n3 c3) (.slice (some ⟨g4, 0, none⟩) n4 c4) 29
    have R4 := hRn.alloc (.cells #[.slice A0 n0 c0, .slice A1 n1 c1, .slice A2 n2 c2, .slice A3 n3 c3, .slice (some ⟨g4, 0, none⟩) n4 c4] 29)
    have C4 := hCv.alloc (.cells #[.slice A0 n0 c0, .slice A1 n1 c1, .slice A2 n2 c2, .slice A3 n3 c3, .slice (some ⟨g4, 0, none⟩) n4 c4] 29)
    have A4' := HA_3.alloc (.cells #[.slice A0 n0 c0, .slice A1 n1 c1, .slice A2 n2 c2, .slice A3 n3 c3, .slice (some ⟨g4, 0, none⟩) n4 c4] 29)
    have B4 := BW3.alloc (by have := BW3.size; omega) (.cells #[.slice A0 n0 c0, .slice A1 n1 c1, .slice A2 n2 c2, .slice A3 n3 c3, .slice (some ⟨g4, 0, none⟩) n4 c4] 29)
    have s4 : (w3.alloc (.cells #[.slice A0 n0 c0, .slice A1 n1 c1, .slice A2 n2 c2, .slice A3 n3 c3, .slice (some ⟨g4, 0, none⟩) n4 c4] 29)).heap.size = w3.heap.size + 1 := by simp
    obtain ⟨x0, x1, x2, x3, x4, -⟩ := X4.cells
    obtain ⟨p0, p1, p2, p3, p4, pf0, pf1, pf2, pf3, pf4⟩ := P4.cells
    have x5 := cellA x4 (.cells #[] 3)
    have E5' : (D.n.map iv).length = n4 * 1 := by simp; omega
    have L5 : Hid (0 + n4 = D.n.length) := by unfold Hid; omega
    have M5' : 0 + n4 ≤ maxLen := by unfold maxLen; omega
    have F5 := R4.alloc (.cells #[] 3)
    have hlx := X_3.lt
    go_wp2_with (at_builtin; refine wpList_append_grows _ rfl _ _ 23 rfl 3 i0 (.int .i64 0) 1 8 Try.underlying23 hi hz0 hz1' hz2 rfl (by decide) _ 0 0 [] rfl (fun _ => ⟨rfl, rfl⟩) rfl (fun _ _ j u hj => nil_get hj) ⟨g4, 0, none⟩ n4 _ (D.n.map iv) rfl E5' (Row.cellsV (n := n4) (c := c4) (xs := D.n) F5) (ints_oneCell _ _) (by omega) M5' (by omega) ?_)
    intro v5 w5 hown5 hgr
    have hown' : w5.ownsRow ((w3.alloc (.cells #[.slice A0 n0 c0, .slice A1 n1 c1, .slice A2 n2 c2, .slice A3 n3 c3, .slice (some ⟨g4, 0, none⟩) n4 c4] 29)).alloc (.cells #[] 3)).heap.size 3 1 v5 (0 + n4) ([] ++ D.n.map iv) := by simpa using hown5
    have h9 := after_append (W := ((w3.alloc (.cells #[.slice A0 n0 c0, .slice A1 n1 c1, .slice A2 n2 c2, .slice A3 n3 c3, .slice (some ⟨g4, 0, none⟩) n4 c4] 29)).alloc (.cells #[] 3))) (xs := D.n) hown' hgr L5.out
    obtain ⟨q5, hq5⟩ : ∃ q, D.n.length = q := ⟨_, rfl⟩
    rw [hq5] at h9
    obtain ⟨E5, c5, rfl, T, hb5⟩ := h9
    have T5 := T.mono (lo' := w3.heap.size + 1) (by simp)
    have B45 : Below (w3.alloc (.cells #[.slice A0 n0 c0, .slice A1 n1 c1, .slice A2 n2 c2, .slice A3 n3 c3, .slice (some ⟨g4, 0, none⟩) n4 c4] 29)).heap.size (w3.alloc (.cells #[.slice A0 n0 c0, .slice A1 n1 c1, .slice A2 n2 c2, .slice A3 n3 c3, .slice (some ⟨g4, 0, none⟩) n4 c4] 29)) w5 := ((Below.refl _ _).alloc (Nat.le_refl _) (.cells #[] 3)).trans (hb5.mono (by simp))
    have X5 := X4.below B45
    have P5 := P4.below B45
    have C5 := C4.below B45
    have A5 := A4'.below B45
    have B5 := B4.trans (B45.mono B4.size)
    have z5 := B45.size
    clear T hown5 hown' hgr hb5 X4 P4 R4 C4 A4' B4 F5 x0 x1 x2 x3 x4 x5 p0 p1 p2 p3 p4 pf0 pf1 pf2 pf3 pf4 E5'
    rw [s4] at z5
    obtain ⟨ge, z', rfl, hge1, hge2, hzz, hcz, hfz⟩ := T5.get (k := 0) (by omega)
    obtain rfl : z = z' := by have h8 := hzz.out; rw [hz'.out] at h8; exact Option.some.inj h8
    have hq0 : (0 : Int) < (q5 : Int) := by omega
    obtain ⟨p0, p1, p2, p3, p4, pf0, pf1, pf2, pf3, pf4⟩ := P5.cells
    have n5 : ge ≠ w3.heap.size := by omega
    have n5' : w3.heap.size ≠ ge := by omega
    have P6 := P5.set4 (.slice (some ⟨ge, 0, none⟩) q5 c5)
    have X6 := X5.other (p := ⟨w3.heap.size, 4, none⟩) (by show w1.heap.size ≠ w3.heap.size; omega) (.slice (some ⟨ge, 0, none⟩) q5 c5)
    have T6 := T5.other (a := ⟨w3.heap.size, 4, none⟩) (by simp [Value.ownBlock]; omega) (.slice (some ⟨ge, 0, none⟩) q5 c5)
    have cfar : ∀ k : Nat, w3.heap.size ≤ k → ((Value.slice A0 n0 c0).ownBlock ≠ some k ∧ (Value.slice A1 n1 c1).ownBlock ≠ some k ∧ (Value.slice A2 n2 c2).ownBlock ≠ some k ∧ (Value.slice A3 n3 c3).ownBlock ≠ some k) := fun k hk =>
      ⟨fun e => by have := hown k (.inl e); omega, fun e => by have := hown k (.inr (.inl e)); omega, fun e => by have := hown k (.inr (.inr (.inl e))); omega, fun e => by have := hown k (.inr (.inr (.inr e))); omega⟩
    have C6 := C5.set_far (p := ⟨w3.heap.size, 4, none⟩) (cfar w3.heap.size (Nat.le_refl _)) (.slice (some ⟨ge, 0, none⟩) q5 c5)
    have B6 := B5.setCell (p := ⟨w3.heap.size, 4, none⟩) (by show w.heap.size ≤ w3.heap.size; omega) (.slice (some ⟨ge, 0, none⟩) q5 c5)
    have hcz6 : (w5.setCell ⟨w3.heap.size, 4, none⟩ (.slice (some ⟨ge, 0, none⟩) q5 c5)).cell? ⟨ge, 0, none⟩ = some (.int .i64 z) := (World.cell?_setCell_far _ _ _ _ n5').trans hcz
    have hfz6 : (w5.setCell ⟨w3.heap.size, 4, none⟩ (.slice (some ⟨ge, 0, none⟩) q5 c5)).frozen? ⟨ge, 0, none⟩ = false := by
      obtain ⟨_, _, e9, _, _, _, _, h9⟩ := T6.get (k := 0) (by omega)
      cases e9; exact h9
    obtain ⟨r0, r1, r2, r3, r4, -⟩ := P6.cells
    clear P5 X5 T5 C5 A5 B5
    go_wp2_with fail
    clear p0 p1 p2 p3 p4 pf0 pf1 pf2 pf3 pf4 hcz hfz
    generalize w5.setCell ⟨w3.heap.size, 4, none⟩ (.slice (some ⟨ge, 0, none⟩) q5 c5) = W6 at P6 X6 T6 C6 B6 hcz6 hfz6 r0 r1 r2 r3 r4 ⊢
    go_region
    have P7 := (P6.other (p := ⟨ge, 0, none⟩) n5' (.int .i64 (z + 1))).drew
    have X7 := (X6.other (p := ⟨ge, 0, none⟩) (by show w1.heap.size ≠ ge; omega) (.int .i64 (z + 1))).drew
    have T7 := (T6.set_ 0 (z + 1)).drew
    have C7 := (C6.set_far (p := ⟨ge, 0, none⟩) (cfar ge (by omega)) (.int .i64 (z + 1))).drew
    have B7 := (B6.setCell (p := ⟨ge, 0, none⟩) (by show w.heap.size ≤ ge; omega) (.int .i64 (z + 1))).drew
    clear P6 X6 T6 C6 B6 hcz6 hfz6 r0 r1 r2 r3 r4
    generalize (W6.setCell ⟨ge, 0, none⟩ (.int .i64 (z + 1))).drew = W7 at P7 X7 T7 C7 B7 ⊢
    have far7 := cfar ge (by omega)
    have D7 : Dv W7 0 (.agg #[.slice A0 n0 c0, .slice A1 n1 c1, .slice A2 n2 c2, .slice A3 n3 c3, .slice (some ⟨ge, 0, none⟩) q5 c5]) ⟨D.C, D.n.set 0 (z + 1)⟩ :=
      ⟨_, _, _, _, _, rfl, C7.mono (Nat.zero_le _), T7.mono (Nat.zero_le _), fun k e e' => far7.1 (by rw [e, ← e']; rfl), fun k e e' => far7.2.1 (by rw [e, ← e']; rfl), fun k e e' => far7.2.2.1 (by rw [e, ← e']; rfl), fun k e e' => far7.2.2.2 (by rw [e, ← e']; rfl)⟩
    obtain ⟨r0, r1, r2, r3, r4, -⟩ := P7.cells
    go_wp2_with fail
    refine (VX _ _ _ D7).mono ?_; rintro e w8 ⟨rfl, hb8⟩
    obtain ⟨x0, x1, x2, x3, x4, -⟩ := (X7.below hb8).cells
    have B8 := B7.trans (hb8.mono B7.size)
    have C8 := C7.below hb8
    clear r0 r1 r2 r3 r4
    go_wp2_with fail
    refine (SV _ _ _ C8).mono ?_; rintro e w9 ⟨rfl, hb9⟩
    go_wp2_with fail
    go_ret
    exact ⟨rfl, B8.trans (hb9.mono B8.size)⟩
end Go.Proofs.Yteogflkahoanlaa
