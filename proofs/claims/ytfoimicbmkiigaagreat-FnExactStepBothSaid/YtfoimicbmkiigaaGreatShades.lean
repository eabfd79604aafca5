import Derived.Test.YtfoimicbmkiigaaGreatSCols
import Derived.Deep.RegionHeld3
import Derived.Test.YtfoimicbmkiigaaGreatSCopy
import Derived.Test.YtfoimicbmkiigaaGreatHpB
/- l3Black of spec: a cell is made black, and what it points to gray, in a row of colors of its own. -/
namespace Go.Proofs.YtfoimicbmkiigaaGreat
open Go.RowKit

theorem cellO {w : World} {a p : Addr} {u v : Value} (h : w.cell? a = some u) (hne : p ≠ a) : (w.setCell p v).cell? a = some u := (World.cell?_setCell_other w p a v hne).trans h
theorem onlyB_row {w w' : World} {g lo : Nat} {v : Value} {xs : List Int} (h : Row w lo v xs) (hO : OnlyB g w w') (hne : v.ownBlock ≠ some g) : Row w' lo v xs := h.kept hO.1 (.inr hne)
theorem trans_grown {row : Option Nat} {a b c : World} (h : a.grownBy b row) (k : b.grownBy c row) : a.grownBy c row :=
  ⟨k.os.trans h.os, k.tape.trans h.tape, k.output.trans h.output, Nat.le_trans h.size k.size, fun j hj hne => (k.block j (Nat.lt_of_lt_of_le hj h.size) hne).trans (h.block j hj hne)⟩
theorem grown_setNew {row : Option Nat} {a b : World} (h : a.grownBy b row) {p : Addr} (hp : some p.block = row ∨ a.heap.size ≤ p.block) (u : Value) : a.grownBy (b.setCell p u) row :=
  ⟨h.os, h.tape, h.output, by simpa [World.setCell] using h.size, fun j hj hne => (Below.heap_setCell b p u j (fun e => by
    rcases hp with h9 | h9
    · exact hne (by rw [e]; exact h9)
    · omega)).trans (h.block j hj hne)⟩

set_option maxRecDepth 100000 in
set_option maxHeartbeats 2000000 in
theorem l3Black_any (w : World) (lo : Nat) (A0 A1 A2 : Option Addr) (n0 c0 n1 c1 n2 c2 g n3 c3 : Nat) (C : Cp) (hv : Cv w lo (.agg #[.slice A0 n0 c0, .slice A1 n1 c1, .slice A2 n2 c2, .slice (some ⟨g, 0, none⟩) n3 c3]) C) (hC : cvB C = true) (k : Nat) (hk : k < C.c.length) :
    Calls Tryz.prog 155 #[.agg #[.slice A0 n0 c0, .slice A1 n1 c1, .slice A2 n2 c2, .slice (some ⟨g, 0, none⟩) n3 c3], .int .i64 k] w fun e w' =>
      e = .returned (.agg #[.slice A0 n0 c0, .slice A1 n1 c1, .slice A2 n2 c2, .slice (some ⟨g, 0, none⟩) n3 c3]) ∧
      Cv w' lo (.agg #[.slice A0 n0 c0, .slice A1 n1 c1, .slice A2 n2 c2, .slice (some ⟨g, 0, none⟩) n3 c3]) ⟨C.h, blackC C.h C.c k⟩ ∧ w.grownBy w' (some g) := by
  obtain ⟨_, _, _, _, _, _, _, _, _, _, _, _, ev, hh, ⟨r0, r1, r2, r3⟩, ⟨l0, l1, l2, l3⟩, _, ⟨a01, a02, a12⟩, ⟨a03, a13, a23⟩⟩ := hv.open_
  cases ev
  obtain ⟨hvh, hlen, _⟩ := cvB_parts hC
  obtain ⟨⟨hrl, _⟩, pl, pr, _⟩ := hvB_parts hvh
  have lC := l3.out
  have lL := l0.out
  have lR := l1.out
  obtain ⟨g0, x, rfl, _, hg0, hx, hcx, _⟩ := r0.get (k := k) (by omega)
  obtain ⟨g1, y, rfl, _, hg1, hy, hcy, _⟩ := r1.get (k := k) (by omega)
  obtain ⟨g', z, e', hlg, hg, hz, hcz, hfz⟩ := r3.get (k := k) (by omega)
  cases e'
  have bx : -1 ≤ x ∧ x < n3 := by
    rw [List.all_eq_true] at pl; have := pl x (List.mem_of_getElem? hx.out); simp only [ptB, decide_eq_true_eq] at this; omega
  have bY : -1 ≤ y ∧ y < n3 := by
    rw [List.all_eq_true] at pr; have := pr y (List.mem_of_getElem? hy.out); simp only [ptB, decide_eq_true_eq] at this; omega
  have n03 : g0 ≠ g := fun e => a03 g0 rfl (by rw [e]; rfl)
  have n13 : g1 ≠ g := fun e => a13 g1 rfl (by rw [e]; rfl)
  have hB : Hid (blackC C.h C.c k = (shade (shade C.c x) y).set k 2) := by
    unfold Hid blackC
    rw [show C.h.l.getD k 0 = x by simp [List.getD, hx.out], show C.h.r.getD k 0 = y by simp [List.getD, hy.out]]
  have hkn : (k : Int) < (n3 : Int) := by omega
  have hkn0 : (k : Int) < (n0 : Int) := by omega
  have hkn1 : (k : Int) < (n1 : Int) := by omega
  have L1 : (shade C.c x).length = n3 := by rw [shade_len]; exact lC
  have L2 : (shade (shade C.c x) y).length = n3 := by rw [shade_len]; exact L1
  clear hx hy hz pl pr hvh hlen hC
  have P := Blk4.new w (.slice (some ⟨g0, 0, none⟩) n0 c0) (.slice (some ⟨g1, 0, none⟩) n1 c1) (.slice A2 n2 c2) (.slice (some ⟨g, 0, none⟩) n3 c3) 156
  have X := P.alloc (.cells #[.slice none 0 0, .slice none 0 0, .slice none 0 0, .slice none 0 0] 156)
  have Y := Blk4.new_at (w := w.alloc (.cells #[.slice (some ⟨g0, 0, none⟩) n0 c0, .slice (some ⟨g1, 0, none⟩) n1 c1, .slice A2 n2 c2, .slice (some ⟨g, 0, none⟩) n3 c3] 156)) (b := w.heap.size + 1) (by simp) (.slice none 0 0) (.slice none 0 0) (.slice none 0 0) (.slice none 0 0) 156
  have R3 := (r3.alloc (.cells #[.slice (some ⟨g0, 0, none⟩) n0 c0, .slice (some ⟨g1, 0, none⟩) n1 c1, .slice A2 n2 c2, .slice (some ⟨g, 0, none⟩) n3 c3] 156)).alloc (.cells #[.slice none 0 0, .slice none 0 0, .slice none 0 0, .slice none 0 0] 156)
  have HH := (hh.alloc (.cells #[.slice (some ⟨g0, 0, none⟩) n0 c0, .slice (some ⟨g1, 0, none⟩) n1 c1, .slice A2 n2 c2, .slice (some ⟨g, 0, none⟩) n3 c3] 156)).alloc (.cells #[.slice none 0 0, .slice none 0 0, .slice none 0 0, .slice none 0 0] 156)
  have hcx1 := cellA (cellA hcx (.cells #[.slice (some ⟨g0, 0, none⟩) n0 c0, .slice (some ⟨g1, 0, none⟩) n1 c1, .slice A2 n2 c2, .slice (some ⟨g, 0, none⟩) n3 c3] 156)) (.cells #[.slice none 0 0, .slice none 0 0, .slice none 0 0, .slice none 0 0] 156)
  have hcy1 := cellA (cellA hcy (.cells #[.slice (some ⟨g0, 0, none⟩) n0 c0, .slice (some ⟨g1, 0, none⟩) n1 c1, .slice A2 n2 c2, .slice (some ⟨g, 0, none⟩) n3 c3] 156)) (.cells #[.slice none 0 0, .slice none 0 0, .slice none 0 0, .slice none 0 0] 156)
  have G : w.grownBy ((w.alloc (.cells #[.slice (some ⟨g0, 0, none⟩) n0 c0, .slice (some ⟨g1, 0, none⟩) n1 c1, .slice A2 n2 c2, .slice (some ⟨g, 0, none⟩) n3 c3] 156)).alloc (.cells #[.slice none 0 0, .slice none 0 0, .slice none 0 0, .slice none 0 0] 156)) (some g) :=
    ⟨rfl, rfl, rfl, by simp; omega, fun j hj _ => (((Below.refl w.heap.size w).alloc (Nat.le_refl _) _).alloc (by simp) _).block j hj⟩
  go_enter Tryz.func155, Tryz.ntmps155
  go_wp2_with fail
  generalize hbv : w.heap.size = b at *
  generalize (w.alloc (.cells #[.slice (some ⟨g0, 0, none⟩) n0 c0, .slice (some ⟨g1, 0, none⟩) n1 c1, .slice A2 n2 c2, .slice (some ⟨g, 0, none⟩) n3 c3] 156)).alloc (.cells #[.slice none 0 0, .slice none 0 0, .slice none 0 0, .slice none 0 0] 156) = W at X Y R3 HH hcx1 hcy1 G ⊢
  have nb : b ≠ g := by omega
  have nb1 : b + 1 ≠ g := by omega
  have nb0 : b ≠ g0 := by omega
  have nb01 : b ≠ g1 := by omega
  have bx1 : -1 ≤ x := bx.1
  have bx2 : x < n3 := bx.2
  have by1 : -1 ≤ y := bY.1
  have by2 : y < n3 := bY.2
  obtain ⟨x0, x1, x2, x3, f0, f1, f2, f3⟩ := X.cells
  go_region_held3 (fun w' => w'.cell? ⟨b, 3, none⟩ = some (.slice (some ⟨g, 0, none⟩) n3 c3) ∧ w'.cell? ⟨b, 0, none⟩ = some (.slice (some ⟨g0, 0, none⟩) n0 c0) ∧ w'.cell? ⟨g0, k, none⟩ = some (.int .i64 x))
    (((try dsimp only); (repeat' apply And.intro) <;> (with_reducible (first | exact t3 | exact t0 | exact tx | exact s3 | exact s0 | exact sx | exact cellD x3 | exact cellD x0 | exact cellD hcx1 | exact x3 | exact x0 | exact hcx1))))
    ((go_at_call 129; (with_reducible refine (shade_any W.drew lo g n3 c3 _ R3.drew lC x bx1 bx2).mono ?_); rintro e w1 ⟨rfl, R1, O1⟩; (have X1 := (Blk4.kept (w := W.drew) (by exact X) O1.1 nb)); (obtain ⟨s0, s1, s2, s3, q0, q1, q2, q3⟩ := X1.cells); (have sx := O1.1.cell (cellD hcx1) (fun e => n03 (Option.some.inj e))); (have t3 := World.cell?_setCell_same w1 ⟨b, 3, none⟩ (.slice (some ⟨g, 0, none⟩) n3 c3) s3); (have t0 := cellO (v := .slice (some ⟨g, 0, none⟩) n3 c3) (p := ⟨b, 3, none⟩) s0 (by simp)); (have tx := cellO (v := .slice (some ⟨g, 0, none⟩) n3 c3) (p := ⟨b, 3, none⟩) sx (by simp))))
  rename_i hHeld1
  clear hHeld1
  have n23 : ∀ j, (Value.slice A2 n2 c2).ownBlock = some j → j ≠ g := fun j e e' => a23 j e (by rw [e']; rfl)
  have own0 : (Value.slice (some ⟨g0, 0, none⟩) n0 c0).ownBlock ≠ some g := fun e => n03 (Option.some.inj e)
  have own1 : (Value.slice (some ⟨g1, 0, none⟩) n1 c1).ownBlock ≠ some g := fun e => n13 (Option.some.inj e)
  have own2 : (Value.slice A2 n2 c2).ownBlock ≠ some g := fun e => n23 g e rfl
  have far0 : (Value.slice (some ⟨g0, 0, none⟩) n0 c0).ownBlock ≠ some b := fun e => nb0 (Option.some.inj e).symm
  have far1 : (Value.slice (some ⟨g1, 0, none⟩) n1 c1).ownBlock ≠ some b := fun e => nb01 (Option.some.inj e).symm
  have far2 : (Value.slice A2 n2 c2).ownBlock ≠ some b := fun e => by have := (r2.lt _ e).2; omega
  have far3 : (Value.slice (some ⟨g, 0, none⟩) n3 c3).ownBlock ≠ some b := fun e => nb (Option.some.inj e).symm
  have far01 : (Value.slice (some ⟨g0, 0, none⟩) n0 c0).ownBlock ≠ some (b + 1) := fun e => by have := Option.some.inj e; simp at this; omega
  have far11 : (Value.slice (some ⟨g1, 0, none⟩) n1 c1).ownBlock ≠ some (b + 1) := fun e => by have := Option.some.inj e; simp at this; omega
  have far21 : (Value.slice A2 n2 c2).ownBlock ≠ some (b + 1) := fun e => by have := (r2.lt _ e).2; omega
  have far31 : (Value.slice (some ⟨g, 0, none⟩) n3 c3).ownBlock ≠ some (b + 1) := fun e => by have := Option.some.inj e; simp at this; omega
  obtain ⟨u0, u1, u2, hu, H0, H1, H2, _⟩ := HH
  cases hu
  have G1 : w.grownBy W.drew (some g) := ⟨G.os, G.tape, G.output, G.size, G.block⟩
  have XX := X1.set3 (.slice (some ⟨g, 0, none⟩) n3 c3)
  have YY := (Blk4.kept (w := W.drew) (by exact Y) O1.1 nb1).other (p := ⟨b, 3, none⟩) (by simp) (.slice (some ⟨g, 0, none⟩) n3 c3)
  have RR := R1.other (a := ⟨b, 3, none⟩) far3 (.slice (some ⟨g, 0, none⟩) n3 c3)
  have K0 := (onlyB_row H0.drew O1 own0).other (a := ⟨b, 3, none⟩) far0 (.slice (some ⟨g, 0, none⟩) n3 c3)
  have K1 := (onlyB_row H1.drew O1 own1).other (a := ⟨b, 3, none⟩) far1 (.slice (some ⟨g, 0, none⟩) n3 c3)
  have K2 := (onlyB_row H2.drew O1 own2).other (a := ⟨b, 3, none⟩) far2 (.slice (some ⟨g, 0, none⟩) n3 c3)
  have cy := cellO (v := (.slice (some ⟨g, 0, none⟩) n3 c3)) (p := ⟨b, 3, none⟩) (O1.1.cell (cellD hcy1) (fun e => n13 (Option.some.inj e))) (by simp)
  have G2 := grown_setNew (trans_grown G1 O1.1) (p := ⟨b, 3, none⟩) (.inr (by simp; omega)) (.slice (some ⟨g, 0, none⟩) n3 c3)
  clear X X1 Y R1 R3 H0 H1 H2 G G1 O1 x0 x1 x2 x3 f0 f1 f2 f3 s0 s1 s2 s3 q0 q1 q2 q3 sx t3 t0 tx hcx1 hcy1 bx1 bx2 P
  generalize w1.setCell ⟨b, 3, none⟩ (.slice (some ⟨g, 0, none⟩) n3 c3) = W2 at *
  obtain ⟨x0, x1, x2, x3, f0, f1, f2, f3⟩ := XX.cells
  go_wp2_with fail
  go_region_held3 (fun w' => w'.cell? ⟨b, 3, none⟩ = some (.slice (some ⟨g, 0, none⟩) n3 c3) ∧ w'.cell? ⟨b, 1, none⟩ = some (.slice (some ⟨g1, 0, none⟩) n1 c1) ∧ w'.cell? ⟨g1, k, none⟩ = some (.int .i64 y))
    (((try dsimp only); (repeat' apply And.intro) <;> (with_reducible (first | exact t3 | exact t1 | exact ty | exact s3 | exact s1 | exact sy | exact cellD x3 | exact cellD x1 | exact cellD cy | exact x3 | exact x1 | exact cy))))
    ((go_at_call 129; (with_reducible refine (shade_any W2.drew lo g n3 c3 _ RR.drew L1 y by1 by2).mono ?_); rintro e w3 ⟨rfl, R2, O2⟩; (have X2 := (Blk4.kept (w := W2.drew) (by exact XX) O2.1 nb)); (obtain ⟨s0, s1, s2, s3, q0, q1, q2, q3⟩ := X2.cells); (have sy := O2.1.cell (cellD cy) (fun e => n13 (Option.some.inj e))); (have t3 := World.cell?_setCell_same w3 ⟨b, 3, none⟩ (.slice (some ⟨g, 0, none⟩) n3 c3) s3); (have t1 := cellO (v := (.slice (some ⟨g, 0, none⟩) n3 c3)) (p := ⟨b, 3, none⟩) s1 (by simp)); (have ty := cellO (v := (.slice (some ⟨g, 0, none⟩) n3 c3)) (p := ⟨b, 3, none⟩) sy (by simp))))
  rename_i hHeld2
  clear hHeld2
  have G3 : w.grownBy W2.drew (some g) := ⟨G2.os, G2.tape, G2.output, G2.size, G2.block⟩
  have XX3 := X2.set3 (.slice (some ⟨g, 0, none⟩) n3 c3)
  have YY3 := (Blk4.kept (w := W2.drew) (by exact YY) O2.1 nb1).other (p := ⟨b, 3, none⟩) (by simp) (.slice (some ⟨g, 0, none⟩) n3 c3)
  have RR3 := R2.other (a := ⟨b, 3, none⟩) far3 (.slice (some ⟨g, 0, none⟩) n3 c3)
  have J0 := (onlyB_row K0.drew O2 own0).other (a := ⟨b, 3, none⟩) far0 (.slice (some ⟨g, 0, none⟩) n3 c3)
  have J1 := (onlyB_row K1.drew O2 own1).other (a := ⟨b, 3, none⟩) far1 (.slice (some ⟨g, 0, none⟩) n3 c3)
  have J2 := (onlyB_row K2.drew O2 own2).other (a := ⟨b, 3, none⟩) far2 (.slice (some ⟨g, 0, none⟩) n3 c3)
  have G4 := grown_setNew (trans_grown G3 O2.1) (p := ⟨b, 3, none⟩) (.inr (by simp; omega)) (.slice (some ⟨g, 0, none⟩) n3 c3)
  clear XX X2 YY R2 RR K0 K1 K2 G2 G3 O2 x0 x1 x2 x3 f0 f1 f2 f3 s0 s1 s2 s3 q0 q1 q2 q3 sy t3 t1 ty cy by1 by2
  generalize w3.setCell ⟨b, 3, none⟩ (.slice (some ⟨g, 0, none⟩) n3 c3) = W3 at *
  obtain ⟨_, zz, e', _, _, _, hcz3, hfz3⟩ := RR3.get (k := k) (by omega)
  cases e'
  have XX4 := XX3.other (p := ⟨g, k, none⟩) (by simpa using nb) (.int .i64 2)
  have YY4 := YY3.other (p := ⟨g, k, none⟩) (by simpa using nb1) (.int .i64 2)
  have RR4 := RR3.set_ k 2
  have I0 := J0.other (a := ⟨g, k, none⟩) own0 (.int .i64 2)
  have I1 := J1.other (a := ⟨g, k, none⟩) own1 (.int .i64 2)
  have I2 := J2.other (a := ⟨g, k, none⟩) own2 (.int .i64 2)
  have G5 := grown_setNew G4 (p := ⟨g, k, none⟩) (.inl rfl) (.int .i64 2)
  obtain ⟨x0, x1, x2, x3, _⟩ := XX3.cells
  obtain ⟨z0, z1, z2, z3, _⟩ := XX4.cells
  obtain ⟨y0, y1, y2, y3, h0, h1, h2, h3⟩ := YY4.cells
  have fin : ∀ (v : Value) (xs : List Int) (W : World), v.ownBlock ≠ some (b + 1) → Row W lo v xs → Row ((((W.setCell ⟨b + 1, 0, none⟩ (.slice (some ⟨g0, 0, none⟩) n0 c0)).setCell ⟨b + 1, 1, none⟩ (.slice (some ⟨g1, 0, none⟩) n1 c1)).setCell ⟨b + 1, 2, none⟩ (.slice A2 n2 c2)).setCell ⟨b + 1, 3, none⟩ (.slice (some ⟨g, 0, none⟩) n3 c3)) lo v xs :=
    fun v xs W hne r => (((r.other (a := ⟨b + 1, 0, none⟩) hne _).other (a := ⟨b + 1, 1, none⟩) hne _).other (a := ⟨b + 1, 2, none⟩) hne _).other (a := ⟨b + 1, 3, none⟩) hne _
  have F0 := fin _ _ _ far01 I0
  have F1 := fin _ _ _ far11 I1
  have F2 := fin _ _ _ far21 I2
  have F3 := fin _ _ _ far31 RR4
  have G6 := grown_setNew (grown_setNew (grown_setNew (grown_setNew G5 (p := ⟨b + 1, 0, none⟩) (.inr (by simp; omega)) (.slice (some ⟨g0, 0, none⟩) n0 c0)) (p := ⟨b + 1, 1, none⟩) (.inr (by simp; omega)) (.slice (some ⟨g1, 0, none⟩) n1 c1)) (p := ⟨b + 1, 2, none⟩) (.inr (by simp; omega)) (.slice A2 n2 c2)) (p := ⟨b + 1, 3, none⟩) (.inr (by simp; omega)) (.slice (some ⟨g, 0, none⟩) n3 c3)
  rw [← hB.out] at F3
  clear XX3 YY3 RR3 XX4 YY4 RR4 I0 I1 I2 J0 J1 J2 G4 G5 fin
  go_wp2_with fail
  refine bodyPost_ret (v := .agg #[.slice (some ⟨g0, 0, none⟩) n0 c0, .slice (some ⟨g1, 0, none⟩) n1 c1, .slice A2 n2 c2, .slice (some ⟨g, 0, none⟩) n3 c3]) ?_ rfl ⟨rfl, ⟨_, _, _, _, rfl, ⟨_, _, _, rfl, F0, F1, F2, a01, a02, a12⟩, F3, a03, a13, a23⟩, G6⟩
  simp [results, Tryz.results155, go_sem, y0, y1, y2, y3]
end Go.Proofs.YtfoimicbmkiigaaGreat

/- ShadeCell of spec. -/
namespace Go.Proofs.YtfoimicbmkiigaaGreat
open Go.RowKit

def OptCv (w : World) (o : Option Cp) (e : Ending) (w' : World) : Prop := ∃ v, e = .returned (.tuple #[v, .bool o.isSome]) ∧ Cv w' w.heap.size v (o.getD Cp.zero) ∧ Below w.heap.size w w'
def shadeO (C : Cp) (k : Int) : Option Cp := if cvB C = true ∧ plB k C.h.l.length = true then some ⟨C.h, shade C.c k⟩ else none

theorem Row.nown {w : World} {lo b : Nat} {v : Value} {xs : List Int} (h : Row w lo v xs) (hb : w.heap.size ≤ b) : v.ownBlock ≠ some b := fun e => by have := (h.lt b e).2; omega
theorem below_only {g B : Nat} {w w' : World} (h : OnlyB g w w') (hB : B ≤ g) (hs : B ≤ w.heap.size) : Below B w w' :=
  ⟨h.1.os, h.1.tape, h.1.output, h.1.size, fun k hk => h.1.block k (by omega) (fun e => by cases e; omega)⟩
/-- The zero value is laid into the result's block. -/
theorem zero_done {w w1 : World} {b : Nat} (hb : w.heap.size ≤ b) (hB : Below w.heap.size w w1) :
    Cv ((((w1.setCell ⟨b, 0, none⟩ (.slice none 0 0)).setCell ⟨b, 1, none⟩ (.slice none 0 0)).setCell ⟨b, 2, none⟩ (.slice none 0 0)).setCell ⟨b, 3, none⟩ (.slice none 0 0)) w.heap.size (.agg #[.slice none 0 0, .slice none 0 0, .slice none 0 0, .slice none 0 0]) Cp.zero ∧
    Below w.heap.size w ((((w1.setCell ⟨b, 0, none⟩ (.slice none 0 0)).setCell ⟨b, 1, none⟩ (.slice none 0 0)).setCell ⟨b, 2, none⟩ (.slice none 0 0)).setCell ⟨b, 3, none⟩ (.slice none 0 0)) :=
  ⟨Cv.zero _ _, (((hB.setCell hb _).setCell hb _).setCell hb _).setCell hb _⟩

end Go.Proofs.YtfoimicbmkiigaaGreat

