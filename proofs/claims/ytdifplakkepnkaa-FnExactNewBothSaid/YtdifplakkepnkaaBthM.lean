/- Stores into blocks beside a Both. -/
import Derived.Test.YtdifplakkepnkaaBth
namespace Go.Proofs.Ytdifplakkepnkaa
open Go.RowKit

/-- Four cells of another block. -/
theorem Blk10.far4 {w : World} {b c : Nat} {x0 x1 x2 x3 x4 x5 x6 x7 x8 x9 : Value} {t : TypeId} (h : Blk10 w b x0 x1 x2 x3 x4 x5 x6 x7 x8 x9 t) (hne : b ≠ c) (y0 y1 y2 y3 : Value) : Blk10 ((((w.setCell ⟨c, 0, none⟩ y0).setCell ⟨c, 1, none⟩ y1).setCell ⟨c, 2, none⟩ y2).setCell ⟨c, 3, none⟩ y3) b x0 x1 x2 x3 x4 x5 x6 x7 x8 x9 t :=
  (((h.other (p := ⟨c, 0, none⟩) hne y0).other (p := ⟨c, 1, none⟩) hne y1).other (p := ⟨c, 2, none⟩) hne y2).other (p := ⟨c, 3, none⟩) hne y3
theorem Blk10.far3 {w : World} {b c : Nat} {x0 x1 x2 x3 x4 x5 x6 x7 x8 x9 : Value} {t : TypeId} (h : Blk10 w b x0 x1 x2 x3 x4 x5 x6 x7 x8 x9 t) (hne : b ≠ c) (y0 y1 y2 : Value) : Blk10 (((w.setCell ⟨c, 4, none⟩ y0).setCell ⟨c, 5, none⟩ y1).setCell ⟨c, 6, none⟩ y2) b x0 x1 x2 x3 x4 x5 x6 x7 x8 x9 t :=
  ((h.other (p := ⟨c, 4, none⟩) hne y0).other (p := ⟨c, 5, none⟩) hne y1).other (p := ⟨c, 6, none⟩) hne y2
theorem Blk10.set03 {w : World} {b : Nat} {x0 x1 x2 x3 x4 x5 x6 x7 x8 x9 : Value} {t : TypeId} (h : Blk10 w b x0 x1 x2 x3 x4 x5 x6 x7 x8 x9 t) (y0 y1 y2 y3 : Value) : Blk10 ((((w.setCell ⟨b, 0, none⟩ y0).setCell ⟨b, 1, none⟩ y1).setCell ⟨b, 2, none⟩ y2).setCell ⟨b, 3, none⟩ y3) b y0 y1 y2 y3 x4 x5 x6 x7 x8 x9 t :=
  (((h.set0 y0).set1 y1).set2 y2).set3 y3
theorem Blk10.set46 {w : World} {b : Nat} {x0 x1 x2 x3 x4 x5 x6 x7 x8 x9 : Value} {t : TypeId} (h : Blk10 w b x0 x1 x2 x3 x4 x5 x6 x7 x8 x9 t) (y4 y5 y6 : Value) : Blk10 (((w.setCell ⟨b, 4, none⟩ y4).setCell ⟨b, 5, none⟩ y5).setCell ⟨b, 6, none⟩ y6) b x0 x1 x2 x3 y4 y5 y6 x7 x8 x9 t :=
  ((h.set4 y4).set5 y5).set6 y6
theorem below_set4b {w x : World} {lo c : Nat} (h : Below lo w x) (hc : lo ≤ c) (y0 y1 y2 y3 : Value) : Below lo w ((((x.setCell ⟨c, 0, none⟩ y0).setCell ⟨c, 1, none⟩ y1).setCell ⟨c, 2, none⟩ y2).setCell ⟨c, 3, none⟩ y3) :=
  (((h.setCell (p := ⟨c, 0, none⟩) hc y0).setCell (p := ⟨c, 1, none⟩) hc y1).setCell (p := ⟨c, 2, none⟩) hc y2).setCell (p := ⟨c, 3, none⟩) hc y3
theorem below_set3b {w x : World} {lo c : Nat} (h : Below lo w x) (hc : lo ≤ c) (y0 y1 y2 : Value) : Below lo w (((x.setCell ⟨c, 4, none⟩ y0).setCell ⟨c, 5, none⟩ y1).setCell ⟨c, 6, none⟩ y2) :=
  ((h.setCell (p := ⟨c, 4, none⟩) hc y0).setCell (p := ⟨c, 5, none⟩) hc y1).setCell (p := ⟨c, 6, none⟩) hc y2
/-- A store whose blocks are all from lo on does not see a change below. -/
theorem Cv.lowSet {w : World} {lo : Nat} {v : Value} {C : Cp} (h : Cv w lo v C) {p : Addr} (hp : p.block < lo) (u : Value) : Cv (w.setCell p u) lo v C := by
  obtain ⟨v0, v1, v2, v3, rfl, ⟨_, _, _, e', r0, r1, r2, a⟩, r3, b⟩ := h
  cases e'
  have k : ∀ (v : Value) (xs : List Int), Row w lo v xs → v.ownBlock ≠ some p.block := fun v xs r e => by have := (r.lt _ e).1; omega
  exact ⟨_, _, _, _, rfl, ⟨_, _, _, rfl, r0.other (k _ _ r0) u, r1.other (k _ _ r1) u, r2.other (k _ _ r2) u, a⟩, r3.other (k _ _ r3) u, b⟩
theorem Row.lowSet {w : World} {lo : Nat} {v : Value} {xs : List Int} (h : Row w lo v xs) {p : Addr} (hp : p.block < lo) (u : Value) : Row (w.setCell p u) lo v xs :=
  h.other (fun e => by have := (h.lt _ e).1; omega) u
theorem ORow.lowSet {w : World} {lo : Nat} {v : Value} {os : List Opv} (h : ORow w lo v os) {p : Addr} (hp : p.block < lo) (u : Value) : ORow (w.setCell p u) lo v os :=
  ownsRow_setCell_other h (fun e => by have := (ORow.lt h _ e).1; omega) u
theorem CGv.lowSet {w : World} {lo : Nat} {vs vg : Value} {C : Cp} {G : Gp} (h : CGv w lo vs vg C G) {p : Addr} (hp : p.block < lo) (u : Value) : CGv (w.setCell p u) lo vs vg C G := by
  obtain ⟨v0, v1, v2, v3, r, e, e', h, hr, a⟩ := h; exact ⟨v0, v1, v2, v3, r, e, e', h.lowSet hp u, hr.lowSet hp u, a⟩
theorem Bv.lowSet {w : World} {lo : Nat} {v : Value} {B : Bp} (h : Bv w lo v B) {p : Addr} (hp : p.block < lo) (u : Value) : Bv (w.setCell p u) lo v B := by
  obtain ⟨v0, v1, v2, v3, r, o, e, h, ho, a⟩ := h; exact ⟨v0, v1, v2, v3, r, o, e, h.lowSet hp u, ho.lowSet hp u, a⟩
theorem B10_al {W x : World} (h : Below W.heap.size W x) (o : Obj) : Below W.heap.size W (x.alloc o) := h.alloc h.size o
theorem B10_dr {W x : World} (h : Below W.heap.size W x) : Below W.heap.size W x.drew := h.drew
theorem B10_th {W x y : World} (h : Below W.heap.size W x) (k : Below x.heap.size x y) : Below W.heap.size W y := h.trans (k.mono h.size)
/-- Ten cells are stored. -/
theorem Blk10.far10 {w : World} {b c : Nat} {x0 x1 x2 x3 x4 x5 x6 x7 x8 x9 : Value} {t : TypeId} (h : Blk10 w b x0 x1 x2 x3 x4 x5 x6 x7 x8 x9 t) (hne : b ≠ c) (y0 y1 y2 y3 y4 y5 y6 y7 y8 y9 : Value) : Blk10 ((((((((((w.setCell ⟨c, 0, none⟩ y0).setCell ⟨c, 1, none⟩ y1).setCell ⟨c, 2, none⟩ y2).setCell ⟨c, 3, none⟩ y3).setCell ⟨c, 4, none⟩ y4).setCell ⟨c, 5, none⟩ y5).setCell ⟨c, 6, none⟩ y6).setCell ⟨c, 7, none⟩ y7).setCell ⟨c, 8, none⟩ y8).setCell ⟨c, 9, none⟩ y9) b x0 x1 x2 x3 x4 x5 x6 x7 x8 x9 t :=
  ((((((((((h.other (p := ⟨c, 0, none⟩) hne y0).other (p := ⟨c, 1, none⟩) hne y1).other (p := ⟨c, 2, none⟩) hne y2).other (p := ⟨c, 3, none⟩) hne y3).other (p := ⟨c, 4, none⟩) hne y4).other (p := ⟨c, 5, none⟩) hne y5).other (p := ⟨c, 6, none⟩) hne y6).other (p := ⟨c, 7, none⟩) hne y7).other (p := ⟨c, 8, none⟩) hne y8).other (p := ⟨c, 9, none⟩) hne y9)
theorem Blk10.set10 {w : World} {b : Nat} {x0 x1 x2 x3 x4 x5 x6 x7 x8 x9 : Value} {t : TypeId} (h : Blk10 w b x0 x1 x2 x3 x4 x5 x6 x7 x8 x9 t) (y0 y1 y2 y3 y4 y5 y6 y7 y8 y9 : Value) : Blk10 ((((((((((w.setCell ⟨b, 0, none⟩ y0).setCell ⟨b, 1, none⟩ y1).setCell ⟨b, 2, none⟩ y2).setCell ⟨b, 3, none⟩ y3).setCell ⟨b, 4, none⟩ y4).setCell ⟨b, 5, none⟩ y5).setCell ⟨b, 6, none⟩ y6).setCell ⟨b, 7, none⟩ y7).setCell ⟨b, 8, none⟩ y8).setCell ⟨b, 9, none⟩ y9) b y0 y1 y2 y3 y4 y5 y6 y7 y8 y9 t := by
  unfold Blk10 at h ⊢; simp [World.setCell, Array.getElem?_modify, h]
theorem Blk3.far10 {w : World} {b c : Nat} {x y z : Value} {t : TypeId} (h : Blk3 w b x y z t) (hne : b ≠ c) (y0 y1 y2 y3 y4 y5 y6 y7 y8 y9 : Value) : Blk3 ((((((((((w.setCell ⟨c, 0, none⟩ y0).setCell ⟨c, 1, none⟩ y1).setCell ⟨c, 2, none⟩ y2).setCell ⟨c, 3, none⟩ y3).setCell ⟨c, 4, none⟩ y4).setCell ⟨c, 5, none⟩ y5).setCell ⟨c, 6, none⟩ y6).setCell ⟨c, 7, none⟩ y7).setCell ⟨c, 8, none⟩ y8).setCell ⟨c, 9, none⟩ y9) b x y z t :=
  ((((((((((h.other (p := ⟨c, 0, none⟩) hne y0).other (p := ⟨c, 1, none⟩) hne y1).other (p := ⟨c, 2, none⟩) hne y2).other (p := ⟨c, 3, none⟩) hne y3).other (p := ⟨c, 4, none⟩) hne y4).other (p := ⟨c, 5, none⟩) hne y5).other (p := ⟨c, 6, none⟩) hne y6).other (p := ⟨c, 7, none⟩) hne y7).other (p := ⟨c, 8, none⟩) hne y8).other (p := ⟨c, 9, none⟩) hne y9)
theorem Blk4.far10 {w : World} {b c : Nat} {x y z u : Value} {t : TypeId} (h : Blk4 w b x y z u t) (hne : b ≠ c) (y0 y1 y2 y3 y4 y5 y6 y7 y8 y9 : Value) : Blk4 ((((((((((w.setCell ⟨c, 0, none⟩ y0).setCell ⟨c, 1, none⟩ y1).setCell ⟨c, 2, none⟩ y2).setCell ⟨c, 3, none⟩ y3).setCell ⟨c, 4, none⟩ y4).setCell ⟨c, 5, none⟩ y5).setCell ⟨c, 6, none⟩ y6).setCell ⟨c, 7, none⟩ y7).setCell ⟨c, 8, none⟩ y8).setCell ⟨c, 9, none⟩ y9) b x y z u t :=
  ((((((((((h.other (p := ⟨c, 0, none⟩) hne y0).other (p := ⟨c, 1, none⟩) hne y1).other (p := ⟨c, 2, none⟩) hne y2).other (p := ⟨c, 3, none⟩) hne y3).other (p := ⟨c, 4, none⟩) hne y4).other (p := ⟨c, 5, none⟩) hne y5).other (p := ⟨c, 6, none⟩) hne y6).other (p := ⟨c, 7, none⟩) hne y7).other (p := ⟨c, 8, none⟩) hne y8).other (p := ⟨c, 9, none⟩) hne y9)
theorem below_set10 {w x : World} {lo c : Nat} (h : Below lo w x) (hc : lo ≤ c) (y0 y1 y2 y3 y4 y5 y6 y7 y8 y9 : Value) : Below lo w ((((((((((x.setCell ⟨c, 0, none⟩ y0).setCell ⟨c, 1, none⟩ y1).setCell ⟨c, 2, none⟩ y2).setCell ⟨c, 3, none⟩ y3).setCell ⟨c, 4, none⟩ y4).setCell ⟨c, 5, none⟩ y5).setCell ⟨c, 6, none⟩ y6).setCell ⟨c, 7, none⟩ y7).setCell ⟨c, 8, none⟩ y8).setCell ⟨c, 9, none⟩ y9) :=
  ((((((((((h.setCell (p := ⟨c, 0, none⟩) hc y0).setCell (p := ⟨c, 1, none⟩) hc y1).setCell (p := ⟨c, 2, none⟩) hc y2).setCell (p := ⟨c, 3, none⟩) hc y3).setCell (p := ⟨c, 4, none⟩) hc y4).setCell (p := ⟨c, 5, none⟩) hc y5).setCell (p := ⟨c, 6, none⟩) hc y6).setCell (p := ⟨c, 7, none⟩) hc y7).setCell (p := ⟨c, 8, none⟩) hc y8).setCell (p := ⟨c, 9, none⟩) hc y9)
/-- A Both that lies above the block that is stored into. -/
theorem Bv.low10 {w : World} {lo c : Nat} {v : Value} {B : Bp} (h : Bv w lo v B) (hc : c < lo) (y0 y1 y2 y3 y4 y5 y6 y7 y8 y9 : Value) : Bv ((((((((((w.setCell ⟨c, 0, none⟩ y0).setCell ⟨c, 1, none⟩ y1).setCell ⟨c, 2, none⟩ y2).setCell ⟨c, 3, none⟩ y3).setCell ⟨c, 4, none⟩ y4).setCell ⟨c, 5, none⟩ y5).setCell ⟨c, 6, none⟩ y6).setCell ⟨c, 7, none⟩ y7).setCell ⟨c, 8, none⟩ y8).setCell ⟨c, 9, none⟩ y9) lo v B :=
  ((((((((((h.lowSet (p := ⟨c, 0, none⟩) hc y0).lowSet (p := ⟨c, 1, none⟩) hc y1).lowSet (p := ⟨c, 2, none⟩) hc y2).lowSet (p := ⟨c, 3, none⟩) hc y3).lowSet (p := ⟨c, 4, none⟩) hc y4).lowSet (p := ⟨c, 5, none⟩) hc y5).lowSet (p := ⟨c, 6, none⟩) hc y6).lowSet (p := ⟨c, 7, none⟩) hc y7).lowSet (p := ⟨c, 8, none⟩) hc y8).lowSet (p := ⟨c, 9, none⟩) hc y9)
theorem Bv.setFar {w : World} {lo : Nat} {v : Value} {B : Bp} (h : Bv w lo v B) {p : Addr} (hp : w.heap.size ≤ p.block) (u : Value) : Bv (w.setCell p u) lo v B := by
  have kk : ∀ b, b < w.heap.size → (w.setCell p u).heap[b]? = w.heap[b]? := fun b hb => Below.heap_setCell w p u b (by omega)
  exact h.below ((Below.refl w.heap.size w).setCell hp u)
/-- The result, stored in its variable b. -/
theorem both_done {w w3 : World} {lo b : Nat} {v : Value} {B : Bp} (h : Bv w3 lo v B) (hb : w.heap.size ≤ b) (hlo : b < lo) (hB : Below w.heap.size w w3) (y0 y1 y2 y3 y4 y5 y6 y7 y8 y9 : Value) :
    Bv ((((((((((w3.setCell ⟨b, 0, none⟩ y0).setCell ⟨b, 1, none⟩ y1).setCell ⟨b, 2, none⟩ y2).setCell ⟨b, 3, none⟩ y3).setCell ⟨b, 4, none⟩ y4).setCell ⟨b, 5, none⟩ y5).setCell ⟨b, 6, none⟩ y6).setCell ⟨b, 7, none⟩ y7).setCell ⟨b, 8, none⟩ y8).setCell ⟨b, 9, none⟩ y9) w.heap.size v B ∧ Below w.heap.size w ((((((((((w3.setCell ⟨b, 0, none⟩ y0).setCell ⟨b, 1, none⟩ y1).setCell ⟨b, 2, none⟩ y2).setCell ⟨b, 3, none⟩ y3).setCell ⟨b, 4, none⟩ y4).setCell ⟨b, 5, none⟩ y5).setCell ⟨b, 6, none⟩ y6).setCell ⟨b, 7, none⟩ y7).setCell ⟨b, 8, none⟩ y8).setCell ⟨b, 9, none⟩ y9) :=
  ⟨(h.low10 hlo y0 y1 y2 y3 y4 y5 y6 y7 y8 y9).mono (by omega), below_set10 hB hb y0 y1 y2 y3 y4 y5 y6 y7 y8 y9⟩
end Go.Proofs.Ytdifplakkepnkaa
