/- Heaps that are copied: impl.copyOfHeap, spec.l1Copy. -/
import Derived.Test.YtmngkjcdaaladaaHeap
import Derived.Deep.AppendLies
import Derived.Deep.RegionLaw
namespace Go.Proofs.Ytmngkjcdaaladaa
open Go.RowKit

/-- A new heap comes back, and nothing that was there has turned. -/
def NewHv (w : World) (h : Hp) (e : Ending) (w' : World) : Prop := ∃ v, e = .returned v ∧ Hv w' w.heap.size v h ∧ Below w.heap.size w w'

theorem apart_new {w w' : World} {lo : Nat} {v v' : Value} {xs xs' : List Int} (h : Row w lo v xs) (h' : Row w' w.heap.size v' xs') : Apart v v' := fun b hb hb' => by
  have := (h.lt b hb).2; have := (h'.lt b hb').1; omega
theorem bcell {W w1 : World} (hb : Below W.heap.size W w1) : (∀ b o, b < W.heap.size → w1.cell? ⟨b, o, none⟩ = W.cell? ⟨b, o, none⟩) ∧ (∀ b o, b < W.heap.size → w1.frozen? ⟨b, o, none⟩ = W.frozen? ⟨b, o, none⟩) :=
  ⟨fun b o h => hb.cell (p := ⟨b, o, none⟩) h, fun b o h => hb.frozen (p := ⟨b, o, none⟩) h⟩
theorem Apart.symm {u v : Value} (h : Apart u v) : Apart v u := fun b hb hb' => h b hb' hb

set_option maxRecDepth 100000 in
set_option maxHeartbeats 1600000 in
theorem copyOfHeap_any (w : World) (lo : Nat) (v : Value) (h : Hp) (hv : Hv w lo v h) (b0 : h.l.length ≤ 1048576) (b1 : h.r.length ≤ 1048576) (b2 : h.t.length ≤ 1048576) :
    Calls Try.prog 61 #[v] w (NewHv w h) := by
  obtain ⟨A0, n0, c0, A1, n1, c1, A2, n2, c2, rfl, ⟨h0, h1, h2⟩, ⟨l0, l1, l2⟩, ⟨m0, m1, m2⟩, _⟩ := hv.open_
  have C0 := fun W p => copyOfInts_any W lo A0 n0 c0 h.l p l0.out (by have := l0.out; omega)
  have C1 := fun W p => copyOfInts_any W lo A1 n1 c1 h.r p l1.out (by have := l1.out; omega)
  have C2 := fun W p => copyOfInts_any W lo A2 n2 c2 h.t p l2.out (by have := l2.out; omega)
  obtain ⟨W, hW⟩ : ∃ W : World, Hid (W = w) := ⟨_, rfl⟩
  have X0 := (Blk3.new w (.slice A0 n0 c0) (.slice A1 n1 c1) (.slice A2 n2 c2) 25).alloc (.cells #[.slice none 0 0, .slice none 0 0, .slice none 0 0] 25)
  obtain ⟨p00, p01, p02, _⟩ := X0.cells
  have Y0 := Blk3.new_at (w := w.alloc (.cells #[.slice A0 n0 c0, .slice A1 n1 c1, .slice A2 n2 c2] 25)) (b := w.heap.size + 1) (by simp) (.slice none 0 0) (.slice none 0 0) (.slice none 0 0) 25
  go_enter Try.func61, Try.ntmps61
  go_wp2_with fail
  go_region_held3 (fun w' => w'.cell? ⟨w.heap.size, 0, none⟩ = some (.slice A0 n0 c0) ∧ w'.cell? ⟨w.heap.size, 1, none⟩ = some (.slice A1 n1 c1) ∧ w'.cell? ⟨w.heap.size, 2, none⟩ = some (.slice A2 n2 c2))
    (((try dsimp only); (repeat' apply And.intro) <;> (first | exact p30 | exact p31 | exact p32 | exact p20 | exact p21 | exact p22 | exact p10 | exact p11 | exact p12 | exact p00 | exact p01 | exact p02 | (with_reducible assumption) | (rw [World.cell?_setCell_far _ _ _ _ (by simp), World.cell?_setCell_far _ _ _ _ (by simp), World.cell?_setCell_far _ _ _ _ (by simp)]; first | exact p30 | exact p31 | exact p32) | (go_keep; done))))
    (first
      | (go_at_call_of 62 (Value.slice A0 n0 c0); refine (C0 _ ?_).mono ?_; (exact ((h0.alloc _).alloc _).drew); rintro e w1 ⟨A0', c0', rfl, hr0, hb1⟩; have hz1 : w.heap.size + 1 < w1.heap.size := (by have := hb1.size; (try simp at this); omega); have X1 := Blk3.below (by exact X0) hb1; have Y1 := Blk3.below (by exact Y0) hb1; obtain ⟨p10, p11, p12, _⟩ := X1.cells; obtain ⟨q10, q11, q12, f10, f11, f12⟩ := Y1.cells)
      | (go_at_call_of 62 (Value.slice A1 n1 c1); refine (C1 _ ?_).mono ?_; (exact ((h1.alloc _).alloc _).drew.below hb1); rintro e w2 ⟨A1', c1', rfl, hr1, hb2⟩; have hz2 : w.heap.size + 1 < w2.heap.size := (by have := hb2.size; (try simp at this); omega); have X2 := Blk3.below (by exact X1) hb2; have Y2 := Blk3.below (by exact Y1) hb2; obtain ⟨p20, p21, p22, _⟩ := X2.cells; obtain ⟨q20, q21, q22, f20, f21, f22⟩ := Y2.cells)
      | (go_at_call_of 62 (Value.slice A2 n2 c2); refine (C2 _ ?_).mono ?_; (exact (((h2.alloc _).alloc _).drew.below hb1).below hb2); rintro e w3 ⟨A2', c2', rfl, hr2, hb3⟩; have hz3 : w.heap.size + 1 < w3.heap.size := (by have := hb3.size; (try simp at this); omega); have X3 := Blk3.below (by exact X2) hb3; have Y3 := Blk3.below (by exact Y2) hb3; obtain ⟨p30, p31, p32, _⟩ := X3.cells; obtain ⟨q30, q31, q32, f30, f31, f32⟩ := Y3.cells))
  have s1 : w.heap.size + 2 ≤ w1.heap.size := by omega
  have s2 : w.heap.size + 2 ≤ w2.heap.size := by omega
  have r0 : Row w1 (w.heap.size + 2) (.slice A0' h.l.length c0') h.l := hr0.mono (by simp)
  have r1 : Row w2 (w.heap.size + 2) (.slice A1' h.r.length c1') h.r := hr1.mono s1
  have r2 : Row w3 (w.heap.size + 2) (.slice A2' h.t.length c2') h.t := hr2.mono s2
  have a01 := apart_new hr0 hr1
  have a12 := apart_new hr1 hr2
  have a02 := apart_new (hr0.below hb2) hr2
  have hB : Below w.heap.size w w3 := ((((Below.refl _ _).alloc (Nat.le_refl _) _).alloc (by simp) _).drew.trans (hb1.mono (by simp; omega))).trans ((hb2.mono (by omega)).trans (hb3.mono (by omega)))
  have o0 : (Value.slice A0' h.l.length c0').ownBlock ≠ some (w.heap.size + 1) := fun e => by have := (r0.lt _ e).1; omega
  have o1 : (Value.slice A1' h.r.length c1').ownBlock ≠ some (w.heap.size + 1) := fun e => by have := (r1.lt _ e).1; omega
  have o2 : (Value.slice A2' h.t.length c2').ownBlock ≠ some (w.heap.size + 1) := fun e => by have := (r2.lt _ e).1; omega
  have R0 := (((((r0.below hb2).below hb3).other (a := ⟨w.heap.size + 1, 0, none⟩) o0 (.slice A0' h.l.length c0')).other (a := ⟨w.heap.size + 1, 1, none⟩) o0 (.slice A1' h.r.length c1')).other (a := ⟨w.heap.size + 1, 2, none⟩) o0 (.slice A2' h.t.length c2')).mono (lo' := w.heap.size) (by omega)
  have R1 := ((((r1.below hb3).other (a := ⟨w.heap.size + 1, 0, none⟩) o1 (.slice A0' h.l.length c0')).other (a := ⟨w.heap.size + 1, 1, none⟩) o1 (.slice A1' h.r.length c1')).other (a := ⟨w.heap.size + 1, 2, none⟩) o1 (.slice A2' h.t.length c2')).mono (lo' := w.heap.size) (by omega)
  have R2 := (((r2.other (a := ⟨w.heap.size + 1, 0, none⟩) o2 (.slice A0' h.l.length c0')).other (a := ⟨w.heap.size + 1, 1, none⟩) o2 (.slice A1' h.r.length c1')).other (a := ⟨w.heap.size + 1, 2, none⟩) o2 (.slice A2' h.t.length c2')).mono (lo' := w.heap.size) (by omega)
  clear p00 p01 p02 p10 p11 p12 p20 p21 p22 p30 p31 p32 q10 q11 q12 q20 q21 q22
  go_wp2_with fail
  refine bodyPost_ret (v := .agg #[.slice A0' h.l.length c0', .slice A1' h.r.length c1', .slice A2' h.t.length c2']) ?_ rfl ⟨_, rfl, ⟨_, _, _, rfl, R0, R1, R2, a01, a02, a12⟩, ((hB.setCell (by simp) _).setCell (by simp) _).setCell (by simp) _⟩
  simp [results, Try.results61, go_sem, q30, q31, q32]
end Go.Proofs.Ytmngkjcdaaladaa
