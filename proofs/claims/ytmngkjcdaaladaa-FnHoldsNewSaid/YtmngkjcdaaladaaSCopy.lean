/- l3Copy of spec: a deep copy of a colored heap. -/
import Derived.Test.YtmngkjcdaaladaaSCol2
import Derived.Deep.RegionLawGrows
import Derived.Deep.RegionHeld3
namespace Go.Proofs.Ytmngkjcdaaladaa
open Go.RowKit

theorem cellF4 {w : World} {a : Addr} {u : Value} {b : Nat} (h : w.cell? a = some u) (hne : b ≠ a.block) (v0 v1 v2 v3 : Value) : ((((w.setCell ⟨b, 0, none⟩ v0).setCell ⟨b, 1, none⟩ v1).setCell ⟨b, 2, none⟩ v2).setCell ⟨b, 3, none⟩ v3).cell? a = some u := by
  rw [World.cell?_setCell_far _ _ _ _ hne, World.cell?_setCell_far _ _ _ _ hne, World.cell?_setCell_far _ _ _ _ hne, World.cell?_setCell_far _ _ _ _ hne]; exact h

def NewCv (w : World) (C : Cp) (e : Ending) (w' : World) : Prop := ∃ v, e = .returned v ∧ Cv w' w.heap.size v C ∧ Below w.heap.size w w'

theorem copyC_done {w w3 : World} {v0 v1 v2 v3 : Value} {C : Cp} (hh : Hv w3 (w.heap.size + 2) (.agg #[v0, v1, v2]) C.h) (h3 : Row w3 (w.heap.size + 2) v3 C.c) (a : Apart v0 v3 ∧ Apart v1 v3 ∧ Apart v2 v3) (hB : Below w.heap.size w w3) :
    Cv ((((w3.setCell ⟨w.heap.size + 1, 0, none⟩ v0).setCell ⟨w.heap.size + 1, 1, none⟩ v1).setCell ⟨w.heap.size + 1, 2, none⟩ v2).setCell ⟨w.heap.size + 1, 3, none⟩ v3) w.heap.size (.agg #[v0, v1, v2, v3]) C ∧
    Below w.heap.size w ((((w3.setCell ⟨w.heap.size + 1, 0, none⟩ v0).setCell ⟨w.heap.size + 1, 1, none⟩ v1).setCell ⟨w.heap.size + 1, 2, none⟩ v2).setCell ⟨w.heap.size + 1, 3, none⟩ v3) := by
  have C0 : Cv w3 (w.heap.size + 2) (.agg #[v0, v1, v2, v3]) C := ⟨v0, v1, v2, v3, rfl, hh, h3, a⟩
  exact ⟨((((C0.set_low (by simp) _).set_low (by simp) _).set_low (by simp) _).set_low (by simp) _).mono (by omega), (((hB.setCell (by simp) _).setCell (by simp) _).setCell (by simp) _).setCell (by simp) _⟩

set_option maxRecDepth 100000 in
set_option maxHeartbeats 3200000 in
theorem l3Copy_any (w : World) (lo : Nat) (v : Value) (C : Cp) (hv : Cv w lo v C) (hC : cvB C = true) :
    Calls Try.prog 43 #[v] w (NewCv w C) := by
  obtain ⟨A0, n0, c0, A1, n1, c1, A2, n2, c2, A3, n3, c3, rfl, hh, ⟨r0, r1, r2, r3⟩, ⟨l0, l1, l2, l3⟩, _, _⟩ := hv.open_
  obtain ⟨hvh, hlen, _⟩ := cvB_parts hC
  obtain ⟨e1, e2, e3, e4, e5⟩ := hvB_len hvh
  obtain ⟨g3, rfl, _, _⟩ := r3.at_ (k := 0) (by omega)
  have y3 : n3 = C.c.length := l3.out.symm
  obtain ⟨i0, hi, hz0, hz1, hz2⟩ := info_parts Try.infoInt
  have E3 : (C.c.map iv).length = n3 * 1 := by simp; omega
  have M3 : 0 + n3 ≤ maxLen := by unfold maxLen; omega
  have u3a : 0 < n3 := by omega
  have u3b : n3 ≤ 1048576 := by omega
  have L3 : Hid (0 + n3 = C.c.length) := by unfold Hid; omega
  have z0 : 0 < C.h.l.length := by omega
  have z1 : 0 < C.h.r.length := by omega
  have z2 : 0 < C.h.t.length := by omega
  have b0 : C.h.l.length ≤ 1048576 := by omega
  have b1 : C.h.r.length ≤ 1048576 := by omega
  have b2 : C.h.t.length ≤ 1048576 := by omega
  clear hv y3 hC hvh hlen e1 e2 e3 e4 e5 r0 r1 r2 l0 l1 l2 l3
  have P := Blk4.new w (.slice A0 n0 c0) (.slice A1 n1 c1) (.slice A2 n2 c2) (.slice (some ⟨g3, 0, none⟩) n3 c3) 27
  have X := P.alloc (.cells #[.slice none 0 0, .slice none 0 0, .slice none 0 0, .slice none 0 0] 27)
  have Y := Blk4.new_at (w := w.alloc (.cells #[.slice A0 n0 c0, .slice A1 n1 c1, .slice A2 n2 c2, .slice (some ⟨g3, 0, none⟩) n3 c3] 27)) (b := w.heap.size + 1) (by simp) (.slice none 0 0) (.slice none 0 0) (.slice none 0 0) (.slice none 0 0) 27
  have R3 := (r3.alloc (.cells #[.slice A0 n0 c0, .slice A1 n1 c1, .slice A2 n2 c2, .slice (some ⟨g3, 0, none⟩) n3 c3] 27)).alloc (.cells #[.slice none 0 0, .slice none 0 0, .slice none 0 0, .slice none 0 0] 27)
  have HH := (hh.alloc (.cells #[.slice A0 n0 c0, .slice A1 n1 c1, .slice A2 n2 c2, .slice (some ⟨g3, 0, none⟩) n3 c3] 27)).alloc (.cells #[.slice none 0 0, .slice none 0 0, .slice none 0 0, .slice none 0 0] 27)
  have BB : Below w.heap.size w ((w.alloc (.cells #[.slice A0 n0 c0, .slice A1 n1 c1, .slice A2 n2 c2, .slice (some ⟨g3, 0, none⟩) n3 c3] 27)).alloc (.cells #[.slice none 0 0, .slice none 0 0, .slice none 0 0, .slice none 0 0] 27)) := ((Below.refl _ _).alloc (Nat.le_refl _) _).alloc (by simp) _
  have sz : ((w.alloc (.cells #[.slice A0 n0 c0, .slice A1 n1 c1, .slice A2 n2 c2, .slice (some ⟨g3, 0, none⟩) n3 c3] 27)).alloc (.cells #[.slice none 0 0, .slice none 0 0, .slice none 0 0, .slice none 0 0] 27)).heap.size = w.heap.size + 2 := by simp
  go_enter Try.func43, Try.ntmps43
  go_wp2_with fail
  generalize (w.alloc (.cells #[.slice A0 n0 c0, .slice A1 n1 c1, .slice A2 n2 c2, .slice (some ⟨g3, 0, none⟩) n3 c3] 27)).alloc (.cells #[.slice none 0 0, .slice none 0 0, .slice none 0 0, .slice none 0 0] 27) = W at X Y R3 HH BB sz ⊢
  obtain ⟨x0, x1, x2, x3, _⟩ := X.cells
  have hnb : w.heap.size + 1 ≠ w.heap.size := by omega
  have sD : (W.alloc (.cells #[] 3)).drew.heap.size = W.heap.size + 1 := by show (W.alloc (.cells #[] 3)).heap.size = _; simp
  go_region_held3 (fun w' => w'.cell? ⟨w.heap.size, 0, none⟩ = some (.slice A0 n0 c0) ∧ w'.cell? ⟨w.heap.size, 1, none⟩ = some (.slice A1 n1 c1) ∧ w'.cell? ⟨w.heap.size, 2, none⟩ = some (.slice A2 n2 c2) ∧ w'.cell? ⟨w.heap.size, 3, none⟩ = some (.slice (some ⟨g3, 0, none⟩) n3 c3))
    (((try dsimp only); (repeat' apply And.intro) <;> (with_reducible (first | exact cellF4 s0 hnb _ _ _ _ | exact cellF4 s1 hnb _ _ _ _ | exact cellF4 s2 hnb _ _ _ _ | exact cellF4 s3 hnb _ _ _ _ | exact s0 | exact s1 | exact s2 | exact s3 | exact cellA s0 _ | exact cellA s1 _ | exact cellA s2 _ | exact cellA s3 _ | exact p0 | exact p1 | exact p2 | exact p3 | exact cellA p0 _ | exact cellA p1 _ | exact cellA p2 _ | exact cellA p3 _ | exact x0 | exact x1 | exact x2 | exact x3 | exact cellD x0 | exact cellD x1 | exact cellD x2 | exact cellD x3 | exact cellA x0 _ | exact cellA x1 _ | exact cellA x2 _ | exact cellA x3 _ | exact cellD (cellA x0 _) | exact cellD (cellA x1 _) | exact cellD (cellA x2 _) | exact cellD (cellA x3 _) | exact cellA (cellD x0) _ | exact cellA (cellD x1) _ | exact cellA (cellD x2) _ | exact cellA (cellD x3) _)) <;> done))
    (first
      | (go_at_call 64; (with_reducible refine (l1Copy_any W.drew lo _ C.h HH.drew z0 z1 z2 b0 b1 b2).mono ?_); rintro e w1 ⟨vv, rfl, HN0, hb0⟩; have HN : Hv w1 W.heap.size vv C.h := HN0; have hb1 : Below W.heap.size W w1 := (Below.refl W.heap.size W).drew.trans (hb0.mono (Nat.le_refl _)); (obtain ⟨p0, p1, p2, p3, _⟩ := (X.below hb1).cells); (have hNo := HN); (obtain ⟨B0, m0, d0, B1, m1, d1, B2, m2, d2, rfl, _⟩ := hNo.open_))
      | (go_at_call 64; (with_reducible refine (l1Copy_any (W.alloc (.cells #[] 3)).drew lo _ C.h (HH.alloc _).drew z0 z1 z2 b0 b1 b2).mono ?_); rintro e w1 ⟨vv, rfl, HN0, hb0⟩; have HN : Hv w1 W.heap.size vv C.h := HN0.mono (by rw [sD]; omega); have hb1 : Below W.heap.size W w1 := (((Below.refl W.heap.size W).alloc (Nat.le_refl _) (.cells #[] 3)).drew).trans (hb0.mono (by rw [sD]; omega)); (obtain ⟨p0, p1, p2, p3, _⟩ := (X.below hb1).cells); (have hNo := HN); (obtain ⟨B0, m0, d0, B1, m1, d1, B2, m2, d2, rfl, _⟩ := hNo.open_))
      | (refine step_append_grows rfl (.tmp 6) (.tmp 8) 23 rfl 3 i0 (.int .i64 0) 1 8 Try.underlying23 hi hz0 hz1 hz2 rfl (by decide) _ 0 0 [] (by rfl) (fun _ => ⟨rfl, rfl⟩) rfl (fun _ _ j u hj => nil_get hj) ⟨g3, 0, none⟩ n3 c3 (C.c.map iv) (by rfl) E3 ?_ (ints_oneCell _ _) (by omega) (by omega) (by omega) ?_; (exact Row.cellsV (lo := lo) (n := n3) (c := c3) (xs := C.c) (by repeat (with_reducible (first | refine Row.drew ?_ | refine Row.alloc ?_ _ | refine Row.below ?_ hb1 | exact R3)))); intro vr w2 hown hgr; obtain ⟨A3', c3', rfl, hr, hb2⟩ := after_append (xs := C.c) hown hgr L3.out; have X2 : Blk4 w2 w.heap.size (.slice A0 n0 c0) (.slice A1 n1 c1) (.slice A2 n2 c2) (.slice (some ⟨g3, 0, none⟩) n3 c3) 27 := (by repeat (with_reducible (first | exact X | refine Blk4.alloc ?_ _ | refine Blk4.below ?_ hb2 | refine Blk4.below ?_ hb1))); obtain ⟨s0, s1, s2, s3, _⟩ := X2.cells; have Y2 : Blk4 w2 (w.heap.size + 1) (.slice none 0 0) (.slice none 0 0) (.slice none 0 0) (.slice none 0 0) 27 := (by repeat (with_reducible (first | exact Y | refine Blk4.alloc ?_ _ | refine Blk4.below ?_ hb2 | refine Blk4.below ?_ hb1))); obtain ⟨q0, q1, q2, q3, k0, k1, k2, k3⟩ := Y2.cells))
  all_goals
    rename_i hHeld
    clear hHeld
    have s1 := hb1.size
    have HN2 : Hv w2 W.heap.size (.agg #[.slice B0 m0 d0, .slice B1 m1 d1, .slice B2 m2 d2]) C.h := by repeat (with_reducible (first | exact HN | refine Hv.alloc ?_ _ | refine Hv.below ?_ hb2))
    have B2' : Below W.heap.size W w2 := Below.trans (by repeat (with_reducible (first | exact hb1 | refine Below.alloc ?_ (by first | omega | (simp <;> omega)) _))) (hb2.mono (by first | omega | (simp <;> omega)))
    have hr' : Row w2 (w.heap.size + 2) (.slice A3' C.c.length c3') C.c := hr.mono (by first | omega | (simp <;> omega))
    have ap : ∀ (v : Value) (xs : List Int), Row w1 W.heap.size v xs → Apart v (.slice A3' C.c.length c3') := fun v xs r j e e' => by
      have h1 := (r.lt j e).2
      have h2 := (hr.lt j e').1
      (try simp at h2)
      omega
    obtain ⟨_, _, _, ev, H0, H1, H2, _⟩ := HN
    cases ev
    obtain ⟨hH, hB⟩ := copyC_done (w := w) (C := C) (HN2.mono (by omega)) hr' ⟨ap _ _ H0, ap _ _ H1, ap _ _ H2⟩ (BB.trans (B2'.mono (by omega)))
    clear s0 s1 s2 s3 p0 p1 p2 p3 x0 x1 x2 x3
    go_wp2_with fail
    refine bodyPost_ret (v := .agg #[.slice B0 m0 d0, .slice B1 m1 d1, .slice B2 m2 d2, .slice A3' C.c.length c3']) ?_ rfl ⟨_, rfl, hH, hB⟩
    simp [results, Try.results43, go_sem, q0, q1, q2, q3]
end Go.Proofs.Ytmngkjcdaaladaa
