/- NewColored of impl. -/
import Derived.Test.YtepljdlikplfeaaWhite
import Derived.Test.YtepljdlikplfeaaICopyC
import Derived.Test.YtepljdlikplfeaaSNewC
namespace Go.Proofs.Ytepljdlikplfeaa
open Go.RowKit

set_option maxRecDepth 100000 in
set_option maxHeartbeats 3000000 in
theorem implNewColored_any (w : World) (lo : Nat) (v : Value) (h : Hp) (hv : Hv w lo v h) :
    Calls Try.prog 8 #[v] w (OptCv w (newCO h)) := by
  have hvo := hv
  obtain ⟨A0, n0, c0, A1, n1, c1, A2, n2, c2, rfl, _, ⟨l0, l1, l2⟩, _⟩ := hvo.open_
  have P := Blk3.new w (.slice A0 n0 c0) (.slice A1 n1 c1) (.slice A2 n2 c2) 25
  have X := P.alloc (.cells #[.slice none 0 0, .slice none 0 0, .slice none 0 0, .slice none 0 0] 28)
  have Y := Blk4.new_at (w := w.alloc (.cells #[.slice A0 n0 c0, .slice A1 n1 c1, .slice A2 n2 c2] 25)) (b := w.heap.size + 1) (by simp) (.slice none 0 0) (.slice none 0 0) (.slice none 0 0) (.slice none 0 0) 28
  have VV := (hv.alloc (.cells #[.slice A0 n0 c0, .slice A1 n1 c1, .slice A2 n2 c2] 25)).alloc (.cells #[.slice none 0 0, .slice none 0 0, .slice none 0 0, .slice none 0 0] 28)
  have BB : Below w.heap.size w ((w.alloc (.cells #[.slice A0 n0 c0, .slice A1 n1 c1, .slice A2 n2 c2] 25)).alloc (.cells #[.slice none 0 0, .slice none 0 0, .slice none 0 0, .slice none 0 0] 28)) := ((Below.refl _ _).alloc (Nat.le_refl _) _).alloc (by simp) _
  have sz : ((w.alloc (.cells #[.slice A0 n0 c0, .slice A1 n1 c1, .slice A2 n2 c2] 25)).alloc (.cells #[.slice none 0 0, .slice none 0 0, .slice none 0 0, .slice none 0 0] 28)).heap.size = w.heap.size + 2 := by simp
  go_enter Try.func8, Try.ntmps8
  go_wp2_with fail
  generalize (w.alloc (.cells #[.slice A0 n0 c0, .slice A1 n1 c1, .slice A2 n2 c2] 25)).alloc (.cells #[.slice none 0 0, .slice none 0 0, .slice none 0 0, .slice none 0 0] 28) = W at X Y VV BB sz ⊢
  obtain ⟨x0, x1, x2, _⟩ := X.cells
  have V := implHeapValid_any _ _ _ _ VV
  rcases ev : hvB h
  · rw [ev] at V
    have hf : Hid (newCO h = none) := by unfold Hid newCO; rw [ev]; simp
    clear ev
    go_wp2_with fail
    refine V.mono ?_; rintro e w1 ⟨rfl, hb1⟩
    obtain ⟨y0, y1, y2, y3, f0, f1, f2, f3⟩ := (Y.below hb1).cells
    obtain ⟨hZ, hB⟩ := zero_done (w := w) (b := w.heap.size + 1) (by omega) (BB.trans (hb1.mono (by omega)))
    go_wp2_with fail
    rw [hf.out]
    refine bodyPost_ret (v := .tuple #[.agg #[.slice none 0 0, .slice none 0 0, .slice none 0 0, .slice none 0 0], .bool false]) ?_ rfl ⟨_, rfl, hZ, hB⟩
    simp [results, Try.results8, go_sem, y0, y1, y2, y3]
  · rw [ev] at V
    have hf : Hid (newCO h = some ⟨h, List.replicate n0 0⟩) := by unfold Hid newCO; rw [if_pos ev, l0.out]
    have h1n := hvB_len ev
    have e0 := l0.out
    have u0 : n0 ≤ 8 := by omega
    have u1 : 1 ≤ n0 := by omega
    clear ev
    go_wp2_with fail
    refine V.mono ?_; rintro e w2 ⟨rfl, hb2⟩
    have X2 := X.below hb2
    have B2 := BB.trans (hb2.mono (by omega))
    have Y2 := Y.below hb2
    have V2 := VV.below hb2
    have z2 : w.heap.size + 2 ≤ w2.heap.size := by have := hb2.size; omega
    clear V x0 x1 x2 VV hb2 X Y
    obtain ⟨x0, x1, x2, _⟩ := X2.cells
    have hnb : w.heap.size + 1 ≠ w.heap.size := by omega
    go_wp2_with fail
    go_region_held3 (fun w' => w'.cell? ⟨w.heap.size, 0, none⟩ = some (.slice A0 n0 c0) ∧ w'.cell? ⟨w.heap.size, 1, none⟩ = some (.slice A1 n1 c1) ∧ w'.cell? ⟨w.heap.size, 2, none⟩ = some (.slice A2 n2 c2))
      (((try dsimp only); (repeat' apply And.intro) <;> (with_reducible (first | exact cellF4 s0 hnb _ _ _ _ | exact cellF4 s1 hnb _ _ _ _ | exact cellF4 s2 hnb _ _ _ _ | exact s0 | exact s1 | exact s2 | exact p0 | exact p1 | exact p2 | exact cellD x0 | exact cellD x1 | exact cellD x2 | exact x0 | exact x1 | exact x2)) <;> done))
      (first
        | (go_at_call 25; (with_reducible refine (copyOfHeap_any w2.drew lo _ h V2.drew (by omega) (by omega) (by omega)).mono ?_); rintro e w3 ⟨vv, rfl, HN0, hb0⟩; (have HN : Hv w3 w2.heap.size vv h := HN0); (have hb3 : Below w2.heap.size w2 w3 := (Below.refl w2.heap.size w2).drew.trans (hb0.mono (Nat.le_refl _))); (obtain ⟨p0, p1, p2, _⟩ := (X2.below hb3).cells); (have hNo := HN); (obtain ⟨B0, v0, e0, B1, v1, e1, B2_, v2, e2, rfl, _⟩ := hNo.open_))
        | (go_at_call 26; (with_reducible refine (whiteColors_any w3 n0 u1 u0).mono ?_); rintro e w4 ⟨B3, e3, rfl, r3n, hb4⟩; (have X4 := (X2.below hb3).below hb4); (obtain ⟨s0, s1, s2, _⟩ := X4.cells); (have Y4 := (Y2.below hb3).below hb4); (obtain ⟨q0, q1, q2, q3, k0, k1, k2, k3⟩ := Y4.cells)))
    rename_i hHeld
    clear hHeld
    have z3 := hb3.size
    have HN2 : Hv w4 w2.heap.size (.agg #[.slice B0 v0 e0, .slice B1 v1 e1, .slice B2_ v2 e2]) h := HN.below hb4
    have r3m : Row w4 (w.heap.size + 2) (.slice B3 (List.replicate n0 (0 : Int)).length e3) (List.replicate n0 0) := r3n.mono (by omega)
    have ap : ∀ (v : Value) (xs : List Int), Row w3 w2.heap.size v xs → Apart v (.slice B3 (List.replicate n0 (0 : Int)).length e3) := fun v xs r j e e' => by
      have h1 := (r.lt j e).2
      have h2 := (r3n.lt j e').1
      omega
    obtain ⟨_, _, _, evv, H0, H1, H2, _⟩ := HN
    cases evv
    obtain ⟨hH, hB⟩ := copyC_done (w := w) (C := ⟨h, List.replicate n0 0⟩) (HN2.mono (by omega)) r3m ⟨ap _ _ H0, ap _ _ H1, ap _ _ H2⟩ (B2.trans ((hb3.mono (by omega)).trans (hb4.mono (by omega))))
    simp only [List.length_replicate] at hH hB
    clear s0 s1 s2 p0 p1 p2 x0 x1 x2
    go_wp2_with fail
    rw [hf.out]
    refine bodyPost_ret (v := .tuple #[.agg #[.slice B0 v0 e0, .slice B1 v1 e1, .slice B2_ v2 e2, .slice B3 n0 e3], .bool true]) ?_ rfl ⟨_, rfl, hH, hB⟩
    simp [results, Try.results8, go_sem, q0, q1, q2, q3]
end Go.Proofs.Ytepljdlikplfeaa
