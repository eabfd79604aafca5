/- copyOfStore of impl. -/
import Derived.Test.YtlabljanddjleaaShades
import Derived.Test.YtlabljanddjleaaStos
namespace Go.Proofs.Ytlabljanddjleaa
open Go.RowKit

set_option maxRecDepth 100000 in
set_option maxHeartbeats 3000000 in
theorem copyOfStore_any (w : World) (lo : Nat) (v : Value) (C : Cp) (hv : Cv w lo v C) (b0 : C.h.l.length ≤ 1048576) (b1 : C.h.r.length ≤ 1048576) (b2 : C.h.t.length ≤ 1048576) (b3 : C.c.length ≤ 1048576) :
    Calls Try.prog 40 #[v] w (NewCv w C) := by
  have hvo := hv
  obtain ⟨A0, n0, c0, A1, n1, c1, A2, n2, c2, A3, n3, c3, rfl, hh, ⟨r0, r1, r2, r3⟩, ⟨l0, l1, l2, l3⟩, ⟨mm0, mm1, mm2, mm3⟩, _⟩ := hvo.open_
  have P := Blk4.new w (.slice A0 n0 c0) (.slice A1 n1 c1) (.slice A2 n2 c2) (.slice A3 n3 c3) 36
  have X := P.alloc (.cells #[.slice none 0 0, .slice none 0 0, .slice none 0 0, .slice none 0 0] 36)
  have Y := Blk4.new_at (w := w.alloc (.cells #[.slice A0 n0 c0, .slice A1 n1 c1, .slice A2 n2 c2, .slice A3 n3 c3] 36)) (b := w.heap.size + 1) (by simp) (.slice none 0 0) (.slice none 0 0) (.slice none 0 0) (.slice none 0 0) 36
  have VV := (hv.alloc (.cells #[.slice A0 n0 c0, .slice A1 n1 c1, .slice A2 n2 c2, .slice A3 n3 c3] 36)).alloc (.cells #[.slice none 0 0, .slice none 0 0, .slice none 0 0, .slice none 0 0] 36)
  have BB : Below w.heap.size w ((w.alloc (.cells #[.slice A0 n0 c0, .slice A1 n1 c1, .slice A2 n2 c2, .slice A3 n3 c3] 36)).alloc (.cells #[.slice none 0 0, .slice none 0 0, .slice none 0 0, .slice none 0 0] 36)) := ((Below.refl _ _).alloc (Nat.le_refl _) _).alloc (by simp) _
  have sz : ((w.alloc (.cells #[.slice A0 n0 c0, .slice A1 n1 c1, .slice A2 n2 c2, .slice A3 n3 c3] 36)).alloc (.cells #[.slice none 0 0, .slice none 0 0, .slice none 0 0, .slice none 0 0] 36)).heap.size = w.heap.size + 2 := by simp
  have HH := (hh.alloc (.cells #[.slice A0 n0 c0, .slice A1 n1 c1, .slice A2 n2 c2, .slice A3 n3 c3] 36)).alloc (.cells #[.slice none 0 0, .slice none 0 0, .slice none 0 0, .slice none 0 0] 36)
  have R3 := (r3.alloc (.cells #[.slice A0 n0 c0, .slice A1 n1 c1, .slice A2 n2 c2, .slice A3 n3 c3] 36)).alloc (.cells #[.slice none 0 0, .slice none 0 0, .slice none 0 0, .slice none 0 0] 36)
  have y3 : n3 ≤ 1048576 := by have := l3.out; omega
  go_enter Try.func40, Try.ntmps40
  go_wp2_with fail
  generalize (w.alloc (.cells #[.slice A0 n0 c0, .slice A1 n1 c1, .slice A2 n2 c2, .slice A3 n3 c3] 36)).alloc (.cells #[.slice none 0 0, .slice none 0 0, .slice none 0 0, .slice none 0 0] 36) = W at X Y VV HH R3 BB sz ⊢
  obtain ⟨x0, x1, x2, x3, _⟩ := X.cells
  have hnb : w.heap.size + 1 ≠ w.heap.size := by omega
  go_region_held3 (fun w' => w'.cell? ⟨w.heap.size, 0, none⟩ = some (.slice A0 n0 c0) ∧ w'.cell? ⟨w.heap.size, 1, none⟩ = some (.slice A1 n1 c1) ∧ w'.cell? ⟨w.heap.size, 2, none⟩ = some (.slice A2 n2 c2) ∧ w'.cell? ⟨w.heap.size, 3, none⟩ = some (.slice A3 n3 c3))
    (((try dsimp only); (repeat' apply And.intro) <;> (with_reducible (first | exact cellF4 s0 hnb _ _ _ _ | exact cellF4 s1 hnb _ _ _ _ | exact cellF4 s2 hnb _ _ _ _ | exact cellF4 s3 hnb _ _ _ _ | exact s0 | exact s1 | exact s2 | exact s3 | exact p0 | exact p1 | exact p2 | exact p3 | exact cellD x0 | exact cellD x1 | exact cellD x2 | exact cellD x3 | exact x0 | exact x1 | exact x2 | exact x3)) <;> done))
    (first
      | (go_at_call 59; (with_reducible refine (copyOfHeap_any W.drew lo _ C.h HH.drew b0 b1 b2).mono ?_); rintro e w1 ⟨vv, rfl, HN0, hb0⟩; (have HN : Hv w1 W.heap.size vv C.h := HN0); (have hb1 : Below W.heap.size W w1 := (Below.refl W.heap.size W).drew.trans (hb0.mono (Nat.le_refl _))); (obtain ⟨p0, p1, p2, p3, _⟩ := (X.below hb1).cells); (have hNo := HN); (obtain ⟨B0, u0, e0, B1, u1, e1, B2, u2, e2, rfl, _⟩ := hNo.open_))
      | (go_at_call 60; (with_reducible refine (copyOfInts_any w1 lo A3 n3 c3 C.c (R3.below hb1) l3.out y3).mono ?_); rintro e w2 ⟨B3, e3, rfl, r3n, hb2⟩; (have X2 := (X.below hb1).below hb2); (obtain ⟨s0, s1, s2, s3, _⟩ := X2.cells); (have Y2 := (Y.below hb1).below hb2); (obtain ⟨q0, q1, q2, q3, k0, k1, k2, k3⟩ := Y2.cells)))
  rename_i hHeld
  clear hHeld
  have z1 := hb1.size
  have HN2 : Hv w2 W.heap.size (.agg #[.slice B0 u0 e0, .slice B1 u1 e1, .slice B2 u2 e2]) C.h := HN.below hb2
  have r3m : Row w2 (w.heap.size + 2) (.slice B3 C.c.length e3) C.c := r3n.mono (by omega)
  have ap : ∀ (v : Value) (xs : List Int), Row w1 W.heap.size v xs → Apart v (.slice B3 C.c.length e3) := fun v xs r j e e' => by
    have h1 := (r.lt j e).2
    have h2 := (r3n.lt j e').1
    omega
  obtain ⟨_, _, _, ev, H0, H1, H2, _⟩ := HN
  cases ev
  obtain ⟨hH, hB⟩ := copyC_done (w := w) (C := C) (HN2.mono (by omega)) r3m ⟨ap _ _ H0, ap _ _ H1, ap _ _ H2⟩ (BB.trans ((hb1.mono (by omega)).trans (hb2.mono (by omega))))
  clear s0 s1 s2 s3 p0 p1 p2 p3 x0 x1 x2 x3
  go_wp2_with fail
  refine bodyPost_ret (v := .agg #[.slice B0 u0 e0, .slice B1 u1 e1, .slice B2 u2 e2, .slice B3 C.c.length e3]) ?_ rfl ⟨_, rfl, hH, hB⟩
  simp [results, Try.results40, go_sem, q0, q1, q2, q3]

/-- Of a valid store. -/
theorem copyS_valid (w : World) (lo : Nat) (v : Value) (C : Cp) (hv : Cv w lo v C) (hC : stoB C = true) : Calls Try.prog 40 #[v] w (NewCv w C) := by
  obtain ⟨hvh, hlen, _⟩ := stoB_parts hC
  have h9 := hvB_len hvh
  exact copyOfStore_any w lo v C hv (by omega) (by omega) (by omega) (by omega)
end Go.Proofs.Ytlabljanddjleaa
