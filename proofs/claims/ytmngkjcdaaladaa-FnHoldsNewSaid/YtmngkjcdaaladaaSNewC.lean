/- NewColored of spec. -/
import Derived.Test.YtmngkjcdaaladaaSShade
import Derived.Deep.OwnRows
namespace Go.Proofs.Ytmngkjcdaaladaa
open Go.RowKit

theorem rowMade (w : World) (lo n : Nat) (hlo : lo ≤ w.heap.size) (hn : n ≤ 1048576) : Row (w.alloc (.cells (madeCells #[.int .i64 0] n) 3)) lo (.slice (some ⟨w.heap.size, 0, none⟩) n n) (List.replicate n 0) := by
  have hs : (madeCells #[Value.int .i64 0] n).size = n * 1 := by
    have h9 := congrArg List.length (mc_int n)
    simpa using h9
  have h9 := World.ownsRow_lit (e := 3) (size := 1) w (madeCells #[.int .i64 0] n) n hlo (by unfold maxLen; omega) hs
  rw [mc_int] at h9
  exact Row.of_own h9 rfl (by simp)
def newCO (h : Hp) : Option Cp := if hvB h = true then some ⟨h, List.replicate h.l.length 0⟩ else none

set_option maxRecDepth 100000 in
set_option maxHeartbeats 3000000 in
theorem specNewColored_any (w : World) (lo : Nat) (v : Value) (h : Hp) (hv : Hv w lo v h) :
    Calls Try.prog 68 #[v] w (OptCv w (newCO h)) := by
  have hvo := hv
  obtain ⟨A0, n0, c0, A1, n1, c1, A2, n2, c2, rfl, _, ⟨l0, l1, l2⟩, _⟩ := hvo.open_
  have P := Blk3.new w (.slice A0 n0 c0) (.slice A1 n1 c1) (.slice A2 n2 c2) 25
  have X := P.alloc (.cells #[.slice none 0 0, .slice none 0 0, .slice none 0 0, .slice none 0 0] 27)
  have Y := Blk4.new_at (w := w.alloc (.cells #[.slice A0 n0 c0, .slice A1 n1 c1, .slice A2 n2 c2] 25)) (b := w.heap.size + 1) (by simp) (.slice none 0 0) (.slice none 0 0) (.slice none 0 0) (.slice none 0 0) 27
  have VV := (hv.alloc (.cells #[.slice A0 n0 c0, .slice A1 n1 c1, .slice A2 n2 c2] 25)).alloc (.cells #[.slice none 0 0, .slice none 0 0, .slice none 0 0, .slice none 0 0] 27)
  have BB : Below w.heap.size w ((w.alloc (.cells #[.slice A0 n0 c0, .slice A1 n1 c1, .slice A2 n2 c2] 25)).alloc (.cells #[.slice none 0 0, .slice none 0 0, .slice none 0 0, .slice none 0 0] 27)) := ((Below.refl _ _).alloc (Nat.le_refl _) _).alloc (by simp) _
  have sz : ((w.alloc (.cells #[.slice A0 n0 c0, .slice A1 n1 c1, .slice A2 n2 c2] 25)).alloc (.cells #[.slice none 0 0, .slice none 0 0, .slice none 0 0, .slice none 0 0] 27)).heap.size = w.heap.size + 2 := by simp
  go_enter Try.func68, Try.ntmps68
  go_wp2_with fail
  generalize (w.alloc (.cells #[.slice A0 n0 c0, .slice A1 n1 c1, .slice A2 n2 c2] 25)).alloc (.cells #[.slice none 0 0, .slice none 0 0, .slice none 0 0, .slice none 0 0] 27) = W at X Y VV BB sz ⊢
  obtain ⟨x0, x1, x2, _⟩ := X.cells
  have V := specHeapValid_any _ _ _ _ VV
  rcases ev : hvB h
  · rw [ev] at V
    have hf : Hid (newCO h = none) := by unfold Hid newCO; rw [ev]; simp
    clear ev
    go_wp2_with fail
    refine V.mono ?_; rintro e w1 ⟨rfl, hb1⟩
    obtain ⟨y0, y1, y2, y3, f0, f1, f2, f3⟩ := (Y.below hb1).cells
    obtain ⟨hZ, hB⟩ := zero_done (w := w) (b := w.heap.size + 1) (by omega) (BB.trans (hb1.mono (by omega)))
    go_wp2_with fail
    rw [hf.out]
    refine bodyPost_ret (v := .tuple #[.agg #[.slice none 0 0, .slice none 0 0, .slice none 0 0, .slice none 0 0], .bool false]) ?_ rfl ⟨_, rfl, hZ, hB⟩
    simp [results, Try.results68, go_sem, y0, y1, y2, y3]
  · rw [ev] at V
    have hf : Hid (newCO h = some ⟨h, List.replicate n0 0⟩) := by unfold Hid newCO; rw [if_pos ev, l0.out]
    have h1n := hvB_len ev
    have u0 : n0 ≤ 8 := by have := l0.out; omega
    have e0 := l0.out
    clear ev
    go_wp2_with fail
    refine V.mono ?_; rintro e w2 ⟨rfl, hb2⟩
    have X2 := X.below hb2
    have B2 := BB.trans (hb2.mono (by omega))
    have Y2 := Y.below hb2
    have V2 := VV.below hb2
    have z2 : w.heap.size + 2 ≤ w2.heap.size := by have := hb2.size; omega
    obtain ⟨q0, q1, q2, _⟩ := X2.cells
    clear V x0 x1 x2 VV hb2 X Y
    obtain ⟨z0, z1, z2', b0, b1, b2⟩ : 0 < h.l.length ∧ 0 < h.r.length ∧ 0 < h.t.length ∧ h.l.length ≤ 1048576 ∧ h.r.length ≤ 1048576 ∧ h.t.length ≤ 1048576 := by omega
    have hmk : ∀ W, (Instr.makeSlice 23 (.int .i64 (n0 : Int)) (.int .i64 (n0 : Int))).run Try.prog W = .ok (.slice (some ⟨W.heap.size, 0, none⟩) n0 n0) (W.alloc (.cells (madeCells #[.int .i64 0] n0) 3)) := fun W => run_make_row' 23 3 (.int .i64 0) 8 Try.underlying23 Try.infoInt rfl .i64 .i64 n0 (by omega) (by omega) W
    have sD : (w2.alloc (.cells (madeCells #[.int .i64 0] n0) 3)).drew.heap.size = w2.heap.size + 1 := by show (w2.alloc (.cells (madeCells #[.int .i64 0] n0) 3)).heap.size = _; simp
    have hnb : w.heap.size + 1 ≠ w.heap.size := by omega
    go_wp2_with fail
    go_region_held3 (fun w' => w'.cell? ⟨w.heap.size, 0, none⟩ = some (.slice A0 n0 c0) ∧ w'.cell? ⟨w.heap.size, 1, none⟩ = some (.slice A1 n1 c1) ∧ w'.cell? ⟨w.heap.size, 2, none⟩ = some (.slice A2 n2 c2))
      (((try dsimp only); (repeat' apply And.intro) <;> (with_reducible (first | exact cellF4 (cellA p0 _) hnb _ _ _ _ | exact cellF4 (cellA p1 _) hnb _ _ _ _ | exact cellF4 (cellA p2 _) hnb _ _ _ _ | exact cellF4 p0 hnb _ _ _ _ | exact cellF4 p1 hnb _ _ _ _ | exact cellF4 p2 hnb _ _ _ _ | exact p0 | exact p1 | exact p2 | exact cellA p0 _ | exact cellA p1 _ | exact cellA p2 _ | exact q0 | exact q1 | exact q2 | exact cellD q0 | exact cellD q1 | exact cellD q2 | exact cellA q0 _ | exact cellA q1 _ | exact cellA q2 _ | exact cellD (cellA q0 _) | exact cellD (cellA q1 _) | exact cellD (cellA q2 _) | exact cellA (cellD q0) _ | exact cellA (cellD q1) _ | exact cellA (cellD q2) _)) <;> done))
      (first
        | (go_at_call 64; (with_reducible refine (l1Copy_any w2.drew lo _ h V2.drew z0 z1 z2' b0 b1 b2).mono ?_); rintro e w3 ⟨vv, rfl, HN0, hb0⟩; have HN : Hv w3 w2.heap.size vv h := HN0; have hb1 : Below w2.heap.size w2 w3 := (Below.refl w2.heap.size w2).drew.trans (hb0.mono (Nat.le_refl _)); (obtain ⟨p0, p1, p2, _⟩ := (X2.below hb1).cells); (obtain ⟨y0, y1, y2, y3, f0, f1, f2, f3⟩ := ((Y2.below hb1).alloc (.cells (madeCells #[.int .i64 0] n0) 3)).cells); (have hNo := HN); (obtain ⟨B0, m0, d0, B1, m1, d1, B2_, m2, d2, rfl, _⟩ := hNo.open_); have RM : Row (w3.alloc (.cells (madeCells #[.int .i64 0] n0) 3)) w3.heap.size (.slice (some ⟨w3.heap.size, 0, none⟩) n0 n0) (List.replicate n0 0) := rowMade w3 w3.heap.size n0 (Nat.le_refl _) (by omega))
        | (go_at_call 64; (with_reducible refine (l1Copy_any (w2.alloc (.cells (madeCells #[.int .i64 0] n0) 3)).drew lo _ h (V2.alloc _).drew z0 z1 z2' b0 b1 b2).mono ?_); rintro e w3 ⟨vv, rfl, HN0, hb0⟩; have HN : Hv w3 w2.heap.size vv h := HN0.mono (by rw [sD]; omega); have hb1 : Below w2.heap.size w2 w3 := (((Below.refl w2.heap.size w2).alloc (Nat.le_refl _) (.cells (madeCells #[.int .i64 0] n0) 3)).drew).trans (hb0.mono (by rw [sD]; omega)); (obtain ⟨p0, p1, p2, _⟩ := (X2.below hb1).cells); (obtain ⟨y0, y1, y2, y3, f0, f1, f2, f3⟩ := (Y2.below hb1).cells); (have hNo := HN); (obtain ⟨B0, m0, d0, B1, m1, d1, B2_, m2, d2, rfl, _⟩ := hNo.open_); have RM : Row w3 w2.heap.size (.slice (some ⟨w2.heap.size, 0, none⟩) n0 n0) (List.replicate n0 0) := ((rowMade w2 w2.heap.size n0 (Nat.le_refl _) (by omega)).drew).below hb0))
    · rename_i hHeld
      clear hHeld
      obtain ⟨_, _, _, evv, H0, H1, H2, _⟩ := HN0
      cases evv
      have s1 := hb1.size
      have ap : ∀ (v : Value) (xs : List Int), Row w3 w2.drew.heap.size v xs → Apart v (.slice (some ⟨w3.heap.size, 0, none⟩) n0 n0) := fun v xs r j e e' => by
        have h1 := (r.lt j e).2
        have h2 := Option.some.inj e'
        simp at h2
        omega
      obtain ⟨hH, hB⟩ := copyC_done (w := w) (C := ⟨h, List.replicate n0 0⟩) ((HN.alloc _).mono (by omega)) (RM.mono (by omega)) ⟨ap _ _ H0, ap _ _ H1, ap _ _ H2⟩ ((B2.trans (hb1.mono (by omega))).alloc (by have := B2.size; omega) _)
      clear q0 q1 q2 p0 p1 p2
      go_wp2_with fail
      rw [hf.out]
      refine bodyPost_ret (v := .tuple #[.agg #[.slice B0 m0 d0, .slice B1 m1 d1, .slice B2_ m2 d2, .slice (some ⟨w3.heap.size, 0, none⟩) n0 n0], .bool true]) ?_ rfl ⟨_, rfl, hH, hB⟩
      simp [results, Try.results68, go_sem, y0, y1, y2, y3]
    · rename_i hHeld
      clear hHeld
      obtain ⟨_, _, _, evv, H0, H1, H2, _⟩ := HN0
      cases evv
      have s1 := hb1.size
      have ap : ∀ (v : Value) (xs : List Int), Row w3 (w2.alloc (.cells (madeCells #[.int .i64 0] n0) 3)).drew.heap.size v xs → Apart v (.slice (some ⟨w2.heap.size, 0, none⟩) n0 n0) := fun v xs r j e e' => by
        have h1 := (r.lt j e).1
        rw [sD] at h1
        have h2 := Option.some.inj e'
        simp at h2
        omega
      obtain ⟨hH, hB⟩ := copyC_done (w := w) (C := ⟨h, List.replicate n0 0⟩) (HN.mono (by omega)) (RM.mono (by omega)) ⟨ap _ _ H0, ap _ _ H1, ap _ _ H2⟩ (B2.trans (hb1.mono (by omega)))
      clear q0 q1 q2 p0 p1 p2
      go_wp2_with fail
      rw [hf.out]
      refine bodyPost_ret (v := .tuple #[.agg #[.slice B0 m0 d0, .slice B1 m1 d1, .slice B2_ m2 d2, .slice (some ⟨w2.heap.size, 0, none⟩) n0 n0], .bool true]) ?_ rfl ⟨_, rfl, hH, hB⟩
      simp [results, Try.results68, go_sem, y0, y1, y2, y3]
end Go.Proofs.Ytmngkjcdaaladaa
