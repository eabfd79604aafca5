/- ParseHeap of impl. -/
import Derived.Test.YtpimndfafibgeaaPrt
import Derived.Test.YtpimndfafibgeaaRdh
namespace Go.Proofs.Ytpimndfafibgeaa
open Go.RowKit

/-- The heap whose text it is comes back, or none. -/
def Parsed (w : World) (s : ByteArray) (e : Ending) (w' : World) : Prop :=
  ∃ v h ok, e = .returned (.tuple #[v, .bool ok]) ∧ Hv w' w.heap.size v h ∧ Below w.heap.size w w' ∧ (ok = true → IsText s h) ∧ (ok = false → (∀ g, ¬ IsText s g) ∧ h = Hp.zero)

set_option maxRecDepth 100000 in
set_option maxHeartbeats 1000000 in
theorem implParse_any (w : World) (s : ByteArray) (hs : s.size ≤ 1048576) :
    Calls Try.prog 11 #[.string s] w (Parsed w s) := by
  have Y0 := Blk3.new w (.slice none 0 0) (.slice none 0 0) (.slice none 0 0) 25
  have N := newRdr_any (w.alloc (.cells #[.slice none 0 0, .slice none 0 0, .slice none 0 0] 25)) s
  have fin : Below w.heap.size w (w.alloc (.cells #[.slice none 0 0, .slice none 0 0, .slice none 0 0] 25)) := (Below.refl _ _).alloc (Nat.le_refl _) _
  go_enter Try.func11, Try.ntmps11
  go_wp2_with fail
  refine N.mono ?_; rintro e w1 ⟨rfl, h1, hb1⟩
  have Y1 := Y0.below hb1
  have B1 := fin.trans (hb1.mono (by simp))
  have hbs : (w.alloc (.cells #[.slice none 0 0, .slice none 0 0, .slice none 0 0] 25)).heap.size = w.heap.size + 1 := by simp
  rw [hbs] at h1 hb1 ⊢
  have C := readCells_any w1 (w.heap.size + 1) s hs h1
  have fail_ : ∀ W, Below w.heap.size w W → Blk3 W w.heap.size (.slice none 0 0) (.slice none 0 0) (.slice none 0 0) 25 → (∀ g, ¬ IsText s g) →
      Parsed w s (.returned (.tuple #[.agg #[.slice none 0 0, .slice none 0 0, .slice none 0 0], .bool false])) (((W.setCell ⟨w.heap.size, 0, none⟩ (.slice none 0 0)).setCell ⟨w.heap.size, 1, none⟩ (.slice none 0 0)).setCell ⟨w.heap.size, 2, none⟩ (.slice none 0 0)) := fun W hB _ hno => by
    obtain ⟨hH, hBf⟩ := made_done (w3 := W) (b := w.heap.size) (h := Hp.zero) (Nat.le_refl _) (Row.nil _ _) (Row.nil _ _) (Row.nil _ _) (v0 := .slice none 0 0) (v1 := .slice none 0 0) (v2 := .slice none 0 0) (fun _ e => by cases e) (fun _ e => by cases e) (fun _ e => by cases e) hB
    exact ⟨_, _, false, rfl, hH, hBf, (fun e => by cases e), fun _ => ⟨hno, rfl⟩⟩
  clear N Y0 h1
  go_wp2_with fail
  refine C.mono ?_; rintro e w2 ⟨hb2, ⟨k, σ, hO, hsl, rfl, h2⟩ | ⟨⟨k, σ, hO, hsl, hbad⟩, rfl⟩⟩
  · have HO := Lib.hid hO
    have HSL := Lib.hid hsl
    have R := readRoots_any w2 (w.heap.size + 1) s hs { σ with a := σ.a + 1 } hO.m hO.ts h2
    have Y2 := Y1.far hb2 (by omega)
    have B2 := B1.trans (hb2.mono (by omega))
    clear h2 hO hsl C Y1
    go_wp2_with fail
    refine R.mono ?_; rintro e w3 ⟨hb3, ⟨i, σ', hR, hge, rfl, h3⟩ | ⟨⟨i, σ', hR, hlt, hbad⟩, rfl⟩⟩
    · have Y3 := Y2.far hb3 (by omega)
      have B3 := B2.trans (hb3.mono (by omega))
      have hn8 : σ'.n ≤ 8 := by rw [hR.n]; show σ.n ≤ 8; rw [HO.out.n]; exact HO.out.k8
      by_cases hc : szB σ'.n σ'.m = true ∧ flagsOk σ'
      · have CM := complete_any w3 (w.heap.size + 1) s σ' h3 hn8 true ⟨fun _ => hc, fun _ => rfl⟩
        have hi := Lib.hid (read_text HO.out HSL.out hR hge hc.1 hc.2)
        obtain ⟨b0, b1, b2⟩ := read_bounds HO.out hR
        have hl : σ'.ls.length = k := by rw [hR.ls]; exact HO.out.ll
        have hr : σ'.rs.length = k := by rw [hR.rs]; exact HO.out.rl
        have hnk : σ'.n = k := by rw [hR.n]; exact HO.out.n
        have HP := fun W (h : RB W (w.heap.size + 1) 8 s σ') => rdHeap_any W (w.heap.size + 1) s σ' h k i hnk hR.m HO.out.k8 hR.i3 hl hr hR.tl b0 b1 b2
        clear R Y2 fail_ hc hge hR b0 b1 b2 hl hr hnk hn8
        go_wp2_with fail
        refine CM.mono ?_; rintro e w4 ⟨rfl, hb4⟩
        have Y4 := Y3.below hb4
        have B4 := B3.trans (hb4.mono B3.size)
        have HQ := HP w4 (h3.far (hb4.block _ h3.lt))
        clear CM HP h3 Y3
        go_wp2_with fail
        refine HQ.mono ?_; rintro e w5 ⟨v, rfl, hv, hb5⟩
        have Y5 := Y4.below hb5
        have B5 := B4.trans (hb5.mono B4.size)
        have l4 := Y4.lt
        obtain ⟨A0, n0, c0, A1, m1, c1, A2, m2, c2, rfl, ⟨r0, r1, r2⟩, _, _, _, a01, a02, a12⟩ := hv.open_
        obtain ⟨y0, y1, y2, f0, f1, f2⟩ := Y5.cells
        obtain ⟨hH, hBf⟩ := made_done (h := ⟨σ'.ls, σ'.rs, σ'.ts⟩) (Nat.le_refl _) (r0.mono (by omega)) (r1.mono (by omega)) (r2.mono (by omega)) a01 a02 a12 B5
        clear hv r0 r1 r2 Y4 Y5 HQ
        go_wp2_with fail
        refine bodyPost_ret (v := .tuple #[.agg #[.slice A0 n0 c0, .slice A1 m1 c1, .slice A2 m2 c2], .bool true]) ?_ rfl ⟨_, _, true, rfl, hH, hBf, (fun _ => hi.out), (fun e => by cases e)⟩
        simp [results, Try.results11, go_sem, y0, y1, y2]
      · have CM := complete_any w3 (w.heap.size + 1) s σ' h3 hn8 false ⟨(fun e => by cases e), fun e => absurd e hc⟩
        have hno : ∀ g, ¬ IsText s g := fun g hi => hc (complete_of HO.out HSL.out hR hge hi)
        clear R Y2 hc hge hR hn8 h3
        go_wp2_with fail
        refine CM.mono ?_; rintro e w4 ⟨rfl, hb4⟩
        have Y4 := Y3.below hb4
        have F := fail_ w4 (B3.trans (hb4.mono B3.size)) Y4 hno
        obtain ⟨y0, y1, y2, f0, f1, f2⟩ := Y4.cells
        clear CM Y3 fail_ hno
        go_wp2_with fail
        refine bodyPost_ret (v := .tuple #[.agg #[.slice none 0 0, .slice none 0 0, .slice none 0 0], .bool false]) ?_ rfl F
        simp [results, Try.results11, go_sem, y0, y1, y2]
    · have Y3 := Y2.far hb3 (by omega)
      have B3 := B2.trans (hb3.mono (by omega))
      have F := fail_ w3 B3 Y3 (roots_fail HO.out HSL.out hR hlt hbad)
      obtain ⟨y0, y1, y2, f0, f1, f2⟩ := Y3.cells
      clear hR hbad R Y2 fail_ hlt
      go_wp2_with fail
      refine bodyPost_ret (v := .tuple #[.agg #[.slice none 0 0, .slice none 0 0, .slice none 0 0], .bool false]) ?_ rfl F
      simp [results, Try.results11, go_sem, y0, y1, y2]
  · have Y2 := Y1.far hb2 (by omega)
    have B2 := B1.trans (hb2.mono (by omega))
    have F := fail_ w2 B2 Y2 (cells_fail hO hsl hbad)
    obtain ⟨y0, y1, y2, f0, f1, f2⟩ := Y2.cells
    clear hO hsl hbad C Y1 fail_
    go_wp2_with fail
    refine bodyPost_ret (v := .tuple #[.agg #[.slice none 0 0, .slice none 0 0, .slice none 0 0], .bool false]) ?_ rfl F
    simp [results, Try.results11, go_sem, y0, y1, y2]
end Go.Proofs.Ytpimndfafibgeaa
