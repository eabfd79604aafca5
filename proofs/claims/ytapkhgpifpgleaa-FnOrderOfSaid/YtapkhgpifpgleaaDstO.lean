/- DistanceOf of both. -/
import Derived.Test.YtapkhgpifpgleaaLives
import Derived.Test.YtapkhgpifpgleaaHpB
namespace Go.Proofs.Ytapkhgpifpgleaa
open Go.RowKit Go.Maps

/-- A number and a Bool come back, and nothing that was there has turned. -/
def RetIB (w : World) (x : Int) (b : Bool) (e : Ending) (w' : World) : Prop := e = .returned (.tuple #[.int .i64 x, .bool b]) ∧ Below w.heap.size w w'
def dokB (h : Hp) (c : Int) : Bool := hvB h && plB c h.l.length && decide (0 ≤ gd (dist h h.t) c)
def dstN (h : Hp) (c : Int) : Int := if dokB h c = true then gd (dist h h.t) c else 0
theorem gd_far {D : List Int} {c : Int} (h : D.length ≤ c) : gd D c = -1 := by
  unfold gd
  have : D.length ≤ c.toNat := by omega
  simp [List.getD, this]

set_option maxRecDepth 100000 in
set_option maxHeartbeats 2000000 in
theorem implDst_any (w : World) (lo : Nat) (v : Value) (h : Hp) (hv : Hv w lo v h) (c : Int) (hwf : (Lit.int .i64 c).wf = true) :
    Calls Try.prog 36 #[v, .int .i64 c] w (RetIB w (dstN h c) (dokB h c)) := by
  obtain ⟨A0, n0, c0, A1, n1, c1, A2, n2, c2, rfl, ⟨h0, h1, h2⟩, ⟨l0, l1, l2⟩, _⟩ := hv.open_
  have X0 := Blk3.new w (.slice A0 n0 c0) (.slice A1 n1 c1) (.slice A2 n2 c2) 27
  have V := implHeapValid_any _ _ _ _ (hv.alloc (.cells #[.slice A0 n0 c0, .slice A1 n1 c1, .slice A2 n2 c2] 27))
  have fin : Below w.heap.size w (w.alloc (.cells #[.slice A0 n0 c0, .slice A1 n1 c1, .slice A2 n2 c2] 27)) := (Below.refl _ _).alloc (Nat.le_refl _) _
  rcases ev : hvB h
  · rw [ev] at V
    have hf : dokB h c = false := by unfold dokB; rw [ev]; simp
    have hf2 : dstN h c = 0 := by unfold dstN; rw [hf]; simp
    rw [hf, hf2]
    clear ev hf hf2
    go_enter Try.func36, Try.ntmps36
    go_wp2_with fail
    refine V.mono ?_; rintro e w1 ⟨rfl, hb1⟩
    go_wp2_with fail
    go_ret2
    exact ⟨rfl, fin.trans (hb1.mono (by simp))⟩
  · rw [ev] at V
    have hpt := (hvB_parts ev).2.2.2
    have DD := fun W hW hR => distancesFrom_any W lo (.agg #[.slice A0 n0 c0, .slice A1 n1 c1, .slice A2 n2 c2]) h hW ev A2 n2 c2 h.t lo hR l2.out hpt
    have hok : Hid (dokB h c = decide (0 ≤ c ∧ 0 ≤ gd (dist h h.t) c)) := by
      unfold Hid dokB; rw [ev]
      by_cases hc : 0 ≤ c
      · by_cases hc2 : c < h.l.length
        · simp [plB, hc, hc2]
        · have h9 : gd (dist h h.t) c = -1 := gd_far (by rw [dist_len]; omega)
          rw [h9]; simp
      · simp [plB, hc]
    have hkey : keyOf Try.prog 3 (.int .i64 c) = some (.int .i64 c) := keyOf_int_mk Try.underlying3 hwf
    clear ev hpt
    go_enter Try.func36, Try.ntmps36
    go_wp2_with fail
    refine V.mono ?_; rintro e w1 ⟨rfl, hb1⟩
    have X1 := Blk3.below (by exact X0) hb1
    have H1 := Hv.below (by exact hv.alloc (.cells #[.slice A0 n0 c0, .slice A1 n1 c1, .slice A2 n2 c2] 27)) hb1
    have R1 := Row.below (by exact h2.alloc (.cells #[.slice A0 n0 c0, .slice A1 n1 c1, .slice A2 n2 c2] 27)) hb1
    have B1 : Below w.heap.size w w1 := fin.trans (hb1.mono (by simp))
    obtain ⟨p0, p1, p2, _⟩ := X1.cells
    have D1 := DD w1 H1 R1
    clear V hv h0 h1 h2 DD H1 R1
    go_wp2_with fail
    refine D1.mono ?_; rintro e w2 ⟨b, m, M, rfl, hbb, hown, hmap, hb2⟩
    have B2 := B1.trans (hb2.mono B1.size)
    have hm1 := (hmap c).1
    have hm2 := Lib.hid (hmap c).2
    rw [← hok.out] at hm1
    have hno : Hid (dokB h c = false → M.atKey (.int .i64 c) (.lit (.int .i64 0)) = .lit (.int .i64 0)) := fun e => atKey_of_not_has (by rw [hm1, e]) _
    have HM := Lib.hid hm1
    have hdef : Hid (dstN h c = if dokB h c = true then gd (dist h h.t) c else 0) := rfl
    clear hmap hm1
    cases hd : dokB h c
    · have hhas : Maps.has M (.int .i64 c) = false := by rw [HM.out, hd]
      have h0 := hno.out hd
      have hdn : Hid (dstN h c = 0) := by unfold Hid; rw [hdef.out, hd]; simp
      have HH0 := Lib.hid h0
      have HDK := Lib.hid hd
      clear hd h0 hno hdef
      go_wp2_with (first
        | (at_lookup; refine wpList_lookup_own_ok_int _ rfl _ _ 71 rfl 3 3 .i64 lawInt Try.underlying71 Try.underlying3 (zeroInt _) b m M rfl hown _ _ rfl hkey ?_; intro cv hat hwc)
        | go_in)
      have hcv : cv = 0 := by have h9 := HH0.out; rw [hat] at h9; simpa using h9
      go_ret2
      exact ⟨by simp [hdn.out, hcv, HDK.out], B2⟩
    · have hhas : Maps.has M (.int .i64 c) = true := by rw [HM.out, hd]
      have h9 : 0 ≤ c ∧ 0 ≤ gd (dist h h.t) c := by have := hok.out; rw [hd] at this; simpa using this.symm
      have h0 := hm2.out h9.1 h9.2
      have hdn : Hid (dstN h c = gd (dist h h.t) c) := by unfold Hid; rw [hdef.out, hd]; simp
      have HH0 := Lib.hid h0
      have HDK := Lib.hid hd
      clear hd h0 hno hdef h9
      go_wp2_with (first
        | (at_lookup; refine wpList_lookup_own_ok_int _ rfl _ _ 71 rfl 3 3 .i64 lawInt Try.underlying71 Try.underlying3 (zeroInt _) b m M rfl hown _ _ rfl hkey ?_; intro cv hat hwc)
        | go_in)
      have hcv : cv = gd (dist h h.t) c := by have h9 := HH0.out; rw [hat] at h9; simpa using h9
      go_ret2
      exact ⟨by simp [hdn.out, hcv, HDK.out], B2⟩

end Go.Proofs.Ytapkhgpifpgleaa
