/- PutLeft, PutRight, PutRoot of both. -/
import Derived.Test.YthbflohanjnaeaaCan
namespace Go.Proofs.Ythbflohanjnaeaa
open Go.RowKit

def putL (h : Hp) (c t : Int) : Option Hp := if (hvB h && plB c h.l.length && ptB t h.l.length) = true then some ⟨h.l.set c.toNat t, h.r, h.t⟩ else none
def putR (h : Hp) (c t : Int) : Option Hp := if (hvB h && plB c h.r.length && ptB t h.l.length) = true then some ⟨h.l, h.r.set c.toNat t, h.t⟩ else none
def putT (h : Hp) (c t : Int) : Option Hp := if (hvB h && plB c h.t.length && ptB t h.l.length) = true then some ⟨h.l, h.r, h.t.set c.toNat t⟩ else none

theorem hvB_len {h : Hp} (hh : hvB h = true) : h.r.length = h.l.length ∧ 1 ≤ h.l.length ∧ h.l.length ≤ 8 ∧ 1 ≤ h.t.length ∧ h.t.length ≤ 3 := by
  simp [hvB, szB] at hh; omega
theorem plB_nat {x : Int} {n : Nat} (h : plB x n = true) : ∃ k : Nat, x = k ∧ k < n := by
  simp [plB] at h; exact ⟨x.toNat, by omega, by omega⟩


set_option maxHeartbeats 2000000 in
theorem implPutRoot_any (w : World) (lo : Nat) (v : Value) (h : Hp) (hv : Hv w lo v h) (x y : Int) :
    Calls Try.prog 24 #[v, .int .i64 x, .int .i64 y] w (OptHv w (putT h x y)) := by
  obtain ⟨A0, n0, c0, A1, n1, c1, A2, n2, c2, rfl, ⟨h0, h1, h2⟩, ⟨l0, l1, l2⟩, _⟩ := hv.open_
  have X0 := (Blk3.new w (.slice A0 n0 c0) (.slice A1 n1 c1) (.slice A2 n2 c2) 25).alloc (.cells #[.slice none 0 0, .slice none 0 0, .slice none 0 0] 25)
  have Y0 := Blk3.new_at (w := w.alloc (.cells #[.slice A0 n0 c0, .slice A1 n1 c1, .slice A2 n2 c2] 25)) (b := w.heap.size + 1) (by simp) (.slice none 0 0) (.slice none 0 0) (.slice none 0 0) 25
  have hv1 := (hv.alloc (.cells #[.slice A0 n0 c0, .slice A1 n1 c1, .slice A2 n2 c2] 25)).alloc (.cells #[.slice none 0 0, .slice none 0 0, .slice none 0 0] 25)
  have fin0 : Below w.heap.size w ((w.alloc (.cells #[.slice A0 n0 c0, .slice A1 n1 c1, .slice A2 n2 c2] 25)).alloc (.cells #[.slice none 0 0, .slice none 0 0, .slice none 0 0] 25)) := ((Below.refl _ _).alloc (Nat.le_refl _) _).alloc (by simp) _
  have C := canPut_any _ _ _ _ hv1 A2 n2 c2 x y
  have cdef : Hid ((hvB h && plB x n2 && ptB y h.l.length) = (hvB h && plB x h.t.length && ptB y h.l.length)) := by unfold Hid; rw [l2.out]
  rcases ec : (hvB h && plB x n2 && ptB y h.l.length)
  · rw [ec] at C cdef
    have hO : Hid (putT h x y = none) := by unfold Hid putT; rw [← cdef.out]; simp
    clear ec cdef
    go_enter Try.func24, Try.ntmps24
    go_wp2_with fail
    refine C.mono ?_; rintro e w1 ⟨rfl, hb1⟩
    obtain ⟨y0, y1, y2, f0, f1, f2⟩ := (Blk3.below (by exact Y0) hb1).cells
    go_wp2_with fail
    refine bodyPost_ret (v := .tuple #[.agg #[.slice none 0 0, .slice none 0 0, .slice none 0 0], .bool false]) ?_ rfl ⟨.agg #[.slice none 0 0, .slice none 0 0, .slice none 0 0], ?_, ?_, ?_⟩
    · simp [results, Try.results24, go_sem, *]
    · rw [hO.out]; rfl
    · rw [hO.out]; exact Hv.zero _ _
    · exact ((fin0.trans (hb1.mono (by first | omega | (simp <;> omega)))).setCell (by simp) _).setCell (by simp) _ |>.setCell (by simp) _
  · rw [ec] at C
    obtain ⟨⟨ev, ep⟩, et⟩ : (hvB h = true ∧ plB x n2 = true) ∧ ptB y h.l.length = true := by simpa using ec
    have hl := hvB_len ev
    obtain ⟨k, rfl, hk⟩ := plB_nat ep
    have hO : Hid (putT h k y = some ⟨h.l, h.r, h.t.set k y⟩) := by unfold Hid putT; rw [if_pos (by rw [← ec, cdef.out])]; rfl
    clear ec cdef ev ep et
    go_enter Try.func24, Try.ntmps24
    go_wp2_with fail
    refine C.mono ?_; rintro e w1 ⟨rfl, hb1⟩
    obtain ⟨p0, p1, p2, _⟩ := (Blk3.below (by exact X0) hb1).cells
    have Y1 := Blk3.below (by exact Y0) hb1
    go_wp2_with fail
    refine (copyOfHeap_any _ lo _ h (hv1.below hb1) (by omega) (by omega) (by omega)).mono ?_; rintro e w2 ⟨v', rfl, hv2, hb2⟩
    have Y2 := Blk3.below Y1 hb2
    obtain ⟨A0', n0', c0', A1', n1', c1', A2', n2', c2', rfl, ⟨s0, s1, s2⟩, ⟨k0, k1, k2⟩, _, _, a01, a02, a12⟩ := hv2.open_
    have z1 : w.heap.size + 2 ≤ w1.heap.size := by have := hb1.size; (try simp at this); omega
    have s0' := s0.mono (lo' := w.heap.size + 1 + 1) (by omega)
    have s1' := s1.mono (lo' := w.heap.size + 1 + 1) (by omega)
    have s2' := s2.mono (lo' := w.heap.size + 1 + 1) (by omega)
    have hki : k < n2' := by have := k2.out; have := l2.out; omega
    obtain ⟨g, _, rfl, hg1, hg2, _, hcell, hfr⟩ := s2'.get (k := k) (by have := k2.out; omega)
    have Y4 := (Y2.other (p := ⟨g, k, none⟩) (by simp; omega) (.int .i64 y)).alloc (.cells #[.slice A0' n0' c0', .slice A1' n1' c1', .slice (some ⟨g, 0, none⟩) n2' c2'] 25)
    have R_2 := (s2'.set_ k y).alloc (.cells #[.slice A0' n0' c0', .slice A1' n1' c1', .slice (some ⟨g, 0, none⟩) n2' c2'] 25)
    have R_0 := (s0'.other (a := ⟨g, k, none⟩) (fun e => (a02 g e) rfl) (iv y)).alloc (.cells #[.slice A0' n0' c0', .slice A1' n1' c1', .slice (some ⟨g, 0, none⟩) n2' c2'] 25)
    have R_1 := (s1'.other (a := ⟨g, k, none⟩) (fun e => (a12 g e) rfl) (iv y)).alloc (.cells #[.slice A0' n0' c0', .slice A1' n1' c1', .slice (some ⟨g, 0, none⟩) n2' c2'] 25)
    have hB2 : Below w.heap.size w w2 := (fin0.trans (hb1.mono (by first | omega | (simp <;> omega)))).trans (hb2.mono (by omega))
    have hB3 : Below w.heap.size w ((w2.setCell ⟨g, k, none⟩ (iv y)).alloc (.cells #[.slice A0' n0' c0', .slice A1' n1' c1', .slice (some ⟨g, 0, none⟩) n2' c2'] 25)) := (hB2.setCell (by simp; omega) _).alloc (by simp [World.setCell]; exact hB2.size) _
    obtain ⟨hH, hB⟩ := made_done (h := ⟨h.l, h.r, h.t.set k y⟩) (w := w) (b := w.heap.size + 1) (by omega) R_0 R_1 R_2 a01 a02 a12 hB3
    obtain ⟨y0, y1, y2, f0, f1, f2⟩ := Y4.cells
    clear s0 s1 s2 s0' s1' s2' R_0 R_1 R_2 hB2 hB3 Y2 Y4 hv2
    go_wp2_with fail
    refine bodyPost_ret (v := .tuple #[.agg #[.slice A0' n0' c0', .slice A1' n1' c1', .slice (some ⟨g, 0, none⟩) n2' c2'], .bool true]) ?_ rfl ⟨.agg #[.slice A0' n0' c0', .slice A1' n1' c1', .slice (some ⟨g, 0, none⟩) n2' c2'], ?_, ?_, hB⟩
    · simp [results, Try.results24, go_sem, y0, y1, y2]
    · rw [hO.out]; rfl
    · rw [hO.out]; exact hH

end Go.Proofs.Ythbflohanjnaeaa
