import Derived.Test.YtapkhgpifpgleaaHpA
import Derived.Test.YtapkhgpifpgleaaCopys
import Derived.Test.YtapkhgpifpgleaaHeap2
/- NewHeap of both. -/
namespace Go.Proofs.Ytapkhgpifpgleaa
open Go.RowKit

/-- A heap or none comes back, and nothing that was there has turned. -/
def OptHv (w : World) (o : Option Hp) (e : Ending) (w' : World) : Prop := ∃ v, e = .returned (.tuple #[v, .bool o.isSome]) ∧ Hv w' w.heap.size v (o.getD Hp.zero) ∧ Below w.heap.size w w'

theorem made_done {w w3 : World} {b : Nat} (hb : w.heap.size ≤ b) {v0 v1 v2 : Value} {h : Hp} (r0 : Row w3 (b + 1) v0 h.l) (r1 : Row w3 (b + 1) v1 h.r) (r2 : Row w3 (b + 1) v2 h.t)
    (a01 : Apart v0 v1) (a02 : Apart v0 v2) (a12 : Apart v1 v2) (hB : Below w.heap.size w w3) :
    Hv (((w3.setCell ⟨b, 0, none⟩ v0).setCell ⟨b, 1, none⟩ v1).setCell ⟨b, 2, none⟩ v2) w.heap.size (.agg #[v0, v1, v2]) h ∧
    Below w.heap.size w (((w3.setCell ⟨b, 0, none⟩ v0).setCell ⟨b, 1, none⟩ v1).setCell ⟨b, 2, none⟩ v2) := by
  have k : ∀ (v : Value) (xs : List Int), Row w3 (b + 1) v xs → v.ownBlock ≠ some b := fun v xs r e => by have := (r.lt _ e).1; omega
  have t : ∀ (v : Value) (xs : List Int), Row w3 (b + 1) v xs → Row (((w3.setCell ⟨b, 0, none⟩ v0).setCell ⟨b, 1, none⟩ v1).setCell ⟨b, 2, none⟩ v2) w.heap.size v xs :=
    fun v xs r => (((r.other (k v xs r) _).other (k v xs r) _).other (k v xs r) _).mono (by omega)
  exact ⟨⟨v0, v1, v2, rfl, t _ _ r0, t _ _ r1, t _ _ r2, a01, a02, a12⟩, ((hB.setCell hb _).setCell hb _).setCell hb _⟩

def newO (c r : Int) : Option Hp := if szB c r = true then some ⟨List.replicate c.toNat (-1), List.replicate c.toNat (-1), List.replicate r.toNat (-1)⟩ else none

set_option maxHeartbeats 1000000 in
theorem implNewHeap_any (w : World) (c r : Int) : Calls Try.prog 68 #[.int .i64 c, .int .i64 r] w (OptHv w (newO c r)) := by
  have S := sizesValid_any c r
  rcases es : szB c r
  · rw [es] at S
    have hO : Hid (newO c r = none) := by unfold Hid newO; simp [es]
    clear es
    go_enter Try.func68, Try.ntmps68
    go_wp2_with fail
    refine (S _).mono ?_; rintro e w' ⟨rfl, rfl⟩
    go_wp2_with fail
    refine bodyPost_ret (v := .tuple #[.agg #[.slice none 0 0, .slice none 0 0, .slice none 0 0], .bool false]) ?_ rfl ⟨.agg #[.slice none 0 0, .slice none 0 0, .slice none 0 0], ?_, ?_, ?_⟩
    · simp [results, Try.results68, go_sem]
    · rw [hO.out]; rfl
    · rw [hO.out]; exact Hv.zero _ _
    · exact (Below.refl _ _).alloc (Nat.le_refl _) _
  · rw [es] at S
    have hO : Hid (newO c r = some ⟨List.replicate c.toNat (-1), List.replicate c.toNat (-1), List.replicate r.toNat (-1)⟩) := by unfold Hid newO; simp [es]
    have hd : 1 ≤ c ∧ c ≤ 8 ∧ 1 ≤ r ∧ r ≤ 3 := by simpa [szB] using es
    clear es
    obtain ⟨n, rfl⟩ := Int.eq_ofNat_of_zero_le (by omega : 0 ≤ c)
    obtain ⟨m, rfl⟩ := Int.eq_ofNat_of_zero_le (by omega : 0 ≤ r)
    simp only [Int.toNat_natCast] at hO
    have Y0 := Blk3.new w (.slice none 0 0) (.slice none 0 0) (.slice none 0 0) 27
    go_enter Try.func68, Try.ntmps68
    go_wp2_with fail
    refine (S _).mono ?_; rintro e w' ⟨rfl, rfl⟩
    go_wp2_with fail
    refine (nonePointers_any _ n (by omega)).mono ?_; rintro e w1 ⟨A0, c0, rfl, hr0, hb1⟩
    have Y1 := Blk3.below (by exact Y0) hb1
    simp only [List.length_replicate] at hr0 ⊢
    go_wp2_with fail
    refine (nonePointers_any _ n (by omega)).mono ?_; rintro e w2 ⟨A1, c1, rfl, hr1, hb2⟩
    have Y2 := Blk3.below Y1 hb2
    simp only [List.length_replicate] at hr1 ⊢
    go_wp2_with fail
    refine (nonePointers_any _ m (by omega)).mono ?_; rintro e w3 ⟨A2, c2, rfl, hr2, hb3⟩
    have Y3 := Blk3.below Y2 hb3
    simp only [List.length_replicate] at hr2 ⊢
    obtain ⟨q0, q1, q2, f0, f1, f2⟩ := Y3.cells
    have s0 : w.heap.size + 1 ≤ w1.heap.size := by have := hb1.size; (try simp at this); omega
    have s1 : w.heap.size + 1 ≤ w2.heap.size := by have := hb2.size; omega
    have B1 : Below w.heap.size w w1 := ((Below.refl _ _).alloc (Nat.le_refl _) _).trans (hb1.mono (by simp))
    have B2 : Below w.heap.size w w2 := B1.trans (hb2.mono (by omega))
    have B3 : Below w.heap.size w w3 := B2.trans (hb3.mono (by omega))
    have r0 := hr0.mono (lo' := w.heap.size + 1) (by simp)
    have r1 := hr1.mono (lo' := w.heap.size + 1) (by omega)
    have r2 := hr2.mono (lo' := w.heap.size + 1) (by omega)
    obtain ⟨hH, hB⟩ := made_done (h := ⟨List.replicate n (-1), List.replicate n (-1), List.replicate m (-1)⟩) (Nat.le_refl _) ((r0.below hb2).below hb3) (r1.below hb3) r2 (apart_new r0 hr1) (apart_new (r0.below hb2) hr2) (apart_new r1 hr2) B3
    clear hr0 hr1 hr2 r0 r1 r2 Y1 Y2 Y3 hb1 hb2 hb3 B1 B2 B3
    go_wp2_with fail
    refine bodyPost_ret (v := .tuple #[.agg #[.slice A0 n c0, .slice A1 n c1, .slice A2 m c2], .bool true]) ?_ rfl ⟨.agg #[.slice A0 n c0, .slice A1 n c1, .slice A2 m c2], ?_, ?_, hB⟩
    · simp [results, Try.results68, go_sem, q0, q1, q2]
    · rw [hO.out]; rfl
    · rw [hO.out]; exact hH

set_option maxHeartbeats 1000000 in
theorem specNewHeap_any (w : World) (c r : Int) : Calls Try.prog 75 #[.int .i64 c, .int .i64 r] w (OptHv w (newO c r)) := by
  by_cases g1 : c < 1
  · have hO : Hid (newO c r = none) := by unfold Hid newO; rw [if_neg]; simp [szB]; omega
    go_enter Try.func75, Try.ntmps75
    go_wp2_with fail
    refine bodyPost_ret (v := .tuple #[.agg #[.slice none 0 0, .slice none 0 0, .slice none 0 0], .bool false]) ?_ rfl ⟨.agg #[.slice none 0 0, .slice none 0 0, .slice none 0 0], ?_, ?_, ?_⟩
    · simp [results, Try.results75, go_sem]
    · rw [hO.out]; rfl
    · rw [hO.out]; exact Hv.zero _ _
    · exact (Below.refl _ _).alloc (Nat.le_refl _) _
  by_cases g2 : 8 < c
  · have hO : Hid (newO c r = none) := by unfold Hid newO; rw [if_neg]; simp [szB]; omega
    go_enter Try.func75, Try.ntmps75
    go_wp2_with fail
    refine bodyPost_ret (v := .tuple #[.agg #[.slice none 0 0, .slice none 0 0, .slice none 0 0], .bool false]) ?_ rfl ⟨.agg #[.slice none 0 0, .slice none 0 0, .slice none 0 0], ?_, ?_, ?_⟩
    · simp [results, Try.results75, go_sem]
    · rw [hO.out]; rfl
    · rw [hO.out]; exact Hv.zero _ _
    · exact (Below.refl _ _).alloc (Nat.le_refl _) _
  by_cases g3 : r < 1
  · have hO : Hid (newO c r = none) := by unfold Hid newO; rw [if_neg]; simp [szB]; omega
    go_enter Try.func75, Try.ntmps75
    go_wp2_with fail
    refine bodyPost_ret (v := .tuple #[.agg #[.slice none 0 0, .slice none 0 0, .slice none 0 0], .bool false]) ?_ rfl ⟨.agg #[.slice none 0 0, .slice none 0 0, .slice none 0 0], ?_, ?_, ?_⟩
    · simp [results, Try.results75, go_sem]
    · rw [hO.out]; rfl
    · rw [hO.out]; exact Hv.zero _ _
    · exact (Below.refl _ _).alloc (Nat.le_refl _) _
  by_cases g4 : 3 < r
  · have hO : Hid (newO c r = none) := by unfold Hid newO; rw [if_neg]; simp [szB]; omega
    go_enter Try.func75, Try.ntmps75
    go_wp2_with fail
    refine bodyPost_ret (v := .tuple #[.agg #[.slice none 0 0, .slice none 0 0, .slice none 0 0], .bool false]) ?_ rfl ⟨.agg #[.slice none 0 0, .slice none 0 0, .slice none 0 0], ?_, ?_, ?_⟩
    · simp [results, Try.results75, go_sem]
    · rw [hO.out]; rfl
    · rw [hO.out]; exact Hv.zero _ _
    · exact (Below.refl _ _).alloc (Nat.le_refl _) _
  have hO : Hid (newO c r = some ⟨List.replicate c.toNat (-1), List.replicate c.toNat (-1), List.replicate r.toNat (-1)⟩) := by unfold Hid newO; rw [if_pos]; simp [szB]; omega
  obtain ⟨n, rfl⟩ := Int.eq_ofNat_of_zero_le (by omega : 0 ≤ c)
  obtain ⟨m, rfl⟩ := Int.eq_ofNat_of_zero_le (by omega : 0 ≤ r)
  simp only [Int.toNat_natCast] at hO
  have Y0 := Blk3.new w (.slice none 0 0) (.slice none 0 0) (.slice none 0 0) 27
  go_enter Try.func75, Try.ntmps75
  go_wp2_with fail
  refine (l1Many_any _ n (by omega)).mono ?_; rintro e w1 ⟨A0, c0, rfl, hr0, hb1⟩
  have Y1 := Blk3.below (by exact Y0) hb1
  simp only [List.length_replicate] at hr0 ⊢
  go_wp2_with fail
  refine (l1Many_any _ n (by omega)).mono ?_; rintro e w2 ⟨A1, c1, rfl, hr1, hb2⟩
  have Y2 := Blk3.below Y1 hb2
  simp only [List.length_replicate] at hr1 ⊢
  go_wp2_with fail
  refine (l1Many_any _ m (by omega)).mono ?_; rintro e w3 ⟨A2, c2, rfl, hr2, hb3⟩
  have Y3 := Blk3.below Y2 hb3
  simp only [List.length_replicate] at hr2 ⊢
  obtain ⟨q0, q1, q2, f0, f1, f2⟩ := Y3.cells
  have s0 : w.heap.size + 1 ≤ w1.heap.size := by have := hb1.size; (try simp at this); omega
  have s1 : w.heap.size + 1 ≤ w2.heap.size := by have := hb2.size; omega
  have B1 : Below w.heap.size w w1 := ((Below.refl _ _).alloc (Nat.le_refl _) _).trans (hb1.mono (by simp))
  have B2 : Below w.heap.size w w2 := B1.trans (hb2.mono (by omega))
  have B3 : Below w.heap.size w w3 := B2.trans (hb3.mono (by omega))
  have r0 := hr0.mono (lo' := w.heap.size + 1) (by simp)
  have r1 := hr1.mono (lo' := w.heap.size + 1) (by omega)
  have r2 := hr2.mono (lo' := w.heap.size + 1) (by omega)
  obtain ⟨hH, hB⟩ := made_done (h := ⟨List.replicate n (-1), List.replicate n (-1), List.replicate m (-1)⟩) (Nat.le_refl _) ((r0.below hb2).below hb3) (r1.below hb3) r2 (apart_new r0 hr1) (apart_new (r0.below hb2) hr2) (apart_new r1 hr2) B3
  clear hr0 hr1 hr2 r0 r1 r2 Y1 Y2 Y3 hb1 hb2 hb3 B1 B2 B3
  go_wp2_with fail
  refine bodyPost_ret (v := .tuple #[.agg #[.slice A0 n c0, .slice A1 n c1, .slice A2 m c2], .bool true]) ?_ rfl ⟨.agg #[.slice A0 n c0, .slice A1 n c1, .slice A2 m c2], ?_, ?_, hB⟩
  · simp [results, Try.results75, go_sem, q0, q1, q2]
  · rw [hO.out]; rfl
  · rw [hO.out]; exact hH

end Go.Proofs.Ytapkhgpifpgleaa

/- canPut, l1Cell. -/
namespace Go.Proofs.Ytapkhgpifpgleaa
open Go.RowKit

end Go.Proofs.Ytapkhgpifpgleaa

/- PutLeft, PutRight, PutRoot of both. -/
namespace Go.Proofs.Ytapkhgpifpgleaa
open Go.RowKit

def putL (h : Hp) (c t : Int) : Option Hp := if (hvB h && plB c h.l.length && ptB t h.l.length) = true then some ⟨h.l.set c.toNat t, h.r, h.t⟩ else none
def putR (h : Hp) (c t : Int) : Option Hp := if (hvB h && plB c h.r.length && ptB t h.l.length) = true then some ⟨h.l, h.r.set c.toNat t, h.t⟩ else none
def putT (h : Hp) (c t : Int) : Option Hp := if (hvB h && plB c h.t.length && ptB t h.l.length) = true then some ⟨h.l, h.r, h.t.set c.toNat t⟩ else none

theorem hvB_len {h : Hp} (hh : hvB h = true) : h.r.length = h.l.length ∧ 1 ≤ h.l.length ∧ h.l.length ≤ 8 ∧ 1 ≤ h.t.length ∧ h.t.length ≤ 3 := by
  simp [hvB, szB] at hh; omega
theorem plB_nat {x : Int} {n : Nat} (h : plB x n = true) : ∃ k : Nat, x = k ∧ k < n := by
  simp [plB] at h; exact ⟨x.toNat, by omega, by omega⟩


end Go.Proofs.Ytapkhgpifpgleaa

/- HeapSame of both. -/
namespace Go.Proofs.Ytapkhgpifpgleaa
open Go.RowKit

def sameB (a b : Hp) : Bool := decide (a.l = b.l) && decide (a.r = b.r) && decide (a.t = b.t)
theorem sameB_iff (a b : Hp) : sameB a b = true ↔ a = b := by cases a; cases b; simp [sameB, and_assoc]

set_option maxHeartbeats 1000000 in
theorem implHeapSame_any (w : World) (lo lo' : Nat) (v v' : Value) (a b : Hp) (hv : Hv w lo v a) (hv' : Hv w lo' v' b) : Calls Try.prog 48 #[v, v'] w (RetB w (sameB a b)) := by
  obtain ⟨A0, n0, c0, A1, n1, c1, A2, n2, c2, rfl, ⟨h0, h1, h2⟩, ⟨l0, l1, l2⟩, ⟨m0, m1, m2⟩, _⟩ := hv.open_
  obtain ⟨A0', n0', c0', A1', n1', c1', A2', n2', c2', rfl, ⟨h0', h1', h2'⟩, ⟨l0', l1', l2'⟩, ⟨m0', m1', m2'⟩, _⟩ := hv'.open_
  obtain ⟨o, ho⟩ : ∃ o : Obj, Hid (o = .cells #[.slice A0 n0 c0, .slice A1 n1 c1, .slice A2 n2 c2] 27) := ⟨_, rfl⟩
  obtain ⟨o', ho'⟩ : ∃ o : Obj, Hid (o = .cells #[.slice A0' n0' c0', .slice A1' n1' c1', .slice A2' n2' c2'] 27) := ⟨_, rfl⟩
  have k0 := (h0.alloc o).alloc o'
  have k1 := (h1.alloc o).alloc o'
  have k2 := (h2.alloc o).alloc o'
  have k0' := (h0'.alloc o).alloc o'
  have k1' := (h1'.alloc o).alloc o'
  have k2' := (h2'.alloc o).alloc o'
  have fin : Below w.heap.size w ((w.alloc o).alloc o') := ((Below.refl _ _).alloc (Nat.le_refl _) _).alloc (by simp) _
  rw [ho.out, ho'.out] at k0 k1 k2 k0' k1' k2' fin
  clear h0 h1 h2 h0' h1' h2' ho ho'
  have E0 := fun W p q => slicesEqual_any W lo lo' A0 A0' n0 c0 n0' c0' a.l b.l p l0.out m0 q l0'.out m0'
  have E1 := fun W p q => slicesEqual_any W lo lo' A1 A1' n1 c1 n1' c1' a.r b.r p l1.out m1 q l1'.out m1'
  have E2 := fun W p q => slicesEqual_any W lo lo' A2 A2' n2 c2 n2' c2' a.t b.t p l2.out m2 q l2'.out m2'
  by_cases e0 : a.l = b.l
  · rw [decide_eq_true e0] at E0
    by_cases e1 : a.r = b.r
    · rw [decide_eq_true e1] at E1
      have hf : Hid (sameB a b = decide (a.t = b.t)) := by unfold Hid sameB; simp [e0, e1]
      clear e0 e1
      go_enter Try.func48, Try.ntmps48
      go_wp2_with fail
      refine (E0 _ (by exact k0) (by exact k0')).mono ?_; rintro e w' ⟨rfl, q0, rfl⟩
      go_wp2_with fail
      refine (E1 _ (by exact k1.drewN _) (by exact k1'.drewN _)).mono ?_; rintro e w' ⟨rfl, q1, rfl⟩
      go_wp2_with fail
      refine (E2 _ (by exact k2.drewN _) (by exact k2'.drewN _)).mono ?_; rintro e w' ⟨rfl, q2, rfl⟩
      go_wp2_with fail
      go_ret
      exact ⟨ret_bool hf.out.symm, by repeat (first | exact fin | refine below_drewN ?_ _)⟩
    · rw [decide_eq_false e1] at E1
      have hf : Hid (sameB a b = false) := by unfold Hid sameB; simp [e1]
      clear e0 e1
      go_enter Try.func48, Try.ntmps48
      go_wp2_with fail
      refine (E0 _ (by exact k0) (by exact k0')).mono ?_; rintro e w' ⟨rfl, q0, rfl⟩
      go_wp2_with fail
      refine (E1 _ (by exact k1.drewN _) (by exact k1'.drewN _)).mono ?_; rintro e w' ⟨rfl, q1, rfl⟩
      go_wp2_with fail
      go_ret
      exact ⟨ret_bool hf.out.symm, by repeat (first | exact fin | refine below_drewN ?_ _)⟩
  · rw [decide_eq_false e0] at E0
    have hf : Hid (sameB a b = false) := by unfold Hid sameB; simp [e0]
    clear e0
    go_enter Try.func48, Try.ntmps48
    go_wp2_with fail
    refine (E0 _ (by exact k0) (by exact k0')).mono ?_; rintro e w' ⟨rfl, q0, rfl⟩
    go_wp2_with fail
    go_ret
    exact ⟨ret_bool hf.out.symm, by repeat (first | exact fin | refine below_drewN ?_ _)⟩

end Go.Proofs.Ytapkhgpifpgleaa

