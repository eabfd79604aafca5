/- The exact law of ParseHeap, walked. -/
import Derived.Test.YtpimndfafibgeaaExactH
import Derived.Test.YtpimndfafibgeaaWLaw
import Derived.Test.YtpimndfafibgeaaPrO
namespace Go.Proofs.Ytpimndfafibgeaa
open Go.RowKit

theorem sameB_refl (a : Hp) : sameB a a = true := by simp [sameB]
theorem heldHeap_one (w : World) (lo : Nat) (v : Value) (h : Hp) (hv : Hv w lo v (markH 1 h)) (b0 : h.l.length ≤ 1048576) (b1 : h.r.length ≤ 1048576) (b2 : h.t.length ≤ 1048576) :
    Calls Try.prog 24 #[v, .int .i64 1] w (RetI w ((1 + sizeH h : Nat) : Int)) := heldHeap_any w lo v h 1 hv b0 b1 b2 (by omega)

set_option maxHeartbeats 2000000 in
theorem lawExactParseHeap_walk (w : World) (s : ByteArray) : Calls Try.prog 8 #[.string s] w (LawTrue w) := by
  by_cases hbig : 1048576 < s.size
  · go_enter Try.func8, Try.ntmps8
    go_wp2_with fail
    go_ret
    exact ⟨rfl, Below.refl _ _⟩
  have I := fun W => implParseO W s (by omega)
  have S := fun W => specParseO W s (by omega)
  rcases ho : prsO s with _ | hp
  · rw [ho] at I S
    have bd : Hp.zero.l.length ≤ 1048576 ∧ Hp.zero.r.length ≤ 1048576 ∧ Hp.zero.t.length ≤ 1048576 := by simp [Hp.zero]
    clear ho
    go_enter Try.func8, Try.ntmps8
    go_wp2_with fail
    refine (S _).mono ?_; rintro e w1 ⟨v, rfl, HA, hb1⟩
    simp only [Option.isSome_none, Option.getD_none] at HA ⊢
    obtain ⟨A0, n0, c0, A1, n1, c1, A2, n2, c2, rfl, _⟩ := HA.open_
    go_wp2_with fail
    refine (I _).mono ?_; rintro e w2 ⟨v, rfl, HB, hb2⟩
    simp only [Option.isSome_none, Option.getD_none] at HB ⊢
    obtain ⟨B0, k0, d0, B1, k1, d1, B2, k2, d2, rfl, ⟨br0, br1, br2⟩, _⟩ := HB.open_
    have z2 : w1.heap.size + 1 ≤ w2.heap.size := by have := hb2.size; simp at this; omega
    have z2' : w1.heap.size < w2.heap.size := by omega
    have nin : NotIn (.agg #[.slice B0 k0 d0, .slice B1 k1 d1, .slice B2 k2 d2]) w2.heap.size := fun v0 v1 v2 ev => by
      cases ev; exact ⟨br0.notown (Nat.le_refl _), br1.notown (Nat.le_refl _), br2.notown (Nat.le_refl _)⟩
    have nin1 : NotIn (.agg #[.slice B0 k0 d0, .slice B1 k1 d1, .slice B2 k2 d2]) w1.heap.size := fun v0 v1 v2 ev => by
      cases ev; exact ⟨fun e => by have := (br0.lt _ e.symm).1; simp at this; omega, fun e => by have := (br1.lt _ e.symm).1; simp at this; omega, fun e => by have := (br2.lt _ e.symm).1; simp at this; omega⟩
    have HB' := HB.mono (lo' := w1.heap.size + 1) (by simp)
    have X2 := Blk3.below (by exact (Blk3.new w1 (.slice A0 n0 c0) (.slice A1 n1 c1) (.slice A2 n2 c2) 25)) hb2
    obtain ⟨x20, x21, x22, _⟩ := X2.cells
    have HA2 := Hv.below (by exact HA.alloc (.cells #[.slice A0 n0 c0, .slice A1 n1 c1, .slice A2 n2 c2] 25)) hb2
    have E1 := eqHeap_any _ _ _ _ _ _ _ (HB'.alloc (.cells #[.slice B0 k0 d0, .slice B1 k1 d1, .slice B2 k2 d2] 25)) (HA2.alloc (.cells #[.slice B0 k0 d0, .slice B1 k1 d1, .slice B2 k2 d2] 25))
    rw [sameB_refl] at E1
    go_wp2_with fail
    refine E1.mono ?_; rintro e w3 ⟨rfl, hb3⟩
    have z3 : w2.heap.size + 1 ≤ w3.heap.size := by have := hb3.size; simp at this; omega
    have X3 := Blk3.below (by exact X2.alloc (.cells #[.slice B0 k0 d0, .slice B1 k1 d1, .slice B2 k2 d2] 25)) hb3
    have Y3 := Blk3.below (by exact (Blk3.new w2 (.slice B0 k0 d0) (.slice B1 k1 d1) (.slice B2 k2 d2) 25)) hb3
    have HB3 := (HB'.alloc (.cells #[.slice B0 k0 d0, .slice B1 k1 d1, .slice B2 k2 d2] 25)).below hb3
    have W13 : Below w1.heap.size w1 w3 := ((((Below.refl _ _).alloc (Nat.le_refl _) _).trans (hb2.mono (by simp))).alloc (by omega) _).trans (hb3.mono (by simp; omega))
    obtain ⟨x30, x31, x32, _⟩ := X3.cells
    obtain ⟨y30, y31, y32, _⟩ := Y3.cells
    have M : Calls Try.prog 23 #[.agg #[.slice B0 k0 d0, .slice B1 k1 d1, .slice B2 k2 d2], .int .i64 1] w3 (MarkedH w3 (w1.heap.size + 1) 1 (.agg #[.slice B0 k0 d0, .slice B1 k1 d1, .slice B2 k2 d2]) Hp.zero) :=
      markHeap_any w3 _ _ _ HB3 (by omega) bd.1 bd.2.1 bd.2.2 1 (by omega)
    go_wp2_with fail
    refine M.mono ?_; rintro e w4 ⟨rfl, HM, hb4, fr4⟩
    have z4 := hb4.size
    have X4 : Blk3 w4 w1.heap.size _ _ _ _ := (fr4 _ X3.lt nin1).trans X3
    have Y4 : Blk3 w4 w2.heap.size _ _ _ _ := (fr4 _ Y3.lt nin).trans Y3
    have W14 : Below w1.heap.size w1 w4 := W13.trans (hb4.mono (by omega))
    obtain ⟨x40, x41, x42, _⟩ := X4.cells
    obtain ⟨y40, y41, y42, _⟩ := Y4.cells
    have Q := fun W (hW : Hv W (w1.heap.size + 1) (.agg #[.slice B0 k0 d0, .slice B1 k1 d1, .slice B2 k2 d2]) (markH 1 Hp.zero)) => heldHeap_one W _ _ _ hW bd.1 bd.2.1 bd.2.2
    have hN : 0 ≤ ((1 + sizeH Hp.zero : Nat) : Int) := by omega
    generalize ((1 + sizeH Hp.zero : Nat) : Int) = N at *
    have Q1 := Q _ HM
    go_wp2_with fail
    refine Q1.mono ?_; rintro e w5 ⟨rfl, hb5⟩
    have X5 := X4.below hb5
    have Y5 := Y4.below hb5
    have W15 : Below w1.heap.size w1 w5 := W14.trans (hb5.mono W14.size)
    obtain ⟨x50, x51, x52, _⟩ := X5.cells
    obtain ⟨y50, y51, y52, _⟩ := Y5.cells
    go_wp2_with fail
    refine (I _).mono ?_; rintro e w6 ⟨v, rfl, HC, hb6⟩
    simp only [Option.isSome_none, Option.getD_none] at HC ⊢
    obtain ⟨C0, m0, e0, C1, m1, e1, C2, m2, e2, rfl, _⟩ := HC.open_
    have X6 := X5.below hb6
    have Y6 := Y5.below hb6
    have W16 : Below w1.heap.size w1 w6 := W15.trans (hb6.mono W15.size)
    have z6 : w1.heap.size < w6.heap.size ∧ w2.heap.size < w6.heap.size := by have := hb5.size; have := hb6.size; omega
    obtain ⟨z6a, z6b⟩ := z6
    obtain ⟨x60, x61, x62, _⟩ := X6.cells
    have E2 := eqHeap_any _ _ _ _ _ _ _ (HC.alloc (.cells #[.slice C0 m0 e0, .slice C1 m1 e1, .slice C2 m2 e2] 25)) ((HA.below W16).alloc (.cells #[.slice C0 m0 e0, .slice C1 m1 e1, .slice C2 m2 e2] 25))
    rw [sameB_refl] at E2
    go_wp2_with fail
    refine E2.mono ?_; rintro e w7 ⟨rfl, hb7⟩
    obtain ⟨y70, y71, y72, _⟩ := ((Y6.alloc (.cells #[.slice C0 m0 e0, .slice C1 m1 e1, .slice C2 m2 e2] 25)).below hb7).cells
    have Q2 := Q _ ((((HM.below hb5).below hb6).alloc (.cells #[.slice C0 m0 e0, .slice C1 m1 e1, .slice C2 m2 e2] 25)).below hb7)
    have B6 : Below w.heap.size w w6 := hb1.trans (W16.mono hb1.size)
    have B7 : Below w.heap.size w w7 := (B6.alloc B6.size _).trans (hb7.mono (by have := B6.size; simp; omega))
    go_wp2_with fail
    refine Q2.mono ?_; rintro e w8 ⟨rfl, hb8⟩
    go_wp2_with fail
    go_ret
    exact ⟨rfl, B7.trans (hb8.mono B7.size)⟩
  · rw [ho] at I S
    have bd : hp.l.length ≤ 1048576 ∧ hp.r.length ≤ 1048576 ∧ hp.t.length ≤ 1048576 := prsO_len ho
    clear ho
    go_enter Try.func8, Try.ntmps8
    go_wp2_with fail
    refine (S _).mono ?_; rintro e w1 ⟨v, rfl, HA, hb1⟩
    simp only [Option.isSome_some, Option.getD_some] at HA ⊢
    obtain ⟨A0, n0, c0, A1, n1, c1, A2, n2, c2, rfl, _⟩ := HA.open_
    go_wp2_with fail
    refine (I _).mono ?_; rintro e w2 ⟨v, rfl, HB, hb2⟩
    simp only [Option.isSome_some, Option.getD_some] at HB ⊢
    obtain ⟨B0, k0, d0, B1, k1, d1, B2, k2, d2, rfl, ⟨br0, br1, br2⟩, _⟩ := HB.open_
    have z2 : w1.heap.size + 1 ≤ w2.heap.size := by have := hb2.size; simp at this; omega
    have z2' : w1.heap.size < w2.heap.size := by omega
    have nin : NotIn (.agg #[.slice B0 k0 d0, .slice B1 k1 d1, .slice B2 k2 d2]) w2.heap.size := fun v0 v1 v2 ev => by
      cases ev; exact ⟨br0.notown (Nat.le_refl _), br1.notown (Nat.le_refl _), br2.notown (Nat.le_refl _)⟩
    have nin1 : NotIn (.agg #[.slice B0 k0 d0, .slice B1 k1 d1, .slice B2 k2 d2]) w1.heap.size := fun v0 v1 v2 ev => by
      cases ev; exact ⟨fun e => by have := (br0.lt _ e.symm).1; simp at this; omega, fun e => by have := (br1.lt _ e.symm).1; simp at this; omega, fun e => by have := (br2.lt _ e.symm).1; simp at this; omega⟩
    have HB' := HB.mono (lo' := w1.heap.size + 1) (by simp)
    have X2 := Blk3.below (by exact (Blk3.new w1 (.slice A0 n0 c0) (.slice A1 n1 c1) (.slice A2 n2 c2) 25)) hb2
    obtain ⟨x20, x21, x22, _⟩ := X2.cells
    have HA2 := Hv.below (by exact HA.alloc (.cells #[.slice A0 n0 c0, .slice A1 n1 c1, .slice A2 n2 c2] 25)) hb2
    have E1 := eqHeap_any _ _ _ _ _ _ _ (HB'.alloc (.cells #[.slice B0 k0 d0, .slice B1 k1 d1, .slice B2 k2 d2] 25)) (HA2.alloc (.cells #[.slice B0 k0 d0, .slice B1 k1 d1, .slice B2 k2 d2] 25))
    rw [sameB_refl] at E1
    go_wp2_with fail
    refine E1.mono ?_; rintro e w3 ⟨rfl, hb3⟩
    have z3 : w2.heap.size + 1 ≤ w3.heap.size := by have := hb3.size; simp at this; omega
    have X3 := Blk3.below (by exact X2.alloc (.cells #[.slice B0 k0 d0, .slice B1 k1 d1, .slice B2 k2 d2] 25)) hb3
    have Y3 := Blk3.below (by exact (Blk3.new w2 (.slice B0 k0 d0) (.slice B1 k1 d1) (.slice B2 k2 d2) 25)) hb3
    have HB3 := (HB'.alloc (.cells #[.slice B0 k0 d0, .slice B1 k1 d1, .slice B2 k2 d2] 25)).below hb3
    have W13 : Below w1.heap.size w1 w3 := ((((Below.refl _ _).alloc (Nat.le_refl _) _).trans (hb2.mono (by simp))).alloc (by omega) _).trans (hb3.mono (by simp; omega))
    obtain ⟨x30, x31, x32, _⟩ := X3.cells
    obtain ⟨y30, y31, y32, _⟩ := Y3.cells
    have M : Calls Try.prog 23 #[.agg #[.slice B0 k0 d0, .slice B1 k1 d1, .slice B2 k2 d2], .int .i64 1] w3 (MarkedH w3 (w1.heap.size + 1) 1 (.agg #[.slice B0 k0 d0, .slice B1 k1 d1, .slice B2 k2 d2]) hp) :=
      markHeap_any w3 _ _ _ HB3 (by omega) bd.1 bd.2.1 bd.2.2 1 (by omega)
    go_wp2_with fail
    refine M.mono ?_; rintro e w4 ⟨rfl, HM, hb4, fr4⟩
    have z4 := hb4.size
    have X4 : Blk3 w4 w1.heap.size _ _ _ _ := (fr4 _ X3.lt nin1).trans X3
    have Y4 : Blk3 w4 w2.heap.size _ _ _ _ := (fr4 _ Y3.lt nin).trans Y3
    have W14 : Below w1.heap.size w1 w4 := W13.trans (hb4.mono (by omega))
    obtain ⟨x40, x41, x42, _⟩ := X4.cells
    obtain ⟨y40, y41, y42, _⟩ := Y4.cells
    have Q := fun W (hW : Hv W (w1.heap.size + 1) (.agg #[.slice B0 k0 d0, .slice B1 k1 d1, .slice B2 k2 d2]) (markH 1 hp)) => heldHeap_one W _ _ _ hW bd.1 bd.2.1 bd.2.2
    have hN : 0 ≤ ((1 + sizeH hp : Nat) : Int) := by omega
    generalize ((1 + sizeH hp : Nat) : Int) = N at *
    have Q1 := Q _ HM
    go_wp2_with fail
    refine Q1.mono ?_; rintro e w5 ⟨rfl, hb5⟩
    have X5 := X4.below hb5
    have Y5 := Y4.below hb5
    have W15 : Below w1.heap.size w1 w5 := W14.trans (hb5.mono W14.size)
    obtain ⟨x50, x51, x52, _⟩ := X5.cells
    obtain ⟨y50, y51, y52, _⟩ := Y5.cells
    go_wp2_with fail
    refine (I _).mono ?_; rintro e w6 ⟨v, rfl, HC, hb6⟩
    simp only [Option.isSome_some, Option.getD_some] at HC ⊢
    obtain ⟨C0, m0, e0, C1, m1, e1, C2, m2, e2, rfl, _⟩ := HC.open_
    have X6 := X5.below hb6
    have Y6 := Y5.below hb6
    have W16 : Below w1.heap.size w1 w6 := W15.trans (hb6.mono W15.size)
    have z6 : w1.heap.size < w6.heap.size ∧ w2.heap.size < w6.heap.size := by have := hb5.size; have := hb6.size; omega
    obtain ⟨z6a, z6b⟩ := z6
    obtain ⟨x60, x61, x62, _⟩ := X6.cells
    have E2 := eqHeap_any _ _ _ _ _ _ _ (HC.alloc (.cells #[.slice C0 m0 e0, .slice C1 m1 e1, .slice C2 m2 e2] 25)) ((HA.below W16).alloc (.cells #[.slice C0 m0 e0, .slice C1 m1 e1, .slice C2 m2 e2] 25))
    rw [sameB_refl] at E2
    go_wp2_with fail
    refine E2.mono ?_; rintro e w7 ⟨rfl, hb7⟩
    obtain ⟨y70, y71, y72, _⟩ := ((Y6.alloc (.cells #[.slice C0 m0 e0, .slice C1 m1 e1, .slice C2 m2 e2] 25)).below hb7).cells
    have Q2 := Q _ ((((HM.below hb5).below hb6).alloc (.cells #[.slice C0 m0 e0, .slice C1 m1 e1, .slice C2 m2 e2] 25)).below hb7)
    have B6 : Below w.heap.size w w6 := hb1.trans (W16.mono hb1.size)
    have B7 : Below w.heap.size w w7 := (B6.alloc B6.size _).trans (hb7.mono (by have := B6.size; simp; omega))
    go_wp2_with fail
    refine Q2.mono ?_; rintro e w8 ⟨rfl, hb8⟩
    go_wp2_with fail
    go_ret
    exact ⟨rfl, B7.trans (hb8.mono B7.size)⟩
end Go.Proofs.Ytpimndfafibgeaa
