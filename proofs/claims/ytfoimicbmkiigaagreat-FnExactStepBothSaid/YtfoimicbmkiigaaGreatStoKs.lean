import Derived.Test.YtfoimicbmkiigaaGreatStos
import Derived.Test.YtfoimicbmkiigaaGreatLives
import Derived.Test.YtfoimicbmkiigaaGreatStoA
/- LeakedOf of spec. -/
namespace Go.Proofs.YtfoimicbmkiigaaGreat
open Go.RowKit

def leakF (c : List Int) (x : Int) : Bool := !decide (x ∈ c)
def leakN (gs c : List Int) (k : Nat) : List Int := (gs.take k).filter (leakF c)
/-- The leaked cells of a store. -/
def leakL (C : Cp) : List Int := if stoB C = true then leakN (garb C.h) C.c (garb C.h).length else []
theorem leakN_in {gs c : List Int} {k : Nat} {x : Int} (hx : gs[k]? = some x) (h : x ∈ c) : leakN gs c (k + 1) = leakN gs c k := by
  unfold leakN; rw [List.take_add_one, hx, Option.toList_some, List.filter_append]; simp [leakF, h]
theorem leakN_not {gs c : List Int} {k : Nat} {x : Int} (hx : gs[k]? = some x) (h : x ∉ c) : leakN gs c (k + 1) = leakN gs c k ++ [x] := by
  unfold leakN; rw [List.take_add_one, hx, Option.toList_some, List.filter_append]; simp [leakF, h]
theorem leakN_len (gs c : List Int) (k : Nat) : (leakN gs c k).length ≤ k := by
  unfold leakN; exact Nat.le_trans (List.length_filter_le _ _) (by rw [List.length_take]; omega)

theorem Blk4.kept_own {w w' : World} {b : Nat} {x y z u : Value} {t : TypeId} {row : Option Nat} (h : Blk4 w b x y z u t) (hg : w.grownBy w' row) (hb : some b ≠ row) : Blk4 w' b x y z u t := (hg.block b h.lt hb).trans h

end Go.Proofs.YtfoimicbmkiigaaGreat

/- l4Clear of spec. -/
namespace Go.Proofs.YtfoimicbmkiigaaGreat
open Go.RowKit

def clrF (cs : List Int) (i : Nat) (x : Int) : Int := if x ∈ cs ∨ (i : Int) ∈ cs then -1 else x
/-- The first k pointers of a row are cleared. -/
def clrN (l cs : List Int) (k : Nat) : List Int := l.mapIdx fun i x => if i < k then clrF cs i x else x
theorem clrN_len (l cs : List Int) (k : Nat) : (clrN l cs k).length = l.length := by unfold clrN; simp
theorem clrN_at (l cs : List Int) (k i : Nat) : (clrN l cs k)[i]? = l[i]?.map fun x => if i < k then clrF cs i x else x := by unfold clrN; simp
theorem clrN_zero (l cs : List Int) : clrN l cs 0 = l := by
  apply List.ext_getElem?; intro i; rw [clrN_at]; simp
theorem clrN_get (l cs : List Int) (k : Nat) : (clrN l cs k)[k]? = l[k]? := by rw [clrN_at]; simp
theorem clrN_hit {l cs : List Int} {k : Nat} {x : Int} (hx : l[k]? = some x) (h : x ∈ cs ∨ (k : Int) ∈ cs) : clrN l cs (k + 1) = (clrN l cs k).set k (-1) := by
  apply List.ext_getElem?; intro i
  rw [List.getElem?_set, clrN_at, clrN_at, clrN_len]
  obtain ⟨hk, _⟩ := List.getElem?_eq_some_iff.1 hx
  by_cases e : k = i
  · subst e
    rw [if_pos rfl, if_pos hk, hx]
    simp [clrF, h]
  · rw [if_neg e]
    congr 1; funext y
    by_cases h9 : i < k
    · rw [if_pos h9, if_pos (by omega)]
    · rw [if_neg h9, if_neg (by omega)]
theorem clrN_miss {l cs : List Int} {k : Nat} {x : Int} (hx : l[k]? = some x) (h : ¬ (x ∈ cs ∨ (k : Int) ∈ cs)) : clrN l cs (k + 1) = clrN l cs k := by
  apply List.ext_getElem?; intro i
  rw [clrN_at, clrN_at]
  by_cases e : i = k
  · subst e
    rw [hx]; simp [clrF, h]
  · congr 1; funext y
    by_cases h9 : i < k
    · rw [if_pos h9, if_pos (by omega)]
    · rw [if_neg h9, if_neg (by omega)]
def clearC (C : Cp) (cs : List Int) : Cp := ⟨⟨clrN C.h.l cs C.h.l.length, clrN C.h.r cs C.h.l.length, C.h.t⟩, C.c ++ cs⟩

set_option maxRecDepth 100000 in
set_option maxHeartbeats 4000000 in
theorem l4Clear_any (w : World) (lo lc : Nat) (v : Value) (C : Cp) (hv : Cv w lo v C) (hC : stoB C = true) (A : Option Addr) (n c : Nat) (cs : List Int) (hcs : Row w lc (.slice A n c) cs) (hl : Hid (cs.length = n)) (hn : n ≤ 8) :
    Calls Tryz.prog 137 #[v, .slice A n c] w (NewCv w (clearC C cs)) := by
  have hvo := hv
  obtain ⟨A0, n0, c0, A1, n1, c1, A2, n2, c2, A3, n3, c3, rfl, hh, ⟨r0, r1, r2, r3⟩, ⟨l0, l1, l2, l3⟩, _, _⟩ := hvo.open_
  have Y := Blk4.new_at (w := w.alloc (.cells #[.slice A0 n0 c0, .slice A1 n1 c1, .slice A2 n2 c2, .slice A3 n3 c3] 27)) (b := w.heap.size + 1) (by simp) (.slice none 0 0) (.slice none 0 0) (.slice none 0 0) (.slice none 0 0) 27
  have VV := (hv.alloc (.cells #[.slice A0 n0 c0, .slice A1 n1 c1, .slice A2 n2 c2, .slice A3 n3 c3] 27)).alloc (.cells #[.slice none 0 0, .slice none 0 0, .slice none 0 0, .slice none 0 0] 27)
  have TT := (hcs.alloc (.cells #[.slice A0 n0 c0, .slice A1 n1 c1, .slice A2 n2 c2, .slice A3 n3 c3] 27)).alloc (.cells #[.slice none 0 0, .slice none 0 0, .slice none 0 0, .slice none 0 0] 27)
  have BB : Below w.heap.size w ((w.alloc (.cells #[.slice A0 n0 c0, .slice A1 n1 c1, .slice A2 n2 c2, .slice A3 n3 c3] 27)).alloc (.cells #[.slice none 0 0, .slice none 0 0, .slice none 0 0, .slice none 0 0] 27)) := ((Below.refl _ _).alloc (Nat.le_refl _) _).alloc (by simp) _
  have sz : ((w.alloc (.cells #[.slice A0 n0 c0, .slice A1 n1 c1, .slice A2 n2 c2, .slice A3 n3 c3] 27)).alloc (.cells #[.slice none 0 0, .slice none 0 0, .slice none 0 0, .slice none 0 0] 27)).heap.size = w.heap.size + 2 := by simp
  have Cc := l4Copy_any _ _ _ _ VV hC
  have tA := Lib.hid (fun j e => (hcs.lt j e).2 : ∀ j, (Value.slice A n c).ownBlock = some j → j < w.heap.size)
  have hm : n ≤ 9223372036854775807 := by omega
  obtain ⟨hvh, hle, _, _⟩ := stoB_parts hC
  have h8 := hvB_len hvh
  clear hv hh r0 r1 r2 r3 VV hcs hC hvh
  go_enter Tryz.func137, Tryz.ntmps137
  go_wp2_with fail
  generalize (w.alloc (.cells #[.slice A0 n0 c0, .slice A1 n1 c1, .slice A2 n2 c2, .slice A3 n3 c3] 27)).alloc (.cells #[.slice none 0 0, .slice none 0 0, .slice none 0 0, .slice none 0 0] 27) = w1 at Y TT BB sz Cc ⊢
  refine Cc.mono ?_; rintro e w3 ⟨vv, rfl, hD, hb3⟩
  obtain ⟨D0, m0, d0, D1, m1, d1, D2, m2, d2, D3, m3, d3, rfl, dh, ⟨s0, s1, s2, s3⟩, ⟨t0, t1, t2, t3⟩, _, ⟨a01, a02, a12⟩, ⟨a03, a13, a23⟩⟩ := hD.open_
  obtain ⟨ga, rfl, hlga, hga⟩ := s0.at_ (k := 0) (by omega)
  obtain ⟨gb, rfl, hlgb, hgb⟩ := s1.at_ (k := 0) (by omega)
  have z3 := hb3.size
  obtain ⟨Bz, hBz⟩ : ∃ b, b = w3.heap.size := ⟨_, rfl⟩
  have Z0 := Blk4.new_at (w := w3) hBz (.slice (some ⟨ga, 0, none⟩) m0 d0) (.slice (some ⟨gb, 0, none⟩) m1 d1) (.slice D2 m2 d2) (.slice D3 m3 d3) 27
  have Y0 := (Y.below hb3).alloc (.cells #[.slice (some ⟨ga, 0, none⟩) m0 d0, .slice (some ⟨gb, 0, none⟩) m1 d1, .slice D2 m2 d2, .slice D3 m3 d3] 27)
  have T0 := (TT.below hb3).alloc (.cells #[.slice (some ⟨ga, 0, none⟩) m0 d0, .slice (some ⟨gb, 0, none⟩) m1 d1, .slice D2 m2 d2, .slice D3 m3 d3] 27)
  have Q2u := s2.lt
  have Q3u := s3.lt
  have Q0 := s0.alloc (.cells #[.slice (some ⟨ga, 0, none⟩) m0 d0, .slice (some ⟨gb, 0, none⟩) m1 d1, .slice D2 m2 d2, .slice D3 m3 d3] 27)
  have Q1 := s1.alloc (.cells #[.slice (some ⟨ga, 0, none⟩) m0 d0, .slice (some ⟨gb, 0, none⟩) m1 d1, .slice D2 m2 d2, .slice D3 m3 d3] 27)
  have Q2 := s2.alloc (.cells #[.slice (some ⟨ga, 0, none⟩) m0 d0, .slice (some ⟨gb, 0, none⟩) m1 d1, .slice D2 m2 d2, .slice D3 m3 d3] 27)
  have Q3 := s3.alloc (.cells #[.slice (some ⟨ga, 0, none⟩) m0 d0, .slice (some ⟨gb, 0, none⟩) m1 d1, .slice D2 m2 d2, .slice D3 m3 d3] 27)
  have B0 := (BB.trans (hb3.mono BB.size)).alloc (BB.trans (hb3.mono BB.size)).size (.cells #[.slice (some ⟨ga, 0, none⟩) m0 d0, .slice (some ⟨gb, 0, none⟩) m1 d1, .slice D2 m2 d2, .slice D3 m3 d3] 27)
  have nZa : Bz ≠ ga := by omega
  have nZb : Bz ≠ gb := by omega
  have nYa : w.heap.size + 1 ≠ ga := by omega
  have nYb : w.heap.size + 1 ≠ gb := by omega
  have nTa : (Value.slice A n c).ownBlock ≠ some ga := fun e => by have := tA.out ga e; omega
  have nTb : (Value.slice A n c).ownBlock ≠ some gb := fun e => by have := tA.out gb e; omega
  have nab : ga ≠ gb := fun e => a01 ga rfl (by rw [e]; rfl)
  have nP1a : (Value.slice (some ⟨gb, 0, none⟩) m1 d1).ownBlock ≠ some ga := fun e => nab (Option.some.inj e).symm
  have nP0b : (Value.slice (some ⟨ga, 0, none⟩) m0 d0).ownBlock ≠ some gb := fun e => nab (Option.some.inj e)
  have nP2a : (Value.slice D2 m2 d2).ownBlock ≠ some ga := fun e => a02 ga rfl e
  have nP2b : (Value.slice D2 m2 d2).ownBlock ≠ some gb := fun e => a12 gb rfl e
  have nP3a : (Value.slice D3 m3 d3).ownBlock ≠ some ga := fun e => a03 ga rfl e
  have nP3b : (Value.slice D3 m3 d3).ownBlock ≠ some gb := fun e => a13 gb rfl e
  have la : w.heap.size ≤ ga := by omega
  have lb : w.heap.size ≤ gb := by omega
  rw [← clrN_zero C.h.l cs] at Q0
  rw [← clrN_zero C.h.r cs] at Q1
  clear hb3 Y TT BB hD dh s0 s1 s2 s3 Cc
  go_wp2_with fail
  rw [← hBz]
  have nDz : (Value.slice D3 m3 d3).ownBlock ≠ some Bz := fun e => by have := (Q3u Bz e).2; omega
  have haz : ga < Bz := by omega
  have hbz : gb < Bz := by omega
  have h2z : ∀ j, (Value.slice D2 m2 d2).ownBlock = some j → j < Bz := fun j e => by have := (Q2u j e).2; omega
  have h2y := Lib.hid h2z
  clear h2z
  have hBh := Lib.hid hBz
  clear hBz Q2u Q3u
  go_loopw [6] (fun i wr => ∃ k : Nat, k ≤ m0 ∧ i = .int .i64 k ∧ Blk4 wr Bz (.slice (some ⟨ga, 0, none⟩) m0 d0) (.slice (some ⟨gb, 0, none⟩) m1 d1) (.slice D2 m2 d2) (.slice D3 m3 d3) 27 ∧ Blk4 wr (w.heap.size + 1) (.slice none 0 0) (.slice none 0 0) (.slice none 0 0) (.slice none 0 0) 27 ∧ Row wr lc (.slice A n c) cs ∧ Row wr w1.heap.size (.slice (some ⟨ga, 0, none⟩) m0 d0) (clrN C.h.l cs k) ∧ Row wr w1.heap.size (.slice (some ⟨gb, 0, none⟩) m1 d1) (clrN C.h.r cs k) ∧ Row wr w1.heap.size (.slice D2 m2 d2) C.h.t ∧ Row wr w1.heap.size (.slice D3 m3 d3) C.c ∧ Below w.heap.size w wr) (fun i _ => m0 - (intOf i).toNat)
  case atStart => exact ⟨0, Nat.zero_le _, rfl, Z0, Y0, T0, Q0, Q1, Q2, Q3, B0⟩
  case round =>
    clear Z0 Y0 T0 Q0 Q1 Q2 Q3 B0
    obtain ⟨k, hk, rfl, Z, Y, T, P0, P1, P2, P3, B⟩ := hrel
    obtain ⟨z0, z1, z2, z3', q0, q1, q2, q3⟩ := Z.cells
    by_cases hlt : k < m0
    · have hk0 : (k : Int) < (m0 : Int) := by omega
      obtain ⟨_, x, ex, _, _, hx', hcx, hfx⟩ := P0.get (k := k) (by rw [clrN_len, t0.out]; exact hlt)
      cases ex
      have hm1 : m1 = m0 := by have := t0.out; have := t1.out; omega
      obtain ⟨_, y, ey, _, _, hy', hcy, hfy⟩ := P1.get (k := k) (by rw [clrN_len, t1.out]; omega)
      cases ey
      have hk1 : (k : Int) < (m1 : Int) := by omega
      have hx : Hid (C.h.l[k]? = some x) := by unfold Hid; rw [← clrN_get C.h.l cs k]; exact hx'.out
      have hy : Hid (C.h.r[k]? = some y) := by unfold Hid; rw [← clrN_get C.h.r cs k]; exact hy'.out
      clear hx' hy' hm1
      by_cases ax : x ∈ cs
      · by_cases ay : y ∈ cs
        · have hLh := Lib.hid (clrN_hit hx.out (.inl ax))
          have hRh := Lib.hid (clrN_hit hy.out (.inl ay))
          have Inx := fun W h9 => l4At_in W lc A n c cs h9 hl hm x ax
          have Iny := fun W h9 => l4At_in W lc A n c cs h9 hl hm y ay
          clear hx hy ax ay
          go_wp2_with fail
          refine (Inx _ (by exact T)).mono ?_; rintro e w1_ ⟨⟨j, rfl⟩, nq, hw1'⟩
          have hw1 := Lib.hid hw1'
          clear hw1'
          have Z1 : Blk4 w1_ Bz (.slice (some ⟨ga, 0, none⟩) m0 d0) (.slice (some ⟨gb, 0, none⟩) m1 d1) (.slice D2 m2 d2) (.slice D3 m3 d3) 27 := by rw [hw1.out]; exact Z
          have Y1 : Blk4 w1_ (w.heap.size + 1) (.slice none 0 0) (.slice none 0 0) (.slice none 0 0) (.slice none 0 0) 27 := by rw [hw1.out]; exact Y
          have T1 : Row w1_ lc (.slice A n c) cs := by rw [hw1.out]; exact T
          have P01 : Row w1_ w1.heap.size (.slice (some ⟨ga, 0, none⟩) m0 d0) (clrN C.h.l cs k) := by rw [hw1.out]; exact P0
          have P11 : Row w1_ w1.heap.size (.slice (some ⟨gb, 0, none⟩) m1 d1) (clrN C.h.r cs k) := by rw [hw1.out]; exact P1
          have P21 : Row w1_ w1.heap.size (.slice D2 m2 d2) C.h.t := by rw [hw1.out]; exact P2
          have P31 : Row w1_ w1.heap.size (.slice D3 m3 d3) C.c := by rw [hw1.out]; exact P3
          have B1 : Below w.heap.size w w1_ := by rw [hw1.out]; exact (below_drewN B _)
          have cx1 : w1_.cell? ⟨ga, k, none⟩ = some (.int .i64 x) := by rw [hw1.out]; exact hcx
          have fx1 : w1_.frozen? ⟨ga, k, none⟩ = false := by rw [hw1.out]; exact hfx
          have cy1 : w1_.cell? ⟨gb, k, none⟩ = some (.int .i64 y) := by rw [hw1.out]; exact hcy
          have fy1 : w1_.frozen? ⟨gb, k, none⟩ = false := by rw [hw1.out]; exact hfy
          clear hw1 
          obtain ⟨z0, z1, z2, z3, q0, q1, q2, q3⟩ := Z1.cells
          have hj1 : decide ((j : Int) ≥ 0) = true := by simp
          have P0h : Row (w1_.setCell ⟨ga, k, none⟩ (.int .i64 (-1))) w1.heap.size (.slice (some ⟨ga, 0, none⟩) m0 d0) (clrN C.h.l cs (k + 1)) := by rw [hLh.out]; exact (Row.set_ P01 k (-1))
          go_wp2_with fail
          refine (Iny _ (by exact (Row.other T1 (a := ⟨ga, k, none⟩) nTa (.int .i64 (-1))))).mono ?_; rintro e w2_ ⟨⟨j, rfl⟩, nq, hw2'⟩
          have hw2 := Lib.hid hw2'
          clear hw2'
          have Z2 : Blk4 w2_ Bz (.slice (some ⟨ga, 0, none⟩) m0 d0) (.slice (some ⟨gb, 0, none⟩) m1 d1) (.slice D2 m2 d2) (.slice D3 m3 d3) 27 := by rw [hw2.out]; exact (Blk4.other Z1 (p := ⟨ga, k, none⟩) nZa (.int .i64 (-1)))
          have Y2 : Blk4 w2_ (w.heap.size + 1) (.slice none 0 0) (.slice none 0 0) (.slice none 0 0) (.slice none 0 0) 27 := by rw [hw2.out]; exact (Blk4.other Y1 (p := ⟨ga, k, none⟩) nYa (.int .i64 (-1)))
          have T2 : Row w2_ lc (.slice A n c) cs := by rw [hw2.out]; exact (Row.other T1 (a := ⟨ga, k, none⟩) nTa (.int .i64 (-1)))
          have P02 : Row w2_ w1.heap.size (.slice (some ⟨ga, 0, none⟩) m0 d0) (clrN C.h.l cs (k + 1)) := by rw [hw2.out]; exact P0h
          have P12 : Row w2_ w1.heap.size (.slice (some ⟨gb, 0, none⟩) m1 d1) (clrN C.h.r cs k) := by rw [hw2.out]; exact (Row.other P11 (a := ⟨ga, k, none⟩) nP1a (.int .i64 (-1)))
          have P22 : Row w2_ w1.heap.size (.slice D2 m2 d2) C.h.t := by rw [hw2.out]; exact (Row.other P21 (a := ⟨ga, k, none⟩) nP2a (.int .i64 (-1)))
          have P32 : Row w2_ w1.heap.size (.slice D3 m3 d3) C.c := by rw [hw2.out]; exact (Row.other P31 (a := ⟨ga, k, none⟩) nP3a (.int .i64 (-1)))
          have B2 : Below w.heap.size w w2_ := by rw [hw2.out]; exact (below_drewN (Below.setCell B1 (p := ⟨ga, k, none⟩) la (.int .i64 (-1))) _)
          have cx2 : w2_.cell? ⟨ga, k, none⟩ = some (.int .i64 (-1)) := by rw [hw2.out]; exact (World.cell?_setCell_same w1_ ⟨ga, k, none⟩ (.int .i64 (-1)) cx1)
          have fx2 : w2_.frozen? ⟨ga, k, none⟩ = false := by rw [hw2.out]; exact ((World.frozen?_setCell _ _ _ _).trans fx1)
          have cy2 : w2_.cell? ⟨gb, k, none⟩ = some (.int .i64 y) := by rw [hw2.out]; exact ((World.cell?_setCell_far _ _ _ _ (by exact nab)).trans cy1)
          have fy2 : w2_.frozen? ⟨gb, k, none⟩ = false := by rw [hw2.out]; exact ((World.frozen?_setCell _ _ _ _).trans fy1)
          clear hw2 P0h
          obtain ⟨z0, z1, z2, z3, q0, q1, q2, q3⟩ := Z2.cells
          have hj2 : decide ((j : Int) ≥ 0) = true := by simp
          have P1h : Row (w2_.setCell ⟨gb, k, none⟩ (.int .i64 (-1))) w1.heap.size (.slice (some ⟨gb, 0, none⟩) m1 d1) (clrN C.h.r cs (k + 1)) := by rw [hRh.out]; exact (Row.set_ P12 k (-1))
          go_wp2_with fail
          go_roundw
          case rel => exact ⟨k + 1, by omega, by go_num, by exact (Blk4.other Z2 (p := ⟨gb, k, none⟩) nZb (.int .i64 (-1))), by exact (Blk4.other Y2 (p := ⟨gb, k, none⟩) nYb (.int .i64 (-1))), by exact (Row.other T2 (a := ⟨gb, k, none⟩) nTb (.int .i64 (-1))), by exact (Row.other P02 (a := ⟨gb, k, none⟩) nP0b (.int .i64 (-1))), by exact P1h, by exact (Row.other P22 (a := ⟨gb, k, none⟩) nP2b (.int .i64 (-1))), by exact (Row.other P32 (a := ⟨gb, k, none⟩) nP3b (.int .i64 (-1))), by exact (Below.setCell B2 (p := ⟨gb, k, none⟩) lb (.int .i64 (-1)))⟩
          case measure => simp [intOf]; omega
        · by_cases ak : (k : Int) ∈ cs
          · have hLh := Lib.hid (clrN_hit hx.out (.inl ax))
            have hRh := Lib.hid (clrN_hit hy.out (.inr ak))
            have Inx := fun W h9 => l4At_in W lc A n c cs h9 hl hm x ax
            have Noty := fun W h9 => l4At_not W lc A n c cs h9 hl hm y ay
            have Ink := fun W h9 => l4At_in W lc A n c cs h9 hl hm (k : Int) ak
            clear hx hy ax ay ak
            go_wp2_with fail
            refine (Inx _ (by exact T)).mono ?_; rintro e w1_ ⟨⟨j, rfl⟩, nq, hw1'⟩
            have hw1 := Lib.hid hw1'
            clear hw1'
            have Z1 : Blk4 w1_ Bz (.slice (some ⟨ga, 0, none⟩) m0 d0) (.slice (some ⟨gb, 0, none⟩) m1 d1) (.slice D2 m2 d2) (.slice D3 m3 d3) 27 := by rw [hw1.out]; exact Z
            have Y1 : Blk4 w1_ (w.heap.size + 1) (.slice none 0 0) (.slice none 0 0) (.slice none 0 0) (.slice none 0 0) 27 := by rw [hw1.out]; exact Y
            have T1 : Row w1_ lc (.slice A n c) cs := by rw [hw1.out]; exact T
            have P01 : Row w1_ w1.heap.size (.slice (some ⟨ga, 0, none⟩) m0 d0) (clrN C.h.l cs k) := by rw [hw1.out]; exact P0
            have P11 : Row w1_ w1.heap.size (.slice (some ⟨gb, 0, none⟩) m1 d1) (clrN C.h.r cs k) := by rw [hw1.out]; exact P1
            have P21 : Row w1_ w1.heap.size (.slice D2 m2 d2) C.h.t := by rw [hw1.out]; exact P2
            have P31 : Row w1_ w1.heap.size (.slice D3 m3 d3) C.c := by rw [hw1.out]; exact P3
            have B1 : Below w.heap.size w w1_ := by rw [hw1.out]; exact (below_drewN B _)
            have cx1 : w1_.cell? ⟨ga, k, none⟩ = some (.int .i64 x) := by rw [hw1.out]; exact hcx
            have fx1 : w1_.frozen? ⟨ga, k, none⟩ = false := by rw [hw1.out]; exact hfx
            have cy1 : w1_.cell? ⟨gb, k, none⟩ = some (.int .i64 y) := by rw [hw1.out]; exact hcy
            have fy1 : w1_.frozen? ⟨gb, k, none⟩ = false := by rw [hw1.out]; exact hfy
            clear hw1 
            obtain ⟨z0, z1, z2, z3, q0, q1, q2, q3⟩ := Z1.cells
            have hj1 : decide ((j : Int) ≥ 0) = true := by simp
            have P0h : Row (w1_.setCell ⟨ga, k, none⟩ (.int .i64 (-1))) w1.heap.size (.slice (some ⟨ga, 0, none⟩) m0 d0) (clrN C.h.l cs (k + 1)) := by rw [hLh.out]; exact (Row.set_ P01 k (-1))
            go_wp2_with fail
            refine (Noty _ (by exact (Row.other T1 (a := ⟨ga, k, none⟩) nTa (.int .i64 (-1))))).mono ?_; rintro e w2_ ⟨rfl, nq, hw2'⟩
            have hw2 := Lib.hid hw2'
            clear hw2'
            have Z2 : Blk4 w2_ Bz (.slice (some ⟨ga, 0, none⟩) m0 d0) (.slice (some ⟨gb, 0, none⟩) m1 d1) (.slice D2 m2 d2) (.slice D3 m3 d3) 27 := by rw [hw2.out]; exact (Blk4.other Z1 (p := ⟨ga, k, none⟩) nZa (.int .i64 (-1)))
            have Y2 : Blk4 w2_ (w.heap.size + 1) (.slice none 0 0) (.slice none 0 0) (.slice none 0 0) (.slice none 0 0) 27 := by rw [hw2.out]; exact (Blk4.other Y1 (p := ⟨ga, k, none⟩) nYa (.int .i64 (-1)))
            have T2 : Row w2_ lc (.slice A n c) cs := by rw [hw2.out]; exact (Row.other T1 (a := ⟨ga, k, none⟩) nTa (.int .i64 (-1)))
            have P02 : Row w2_ w1.heap.size (.slice (some ⟨ga, 0, none⟩) m0 d0) (clrN C.h.l cs (k + 1)) := by rw [hw2.out]; exact P0h
            have P12 : Row w2_ w1.heap.size (.slice (some ⟨gb, 0, none⟩) m1 d1) (clrN C.h.r cs k) := by rw [hw2.out]; exact (Row.other P11 (a := ⟨ga, k, none⟩) nP1a (.int .i64 (-1)))
            have P22 : Row w2_ w1.heap.size (.slice D2 m2 d2) C.h.t := by rw [hw2.out]; exact (Row.other P21 (a := ⟨ga, k, none⟩) nP2a (.int .i64 (-1)))
            have P32 : Row w2_ w1.heap.size (.slice D3 m3 d3) C.c := by rw [hw2.out]; exact (Row.other P31 (a := ⟨ga, k, none⟩) nP3a (.int .i64 (-1)))
            have B2 : Below w.heap.size w w2_ := by rw [hw2.out]; exact (below_drewN (Below.setCell B1 (p := ⟨ga, k, none⟩) la (.int .i64 (-1))) _)
            have cx2 : w2_.cell? ⟨ga, k, none⟩ = some (.int .i64 (-1)) := by rw [hw2.out]; exact (World.cell?_setCell_same w1_ ⟨ga, k, none⟩ (.int .i64 (-1)) cx1)
            have fx2 : w2_.frozen? ⟨ga, k, none⟩ = false := by rw [hw2.out]; exact ((World.frozen?_setCell _ _ _ _).trans fx1)
            have cy2 : w2_.cell? ⟨gb, k, none⟩ = some (.int .i64 y) := by rw [hw2.out]; exact ((World.cell?_setCell_far _ _ _ _ (by exact nab)).trans cy1)
            have fy2 : w2_.frozen? ⟨gb, k, none⟩ = false := by rw [hw2.out]; exact ((World.frozen?_setCell _ _ _ _).trans fy1)
            clear hw2 P0h
            obtain ⟨z0, z1, z2, z3, q0, q1, q2, q3⟩ := Z2.cells
            go_wp2_with fail
            refine (Ink _ (by exact T2)).mono ?_; rintro e w3_ ⟨⟨j, rfl⟩, nq, hw3'⟩
            have hw3 := Lib.hid hw3'
            clear hw3'
            have Z3 : Blk4 w3_ Bz (.slice (some ⟨ga, 0, none⟩) m0 d0) (.slice (some ⟨gb, 0, none⟩) m1 d1) (.slice D2 m2 d2) (.slice D3 m3 d3) 27 := by rw [hw3.out]; exact Z2
            have Y3 : Blk4 w3_ (w.heap.size + 1) (.slice none 0 0) (.slice none 0 0) (.slice none 0 0) (.slice none 0 0) 27 := by rw [hw3.out]; exact Y2
            have T3 : Row w3_ lc (.slice A n c) cs := by rw [hw3.out]; exact T2
            have P03 : Row w3_ w1.heap.size (.slice (some ⟨ga, 0, none⟩) m0 d0) (clrN C.h.l cs (k + 1)) := by rw [hw3.out]; exact P02
            have P13 : Row w3_ w1.heap.size (.slice (some ⟨gb, 0, none⟩) m1 d1) (clrN C.h.r cs k) := by rw [hw3.out]; exact P12
            have P23 : Row w3_ w1.heap.size (.slice D2 m2 d2) C.h.t := by rw [hw3.out]; exact P22
            have P33 : Row w3_ w1.heap.size (.slice D3 m3 d3) C.c := by rw [hw3.out]; exact P32
            have B3 : Below w.heap.size w w3_ := by rw [hw3.out]; exact (below_drewN B2 _)
            have cx3 : w3_.cell? ⟨ga, k, none⟩ = some (.int .i64 (-1)) := by rw [hw3.out]; exact cx2
            have fx3 : w3_.frozen? ⟨ga, k, none⟩ = false := by rw [hw3.out]; exact fx2
            have cy3 : w3_.cell? ⟨gb, k, none⟩ = some (.int .i64 y) := by rw [hw3.out]; exact cy2
            have fy3 : w3_.frozen? ⟨gb, k, none⟩ = false := by rw [hw3.out]; exact fy2
            clear hw3 Z2 Y2 T2 P02 P12 P22 P32 B2 cx2 fx2 cy2 fy2
            obtain ⟨z0, z1, z2, z3, q0, q1, q2, q3⟩ := Z3.cells
            have hj3 : decide ((j : Int) ≥ 0) = true := by simp
            have P1h : Row (w3_.setCell ⟨gb, k, none⟩ (.int .i64 (-1))) w1.heap.size (.slice (some ⟨gb, 0, none⟩) m1 d1) (clrN C.h.r cs (k + 1)) := by rw [hRh.out]; exact (Row.set_ P13 k (-1))
            go_wp2_with fail
            go_roundw
            case rel => exact ⟨k + 1, by omega, by go_num, by exact (Blk4.other Z3 (p := ⟨gb, k, none⟩) nZb (.int .i64 (-1))), by exact (Blk4.other Y3 (p := ⟨gb, k, none⟩) nYb (.int .i64 (-1))), by exact (Row.other T3 (a := ⟨gb, k, none⟩) nTb (.int .i64 (-1))), by exact (Row.other P03 (a := ⟨gb, k, none⟩) nP0b (.int .i64 (-1))), by exact P1h, by exact (Row.other P23 (a := ⟨gb, k, none⟩) nP2b (.int .i64 (-1))), by exact (Row.other P33 (a := ⟨gb, k, none⟩) nP3b (.int .i64 (-1))), by exact (Below.setCell B3 (p := ⟨gb, k, none⟩) lb (.int .i64 (-1)))⟩
            case measure => simp [intOf]; omega
          · have hLh := Lib.hid (clrN_hit hx.out (.inl ax))
            have hRm := Lib.hid (clrN_miss hy.out (by rintro (h | h); exact ay h; exact ak h))
            have Inx := fun W h9 => l4At_in W lc A n c cs h9 hl hm x ax
            have Noty := fun W h9 => l4At_not W lc A n c cs h9 hl hm y ay
            have Notk := fun W h9 => l4At_not W lc A n c cs h9 hl hm (k : Int) ak
            clear hx hy ax ay ak
            go_wp2_with fail
            refine (Inx _ (by exact T)).mono ?_; rintro e w1_ ⟨⟨j, rfl⟩, nq, hw1'⟩
            have hw1 := Lib.hid hw1'
            clear hw1'
            have Z1 : Blk4 w1_ Bz (.slice (some ⟨ga, 0, none⟩) m0 d0) (.slice (some ⟨gb, 0, none⟩) m1 d1) (.slice D2 m2 d2) (.slice D3 m3 d3) 27 := by rw [hw1.out]; exact Z
            have Y1 : Blk4 w1_ (w.heap.size + 1) (.slice none 0 0) (.slice none 0 0) (.slice none 0 0) (.slice none 0 0) 27 := by rw [hw1.out]; exact Y
            have T1 : Row w1_ lc (.slice A n c) cs := by rw [hw1.out]; exact T
            have P01 : Row w1_ w1.heap.size (.slice (some ⟨ga, 0, none⟩) m0 d0) (clrN C.h.l cs k) := by rw [hw1.out]; exact P0
            have P11 : Row w1_ w1.heap.size (.slice (some ⟨gb, 0, none⟩) m1 d1) (clrN C.h.r cs k) := by rw [hw1.out]; exact P1
            have P21 : Row w1_ w1.heap.size (.slice D2 m2 d2) C.h.t := by rw [hw1.out]; exact P2
            have P31 : Row w1_ w1.heap.size (.slice D3 m3 d3) C.c := by rw [hw1.out]; exact P3
            have B1 : Below w.heap.size w w1_ := by rw [hw1.out]; exact (below_drewN B _)
            have cx1 : w1_.cell? ⟨ga, k, none⟩ = some (.int .i64 x) := by rw [hw1.out]; exact hcx
            have fx1 : w1_.frozen? ⟨ga, k, none⟩ = false := by rw [hw1.out]; exact hfx
            have cy1 : w1_.cell? ⟨gb, k, none⟩ = some (.int .i64 y) := by rw [hw1.out]; exact hcy
            have fy1 : w1_.frozen? ⟨gb, k, none⟩ = false := by rw [hw1.out]; exact hfy
            clear hw1 
            obtain ⟨z0, z1, z2, z3, q0, q1, q2, q3⟩ := Z1.cells
            have hj1 : decide ((j : Int) ≥ 0) = true := by simp
            have P0h : Row (w1_.setCell ⟨ga, k, none⟩ (.int .i64 (-1))) w1.heap.size (.slice (some ⟨ga, 0, none⟩) m0 d0) (clrN C.h.l cs (k + 1)) := by rw [hLh.out]; exact (Row.set_ P01 k (-1))
            go_wp2_with fail
            refine (Noty _ (by exact (Row.other T1 (a := ⟨ga, k, none⟩) nTa (.int .i64 (-1))))).mono ?_; rintro e w2_ ⟨rfl, nq, hw2'⟩
            have hw2 := Lib.hid hw2'
            clear hw2'
            have Z2 : Blk4 w2_ Bz (.slice (some ⟨ga, 0, none⟩) m0 d0) (.slice (some ⟨gb, 0, none⟩) m1 d1) (.slice D2 m2 d2) (.slice D3 m3 d3) 27 := by rw [hw2.out]; exact (Blk4.other Z1 (p := ⟨ga, k, none⟩) nZa (.int .i64 (-1)))
            have Y2 : Blk4 w2_ (w.heap.size + 1) (.slice none 0 0) (.slice none 0 0) (.slice none 0 0) (.slice none 0 0) 27 := by rw [hw2.out]; exact (Blk4.other Y1 (p := ⟨ga, k, none⟩) nYa (.int .i64 (-1)))
            have T2 : Row w2_ lc (.slice A n c) cs := by rw [hw2.out]; exact (Row.other T1 (a := ⟨ga, k, none⟩) nTa (.int .i64 (-1)))
            have P02 : Row w2_ w1.heap.size (.slice (some ⟨ga, 0, none⟩) m0 d0) (clrN C.h.l cs (k + 1)) := by rw [hw2.out]; exact P0h
            have P12 : Row w2_ w1.heap.size (.slice (some ⟨gb, 0, none⟩) m1 d1) (clrN C.h.r cs k) := by rw [hw2.out]; exact (Row.other P11 (a := ⟨ga, k, none⟩) nP1a (.int .i64 (-1)))
            have P22 : Row w2_ w1.heap.size (.slice D2 m2 d2) C.h.t := by rw [hw2.out]; exact (Row.other P21 (a := ⟨ga, k, none⟩) nP2a (.int .i64 (-1)))
            have P32 : Row w2_ w1.heap.size (.slice D3 m3 d3) C.c := by rw [hw2.out]; exact (Row.other P31 (a := ⟨ga, k, none⟩) nP3a (.int .i64 (-1)))
            have B2 : Below w.heap.size w w2_ := by rw [hw2.out]; exact (below_drewN (Below.setCell B1 (p := ⟨ga, k, none⟩) la (.int .i64 (-1))) _)
            have cx2 : w2_.cell? ⟨ga, k, none⟩ = some (.int .i64 (-1)) := by rw [hw2.out]; exact (World.cell?_setCell_same w1_ ⟨ga, k, none⟩ (.int .i64 (-1)) cx1)
            have fx2 : w2_.frozen? ⟨ga, k, none⟩ = false := by rw [hw2.out]; exact ((World.frozen?_setCell _ _ _ _).trans fx1)
            have cy2 : w2_.cell? ⟨gb, k, none⟩ = some (.int .i64 y) := by rw [hw2.out]; exact ((World.cell?_setCell_far _ _ _ _ (by exact nab)).trans cy1)
            have fy2 : w2_.frozen? ⟨gb, k, none⟩ = false := by rw [hw2.out]; exact ((World.frozen?_setCell _ _ _ _).trans fy1)
            clear hw2 P0h
            obtain ⟨z0, z1, z2, z3, q0, q1, q2, q3⟩ := Z2.cells
            go_wp2_with fail
            refine (Notk _ (by exact T2)).mono ?_; rintro e w3_ ⟨rfl, nq, hw3'⟩
            have hw3 := Lib.hid hw3'
            clear hw3'
            have Z3 : Blk4 w3_ Bz (.slice (some ⟨ga, 0, none⟩) m0 d0) (.slice (some ⟨gb, 0, none⟩) m1 d1) (.slice D2 m2 d2) (.slice D3 m3 d3) 27 := by rw [hw3.out]; exact Z2
            have Y3 : Blk4 w3_ (w.heap.size + 1) (.slice none 0 0) (.slice none 0 0) (.slice none 0 0) (.slice none 0 0) 27 := by rw [hw3.out]; exact Y2
            have T3 : Row w3_ lc (.slice A n c) cs := by rw [hw3.out]; exact T2
            have P03 : Row w3_ w1.heap.size (.slice (some ⟨ga, 0, none⟩) m0 d0) (clrN C.h.l cs (k + 1)) := by rw [hw3.out]; exact P02
            have P13 : Row w3_ w1.heap.size (.slice (some ⟨gb, 0, none⟩) m1 d1) (clrN C.h.r cs k) := by rw [hw3.out]; exact P12
            have P23 : Row w3_ w1.heap.size (.slice D2 m2 d2) C.h.t := by rw [hw3.out]; exact P22
            have P33 : Row w3_ w1.heap.size (.slice D3 m3 d3) C.c := by rw [hw3.out]; exact P32
            have B3 : Below w.heap.size w w3_ := by rw [hw3.out]; exact (below_drewN B2 _)
            have cx3 : w3_.cell? ⟨ga, k, none⟩ = some (.int .i64 (-1)) := by rw [hw3.out]; exact cx2
            have fx3 : w3_.frozen? ⟨ga, k, none⟩ = false := by rw [hw3.out]; exact fx2
            have cy3 : w3_.cell? ⟨gb, k, none⟩ = some (.int .i64 y) := by rw [hw3.out]; exact cy2
            have fy3 : w3_.frozen? ⟨gb, k, none⟩ = false := by rw [hw3.out]; exact fy2
            clear hw3 Z2 Y2 T2 P02 P12 P22 P32 B2 cx2 fx2 cy2 fy2
            obtain ⟨z0, z1, z2, z3, q0, q1, q2, q3⟩ := Z3.cells
            have P1n : Row w3_ w1.heap.size (.slice (some ⟨gb, 0, none⟩) m1 d1) (clrN C.h.r cs (k + 1)) := by rw [hRm.out]; exact P13
            go_wp2_with fail
            go_roundw
            case rel => exact ⟨k + 1, by omega, by go_num, by exact Z3, by exact Y3, by exact T3, by exact P03, by exact P1n, by exact P23, by exact P33, by exact B3⟩
            case measure => simp [intOf]; omega
      · by_cases ak : (k : Int) ∈ cs
        · by_cases ay : y ∈ cs
          · have hLh := Lib.hid (clrN_hit hx.out (.inr ak))
            have hRh := Lib.hid (clrN_hit hy.out (.inl ay))
            have Notx := fun W h9 => l4At_not W lc A n c cs h9 hl hm x ax
            have Iny := fun W h9 => l4At_in W lc A n c cs h9 hl hm y ay
            have Ink := fun W h9 => l4At_in W lc A n c cs h9 hl hm (k : Int) ak
            clear hx hy ax ay ak
            go_wp2_with fail
            refine (Notx _ (by exact T)).mono ?_; rintro e w1_ ⟨rfl, nq, hw1'⟩
            have hw1 := Lib.hid hw1'
            clear hw1'
            have Z1 : Blk4 w1_ Bz (.slice (some ⟨ga, 0, none⟩) m0 d0) (.slice (some ⟨gb, 0, none⟩) m1 d1) (.slice D2 m2 d2) (.slice D3 m3 d3) 27 := by rw [hw1.out]; exact Z
            have Y1 : Blk4 w1_ (w.heap.size + 1) (.slice none 0 0) (.slice none 0 0) (.slice none 0 0) (.slice none 0 0) 27 := by rw [hw1.out]; exact Y
            have T1 : Row w1_ lc (.slice A n c) cs := by rw [hw1.out]; exact T
            have P01 : Row w1_ w1.heap.size (.slice (some ⟨ga, 0, none⟩) m0 d0) (clrN C.h.l cs k) := by rw [hw1.out]; exact P0
            have P11 : Row w1_ w1.heap.size (.slice (some ⟨gb, 0, none⟩) m1 d1) (clrN C.h.r cs k) := by rw [hw1.out]; exact P1
            have P21 : Row w1_ w1.heap.size (.slice D2 m2 d2) C.h.t := by rw [hw1.out]; exact P2
            have P31 : Row w1_ w1.heap.size (.slice D3 m3 d3) C.c := by rw [hw1.out]; exact P3
            have B1 : Below w.heap.size w w1_ := by rw [hw1.out]; exact (below_drewN B _)
            have cx1 : w1_.cell? ⟨ga, k, none⟩ = some (.int .i64 x) := by rw [hw1.out]; exact hcx
            have fx1 : w1_.frozen? ⟨ga, k, none⟩ = false := by rw [hw1.out]; exact hfx
            have cy1 : w1_.cell? ⟨gb, k, none⟩ = some (.int .i64 y) := by rw [hw1.out]; exact hcy
            have fy1 : w1_.frozen? ⟨gb, k, none⟩ = false := by rw [hw1.out]; exact hfy
            clear hw1 
            obtain ⟨z0, z1, z2, z3, q0, q1, q2, q3⟩ := Z1.cells
            go_wp2_with fail
            refine (Ink _ (by exact T1)).mono ?_; rintro e w2_ ⟨⟨j, rfl⟩, nq, hw2'⟩
            have hw2 := Lib.hid hw2'
            clear hw2'
            have Z2 : Blk4 w2_ Bz (.slice (some ⟨ga, 0, none⟩) m0 d0) (.slice (some ⟨gb, 0, none⟩) m1 d1) (.slice D2 m2 d2) (.slice D3 m3 d3) 27 := by rw [hw2.out]; exact Z1
            have Y2 : Blk4 w2_ (w.heap.size + 1) (.slice none 0 0) (.slice none 0 0) (.slice none 0 0) (.slice none 0 0) 27 := by rw [hw2.out]; exact Y1
            have T2 : Row w2_ lc (.slice A n c) cs := by rw [hw2.out]; exact T1
            have P02 : Row w2_ w1.heap.size (.slice (some ⟨ga, 0, none⟩) m0 d0) (clrN C.h.l cs k) := by rw [hw2.out]; exact P01
            have P12 : Row w2_ w1.heap.size (.slice (some ⟨gb, 0, none⟩) m1 d1) (clrN C.h.r cs k) := by rw [hw2.out]; exact P11
            have P22 : Row w2_ w1.heap.size (.slice D2 m2 d2) C.h.t := by rw [hw2.out]; exact P21
            have P32 : Row w2_ w1.heap.size (.slice D3 m3 d3) C.c := by rw [hw2.out]; exact P31
            have B2 : Below w.heap.size w w2_ := by rw [hw2.out]; exact (below_drewN B1 _)
            have cx2 : w2_.cell? ⟨ga, k, none⟩ = some (.int .i64 x) := by rw [hw2.out]; exact cx1
            have fx2 : w2_.frozen? ⟨ga, k, none⟩ = false := by rw [hw2.out]; exact fx1
            have cy2 : w2_.cell? ⟨gb, k, none⟩ = some (.int .i64 y) := by rw [hw2.out]; exact cy1
            have fy2 : w2_.frozen? ⟨gb, k, none⟩ = false := by rw [hw2.out]; exact fy1
            clear hw2 Z1 Y1 T1 P01 P11 P21 P31 B1 cx1 fx1 cy1 fy1
            obtain ⟨z0, z1, z2, z3, q0, q1, q2, q3⟩ := Z2.cells
            have hj2 : decide ((j : Int) ≥ 0) = true := by simp
            have P0h : Row (w2_.setCell ⟨ga, k, none⟩ (.int .i64 (-1))) w1.heap.size (.slice (some ⟨ga, 0, none⟩) m0 d0) (clrN C.h.l cs (k + 1)) := by rw [hLh.out]; exact (Row.set_ P02 k (-1))
            go_wp2_with fail
            refine (Iny _ (by exact (Row.other T2 (a := ⟨ga, k, none⟩) nTa (.int .i64 (-1))))).mono ?_; rintro e w3_ ⟨⟨j, rfl⟩, nq, hw3'⟩
            have hw3 := Lib.hid hw3'
            clear hw3'
            have Z3 : Blk4 w3_ Bz (.slice (some ⟨ga, 0, none⟩) m0 d0) (.slice (some ⟨gb, 0, none⟩) m1 d1) (.slice D2 m2 d2) (.slice D3 m3 d3) 27 := by rw [hw3.out]; exact (Blk4.other Z2 (p := ⟨ga, k, none⟩) nZa (.int .i64 (-1)))
            have Y3 : Blk4 w3_ (w.heap.size + 1) (.slice none 0 0) (.slice none 0 0) (.slice none 0 0) (.slice none 0 0) 27 := by rw [hw3.out]; exact (Blk4.other Y2 (p := ⟨ga, k, none⟩) nYa (.int .i64 (-1)))
            have T3 : Row w3_ lc (.slice A n c) cs := by rw [hw3.out]; exact (Row.other T2 (a := ⟨ga, k, none⟩) nTa (.int .i64 (-1)))
            have P03 : Row w3_ w1.heap.size (.slice (some ⟨ga, 0, none⟩) m0 d0) (clrN C.h.l cs (k + 1)) := by rw [hw3.out]; exact P0h
            have P13 : Row w3_ w1.heap.size (.slice (some ⟨gb, 0, none⟩) m1 d1) (clrN C.h.r cs k) := by rw [hw3.out]; exact (Row.other P12 (a := ⟨ga, k, none⟩) nP1a (.int .i64 (-1)))
            have P23 : Row w3_ w1.heap.size (.slice D2 m2 d2) C.h.t := by rw [hw3.out]; exact (Row.other P22 (a := ⟨ga, k, none⟩) nP2a (.int .i64 (-1)))
            have P33 : Row w3_ w1.heap.size (.slice D3 m3 d3) C.c := by rw [hw3.out]; exact (Row.other P32 (a := ⟨ga, k, none⟩) nP3a (.int .i64 (-1)))
            have B3 : Below w.heap.size w w3_ := by rw [hw3.out]; exact (below_drewN (Below.setCell B2 (p := ⟨ga, k, none⟩) la (.int .i64 (-1))) _)
            have cx3 : w3_.cell? ⟨ga, k, none⟩ = some (.int .i64 (-1)) := by rw [hw3.out]; exact (World.cell?_setCell_same w2_ ⟨ga, k, none⟩ (.int .i64 (-1)) cx2)
            have fx3 : w3_.frozen? ⟨ga, k, none⟩ = false := by rw [hw3.out]; exact ((World.frozen?_setCell _ _ _ _).trans fx2)
            have cy3 : w3_.cell? ⟨gb, k, none⟩ = some (.int .i64 y) := by rw [hw3.out]; exact ((World.cell?_setCell_far _ _ _ _ (by exact nab)).trans cy2)
            have fy3 : w3_.frozen? ⟨gb, k, none⟩ = false := by rw [hw3.out]; exact ((World.frozen?_setCell _ _ _ _).trans fy2)
            clear hw3 P0h
            obtain ⟨z0, z1, z2, z3, q0, q1, q2, q3⟩ := Z3.cells
            have hj3 : decide ((j : Int) ≥ 0) = true := by simp
            have P1h : Row (w3_.setCell ⟨gb, k, none⟩ (.int .i64 (-1))) w1.heap.size (.slice (some ⟨gb, 0, none⟩) m1 d1) (clrN C.h.r cs (k + 1)) := by rw [hRh.out]; exact (Row.set_ P13 k (-1))
            go_wp2_with fail
            go_roundw
            case rel => exact ⟨k + 1, by omega, by go_num, by exact (Blk4.other Z3 (p := ⟨gb, k, none⟩) nZb (.int .i64 (-1))), by exact (Blk4.other Y3 (p := ⟨gb, k, none⟩) nYb (.int .i64 (-1))), by exact (Row.other T3 (a := ⟨gb, k, none⟩) nTb (.int .i64 (-1))), by exact (Row.other P03 (a := ⟨gb, k, none⟩) nP0b (.int .i64 (-1))), by exact P1h, by exact (Row.other P23 (a := ⟨gb, k, none⟩) nP2b (.int .i64 (-1))), by exact (Row.other P33 (a := ⟨gb, k, none⟩) nP3b (.int .i64 (-1))), by exact (Below.setCell B3 (p := ⟨gb, k, none⟩) lb (.int .i64 (-1)))⟩
            case measure => simp [intOf]; omega
          · have hLh := Lib.hid (clrN_hit hx.out (.inr ak))
            have hRh := Lib.hid (clrN_hit hy.out (.inr ak))
            have Notx := fun W h9 => l4At_not W lc A n c cs h9 hl hm x ax
            have Noty := fun W h9 => l4At_not W lc A n c cs h9 hl hm y ay
            have Ink := fun W h9 => l4At_in W lc A n c cs h9 hl hm (k : Int) ak
            clear hx hy ax ay ak
            go_wp2_with fail
            refine (Notx _ (by exact T)).mono ?_; rintro e w1_ ⟨rfl, nq, hw1'⟩
            have hw1 := Lib.hid hw1'
            clear hw1'
            have Z1 : Blk4 w1_ Bz (.slice (some ⟨ga, 0, none⟩) m0 d0) (.slice (some ⟨gb, 0, none⟩) m1 d1) (.slice D2 m2 d2) (.slice D3 m3 d3) 27 := by rw [hw1.out]; exact Z
            have Y1 : Blk4 w1_ (w.heap.size + 1) (.slice none 0 0) (.slice none 0 0) (.slice none 0 0) (.slice none 0 0) 27 := by rw [hw1.out]; exact Y
            have T1 : Row w1_ lc (.slice A n c) cs := by rw [hw1.out]; exact T
            have P01 : Row w1_ w1.heap.size (.slice (some ⟨ga, 0, none⟩) m0 d0) (clrN C.h.l cs k) := by rw [hw1.out]; exact P0
            have P11 : Row w1_ w1.heap.size (.slice (some ⟨gb, 0, none⟩) m1 d1) (clrN C.h.r cs k) := by rw [hw1.out]; exact P1
            have P21 : Row w1_ w1.heap.size (.slice D2 m2 d2) C.h.t := by rw [hw1.out]; exact P2
            have P31 : Row w1_ w1.heap.size (.slice D3 m3 d3) C.c := by rw [hw1.out]; exact P3
            have B1 : Below w.heap.size w w1_ := by rw [hw1.out]; exact (below_drewN B _)
            have cx1 : w1_.cell? ⟨ga, k, none⟩ = some (.int .i64 x) := by rw [hw1.out]; exact hcx
            have fx1 : w1_.frozen? ⟨ga, k, none⟩ = false := by rw [hw1.out]; exact hfx
            have cy1 : w1_.cell? ⟨gb, k, none⟩ = some (.int .i64 y) := by rw [hw1.out]; exact hcy
            have fy1 : w1_.frozen? ⟨gb, k, none⟩ = false := by rw [hw1.out]; exact hfy
            clear hw1 
            obtain ⟨z0, z1, z2, z3, q0, q1, q2, q3⟩ := Z1.cells
            go_wp2_with fail
            refine (Ink _ (by exact T1)).mono ?_; rintro e w2_ ⟨⟨j, rfl⟩, nq, hw2'⟩
            have hw2 := Lib.hid hw2'
            clear hw2'
            have Z2 : Blk4 w2_ Bz (.slice (some ⟨ga, 0, none⟩) m0 d0) (.slice (some ⟨gb, 0, none⟩) m1 d1) (.slice D2 m2 d2) (.slice D3 m3 d3) 27 := by rw [hw2.out]; exact Z1
            have Y2 : Blk4 w2_ (w.heap.size + 1) (.slice none 0 0) (.slice none 0 0) (.slice none 0 0) (.slice none 0 0) 27 := by rw [hw2.out]; exact Y1
            have T2 : Row w2_ lc (.slice A n c) cs := by rw [hw2.out]; exact T1
            have P02 : Row w2_ w1.heap.size (.slice (some ⟨ga, 0, none⟩) m0 d0) (clrN C.h.l cs k) := by rw [hw2.out]; exact P01
            have P12 : Row w2_ w1.heap.size (.slice (some ⟨gb, 0, none⟩) m1 d1) (clrN C.h.r cs k) := by rw [hw2.out]; exact P11
            have P22 : Row w2_ w1.heap.size (.slice D2 m2 d2) C.h.t := by rw [hw2.out]; exact P21
            have P32 : Row w2_ w1.heap.size (.slice D3 m3 d3) C.c := by rw [hw2.out]; exact P31
            have B2 : Below w.heap.size w w2_ := by rw [hw2.out]; exact (below_drewN B1 _)
            have cx2 : w2_.cell? ⟨ga, k, none⟩ = some (.int .i64 x) := by rw [hw2.out]; exact cx1
            have fx2 : w2_.frozen? ⟨ga, k, none⟩ = false := by rw [hw2.out]; exact fx1
            have cy2 : w2_.cell? ⟨gb, k, none⟩ = some (.int .i64 y) := by rw [hw2.out]; exact cy1
            have fy2 : w2_.frozen? ⟨gb, k, none⟩ = false := by rw [hw2.out]; exact fy1
            clear hw2 Z1 Y1 T1 P01 P11 P21 P31 B1 cx1 fx1 cy1 fy1
            obtain ⟨z0, z1, z2, z3, q0, q1, q2, q3⟩ := Z2.cells
            have hj2 : decide ((j : Int) ≥ 0) = true := by simp
            have P0h : Row (w2_.setCell ⟨ga, k, none⟩ (.int .i64 (-1))) w1.heap.size (.slice (some ⟨ga, 0, none⟩) m0 d0) (clrN C.h.l cs (k + 1)) := by rw [hLh.out]; exact (Row.set_ P02 k (-1))
            go_wp2_with fail
            refine (Noty _ (by exact (Row.other T2 (a := ⟨ga, k, none⟩) nTa (.int .i64 (-1))))).mono ?_; rintro e w3_ ⟨rfl, nq, hw3'⟩
            have hw3 := Lib.hid hw3'
            clear hw3'
            have Z3 : Blk4 w3_ Bz (.slice (some ⟨ga, 0, none⟩) m0 d0) (.slice (some ⟨gb, 0, none⟩) m1 d1) (.slice D2 m2 d2) (.slice D3 m3 d3) 27 := by rw [hw3.out]; exact (Blk4.other Z2 (p := ⟨ga, k, none⟩) nZa (.int .i64 (-1)))
            have Y3 : Blk4 w3_ (w.heap.size + 1) (.slice none 0 0) (.slice none 0 0) (.slice none 0 0) (.slice none 0 0) 27 := by rw [hw3.out]; exact (Blk4.other Y2 (p := ⟨ga, k, none⟩) nYa (.int .i64 (-1)))
            have T3 : Row w3_ lc (.slice A n c) cs := by rw [hw3.out]; exact (Row.other T2 (a := ⟨ga, k, none⟩) nTa (.int .i64 (-1)))
            have P03 : Row w3_ w1.heap.size (.slice (some ⟨ga, 0, none⟩) m0 d0) (clrN C.h.l cs (k + 1)) := by rw [hw3.out]; exact P0h
            have P13 : Row w3_ w1.heap.size (.slice (some ⟨gb, 0, none⟩) m1 d1) (clrN C.h.r cs k) := by rw [hw3.out]; exact (Row.other P12 (a := ⟨ga, k, none⟩) nP1a (.int .i64 (-1)))
            have P23 : Row w3_ w1.heap.size (.slice D2 m2 d2) C.h.t := by rw [hw3.out]; exact (Row.other P22 (a := ⟨ga, k, none⟩) nP2a (.int .i64 (-1)))
            have P33 : Row w3_ w1.heap.size (.slice D3 m3 d3) C.c := by rw [hw3.out]; exact (Row.other P32 (a := ⟨ga, k, none⟩) nP3a (.int .i64 (-1)))
            have B3 : Below w.heap.size w w3_ := by rw [hw3.out]; exact (below_drewN (Below.setCell B2 (p := ⟨ga, k, none⟩) la (.int .i64 (-1))) _)
            have cx3 : w3_.cell? ⟨ga, k, none⟩ = some (.int .i64 (-1)) := by rw [hw3.out]; exact (World.cell?_setCell_same w2_ ⟨ga, k, none⟩ (.int .i64 (-1)) cx2)
            have fx3 : w3_.frozen? ⟨ga, k, none⟩ = false := by rw [hw3.out]; exact ((World.frozen?_setCell _ _ _ _).trans fx2)
            have cy3 : w3_.cell? ⟨gb, k, none⟩ = some (.int .i64 y) := by rw [hw3.out]; exact ((World.cell?_setCell_far _ _ _ _ (by exact nab)).trans cy2)
            have fy3 : w3_.frozen? ⟨gb, k, none⟩ = false := by rw [hw3.out]; exact ((World.frozen?_setCell _ _ _ _).trans fy2)
            clear hw3 P0h
            obtain ⟨z0, z1, z2, z3, q0, q1, q2, q3⟩ := Z3.cells
            go_wp2_with fail
            refine (Ink _ (by exact T3)).mono ?_; rintro e w4_ ⟨⟨j, rfl⟩, nq, hw4'⟩
            have hw4 := Lib.hid hw4'
            clear hw4'
            have Z4 : Blk4 w4_ Bz (.slice (some ⟨ga, 0, none⟩) m0 d0) (.slice (some ⟨gb, 0, none⟩) m1 d1) (.slice D2 m2 d2) (.slice D3 m3 d3) 27 := by rw [hw4.out]; exact Z3
            have Y4 : Blk4 w4_ (w.heap.size + 1) (.slice none 0 0) (.slice none 0 0) (.slice none 0 0) (.slice none 0 0) 27 := by rw [hw4.out]; exact Y3
            have T4 : Row w4_ lc (.slice A n c) cs := by rw [hw4.out]; exact T3
            have P04 : Row w4_ w1.heap.size (.slice (some ⟨ga, 0, none⟩) m0 d0) (clrN C.h.l cs (k + 1)) := by rw [hw4.out]; exact P03
            have P14 : Row w4_ w1.heap.size (.slice (some ⟨gb, 0, none⟩) m1 d1) (clrN C.h.r cs k) := by rw [hw4.out]; exact P13
            have P24 : Row w4_ w1.heap.size (.slice D2 m2 d2) C.h.t := by rw [hw4.out]; exact P23
            have P34 : Row w4_ w1.heap.size (.slice D3 m3 d3) C.c := by rw [hw4.out]; exact P33
            have B4 : Below w.heap.size w w4_ := by rw [hw4.out]; exact (below_drewN B3 _)
            have cx4 : w4_.cell? ⟨ga, k, none⟩ = some (.int .i64 (-1)) := by rw [hw4.out]; exact cx3
            have fx4 : w4_.frozen? ⟨ga, k, none⟩ = false := by rw [hw4.out]; exact fx3
            have cy4 : w4_.cell? ⟨gb, k, none⟩ = some (.int .i64 y) := by rw [hw4.out]; exact cy3
            have fy4 : w4_.frozen? ⟨gb, k, none⟩ = false := by rw [hw4.out]; exact fy3
            clear hw4 Z3 Y3 T3 P03 P13 P23 P33 B3 cx3 fx3 cy3 fy3
            obtain ⟨z0, z1, z2, z3, q0, q1, q2, q3⟩ := Z4.cells
            have hj4 : decide ((j : Int) ≥ 0) = true := by simp
            have P1h : Row (w4_.setCell ⟨gb, k, none⟩ (.int .i64 (-1))) w1.heap.size (.slice (some ⟨gb, 0, none⟩) m1 d1) (clrN C.h.r cs (k + 1)) := by rw [hRh.out]; exact (Row.set_ P14 k (-1))
            go_wp2_with fail
            go_roundw
            case rel => exact ⟨k + 1, by omega, by go_num, by exact (Blk4.other Z4 (p := ⟨gb, k, none⟩) nZb (.int .i64 (-1))), by exact (Blk4.other Y4 (p := ⟨gb, k, none⟩) nYb (.int .i64 (-1))), by exact (Row.other T4 (a := ⟨gb, k, none⟩) nTb (.int .i64 (-1))), by exact (Row.other P04 (a := ⟨gb, k, none⟩) nP0b (.int .i64 (-1))), by exact P1h, by exact (Row.other P24 (a := ⟨gb, k, none⟩) nP2b (.int .i64 (-1))), by exact (Row.other P34 (a := ⟨gb, k, none⟩) nP3b (.int .i64 (-1))), by exact (Below.setCell B4 (p := ⟨gb, k, none⟩) lb (.int .i64 (-1)))⟩
            case measure => simp [intOf]; omega
        · by_cases ay : y ∈ cs
          · have hLm := Lib.hid (clrN_miss hx.out (by rintro (h | h); exact ax h; exact ak h))
            have hRh := Lib.hid (clrN_hit hy.out (.inl ay))
            have Notx := fun W h9 => l4At_not W lc A n c cs h9 hl hm x ax
            have Iny := fun W h9 => l4At_in W lc A n c cs h9 hl hm y ay
            have Notk := fun W h9 => l4At_not W lc A n c cs h9 hl hm (k : Int) ak
            clear hx hy ax ay ak
            go_wp2_with fail
            refine (Notx _ (by exact T)).mono ?_; rintro e w1_ ⟨rfl, nq, hw1'⟩
            have hw1 := Lib.hid hw1'
            clear hw1'
            have Z1 : Blk4 w1_ Bz (.slice (some ⟨ga, 0, none⟩) m0 d0) (.slice (some ⟨gb, 0, none⟩) m1 d1) (.slice D2 m2 d2) (.slice D3 m3 d3) 27 := by rw [hw1.out]; exact Z
            have Y1 : Blk4 w1_ (w.heap.size + 1) (.slice none 0 0) (.slice none 0 0) (.slice none 0 0) (.slice none 0 0) 27 := by rw [hw1.out]; exact Y
            have T1 : Row w1_ lc (.slice A n c) cs := by rw [hw1.out]; exact T
            have P01 : Row w1_ w1.heap.size (.slice (some ⟨ga, 0, none⟩) m0 d0) (clrN C.h.l cs k) := by rw [hw1.out]; exact P0
            have P11 : Row w1_ w1.heap.size (.slice (some ⟨gb, 0, none⟩) m1 d1) (clrN C.h.r cs k) := by rw [hw1.out]; exact P1
            have P21 : Row w1_ w1.heap.size (.slice D2 m2 d2) C.h.t := by rw [hw1.out]; exact P2
            have P31 : Row w1_ w1.heap.size (.slice D3 m3 d3) C.c := by rw [hw1.out]; exact P3
            have B1 : Below w.heap.size w w1_ := by rw [hw1.out]; exact (below_drewN B _)
            have cx1 : w1_.cell? ⟨ga, k, none⟩ = some (.int .i64 x) := by rw [hw1.out]; exact hcx
            have fx1 : w1_.frozen? ⟨ga, k, none⟩ = false := by rw [hw1.out]; exact hfx
            have cy1 : w1_.cell? ⟨gb, k, none⟩ = some (.int .i64 y) := by rw [hw1.out]; exact hcy
            have fy1 : w1_.frozen? ⟨gb, k, none⟩ = false := by rw [hw1.out]; exact hfy
            clear hw1 
            obtain ⟨z0, z1, z2, z3, q0, q1, q2, q3⟩ := Z1.cells
            go_wp2_with fail
            refine (Notk _ (by exact T1)).mono ?_; rintro e w2_ ⟨rfl, nq, hw2'⟩
            have hw2 := Lib.hid hw2'
            clear hw2'
            have Z2 : Blk4 w2_ Bz (.slice (some ⟨ga, 0, none⟩) m0 d0) (.slice (some ⟨gb, 0, none⟩) m1 d1) (.slice D2 m2 d2) (.slice D3 m3 d3) 27 := by rw [hw2.out]; exact Z1
            have Y2 : Blk4 w2_ (w.heap.size + 1) (.slice none 0 0) (.slice none 0 0) (.slice none 0 0) (.slice none 0 0) 27 := by rw [hw2.out]; exact Y1
            have T2 : Row w2_ lc (.slice A n c) cs := by rw [hw2.out]; exact T1
            have P02 : Row w2_ w1.heap.size (.slice (some ⟨ga, 0, none⟩) m0 d0) (clrN C.h.l cs k) := by rw [hw2.out]; exact P01
            have P12 : Row w2_ w1.heap.size (.slice (some ⟨gb, 0, none⟩) m1 d1) (clrN C.h.r cs k) := by rw [hw2.out]; exact P11
            have P22 : Row w2_ w1.heap.size (.slice D2 m2 d2) C.h.t := by rw [hw2.out]; exact P21
            have P32 : Row w2_ w1.heap.size (.slice D3 m3 d3) C.c := by rw [hw2.out]; exact P31
            have B2 : Below w.heap.size w w2_ := by rw [hw2.out]; exact (below_drewN B1 _)
            have cx2 : w2_.cell? ⟨ga, k, none⟩ = some (.int .i64 x) := by rw [hw2.out]; exact cx1
            have fx2 : w2_.frozen? ⟨ga, k, none⟩ = false := by rw [hw2.out]; exact fx1
            have cy2 : w2_.cell? ⟨gb, k, none⟩ = some (.int .i64 y) := by rw [hw2.out]; exact cy1
            have fy2 : w2_.frozen? ⟨gb, k, none⟩ = false := by rw [hw2.out]; exact fy1
            clear hw2 Z1 Y1 T1 P01 P11 P21 P31 B1 cx1 fx1 cy1 fy1
            obtain ⟨z0, z1, z2, z3, q0, q1, q2, q3⟩ := Z2.cells
            have P0n : Row w2_ w1.heap.size (.slice (some ⟨ga, 0, none⟩) m0 d0) (clrN C.h.l cs (k + 1)) := by rw [hLm.out]; exact P02
            go_wp2_with fail
            refine (Iny _ (by exact T2)).mono ?_; rintro e w4_ ⟨⟨j, rfl⟩, nq, hw4'⟩
            have hw4 := Lib.hid hw4'
            clear hw4'
            have Z4 : Blk4 w4_ Bz (.slice (some ⟨ga, 0, none⟩) m0 d0) (.slice (some ⟨gb, 0, none⟩) m1 d1) (.slice D2 m2 d2) (.slice D3 m3 d3) 27 := by rw [hw4.out]; exact Z2
            have Y4 : Blk4 w4_ (w.heap.size + 1) (.slice none 0 0) (.slice none 0 0) (.slice none 0 0) (.slice none 0 0) 27 := by rw [hw4.out]; exact Y2
            have T4 : Row w4_ lc (.slice A n c) cs := by rw [hw4.out]; exact T2
            have P04 : Row w4_ w1.heap.size (.slice (some ⟨ga, 0, none⟩) m0 d0) (clrN C.h.l cs (k + 1)) := by rw [hw4.out]; exact P0n
            have P14 : Row w4_ w1.heap.size (.slice (some ⟨gb, 0, none⟩) m1 d1) (clrN C.h.r cs k) := by rw [hw4.out]; exact P12
            have P24 : Row w4_ w1.heap.size (.slice D2 m2 d2) C.h.t := by rw [hw4.out]; exact P22
            have P34 : Row w4_ w1.heap.size (.slice D3 m3 d3) C.c := by rw [hw4.out]; exact P32
            have B4 : Below w.heap.size w w4_ := by rw [hw4.out]; exact (below_drewN B2 _)
            have cx4 : w4_.cell? ⟨ga, k, none⟩ = some (.int .i64 x) := by rw [hw4.out]; exact cx2
            have fx4 : w4_.frozen? ⟨ga, k, none⟩ = false := by rw [hw4.out]; exact fx2
            have cy4 : w4_.cell? ⟨gb, k, none⟩ = some (.int .i64 y) := by rw [hw4.out]; exact cy2
            have fy4 : w4_.frozen? ⟨gb, k, none⟩ = false := by rw [hw4.out]; exact fy2
            clear hw4 Z2 Y2 T2 P0n P12 P22 P32 B2 cx2 fx2 cy2 fy2
            obtain ⟨z0, z1, z2, z3, q0, q1, q2, q3⟩ := Z4.cells
            have hj4 : decide ((j : Int) ≥ 0) = true := by simp
            have P1h : Row (w4_.setCell ⟨gb, k, none⟩ (.int .i64 (-1))) w1.heap.size (.slice (some ⟨gb, 0, none⟩) m1 d1) (clrN C.h.r cs (k + 1)) := by rw [hRh.out]; exact (Row.set_ P14 k (-1))
            go_wp2_with fail
            go_roundw
            case rel => exact ⟨k + 1, by omega, by go_num, by exact (Blk4.other Z4 (p := ⟨gb, k, none⟩) nZb (.int .i64 (-1))), by exact (Blk4.other Y4 (p := ⟨gb, k, none⟩) nYb (.int .i64 (-1))), by exact (Row.other T4 (a := ⟨gb, k, none⟩) nTb (.int .i64 (-1))), by exact (Row.other P04 (a := ⟨gb, k, none⟩) nP0b (.int .i64 (-1))), by exact P1h, by exact (Row.other P24 (a := ⟨gb, k, none⟩) nP2b (.int .i64 (-1))), by exact (Row.other P34 (a := ⟨gb, k, none⟩) nP3b (.int .i64 (-1))), by exact (Below.setCell B4 (p := ⟨gb, k, none⟩) lb (.int .i64 (-1)))⟩
            case measure => simp [intOf]; omega
          · have hLm := Lib.hid (clrN_miss hx.out (by rintro (h | h); exact ax h; exact ak h))
            have hRm := Lib.hid (clrN_miss hy.out (by rintro (h | h); exact ay h; exact ak h))
            have Notx := fun W h9 => l4At_not W lc A n c cs h9 hl hm x ax
            have Noty := fun W h9 => l4At_not W lc A n c cs h9 hl hm y ay
            have Notk := fun W h9 => l4At_not W lc A n c cs h9 hl hm (k : Int) ak
            clear hx hy ax ay ak
            go_wp2_with fail
            refine (Notx _ (by exact T)).mono ?_; rintro e w1_ ⟨rfl, nq, hw1'⟩
            have hw1 := Lib.hid hw1'
            clear hw1'
            have Z1 : Blk4 w1_ Bz (.slice (some ⟨ga, 0, none⟩) m0 d0) (.slice (some ⟨gb, 0, none⟩) m1 d1) (.slice D2 m2 d2) (.slice D3 m3 d3) 27 := by rw [hw1.out]; exact Z
            have Y1 : Blk4 w1_ (w.heap.size + 1) (.slice none 0 0) (.slice none 0 0) (.slice none 0 0) (.slice none 0 0) 27 := by rw [hw1.out]; exact Y
            have T1 : Row w1_ lc (.slice A n c) cs := by rw [hw1.out]; exact T
            have P01 : Row w1_ w1.heap.size (.slice (some ⟨ga, 0, none⟩) m0 d0) (clrN C.h.l cs k) := by rw [hw1.out]; exact P0
            have P11 : Row w1_ w1.heap.size (.slice (some ⟨gb, 0, none⟩) m1 d1) (clrN C.h.r cs k) := by rw [hw1.out]; exact P1
            have P21 : Row w1_ w1.heap.size (.slice D2 m2 d2) C.h.t := by rw [hw1.out]; exact P2
            have P31 : Row w1_ w1.heap.size (.slice D3 m3 d3) C.c := by rw [hw1.out]; exact P3
            have B1 : Below w.heap.size w w1_ := by rw [hw1.out]; exact (below_drewN B _)
            have cx1 : w1_.cell? ⟨ga, k, none⟩ = some (.int .i64 x) := by rw [hw1.out]; exact hcx
            have fx1 : w1_.frozen? ⟨ga, k, none⟩ = false := by rw [hw1.out]; exact hfx
            have cy1 : w1_.cell? ⟨gb, k, none⟩ = some (.int .i64 y) := by rw [hw1.out]; exact hcy
            have fy1 : w1_.frozen? ⟨gb, k, none⟩ = false := by rw [hw1.out]; exact hfy
            clear hw1 
            obtain ⟨z0, z1, z2, z3, q0, q1, q2, q3⟩ := Z1.cells
            go_wp2_with fail
            refine (Notk _ (by exact T1)).mono ?_; rintro e w2_ ⟨rfl, nq, hw2'⟩
            have hw2 := Lib.hid hw2'
            clear hw2'
            have Z2 : Blk4 w2_ Bz (.slice (some ⟨ga, 0, none⟩) m0 d0) (.slice (some ⟨gb, 0, none⟩) m1 d1) (.slice D2 m2 d2) (.slice D3 m3 d3) 27 := by rw [hw2.out]; exact Z1
            have Y2 : Blk4 w2_ (w.heap.size + 1) (.slice none 0 0) (.slice none 0 0) (.slice none 0 0) (.slice none 0 0) 27 := by rw [hw2.out]; exact Y1
            have T2 : Row w2_ lc (.slice A n c) cs := by rw [hw2.out]; exact T1
            have P02 : Row w2_ w1.heap.size (.slice (some ⟨ga, 0, none⟩) m0 d0) (clrN C.h.l cs k) := by rw [hw2.out]; exact P01
            have P12 : Row w2_ w1.heap.size (.slice (some ⟨gb, 0, none⟩) m1 d1) (clrN C.h.r cs k) := by rw [hw2.out]; exact P11
            have P22 : Row w2_ w1.heap.size (.slice D2 m2 d2) C.h.t := by rw [hw2.out]; exact P21
            have P32 : Row w2_ w1.heap.size (.slice D3 m3 d3) C.c := by rw [hw2.out]; exact P31
            have B2 : Below w.heap.size w w2_ := by rw [hw2.out]; exact (below_drewN B1 _)
            have cx2 : w2_.cell? ⟨ga, k, none⟩ = some (.int .i64 x) := by rw [hw2.out]; exact cx1
            have fx2 : w2_.frozen? ⟨ga, k, none⟩ = false := by rw [hw2.out]; exact fx1
            have cy2 : w2_.cell? ⟨gb, k, none⟩ = some (.int .i64 y) := by rw [hw2.out]; exact cy1
            have fy2 : w2_.frozen? ⟨gb, k, none⟩ = false := by rw [hw2.out]; exact fy1
            clear hw2 Z1 Y1 T1 P01 P11 P21 P31 B1 cx1 fx1 cy1 fy1
            obtain ⟨z0, z1, z2, z3, q0, q1, q2, q3⟩ := Z2.cells
            have P0n : Row w2_ w1.heap.size (.slice (some ⟨ga, 0, none⟩) m0 d0) (clrN C.h.l cs (k + 1)) := by rw [hLm.out]; exact P02
            go_wp2_with fail
            refine (Noty _ (by exact T2)).mono ?_; rintro e w4_ ⟨rfl, nq, hw4'⟩
            have hw4 := Lib.hid hw4'
            clear hw4'
            have Z4 : Blk4 w4_ Bz (.slice (some ⟨ga, 0, none⟩) m0 d0) (.slice (some ⟨gb, 0, none⟩) m1 d1) (.slice D2 m2 d2) (.slice D3 m3 d3) 27 := by rw [hw4.out]; exact Z2
            have Y4 : Blk4 w4_ (w.heap.size + 1) (.slice none 0 0) (.slice none 0 0) (.slice none 0 0) (.slice none 0 0) 27 := by rw [hw4.out]; exact Y2
            have T4 : Row w4_ lc (.slice A n c) cs := by rw [hw4.out]; exact T2
            have P04 : Row w4_ w1.heap.size (.slice (some ⟨ga, 0, none⟩) m0 d0) (clrN C.h.l cs (k + 1)) := by rw [hw4.out]; exact P0n
            have P14 : Row w4_ w1.heap.size (.slice (some ⟨gb, 0, none⟩) m1 d1) (clrN C.h.r cs k) := by rw [hw4.out]; exact P12
            have P24 : Row w4_ w1.heap.size (.slice D2 m2 d2) C.h.t := by rw [hw4.out]; exact P22
            have P34 : Row w4_ w1.heap.size (.slice D3 m3 d3) C.c := by rw [hw4.out]; exact P32
            have B4 : Below w.heap.size w w4_ := by rw [hw4.out]; exact (below_drewN B2 _)
            have cx4 : w4_.cell? ⟨ga, k, none⟩ = some (.int .i64 x) := by rw [hw4.out]; exact cx2
            have fx4 : w4_.frozen? ⟨ga, k, none⟩ = false := by rw [hw4.out]; exact fx2
            have cy4 : w4_.cell? ⟨gb, k, none⟩ = some (.int .i64 y) := by rw [hw4.out]; exact cy2
            have fy4 : w4_.frozen? ⟨gb, k, none⟩ = false := by rw [hw4.out]; exact fy2
            clear hw4 Z2 Y2 T2 P0n P12 P22 P32 B2 cx2 fx2 cy2 fy2
            obtain ⟨z0, z1, z2, z3, q0, q1, q2, q3⟩ := Z4.cells
            go_wp2_with fail
            refine (Notk _ (by exact T4)).mono ?_; rintro e w5_ ⟨rfl, nq, hw5'⟩
            have hw5 := Lib.hid hw5'
            clear hw5'
            have Z5 : Blk4 w5_ Bz (.slice (some ⟨ga, 0, none⟩) m0 d0) (.slice (some ⟨gb, 0, none⟩) m1 d1) (.slice D2 m2 d2) (.slice D3 m3 d3) 27 := by rw [hw5.out]; exact Z4
            have Y5 : Blk4 w5_ (w.heap.size + 1) (.slice none 0 0) (.slice none 0 0) (.slice none 0 0) (.slice none 0 0) 27 := by rw [hw5.out]; exact Y4
            have T5 : Row w5_ lc (.slice A n c) cs := by rw [hw5.out]; exact T4
            have P05 : Row w5_ w1.heap.size (.slice (some ⟨ga, 0, none⟩) m0 d0) (clrN C.h.l cs (k + 1)) := by rw [hw5.out]; exact P04
            have P15 : Row w5_ w1.heap.size (.slice (some ⟨gb, 0, none⟩) m1 d1) (clrN C.h.r cs k) := by rw [hw5.out]; exact P14
            have P25 : Row w5_ w1.heap.size (.slice D2 m2 d2) C.h.t := by rw [hw5.out]; exact P24
            have P35 : Row w5_ w1.heap.size (.slice D3 m3 d3) C.c := by rw [hw5.out]; exact P34
            have B5 : Below w.heap.size w w5_ := by rw [hw5.out]; exact (below_drewN B4 _)
            have cx5 : w5_.cell? ⟨ga, k, none⟩ = some (.int .i64 x) := by rw [hw5.out]; exact cx4
            have fx5 : w5_.frozen? ⟨ga, k, none⟩ = false := by rw [hw5.out]; exact fx4
            have cy5 : w5_.cell? ⟨gb, k, none⟩ = some (.int .i64 y) := by rw [hw5.out]; exact cy4
            have fy5 : w5_.frozen? ⟨gb, k, none⟩ = false := by rw [hw5.out]; exact fy4
            clear hw5 Z4 Y4 T4 P04 P14 P24 P34 B4 cx4 fx4 cy4 fy4
            obtain ⟨z0, z1, z2, z3, q0, q1, q2, q3⟩ := Z5.cells
            have P1n : Row w5_ w1.heap.size (.slice (some ⟨gb, 0, none⟩) m1 d1) (clrN C.h.r cs (k + 1)) := by rw [hRm.out]; exact P15
            go_wp2_with fail
            go_roundw
            case rel => exact ⟨k + 1, by omega, by go_num, by exact Z5, by exact Y5, by exact T5, by exact P05, by exact P1n, by exact P25, by exact P35, by exact B5⟩
            case measure => simp [intOf]; omega
    · obtain rfl : k = m0 := by omega
      obtain ⟨i0, hi, hz0, hz1, hz2⟩ := info_parts Tryz.infoInt
      have lZ := Z.lt
      have c3 := P3.cap
      by_cases hn0 : n = 0
      · have h0 := Lib.hid hn0
        have hcs0 : cs = [] := List.eq_nil_of_length_eq_zero (hl.out.trans hn0)
        clear hn0
        go_wp2_with (at_builtin; refine wpList_append_zero rfl _ _ 23 rfl 3 i0 Tryz.underlying23 hi D3 m3 d3 rfl c3 _ n _ h0.out rfl ?_)
        rintro w5 hw5
        have Z5 : Blk4 w5 Bz (.slice (some ⟨ga, 0, none⟩) k d0) (.slice (some ⟨gb, 0, none⟩) m1 d1) (.slice D2 m2 d2) (.slice D3 m3 d3) 27 := by rw [hw5.out]; exact Z
        have Y5 : Blk4 w5 (w.heap.size + 1) (.slice none 0 0) (.slice none 0 0) (.slice none 0 0) (.slice none 0 0) 27 := by rw [hw5.out]; exact Y
        have P05 : Row w5 w1.heap.size (.slice (some ⟨ga, 0, none⟩) k d0) (clrN C.h.l cs k) := by rw [hw5.out]; exact P0
        have P15 : Row w5 w1.heap.size (.slice (some ⟨gb, 0, none⟩) m1 d1) (clrN C.h.r cs k) := by rw [hw5.out]; exact P1
        have P25 : Row w5 w1.heap.size (.slice D2 m2 d2) C.h.t := by rw [hw5.out]; exact P2
        have T5 : Row w5 w1.heap.size (.slice D3 m3 d3) (C.c ++ cs) := by rw [hw5.out, hcs0, List.append_nil]; exact P3
        have B5 : Below w.heap.size w w5 := by rw [hw5.out]; exact B
        have ap0 := a03
        have ap1 := a13
        have ap2 := a23
        have nVz := nDz
        clear hw5 Z Y T P0 P1 P2 P3 B
        have lY : w.heap.size + 1 < w1.heap.size := by omega
        have R0 := P05.other (a := ⟨Bz, 3, none⟩) (fun e => by have := Option.some.inj e; simp at this; omega) (Value.slice D3 m3 d3)
        have R1 := P15.other (a := ⟨Bz, 3, none⟩) (fun e => by have := Option.some.inj e; simp at this; omega) (Value.slice D3 m3 d3)
        have R2 := P25.other (a := ⟨Bz, 3, none⟩) (fun e => by have := h2y.out _ e; simp at this) (Value.slice D3 m3 d3)
        have R3 := T5.other (a := ⟨Bz, 3, none⟩) nVz (Value.slice D3 m3 d3)
        have BR := B5.setCell (p := ⟨Bz, 3, none⟩) (by simp; omega) (Value.slice D3 m3 d3)
        obtain ⟨y0, y1, y2, y3, f0, f1, f2, f3⟩ := Y5.cells
        obtain ⟨u0, u1, u2, u3, g0, g1, g2, g3⟩ := Z5.cells
        have CC : Cv (w5.setCell ⟨Bz, 3, none⟩ (Value.slice D3 m3 d3)) w1.heap.size (.agg #[.slice (some ⟨ga, 0, none⟩) k d0, .slice (some ⟨gb, 0, none⟩) m1 d1, .slice D2 m2 d2, Value.slice D3 m3 d3]) (clearC C cs) := ⟨_, _, _, _, rfl, ⟨_, _, _, rfl, by show Row _ _ _ (clrN C.h.l cs C.h.l.length); rw [t0.out]; exact R0, by show Row _ _ _ (clrN C.h.r cs C.h.l.length); rw [t0.out]; exact R1, R2, a01, a02, a12⟩, R3, ap0, ap1, ap2⟩
        have CF := ((((CC.set_low (p := ⟨w.heap.size + 1, 0, none⟩) lY (.slice (some ⟨ga, 0, none⟩) k d0)).set_low (p := ⟨w.heap.size + 1, 1, none⟩) lY (.slice (some ⟨gb, 0, none⟩) m1 d1)).set_low (p := ⟨w.heap.size + 1, 2, none⟩) lY (.slice D2 m2 d2)).set_low (p := ⟨w.heap.size + 1, 3, none⟩) lY (Value.slice D3 m3 d3)).mono (lo' := w.heap.size) (by omega)
        have BF := (((BR.setCell (p := ⟨w.heap.size + 1, 0, none⟩) (by simp) (.slice (some ⟨ga, 0, none⟩) k d0)).setCell (p := ⟨w.heap.size + 1, 1, none⟩) (by simp) (.slice (some ⟨gb, 0, none⟩) m1 d1)).setCell (p := ⟨w.heap.size + 1, 2, none⟩) (by simp) (.slice D2 m2 d2)).setCell (p := ⟨w.heap.size + 1, 3, none⟩) (by simp) (Value.slice D3 m3 d3)
        have nYz : Bz ≠ w.heap.size + 1 := by omega
        clear R0 R1 R2 R3 BR CC Y5 Z5 P05 P15 P25 T5 B5
        go_wp2_with fail
        refine bodyPost_ret (v := .agg #[.slice (some ⟨ga, 0, none⟩) k d0, .slice (some ⟨gb, 0, none⟩) m1 d1, .slice D2 m2 d2, Value.slice D3 m3 d3]) ?_ rfl ⟨_, rfl, CF, BF⟩
        simp [results, Tryz.results137, go_sem, y0, y1, y2, y3]
      · obtain ⟨gc, rfl, _⟩ := T.at_ (k := 0) (by have := hl.out; omega)
        have hown : wr.ownsRow w1.heap.size 3 1 (.slice D3 m3 d3) C.c.length (C.c.map iv) := P3
        have e3 := t3.out
        rw [e3] at hown
        have h33 : m3 ≤ 8 := by have := t3.out; omega
        have hlen : (cs.map iv).length = n * 1 := by simp; exact hl.out
        have hmx : m3 + n ≤ maxLen := by unfold maxLen; omega
        have hbw : w1.heap.size ≤ wr.heap.size := by omega
        go_wp2_with (at_builtin; refine wpList_append_own_at _ rfl _ _ 23 rfl w1.heap.size 3 i0 (.int .i64 0) 1 8 Tryz.underlying23 hi hz0 hz1 hz2 rfl (by decide) _ _ _ rfl hown ⟨gc, 0, none⟩ n _ (cs.map iv) rfl hlen (Row.cellsV (lo := lc) (n := n) (xs := cs) T) (ints_oneCell _ _) hmx (by omega) hbw ?_)
        intro v' w5 hown' hgr _ hloc
        have hown2 : w5.ownsRow w1.heap.size 3 1 v' (m3 + n) (C.c.map iv ++ cs.map iv) := by rw [sz]; exact hown'
        have T5' : Row w5 w1.heap.size v' (C.c ++ cs) := Row.of_own hown2 (by simp) (by rw [List.length_append, hl.out, t3.out])
        obtain ⟨q5, hq5⟩ : ∃ q, (C.c ++ cs).length = q := ⟨_, rfl⟩
        obtain ⟨E5, c5, ev5, _⟩ := T5'.form
        rw [hq5] at ev5
        subst ev5
        clear hq5
        have Z5 := Blk4.kept_own Z hgr (fun e => nDz e.symm)
        have Y5 := Blk4.kept_own Y hgr (fun e => by have := (P3.lt _ e.symm).1; omega)
        have P05 := Row.kept P0 hgr (.inr fun e => a03 ga rfl e.symm)
        have P15 := Row.kept P1 hgr (.inr fun e => a13 gb rfl e.symm)
        have P25 := Row.kept P2 hgr (by
          rcases hq : (Value.slice D2 m2 d2).ownBlock with _ | b
          · exact .inl rfl
          · exact .inr fun e => a23 b hq e.symm)
        have T5 := T5'
        have B5 := B.grown hgr B.size (fun j hj => by have := (P3.lt j hj).1; omega)
        have ap0 : Apart (.slice (some ⟨ga, 0, none⟩) k d0) (.slice E5 q5 c5) := fun b e e' => by
          rcases hloc with h9 | h9
          · rw [h9] at e'; exact a03 b e e'
          · rw [h9] at e'; have h1 := Option.some.inj e; have h2 := Option.some.inj e'; simp at h1; omega
        have ap1 : Apart (.slice (some ⟨gb, 0, none⟩) m1 d1) (.slice E5 q5 c5) := fun b e e' => by
          rcases hloc with h9 | h9
          · rw [h9] at e'; exact a13 b e e'
          · rw [h9] at e'; have h1 := Option.some.inj e; have h2 := Option.some.inj e'; simp at h1; omega
        have ap2 : Apart (.slice D2 m2 d2) (.slice E5 q5 c5) := fun b e e' => by
          rcases hloc with h9 | h9
          · rw [h9] at e'; exact a23 b e e'
          · rw [h9] at e'; have h1 := h2y.out b e; have h2 := Option.some.inj e'; omega
        have nVz : (Value.slice E5 q5 c5).ownBlock ≠ some Bz := fun e => by
          rcases hloc with h9 | h9
          · rw [h9] at e; exact nDz e
          · rw [h9] at e; have h2 := Option.some.inj e; omega
        clear hown hown' hown2 hgr hloc T5' Z Y T P0 P1 P2 P3 B
        have lY : w.heap.size + 1 < w1.heap.size := by omega
        have R0 := P05.other (a := ⟨Bz, 3, none⟩) (fun e => by have := Option.some.inj e; simp at this; omega) (Value.slice E5 q5 c5)
        have R1 := P15.other (a := ⟨Bz, 3, none⟩) (fun e => by have := Option.some.inj e; simp at this; omega) (Value.slice E5 q5 c5)
        have R2 := P25.other (a := ⟨Bz, 3, none⟩) (fun e => by have := h2y.out _ e; simp at this) (Value.slice E5 q5 c5)
        have R3 := T5.other (a := ⟨Bz, 3, none⟩) nVz (Value.slice E5 q5 c5)
        have BR := B5.setCell (p := ⟨Bz, 3, none⟩) (by simp; omega) (Value.slice E5 q5 c5)
        obtain ⟨y0, y1, y2, y3, f0, f1, f2, f3⟩ := Y5.cells
        obtain ⟨u0, u1, u2, u3, g0, g1, g2, g3⟩ := Z5.cells
        have CC : Cv (w5.setCell ⟨Bz, 3, none⟩ (Value.slice E5 q5 c5)) w1.heap.size (.agg #[.slice (some ⟨ga, 0, none⟩) k d0, .slice (some ⟨gb, 0, none⟩) m1 d1, .slice D2 m2 d2, Value.slice E5 q5 c5]) (clearC C cs) := ⟨_, _, _, _, rfl, ⟨_, _, _, rfl, by show Row _ _ _ (clrN C.h.l cs C.h.l.length); rw [t0.out]; exact R0, by show Row _ _ _ (clrN C.h.r cs C.h.l.length); rw [t0.out]; exact R1, R2, a01, a02, a12⟩, R3, ap0, ap1, ap2⟩
        have CF := ((((CC.set_low (p := ⟨w.heap.size + 1, 0, none⟩) lY (.slice (some ⟨ga, 0, none⟩) k d0)).set_low (p := ⟨w.heap.size + 1, 1, none⟩) lY (.slice (some ⟨gb, 0, none⟩) m1 d1)).set_low (p := ⟨w.heap.size + 1, 2, none⟩) lY (.slice D2 m2 d2)).set_low (p := ⟨w.heap.size + 1, 3, none⟩) lY (Value.slice E5 q5 c5)).mono (lo' := w.heap.size) (by omega)
        have BF := (((BR.setCell (p := ⟨w.heap.size + 1, 0, none⟩) (by simp) (.slice (some ⟨ga, 0, none⟩) k d0)).setCell (p := ⟨w.heap.size + 1, 1, none⟩) (by simp) (.slice (some ⟨gb, 0, none⟩) m1 d1)).setCell (p := ⟨w.heap.size + 1, 2, none⟩) (by simp) (.slice D2 m2 d2)).setCell (p := ⟨w.heap.size + 1, 3, none⟩) (by simp) (Value.slice E5 q5 c5)
        have nYz : Bz ≠ w.heap.size + 1 := by omega
        clear R0 R1 R2 R3 BR CC Y5 Z5 P05 P15 P25 T5 B5
        go_wp2_with fail
        refine bodyPost_ret (v := .agg #[.slice (some ⟨ga, 0, none⟩) k d0, .slice (some ⟨gb, 0, none⟩) m1 d1, .slice D2 m2 d2, Value.slice E5 q5 c5]) ?_ rfl ⟨_, rfl, CF, BF⟩
        simp [results, Tryz.results137, go_sem, y0, y1, y2, y3]
end Go.Proofs.YtfoimicbmkiigaaGreat

