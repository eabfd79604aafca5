/- impl's forwarding: forwarded, forwardedHeap. -/
import Derived.Test.YtapkhgpifpgleaaOrdS
import Derived.Test.YtapkhgpifpgleaaHpB
namespace Go.Proofs.Ytapkhgpifpgleaa
open Go.RowKit

set_option maxHeartbeats 1000000 in
theorem forwarded_any (w : World) (lo : Nat) (A : Option Addr) (n c : Nat) (N : List Int) (h : Row w lo (.slice A n c) N) (l : Hid (N.length = n)) (x : Int) (hx : x = -1 ∨ (0 ≤ x ∧ x < n)) :
    Calls Try.prog 69 #[.slice A n c, .int .i64 x] w fun e w' => e = .returned (.int .i64 (ren (gd N) x)) ∧ w = w' := by
  by_cases h1 : x = -1
  · subst h1
    go_enter Try.func69, Try.ntmps69
    go_wp2_with fail
    go_ret
    exact ⟨ret_int rfl, rfl⟩
  · have hx2 : (x == -1) = false := by simpa using h1
    rw [ren_ne h1]
    obtain ⟨k, rfl⟩ : ∃ k : Nat, x = k := ⟨x.toNat, by omega⟩
    have hk : k < n := by omega
    obtain ⟨g, y, rfl, _, _, hy, hcy, _⟩ := h.get (k := k) (by rw [l.out]; exact hk)
    have hg := Lib.hid (gd_nat hy.out)
    clear h1 hx hy
    go_enter Try.func69, Try.ntmps69
    go_wp2_with fail
    go_ret
    exact ⟨ret_int hg.out.symm, rfl⟩

/-- The state of the forwarding: the argument's rows and those that are made. -/
structure FwAt (w wr : World) (lo lo' b5 : Nat) (v0 v1 v2 u0 u1 u2 vN : Value) (h : Hp) (N xs ys zs : List Int) : Prop where
  bel : Below w.heap.size w wr
  X : Blk3 wr w.heap.size v0 v1 v2 27
  Y : Blk3 wr (w.heap.size + 1) (.slice none 0 0) (.slice none 0 0) (.slice none 0 0) 27
  Z : Blk3 wr b5 u0 u1 u2 27
  r0 : Row wr lo v0 h.l
  r1 : Row wr lo v1 h.r
  r2 : Row wr lo v2 h.t
  rN : Row wr lo' vN N
  L : Row wr (w.heap.size + 2) u0 xs
  R : Row wr (w.heap.size + 2) u1 ys
  T : Row wr (w.heap.size + 2) u2 zs
  a01 : Apart u0 u1
  a02 : Apart u0 u2
  a12 : Apart u1 u2
  o0 : ∀ b, v0.ownBlock = some b → b < w.heap.size
  o1 : ∀ b, v1.ownBlock = some b → b < w.heap.size
  o2 : ∀ b, v2.ownBlock = some b → b < w.heap.size
  oN : ∀ b, vN.ownBlock = some b → b < w.heap.size
  z5 : w.heap.size + 2 ≤ b5
  e0 : u0.ownBlock ≠ some b5
  e1 : u1.ownBlock ≠ some b5
  e2 : u2.ownBlock ≠ some b5
theorem FwAt.drew {w wr : World} {lo lo' b5 : Nat} {v0 v1 v2 u0 u1 u2 vN : Value} {h : Hp} {N xs ys zs : List Int} (F : FwAt w wr lo lo' b5 v0 v1 v2 u0 u1 u2 vN h N xs ys zs) : FwAt w wr.drew lo lo' b5 v0 v1 v2 u0 u1 u2 vN h N xs ys zs :=
  ⟨F.bel.drew, F.X, F.Y, F.Z, F.r0, F.r1, F.r2, F.rN, F.L, F.R, F.T, F.a01, F.a02, F.a12, F.o0, F.o1, F.o2, F.oN, F.z5, F.e0, F.e1, F.e2⟩
theorem FwAt.setL {w wr : World} {lo lo' b5 g n c : Nat} {v0 v1 v2 u1 u2 vN : Value} {h : Hp} {N xs ys zs : List Int} (F : FwAt w wr lo lo' b5 v0 v1 v2 (.slice (some ⟨g, 0, none⟩) n c) u1 u2 vN h N xs ys zs) (j : Nat) (x : Int) :
    FwAt w (wr.setCell ⟨g, j, none⟩ (iv x)) lo lo' b5 v0 v1 v2 (.slice (some ⟨g, 0, none⟩) n c) u1 u2 vN h N (xs.set j x) ys zs := by
  have hg := (F.L.lt g rfl).1
  have h5 : b5 ≠ g := fun e => F.e0 (by rw [e]; rfl)
  exact ⟨F.bel.setCell (p := ⟨g, j, none⟩) (by show w.heap.size ≤ g; omega) _, F.X.other (p := ⟨g, j, none⟩) (by show w.heap.size ≠ g; omega) _, F.Y.other (p := ⟨g, j, none⟩) (by show w.heap.size + 1 ≠ g; omega) _, F.Z.other (p := ⟨g, j, none⟩) h5 _,
    F.r0.other (a := ⟨g, j, none⟩) (fun e => by have := F.o0 _ e; simp at this; omega) _, F.r1.other (a := ⟨g, j, none⟩) (fun e => by have := F.o1 _ e; simp at this; omega) _, F.r2.other (a := ⟨g, j, none⟩) (fun e => by have := F.o2 _ e; simp at this; omega) _, F.rN.other (a := ⟨g, j, none⟩) (fun e => by have := F.oN _ e; simp at this; omega) _,
    F.L.set_ j x, F.R.other (a := ⟨g, j, none⟩) (F.a01 g rfl) _, F.T.other (a := ⟨g, j, none⟩) (F.a02 g rfl) _, F.a01, F.a02, F.a12, F.o0, F.o1, F.o2, F.oN, F.z5, F.e0, F.e1, F.e2⟩
theorem FwAt.setR {w wr : World} {lo lo' b5 g n c : Nat} {v0 v1 v2 u0 u2 vN : Value} {h : Hp} {N xs ys zs : List Int} (F : FwAt w wr lo lo' b5 v0 v1 v2 u0 (.slice (some ⟨g, 0, none⟩) n c) u2 vN h N xs ys zs) (j : Nat) (x : Int) :
    FwAt w (wr.setCell ⟨g, j, none⟩ (iv x)) lo lo' b5 v0 v1 v2 u0 (.slice (some ⟨g, 0, none⟩) n c) u2 vN h N xs (ys.set j x) zs := by
  have hg := (F.R.lt g rfl).1
  have h5 : b5 ≠ g := fun e => F.e1 (by rw [e]; rfl)
  exact ⟨F.bel.setCell (p := ⟨g, j, none⟩) (by show w.heap.size ≤ g; omega) _, F.X.other (p := ⟨g, j, none⟩) (by show w.heap.size ≠ g; omega) _, F.Y.other (p := ⟨g, j, none⟩) (by show w.heap.size + 1 ≠ g; omega) _, F.Z.other (p := ⟨g, j, none⟩) h5 _,
    F.r0.other (a := ⟨g, j, none⟩) (fun e => by have := F.o0 _ e; simp at this; omega) _, F.r1.other (a := ⟨g, j, none⟩) (fun e => by have := F.o1 _ e; simp at this; omega) _, F.r2.other (a := ⟨g, j, none⟩) (fun e => by have := F.o2 _ e; simp at this; omega) _, F.rN.other (a := ⟨g, j, none⟩) (fun e => by have := F.oN _ e; simp at this; omega) _,
    F.L.other (a := ⟨g, j, none⟩) (fun e => F.a01 g e rfl) _, F.R.set_ j x, F.T.other (a := ⟨g, j, none⟩) (F.a12 g rfl) _, F.a01, F.a02, F.a12, F.o0, F.o1, F.o2, F.oN, F.z5, F.e0, F.e1, F.e2⟩
theorem FwAt.setT {w wr : World} {lo lo' b5 g n c : Nat} {v0 v1 v2 u0 u1 vN : Value} {h : Hp} {N xs ys zs : List Int} (F : FwAt w wr lo lo' b5 v0 v1 v2 u0 u1 (.slice (some ⟨g, 0, none⟩) n c) vN h N xs ys zs) (j : Nat) (x : Int) :
    FwAt w (wr.setCell ⟨g, j, none⟩ (iv x)) lo lo' b5 v0 v1 v2 u0 u1 (.slice (some ⟨g, 0, none⟩) n c) vN h N xs ys (zs.set j x) := by
  have hg := (F.T.lt g rfl).1
  have h5 : b5 ≠ g := fun e => F.e2 (by rw [e]; rfl)
  exact ⟨F.bel.setCell (p := ⟨g, j, none⟩) (by show w.heap.size ≤ g; omega) _, F.X.other (p := ⟨g, j, none⟩) (by show w.heap.size ≠ g; omega) _, F.Y.other (p := ⟨g, j, none⟩) (by show w.heap.size + 1 ≠ g; omega) _, F.Z.other (p := ⟨g, j, none⟩) h5 _,
    F.r0.other (a := ⟨g, j, none⟩) (fun e => by have := F.o0 _ e; simp at this; omega) _, F.r1.other (a := ⟨g, j, none⟩) (fun e => by have := F.o1 _ e; simp at this; omega) _, F.r2.other (a := ⟨g, j, none⟩) (fun e => by have := F.o2 _ e; simp at this; omega) _, F.rN.other (a := ⟨g, j, none⟩) (fun e => by have := F.oN _ e; simp at this; omega) _,
    F.L.other (a := ⟨g, j, none⟩) (fun e => F.a02 g e rfl) _, F.R.other (a := ⟨g, j, none⟩) (fun e => F.a12 g e rfl) _, F.T.set_ j x, F.a01, F.a02, F.a12, F.o0, F.o1, F.o2, F.oN, F.z5, F.e0, F.e1, F.e2⟩
theorem Row.cellAt' {w : World} {lo g n c : Nat} {xs : List Int} {k : Nat} {x : Int} (h : Row w lo (.slice (some ⟨g, 0, none⟩) n c) xs) (hx : xs[k]? = some x) : w.cell? ⟨g, k, none⟩ = some (.int .i64 x) := by
  obtain ⟨g', y, e, _, _, hy, hc, _⟩ := h.get (k := k) ((List.getElem?_eq_some_iff.1 hx).1)
  obtain rfl : g = g' := by simpa using e
  have := hy.out; rw [hx] at this
  rw [hc]; simp at this; rw [this]
/-- The roots that are forwarded so far. -/
def rtL (N t : List Int) (k : Nat) : List Int := (t.take k).map (ren (gd N)) ++ List.replicate (t.length - k) (-1)
theorem rtL_len {N t : List Int} {k : Nat} (h : k ≤ t.length) : (rtL N t k).length = t.length := by simp [rtL]; omega
theorem rtL_set {N t : List Int} {k : Nat} {x : Int} (hx : t[k]? = some x) : (rtL N t k).set k (ren (gd N) x) = rtL N t (k + 1) := by
  have hk : k < t.length := (List.getElem?_eq_some_iff.1 hx).1
  unfold rtL
  have hlk : ((t.take k).map (ren (gd N))).length = k := by simp; omega
  rw [List.set_append, if_neg (by omega), hlk, Nat.sub_self, show t.length - k = (t.length - (k + 1)) + 1 from by omega, List.replicate_succ, List.set_cons_zero, List.take_add_one, hx]
  simp
theorem rtL_end (N t : List Int) : rtL N t t.length = t.map (ren (gd N)) := by simp [rtL]
theorem rtL_zero (N t : List Int) : rtL N t 0 = List.replicate t.length (-1) := by simp [rtL]
theorem fwL_skip {l N B : List Int} {k : Nat} (h : gd N (k : Int) = -1) : fwL l N B (k + 1) = fwL l N B k := by simp [fwL, h]
theorem fwL_put {l N B : List Int} {k j : Nat} {u : Int} (h : gd N (k : Int) = j) (hu : gd l (k : Int) = u) : fwL l N B (k + 1) = (fwL l N B k).set j (ren (gd N) u) := by
  simp [fwL, h, hu]

set_option maxRecDepth 100000 in
set_option maxHeartbeats 4000000 in
theorem forwardedHeap_any (w : World) (lo lo' : Nat) (v : Value) (h : Hp) (hv : Hv w lo v h) (hva : hvB h = true) (B : Option Addr) (d : Nat) (N : List Int) (hN : Row w lo' (.slice B h.l.length d) N) (hNl : N.length = h.l.length) (hNr : ∀ x ∈ N, -1 ≤ x ∧ x < h.l.length) :
    Calls Try.prog 47 #[v, .slice B h.l.length d] w (NewHv w ⟨fwL h.l N (List.replicate h.l.length (-1)) h.l.length, fwL h.r N (List.replicate h.l.length (-1)) h.l.length, h.t.map (ren (gd N))⟩) := by
  obtain ⟨A0, n0, c0, A1, n1, c1, A2, n2, c2, rfl, ⟨h0, h1, h2⟩, ⟨l0, l1, l2⟩, _⟩ := hv.open_
  have hl := hvB_len hva
  have u0 : 1 ≤ n0 ∧ n0 ≤ 8 ∧ n1 = n0 ∧ 1 ≤ n2 ∧ n2 ≤ 3 := by have := l0.out; have := l1.out; have := l2.out; omega
  obtain ⟨u00, u08, rfl, u20, u2⟩ := u0
  have hsz : szB (n1 : Int) (n2 : Int) = true := by have := (hvB_parts hva).1.2; rw [l0.out, l2.out] at this; exact this
  have hno : newO (n1 : Int) (n2 : Int) = some ⟨List.replicate n1 (-1), List.replicate n1 (-1), List.replicate n2 (-1)⟩ := by unfold newO; rw [if_pos hsz]; simp
  have HG := Lib.hid (fun k (hk : k < h.l.length) => hv_get hva hk)
  have HRB := Lib.hid (fun p (hp : p ∈ h.t) => roots_bd hva hp)
  rw [l0.out] at hN hNl hNr ⊢
  rw [l0.out] at HG HRB
  have HNL := Lib.hid hNl
  have HNR := Lib.hid hNr
  have HW := (h0.lt · ·)
  clear hNl hNr hsz hva hl hv
  have X0 := (Blk3.new w (.slice A0 n1 c0) (.slice A1 n1 c1) (.slice A2 n2 c2) 27).alloc (.cells #[.slice none 0 0, .slice none 0 0, .slice none 0 0] 27)
  have Y0 := Blk3.new_at (w := w.alloc (.cells #[.slice A0 n1 c0, .slice A1 n1 c1, .slice A2 n2 c2] 27)) (b := w.heap.size + 1) (by simp) (.slice none 0 0) (.slice none 0 0) (.slice none 0 0) 27
  obtain ⟨DD, hDD⟩ : ∃ DD, DD = List.replicate n1 (-1 : Int) := ⟨_, rfl⟩
  rw [← hDD] at hno ⊢
  have NH : ∀ W, Calls Try.prog 68 #[.int .i64 (n1 : Int), .int .i64 (n2 : Int)] W (fun e w' => ∃ v, e = .returned (.tuple #[v, .bool true]) ∧ Hv w' W.heap.size v ⟨DD, DD, List.replicate n2 (-1)⟩ ∧ Below W.heap.size W w') := fun W => by
    have h9 := implNewHeap_any W (n1 : Int) (n2 : Int)
    rw [hno] at h9; exact h9
  have HDL : Hid (DD.length = n1) := by unfold Hid; rw [hDD]; simp
  clear hDD
  go_enter Try.func47, Try.ntmps47
  go_wp2_with fail
  refine (NH _).mono ?_; rintro e w1 ⟨vm, rfl, HM, hb1⟩
  have hz1 : w.heap.size + 2 ≤ w1.heap.size := by have := hb1.size; simp at this; omega
  have HM2 : Hv w1 (w.heap.size + 2) vm ⟨DD, DD, List.replicate n2 (-1)⟩ := HM.mono (by simp)
  obtain ⟨AL, cL, AR, cR, AT, cT, rfl, qL, qR, qT, a01, a02, a12⟩ := HM2.form
  simp only [List.length_replicate, HDL.out] at qL qR qT a01 a02 a12 ⊢
  obtain ⟨gL, rfl, _, hgL, _⟩ := qL.at_ (k := 0) (by rw [HDL.out]; omega)
  obtain ⟨gR, rfl, _, hgR, _⟩ := qR.at_ (k := 0) (by rw [HDL.out]; omega)
  obtain ⟨gT, rfl, _, hgT, _⟩ := qT.at_ (k := 0) (by simp; omega)
  have X1 := Blk3.below (by exact X0) hb1
  have Y1 := Blk3.below (by exact Y0) hb1
  have s0 := Row.below (by exact (h0.alloc (.cells #[.slice A0 n1 c0, .slice A1 n1 c1, .slice A2 n2 c2] 27)).alloc (.cells #[.slice none 0 0, .slice none 0 0, .slice none 0 0] 27)) hb1
  have s1 := Row.below (by exact (h1.alloc (.cells #[.slice A0 n1 c0, .slice A1 n1 c1, .slice A2 n2 c2] 27)).alloc (.cells #[.slice none 0 0, .slice none 0 0, .slice none 0 0] 27)) hb1
  have s2 := Row.below (by exact (h2.alloc (.cells #[.slice A0 n1 c0, .slice A1 n1 c1, .slice A2 n2 c2] 27)).alloc (.cells #[.slice none 0 0, .slice none 0 0, .slice none 0 0] 27)) hb1
  have sN := Row.below (by exact (hN.alloc (.cells #[.slice A0 n1 c0, .slice A1 n1 c1, .slice A2 n2 c2] 27)).alloc (.cells #[.slice none 0 0, .slice none 0 0, .slice none 0 0] 27)) hb1
  have B1 : Below w.heap.size w w1 := (((Below.refl _ _).alloc (Nat.le_refl _) (.cells #[.slice A0 n1 c0, .slice A1 n1 c1, .slice A2 n2 c2] 27)).alloc (by simp) (.cells #[.slice none 0 0, .slice none 0 0, .slice none 0 0] 27)).trans (hb1.mono (by simp; omega))
  have F0 : FwAt w (w1.alloc (.cells #[.slice (some ⟨gL, 0, none⟩) n1 cL, .slice (some ⟨gR, 0, none⟩) n1 cR, .slice (some ⟨gT, 0, none⟩) n2 cT] 27)) lo lo' w1.heap.size (.slice A0 n1 c0) (.slice A1 n1 c1) (.slice A2 n2 c2) (.slice (some ⟨gL, 0, none⟩) n1 cL) (.slice (some ⟨gR, 0, none⟩) n1 cR) (.slice (some ⟨gT, 0, none⟩) n2 cT) (.slice B n1 d) h N DD DD (List.replicate n2 (-1)) :=
    ⟨B1.alloc B1.size _, X1.alloc _, Y1.alloc _, Blk3.new _ _ _ _ _, s0.alloc _, s1.alloc _, s2.alloc _, sN.alloc _, qL.alloc _, qR.alloc _, qT.alloc _, a01, a02, a12, fun b e => (h0.lt b e).2, fun b e => (h1.lt b e).2, fun b e => (h2.lt b e).2, fun b e => (hN.lt b e).2, hz1,
      fun e => by simp [Value.ownBlock] at e; omega, fun e => by simp [Value.ownBlock] at e; omega, fun e => by simp [Value.ownBlock] at e; omega⟩
  clear HM HM2 qL qR qT X1 Y1 s0 s1 s2 sN B1 hb1 X0 Y0 NH h0 h1 h2 hN hno HW
  have f0 : fwL h.l N DD 0 = DD := rfl
  have f1 : fwL h.r N DD 0 = DD := rfl
  have f2 : rtL N h.t 0 = List.replicate n2 (-1) := by rw [rtL_zero, l2.out]
  rw [← f2] at F0
  clear f0 f1 f2
  go_wp2_with fail
  go_loopw [23] (fun i wr => ∃ k : Nat, k ≤ n1 ∧ i = .int .i64 k ∧ FwAt w wr lo lo' w1.heap.size (.slice A0 n1 c0) (.slice A1 n1 c1) (.slice A2 n2 c2) (.slice (some ⟨gL, 0, none⟩) n1 cL) (.slice (some ⟨gR, 0, none⟩) n1 cR) (.slice (some ⟨gT, 0, none⟩) n2 cT) (.slice B n1 d) h N (fwL h.l N DD k) (fwL h.r N DD k) (rtL N h.t 0)) (fun i _ => n1 - (intOf i).toNat)
  case atStart => exact ⟨0, Nat.zero_le _, rfl, F0⟩
  case round =>
    obtain ⟨k, hk, rfl, F⟩ := hrel
    clear F0
    by_cases hlt : k < n1
    · obtain ⟨gN, y, rfl, _, _, hy, hcy, _⟩ := F.rN.get (k := k) (by rw [HNL.out]; exact hlt)
      have hyr := HNR.out y (List.mem_of_getElem? hy.out)
      have hgy := gd_nat hy.out
      obtain ⟨P0, P1, P2, _⟩ := F.X.cells
      obtain ⟨Z0, Z1, Z2, _⟩ := F.Z.cells
      clear hy
      by_cases hy1 : y = -1
      · subst hy1
        have e0 := Lib.hid (fwL_skip (l := h.l) (B := DD) hgy)
        have e1 := Lib.hid (fwL_skip (l := h.r) (B := DD) hgy)
        clear hgy hyr
        go_wp2_with fail
        go_roundw
        case rel => exact ⟨k + 1, by omega, by go_num, by rw [e0.out, e1.out]; exact F⟩
        case measure => simp [intOf]; omega
      · obtain ⟨j, rfl⟩ : ∃ j : Nat, y = j := ⟨y.toNat, by omega⟩
        have hj : j < n1 := by omega
        have hne : ((j : Int) != -1) = true := by simp
        obtain ⟨ga, lx, rfl, _, hga, hlx, hcl, _⟩ := F.r0.get (k := k) (by rw [l0.out]; exact hlt)
        obtain ⟨gb, rx, rfl, _, hgb, hrx, hcr, _⟩ := F.r1.get (k := k) (by rw [l1.out]; exact hlt)
        have hbd := HG.out k hlt
        rw [gd_nat hlx.out, gd_nat hrx.out] at hbd
        have e0 := Lib.hid (fwL_put (l := h.l) (B := DD) hgy (gd_nat hlx.out))
        have e1 := Lib.hid (fwL_put (l := h.r) (B := DD) hgy (gd_nat hrx.out))
        have WL := fun W hW => forwarded_any W lo' (some ⟨gN, 0, none⟩) n1 d N hW HNL lx (by omega)
        have WR := fun W hW => forwarded_any W lo' (some ⟨gN, 0, none⟩) n1 d N hW HNL rx (by omega)
        generalize ren (gd N) lx = lz at WL e0
        generalize ren (gd N) rx = rz at WR e1
        have JL := F.L.get (k := j) (by rw [fwL_len, HDL.out]; exact hj)
        obtain ⟨gL', qx, hq1, _, hgLw, _, hqc, hqf⟩ := JL
        obtain rfl : gL = gL' := by simpa using hq1
        have F1 := F.setL j lz
        rw [← e0.out] at F1
        obtain ⟨P0', P1', P2', _⟩ := F1.X.cells
        obtain ⟨Z0', Z1', Z2', _⟩ := F1.Z.cells
        have hcl' := F1.r0.cellAt' hlx.out
        have hcr' := F1.r1.cellAt' hrx.out
        have JR := F1.R.get (k := j) (by rw [fwL_len, HDL.out]; exact hj)
        obtain ⟨gR', qy, hq2, _, hgRw, _, hqc2, hqf2⟩ := JR
        obtain rfl : gR = gR' := by simpa using hq2
        have F2 := F1.setR j rz
        rw [← e1.out] at F2
        obtain ⟨P0q, P1q, P2q, _⟩ := F2.X.cells
        obtain ⟨Z0q, Z1q, Z2q, _⟩ := F2.Z.cells
        have hcrq := F2.r1.cellAt' hrx.out
        clear hgy hyr hy1 hlx hrx hbd hq1 hq2
        go_wp2_with fail
        go_region_held3 (fun w' => w'.cell? ⟨w1.heap.size, 0, none⟩ = some (.slice (some ⟨gL, 0, none⟩) n1 cL) ∧ w'.cell? ⟨w.heap.size, 0, none⟩ = some (.slice (some ⟨ga, 0, none⟩) n1 c0) ∧ w'.cell? ⟨ga, k, none⟩ = some (.int .i64 lx))
          (((try dsimp only); (repeat' apply And.intro) <;> (with_reducible (first | exact Z0 | exact cellD Z0 | exact P0 | exact cellD P0 | exact hcl | exact cellD hcl | exact cellD Z0' | exact cellD P0' | exact cellD hcl'))))
          (first
            | (go_at_call 69; (with_reducible refine (WL _ (Row.drew F.rN)).mono ?_); rintro e w9 ⟨rfl, rfl⟩; (have st0 := cellD hqc); (have st1 : wr.drew.frozen? ⟨gL, j, none⟩ = false := hqf)))
        rename_i hHeld
        clear hHeld
        generalize hWs : wr.setCell ⟨gL, j, none⟩ (.int .i64 lz) = ws at *
        clear hWs F Z0 Z1 Z2 P0 P1 P2 hcl hcr hqc hqf hcy st0 st1 WL
        go_wp2_with fail
        go_region_held3 (fun w' => w'.cell? ⟨w1.heap.size, 1, none⟩ = some (.slice (some ⟨gR, 0, none⟩) n1 cR) ∧ w'.cell? ⟨w.heap.size, 1, none⟩ = some (.slice (some ⟨gb, 0, none⟩) n1 c1) ∧ w'.cell? ⟨gb, k, none⟩ = some (.int .i64 rx))
          (((try dsimp only); (repeat' apply And.intro) <;> (with_reducible (first | exact cellD Z1' | exact cellD (cellD Z1') | exact cellD P1' | exact cellD (cellD P1') | exact cellD hcr' | exact cellD (cellD hcr') | exact cellD (cellD Z1q) | exact cellD (cellD P1q) | exact cellD (cellD hcrq)))))
          (first
            | (go_at_call 69; (with_reducible refine (WR _ (Row.drew (Row.drew F1.rN))).mono ?_); rintro e w9 ⟨rfl, rfl⟩; (have st2 := cellD (cellD hqc2)); (have st3 : ws.drew.drew.frozen? ⟨gR, j, none⟩ = false := hqf2)))
        rename_i hHeld2
        clear hHeld2
        go_wp2_with fail
        go_roundw
        case rel => exact ⟨k + 1, by omega, by go_num, F2.drew.drew⟩
        case measure => simp [intOf]; omega
    · obtain rfl : n1 = k := by omega
      obtain ⟨P0, P1, P2, _⟩ := F.X.cells
      obtain ⟨Z0, Z1, Z2, _⟩ := F.Z.cells
      clear hlt hk
      go_wp2_with fail
      go_loopw [56] (fun i wr => ∃ k : Nat, k ≤ n2 ∧ i = .int .i64 k ∧ FwAt w wr lo lo' w1.heap.size (.slice A0 n1 c0) (.slice A1 n1 c1) (.slice A2 n2 c2) (.slice (some ⟨gL, 0, none⟩) n1 cL) (.slice (some ⟨gR, 0, none⟩) n1 cR) (.slice (some ⟨gT, 0, none⟩) n2 cT) (.slice B n1 d) h N (fwL h.l N DD n1) (fwL h.r N DD n1) (rtL N h.t k)) (fun i _ => n2 - (intOf i).toNat)
      case atStart => exact ⟨0, Nat.zero_le _, rfl, F⟩
      case round =>
        clear F P0 P1 P2 Z0 Z1 Z2
        obtain ⟨k, hk, rfl, F⟩ := hrel
        obtain ⟨P0, P1, P2, _⟩ := F.X.cells
        obtain ⟨Y0, Y1, Y2, y0, y1, y2⟩ := F.Y.cells
        obtain ⟨Z0, Z1, Z2, _⟩ := F.Z.cells
        by_cases hlt : k < n2
        · obtain ⟨gt, x, rfl, _, hgtw, hx, hcx, _⟩ := F.r2.get (k := k) (by rw [l2.out]; exact hlt)
          have hxb := HRB.out x (List.mem_of_getElem? hx.out)
          have WT := fun W hW => forwarded_any W lo' B n1 d N hW HNL x (by omega)
          have JT := F.T.get (k := k) (by rw [rtL_len (by rw [l2.out]; omega), l2.out]; exact hlt)
          obtain ⟨gT', qz, hq3, _, hgTw, _, hqc, hqf⟩ := JT
          obtain rfl : gT = gT' := by simpa using hq3
          have F1 := F.setT k (ren (gd N) x)
          rw [rtL_set hx.out] at F1
          obtain ⟨Z0', Z1', Z2', _⟩ := F1.Z.cells
          generalize ren (gd N) x = xz at WT F1 Z0' Z1' Z2'
          clear hx hxb hq3
          go_wp2_with fail
          go_region_held3 (fun w' => w'.cell? ⟨w1.heap.size, 2, none⟩ = some (.slice (some ⟨gT, 0, none⟩) n2 cT))
            (((try dsimp only); (with_reducible (first | exact Z2 | exact cellD Z2 | exact cellD Z2'))))
            (first
              | (go_at_call 69; (with_reducible refine (WT _ (Row.drew F.rN)).mono ?_); rintro e w9 ⟨rfl, rfl⟩; (have st0 := cellD hqc); (have st1 : wr.drew.frozen? ⟨gT, k, none⟩ = false := hqf)))
          rename_i hHeld
          clear hHeld
          go_wp2_with fail
          go_roundw
          case rel => exact ⟨k + 1, by omega, by go_num, F1.drew⟩
          case measure => simp [intOf]; omega
        · obtain rfl : n2 = k := by omega
          have hT := F.T
          have et : rtL N h.t n2 = h.t.map (ren (gd N)) := by rw [← l2.out]; exact rtL_end N h.t
          rw [et] at hT
          have zb := F.bel.size
          have key : ∀ (v : Value) (zs : List Int), Row wr (w.heap.size + 2) v zs → v.ownBlock ≠ some (w.heap.size + 1) := fun v zs r e => by have := (r.lt _ e).1; omega
          have tk : ∀ (v : Value) (zs : List Int) (p q r : Value), Row wr (w.heap.size + 2) v zs → Row (((wr.setCell ⟨w.heap.size + 1, 0, none⟩ p).setCell ⟨w.heap.size + 1, 1, none⟩ q).setCell ⟨w.heap.size + 1, 2, none⟩ r) w.heap.size v zs :=
            fun v zs p q r h9 => (((h9.other (key v zs h9) _).other (key v zs h9) _).other (key v zs h9) _).mono (by omega)
          have R0 := tk _ _ (.slice (some ⟨gL, 0, none⟩) n1 cL) (.slice (some ⟨gR, 0, none⟩) n1 cR) (.slice (some ⟨gT, 0, none⟩) n2 cT) F.L
          have R1 := tk _ _ (.slice (some ⟨gL, 0, none⟩) n1 cL) (.slice (some ⟨gR, 0, none⟩) n1 cR) (.slice (some ⟨gT, 0, none⟩) n2 cT) F.R
          have R2 := tk _ _ (.slice (some ⟨gL, 0, none⟩) n1 cL) (.slice (some ⟨gR, 0, none⟩) n1 cR) (.slice (some ⟨gT, 0, none⟩) n2 cT) hT
          have BF := ((F.bel.setCell (p := ⟨w.heap.size + 1, 0, none⟩) (by simp) (.slice (some ⟨gL, 0, none⟩) n1 cL)).setCell (p := ⟨w.heap.size + 1, 1, none⟩) (by simp) (.slice (some ⟨gR, 0, none⟩) n1 cR)).setCell (p := ⟨w.heap.size + 1, 2, none⟩) (by simp) (.slice (some ⟨gT, 0, none⟩) n2 cT)
          have f01 := F.a01
          have f02 := F.a02
          have f12 := F.a12
          clear F hT key tk et HG HRB HNL HNR
          go_wp2_with fail
          refine bodyPost_ret (v := .agg #[.slice (some ⟨gL, 0, none⟩) n1 cL, .slice (some ⟨gR, 0, none⟩) n1 cR, .slice (some ⟨gT, 0, none⟩) n2 cT]) ?_ rfl ⟨_, rfl, ⟨_, _, _, rfl, R0, R1, R2, f01, f02, f12⟩, BF⟩
          simp [results, Try.results47, go_sem, Y0, Y1, Y2]
end Go.Proofs.Ytapkhgpifpgleaa
