/- spec's MoveCells. -/
import Derived.Test.YtapkhgpifpgleaaCellsT
namespace Go.Proofs.Ytapkhgpifpgleaa
open Go.RowKit Go.Maps

/-- The roots that are forwarded so far, the others as they were. -/
def rtC (N t : List Int) (k : Nat) : List Int := (t.take k).map (ren (gd N)) ++ t.drop k
theorem rtC_len (N t : List Int) (k : Nat) : (rtC N t k).length = t.length := by simp [rtC]; omega
theorem rtC_zero (N t : List Int) : rtC N t 0 = t := by simp [rtC]
theorem rtC_end (N t : List Int) : rtC N t t.length = t.map (ren (gd N)) := by simp [rtC]
theorem rtC_set {N t : List Int} {k : Nat} {x : Int} (hx : t[k]? = some x) : (rtC N t k).set k (ren (gd N) x) = rtC N t (k + 1) := by
  have hk : k < t.length := (List.getElem?_eq_some_iff.1 hx).1
  unfold rtC
  have hlk : ((t.take k).map (ren (gd N))).length = k := by simp; omega
  have hd : t.drop k = x :: t.drop (k + 1) := by
    rw [List.drop_eq_getElem_cons hk]
    congr 1
    rw [List.getElem?_eq_getElem hk] at hx; simpa using hx
  rw [List.set_append, if_neg (by omega), hlk, Nat.sub_self, hd, List.set_cons_zero, List.take_add_one, hx]
  simp
theorem rtC_skip {N t : List Int} {k : Nat} (hx : t[k]? = some (-1)) : rtC N t (k + 1) = rtC N t k := by
  have hk : k < t.length := (List.getElem?_eq_some_iff.1 hx).1
  rw [← rtC_set hx, ren_no]
  have : (rtC N t k)[k]? = some (-1) := by
    unfold rtC
    rw [List.getElem?_append_right (by simp; omega)]
    have : k - ((t.take k).map (ren (gd N))).length = 0 := by simp; omega
    rw [this, List.getElem?_drop]
    simpa using hx
  obtain ⟨h1, h2⟩ := List.getElem?_eq_some_iff.1 this
  apply List.ext_getElem?
  intro i
  by_cases e : k = i
  · subst e; rw [List.getElem?_set_self h1, this]
  · rw [List.getElem?_set_ne e]
theorem setset (l : List Int) (j : Nat) (a b : Int) : (l.set j a).set j b = l.set j b := by simp
theorem frzD {w : World} {a : Addr} (h : w.frozen? a = false) : w.drew.frozen? a = false := h

set_option maxRecDepth 100000 in
set_option maxHeartbeats 8000000 in
theorem specMove_any (w : World) (lo lo' : Nat) (v : Value) (h : Hp) (hv : Hv w lo v h) (A : Option Addr) (n c : Nat) (tz : List Int) (hx : Row w lo' (.slice A n c) tz) (l : Hid (tz.length = n)) (hm : n ≤ 9223372036854775807) :
    Calls Try.prog 29 #[v, .slice A n c] w (OptHv w (moveO h tz)) := by
  obtain ⟨A0, n0, c0, A1, n1, c1, A2, n2, c2, rfl, ⟨h0, h1, h2⟩, ⟨l0, l1, l2⟩, ⟨mm0, _, _⟩, _⟩ := hv.open_
  have X0 := (Blk3.new w (.slice A0 n0 c0) (.slice A1 n1 c1) (.slice A2 n2 c2) 27).alloc (.cells #[.slice none 0 0, .slice none 0 0, .slice none 0 0] 27)
  have Y0 := Blk3.new_at (w := w.alloc (.cells #[.slice A0 n0 c0, .slice A1 n1 c1, .slice A2 n2 c2] 27)) (b := w.heap.size + 1) (by simp) (.slice none 0 0) (.slice none 0 0) (.slice none 0 0) 27
  have fin : Below w.heap.size w ((w.alloc (.cells #[.slice A0 n0 c0, .slice A1 n1 c1, .slice A2 n2 c2] 27)).alloc (.cells #[.slice none 0 0, .slice none 0 0, .slice none 0 0] 27)) := ((Below.refl _ _).alloc (Nat.le_refl _) _).alloc (by simp) _
  have H0 := (hv.alloc (.cells #[.slice A0 n0 c0, .slice A1 n1 c1, .slice A2 n2 c2] 27)).alloc (.cells #[.slice none 0 0, .slice none 0 0, .slice none 0 0] 27)
  have T0 := (hx.alloc (.cells #[.slice A0 n0 c0, .slice A1 n1 c1, .slice A2 n2 c2] 27)).alloc (.cells #[.slice none 0 0, .slice none 0 0, .slice none 0 0] 27)
  have CC := fun W hW hR => l10Cells_any W lo lo' (.agg #[.slice A0 n0 c0, .slice A1 n1 c1, .slice A2 n2 c2]) h hW A n c tz hR l hm
  rcases ec : (hvB h && difB h.l.length tz)
  · rw [ec] at CC
    have e1 : moveO h tz = none := moveO_none (by rintro ⟨a1, _, a3⟩; rw [a1, a3] at ec; simp at ec)
    rw [e1]
    clear ec e1
    go_enter Try.func29, Try.ntmps29
    go_wp2_with fail
    refine (CC _ H0 T0).mono ?_; rintro e w1 ⟨rfl, hb1⟩
    have Y1 := Blk3.below (by exact Y0) hb1
    obtain ⟨q0, q1, q2, f0, f1, f2⟩ := Y1.cells
    have B1 : Below w.heap.size w w1 := fin.trans (hb1.mono (by simp; omega))
    go_wp2_with fail
    refine bodyPost_ret (v := .tuple #[.agg #[.slice none 0 0, .slice none 0 0, .slice none 0 0], .bool false]) ?_ rfl ⟨_, rfl, Hv.zero _ _, ((B1.setCell (by simp) _).setCell (by simp) _).setCell (by simp) _⟩
    simp [results, Try.results29, go_sem, q0, q1, q2]
  · rw [ec] at CC
    have ev : hvB h = true := by simp at ec; exact ec.1
    have ed : difB n0 tz = true := by simp at ec; rw [l0.out] at ec; exact ec.2
    have hl := hvB_len ev
    by_cases hn : n = n0
    · subst hn
      have u0 : 1 ≤ n ∧ n ≤ 8 ∧ n1 = n ∧ 1 ≤ n2 ∧ n2 ≤ 3 := by have := l0.out; have := l1.out; have := l2.out; omega
      obtain ⟨u00, u08, e1n, u20, u2⟩ := u0
      subst e1n
      have P : Perm h.l.length tz := by rw [l0.out]; exact Perm.of l.out ed
      have hP : moveO h tz = some ⟨fwL h.l tz h.l h.l.length, fwL h.r tz h.r h.l.length, h.t.map (ren (gd tz))⟩ := by
        unfold moveO
        rw [if_pos ⟨ev, by rw [l0.out]; exact l.out, by rw [l0.out]; exact ed⟩, fw_move P rfl, fw_move P hl.1]
        rfl
      have HG := Lib.hid (fun k (hk : k < h.l.length) => hv_get ev hk)
      have HRB := Lib.hid (fun p (hp : p ∈ h.t) => roots_bd ev hp)
      have HPM := Lib.hid P
      rw [hP]
      have CH := fun W hW => l1Copy_any W lo (.agg #[.slice A0 n1 c0, .slice A1 n1 c1, .slice A2 n2 c2]) h hW (by rw [l0.out]; omega) (by rw [l1.out]; omega) (by rw [l2.out]; omega) (by rw [l0.out]; omega) (by rw [l1.out]; omega) (by rw [l2.out]; omega)
      rw [l0.out] at HG HRB HPM
      rw [l0.out]
      obtain ⟨g0, rfl, _, hg0, _⟩ := h0.at_ (k := 0) (by rw [l0.out]; omega)
      obtain ⟨g1, rfl, _, hg1, _⟩ := h1.at_ (k := 0) (by rw [l1.out]; omega)
      obtain ⟨g2, rfl, _, hg2, _⟩ := h2.at_ (k := 0) (by rw [l2.out]; omega)
      obtain ⟨gs, rfl, _, hgs, _⟩ := hx.at_ (k := 0) (by rw [l.out]; omega)
      clear ec ed hP P hl ev hv hm
      go_enter Try.func29, Try.ntmps29
      go_wp2_with fail
      refine (CC _ H0 T0).mono ?_; rintro e w1 ⟨rfl, hb1⟩
      have X1 := Blk3.below (by exact X0) hb1
      have Y1 := Blk3.below (by exact Y0) hb1
      have H1 := Hv.below (by exact H0) hb1
      have B1 : Below w.heap.size w w1 := fin.trans (hb1.mono (by simp; omega))
      have z1 : w.heap.size + 2 ≤ w1.heap.size := by have := hb1.size; simp at this; omega
      obtain ⟨p0, p1, p2, _⟩ := X1.cells
      clear CC H0 T0 fin hb1 X0 Y0
      go_wp2_with fail
      refine (CH _ H1).mono ?_; rintro e w2 ⟨vm, rfl, HM, hb2⟩
      have HM2 : Hv w2 (w.heap.size + 2) vm h := HM.mono z1
      have X2 := X1.below hb2
      have Y2 := Y1.below hb2
      have B2 := B1.trans (hb2.mono B1.size)
      have z2 : w.heap.size + 2 ≤ w2.heap.size := Nat.le_trans z1 hb2.size
      obtain ⟨AL, cL, AR, cR, AT, cT, rfl, qL, qR, qT, a01, a02, a12⟩ := HM2.form
      simp only [l0.out, l1.out, l2.out] at qL qR qT a01 a02 a12 ⊢
      obtain ⟨gL, rfl, _, hgL, _⟩ := qL.at_ (k := 0) (by rw [l0.out]; omega)
      obtain ⟨gR, rfl, _, hgR, _⟩ := qR.at_ (k := 0) (by rw [l1.out]; omega)
      obtain ⟨gT, rfl, _, hgT, _⟩ := qT.at_ (k := 0) (by rw [l2.out]; omega)
      have F0 : FwAt w (w2.alloc (.cells #[.slice (some ⟨gL, 0, none⟩) n1 cL, .slice (some ⟨gR, 0, none⟩) n1 cR, .slice (some ⟨gT, 0, none⟩) n2 cT] 27)) lo lo' w2.heap.size (.slice (some ⟨g0, 0, none⟩) n1 c0) (.slice (some ⟨g1, 0, none⟩) n1 c1) (.slice (some ⟨g2, 0, none⟩) n2 c2) (.slice (some ⟨gL, 0, none⟩) n1 cL) (.slice (some ⟨gR, 0, none⟩) n1 cR) (.slice (some ⟨gT, 0, none⟩) n2 cT) (.slice (some ⟨gs, 0, none⟩) n1 c) h tz h.l h.r h.t :=
        ⟨B2.alloc B2.size _, X2.alloc _, Y2.alloc _, Blk3.new _ _ _ _ _, (h0.far B2 (fun b e => (h0.lt b e).2)).alloc _, (h1.far B2 (fun b e => (h1.lt b e).2)).alloc _, (h2.far B2 (fun b e => (h2.lt b e).2)).alloc _, (hx.far B2 (fun b e => (hx.lt b e).2)).alloc _, qL.alloc _, qR.alloc _, qT.alloc _, a01, a02, a12, fun b e => (h0.lt b e).2, fun b e => (h1.lt b e).2, fun b e => (h2.lt b e).2, fun b e => (hx.lt b e).2, z2,
          fun e => by simp [Value.ownBlock] at e; omega, fun e => by simp [Value.ownBlock] at e; omega, fun e => by simp [Value.ownBlock] at e; omega⟩
      clear HM HM2 qL qR qT X1 Y1 X2 Y2 H1 CH hb2 h0 h1 h2 hx p0 p1 p2
      have f0 : fwL h.l tz h.l 0 = h.l := rfl
      have f1 : fwL h.r tz h.r 0 = h.r := rfl
      go_wp2_with fail
      go_loopw [7] (fun i wr => ∃ k : Nat, k ≤ n1 ∧ i = .int .i64 k ∧ FwAt w wr lo lo' w2.heap.size (.slice (some ⟨g0, 0, none⟩) n1 c0) (.slice (some ⟨g1, 0, none⟩) n1 c1) (.slice (some ⟨g2, 0, none⟩) n2 c2) (.slice (some ⟨gL, 0, none⟩) n1 cL) (.slice (some ⟨gR, 0, none⟩) n1 cR) (.slice (some ⟨gT, 0, none⟩) n2 cT) (.slice (some ⟨gs, 0, none⟩) n1 c) h tz (fwL h.l tz h.l k) (fwL h.r tz h.r k) h.t) (fun i _ => n1 - (intOf i).toNat)
      case atStart => exact ⟨0, Nat.zero_le _, rfl, F0⟩
      case round =>
        obtain ⟨k, hk, rfl, F⟩ := hrel
        clear F0
        by_cases hlt : k < n1
        · obtain ⟨j, _, hj, hjx0, _⟩ := HPM.out.get hlt
          have hjx := Lib.hid hjx0
          obtain ⟨_, lx, el, _, _, hlx, _, _⟩ := F.r0.get (k := k) (by rw [l0.out]; exact hlt)
          obtain ⟨_, rx, er, _, _, hrx, _, _⟩ := F.r1.get (k := k) (by rw [l1.out]; exact hlt)
          have e0 := Lib.hid (fwL_put (l := h.l) (B := h.l) (gd_nat hjx0) (gd_nat hlx.out))
          have e1 := Lib.hid (fwL_put (l := h.r) (B := h.r) (gd_nat hjx0) (gd_nat hrx.out))
          clear hjx0
          cases el
          cases er
          have J0 := F.rN.cellAt' hjx.out
          go_wp2_with fail
          obtain ⟨_, qx1, hq1, _, _, _, hc1, hf1⟩ := F.L.get (k := j) (by first | (rw [fwL_len, l0.out]; exact hj) | (rw [fwL_len, l1.out]; exact hj) | (rw [List.length_set, fwL_len, l0.out]; exact hj) | (rw [List.length_set, fwL_len, l1.out]; exact hj))
          cases hq1
          have F1 := F.setL j (-1)
          obtain ⟨Pa10, Pa11, Pa12, _⟩ := F.X.cells
          obtain ⟨Za10, Za11, Za12, _⟩ := F.Z.cells
          have Na1 := F.rN.cellAt' hjx.out
          obtain ⟨Pb10, Pb11, Pb12, _⟩ := F1.X.cells
          obtain ⟨Zb10, Zb11, Zb12, _⟩ := F1.Z.cells
          have Nb1 := F1.rN.cellAt' hjx.out
          have hcd1 := cellD (hc1)
          have hfd1 := frzD (hf1)
          go_region_held3 (fun w' => w'.cell? ⟨w2.heap.size, 0, none⟩ = some (.slice (some ⟨gL, 0, none⟩) n1 cL) ∧ w'.cell? ⟨gs, k, none⟩ = some (.int .i64 j))
            (((try dsimp only); (repeat' apply And.intro) <;> (first | ((repeat (with_reducible (first | exact Za10 | exact Na1 | exact Zb10 | exact Nb1 | refine cellD ?_))); done))))
            (fail)
          rename_i hHeld1
          clear hHeld1
          clear Pa10 Pa11 Pa12 Pb10 Pb11 Pb12 Za10 Za11 Za12 Zb10 Zb11 Zb12 Na1 Nb1 hc1 hf1
          go_wp2_with fail
          obtain ⟨_, qx2, hq2, _, _, _, hc2, hf2⟩ := F1.R.get (k := j) (by first | (rw [fwL_len, l0.out]; exact hj) | (rw [fwL_len, l1.out]; exact hj) | (rw [List.length_set, fwL_len, l0.out]; exact hj) | (rw [List.length_set, fwL_len, l1.out]; exact hj))
          cases hq2
          have F2 := F1.setR j (-1)
          obtain ⟨Pa20, Pa21, Pa22, _⟩ := F1.X.cells
          obtain ⟨Za20, Za21, Za22, _⟩ := F1.Z.cells
          have Na2 := F1.rN.cellAt' hjx.out
          obtain ⟨Pb20, Pb21, Pb22, _⟩ := F2.X.cells
          obtain ⟨Zb20, Zb21, Zb22, _⟩ := F2.Z.cells
          have Nb2 := F2.rN.cellAt' hjx.out
          have hcd2 := cellD (cellD (hc2))
          have hfd2 := frzD (frzD (hf2))
          go_region_held3 (fun w' => w'.cell? ⟨w2.heap.size, 1, none⟩ = some (.slice (some ⟨gR, 0, none⟩) n1 cR) ∧ w'.cell? ⟨gs, k, none⟩ = some (.int .i64 j))
            (((try dsimp only); (repeat' apply And.intro) <;> (first | ((repeat (with_reducible (first | exact Za21 | exact Na2 | exact Zb21 | exact Nb2 | refine cellD ?_))); done))))
            (fail)
          rename_i hHeld2
          clear hHeld2
          clear Pa20 Pa21 Pa22 Pb20 Pb21 Pb22 Za20 Za21 Za22 Zb20 Zb21 Zb22 Na2 Nb2 hc2 hf2
          by_cases hl1 : lx = -1
          · subst hl1
            rw [ren_no] at e0
            by_cases hr1 : rx = -1
            · subst hr1
              rw [ren_no] at e1
              obtain ⟨P0, P1, P2, _⟩ := F2.X.cells
              obtain ⟨Z0, Z1, Z2, _⟩ := F2.Z.cells
              have hcl := F2.r0.cellAt' hlx.out
              have hcr := F2.r1.cellAt' hrx.out
              go_wp2_with fail
              go_roundw
              case rel => exact ⟨k + 1, by omega, by go_num, by rw [e0.out, e1.out]; have h9 := F2.drew.drew;  exact h9⟩
              case measure => simp [intOf]; omega
            · have hrx2 : (rx != -1) = true := by simpa using hr1
              have hrb := (HG.out k hlt).2
              rw [gd_nat hrx.out] at hrb
              obtain ⟨u, rfl⟩ : ∃ u : Nat, rx = u := ⟨rx.toNat, by omega⟩
              obtain ⟨_, uv, eu, _, _, hux, _, _⟩ := F2.rN.get (k := u) (by rw [l.out]; omega)
              cases eu
              rw [ren_ne hr1, gd_nat hux.out] at e1
              have hun : u < n1 := by omega
              clear hr1 hrb
              obtain ⟨P0, P1, P2, _⟩ := F2.X.cells
              obtain ⟨Z0, Z1, Z2, _⟩ := F2.Z.cells
              have hcl := F2.r0.cellAt' hlx.out
              have hcr := F2.r1.cellAt' hrx.out
              go_wp2_with fail
              clear P0 P1 P2 Z0 Z1 Z2 hcl hcr
              obtain ⟨_, qx3, hq3, _, _, _, hc3, hf3⟩ := F2.R.get (k := j) (by first | (rw [fwL_len, l0.out]; exact hj) | (rw [fwL_len, l1.out]; exact hj) | (rw [List.length_set, fwL_len, l0.out]; exact hj) | (rw [List.length_set, fwL_len, l1.out]; exact hj))
              cases hq3
              have F2R := F2.setR j uv
              obtain ⟨Pa30, Pa31, Pa32, _⟩ := F2.X.cells
              obtain ⟨Za30, Za31, Za32, _⟩ := F2.Z.cells
              have Na3 := F2.rN.cellAt' hjx.out
              obtain ⟨Pb30, Pb31, Pb32, _⟩ := F2R.X.cells
              obtain ⟨Zb30, Zb31, Zb32, _⟩ := F2R.Z.cells
              have Nb3 := F2R.rN.cellAt' hjx.out
              have Ha3 := F2.r1.cellAt' hrx.out
              have Ua3 := F2.rN.cellAt' hux.out
              have Hb3 := F2R.r1.cellAt' hrx.out
              have Ub3 := F2R.rN.cellAt' hux.out
              have hcd3 := cellD (cellD (cellD (hc3)))
              have hfd3 := frzD (frzD (frzD (hf3)))
              go_region_held3 (fun w' => w'.cell? ⟨w2.heap.size, 1, none⟩ = some (.slice (some ⟨gR, 0, none⟩) n1 cR) ∧ w'.cell? ⟨gs, k, none⟩ = some (.int .i64 j) ∧ w'.cell? ⟨w.heap.size, 1, none⟩ = some (.slice (some ⟨g1, 0, none⟩) n1 c1) ∧ w'.cell? ⟨g1, k, none⟩ = some (.int .i64 u) ∧ w'.cell? ⟨gs, u, none⟩ = some (.int .i64 uv))
                (((try dsimp only); (repeat' apply And.intro) <;> (first | ((repeat (with_reducible (first | exact Za31 | exact Na3 | exact Zb31 | exact Nb3 | exact Pa31 | exact Pb31 | exact Ha3 | exact Ua3 | exact Hb3 | exact Ub3 | refine cellD ?_))); done))))
                (fail)
              rename_i hHeld3
              clear hHeld3
              clear Pa30 Pa31 Pa32 Pb30 Pb31 Pb32 Za30 Za31 Za32 Zb30 Zb31 Zb32 Na3 Nb3 hc3 hf3 Ha3 Hb3 Ua3 Ub3
              go_wp2_with fail
              go_roundw
              case rel => exact ⟨k + 1, by omega, by go_num, by rw [e0.out, e1.out]; have h9 := F2R.drew.drew.drew; simp only [setset] at h9; exact h9⟩
              case measure => simp [intOf]; omega
          · have hlx2 : (lx != -1) = true := by simpa using hl1
            have hlb := (HG.out k hlt).1
            rw [gd_nat hlx.out] at hlb
            obtain ⟨u, rfl⟩ : ∃ u : Nat, lx = u := ⟨lx.toNat, by omega⟩
            obtain ⟨_, uv, eu, _, _, hux, _, _⟩ := F2.rN.get (k := u) (by rw [l.out]; omega)
            cases eu
            rw [ren_ne hl1, gd_nat hux.out] at e0
            have hun : u < n1 := by omega
            clear hl1 hlb
            obtain ⟨P0, P1, P2, _⟩ := F2.X.cells
            obtain ⟨Z0, Z1, Z2, _⟩ := F2.Z.cells
            have hcl := F2.r0.cellAt' hlx.out
            have hcr := F2.r1.cellAt' hrx.out
            go_wp2_with fail
            clear P0 P1 P2 Z0 Z1 Z2 hcl hcr
            obtain ⟨_, qx4, hq4, _, _, _, hc4, hf4⟩ := F2.L.get (k := j) (by first | (rw [fwL_len, l0.out]; exact hj) | (rw [fwL_len, l1.out]; exact hj) | (rw [List.length_set, fwL_len, l0.out]; exact hj) | (rw [List.length_set, fwL_len, l1.out]; exact hj))
            cases hq4
            have F2L := F2.setL j uv
            obtain ⟨Pa40, Pa41, Pa42, _⟩ := F2.X.cells
            obtain ⟨Za40, Za41, Za42, _⟩ := F2.Z.cells
            have Na4 := F2.rN.cellAt' hjx.out
            obtain ⟨Pb40, Pb41, Pb42, _⟩ := F2L.X.cells
            obtain ⟨Zb40, Zb41, Zb42, _⟩ := F2L.Z.cells
            have Nb4 := F2L.rN.cellAt' hjx.out
            have Ha4 := F2.r0.cellAt' hlx.out
            have Ua4 := F2.rN.cellAt' hux.out
            have Hb4 := F2L.r0.cellAt' hlx.out
            have Ub4 := F2L.rN.cellAt' hux.out
            have hcd4 := cellD (cellD (cellD (hc4)))
            have hfd4 := frzD (frzD (frzD (hf4)))
            go_region_held3 (fun w' => w'.cell? ⟨w2.heap.size, 0, none⟩ = some (.slice (some ⟨gL, 0, none⟩) n1 cL) ∧ w'.cell? ⟨gs, k, none⟩ = some (.int .i64 j) ∧ w'.cell? ⟨w.heap.size, 0, none⟩ = some (.slice (some ⟨g0, 0, none⟩) n1 c0) ∧ w'.cell? ⟨g0, k, none⟩ = some (.int .i64 u) ∧ w'.cell? ⟨gs, u, none⟩ = some (.int .i64 uv))
              (((try dsimp only); (repeat' apply And.intro) <;> (first | ((repeat (with_reducible (first | exact Za40 | exact Na4 | exact Zb40 | exact Nb4 | exact Pa40 | exact Pb40 | exact Ha4 | exact Ua4 | exact Hb4 | exact Ub4 | refine cellD ?_))); done))))
              (fail)
            rename_i hHeld4
            clear hHeld4
            clear Pa40 Pa41 Pa42 Pb40 Pb41 Pb42 Za40 Za41 Za42 Zb40 Zb41 Zb42 Na4 Nb4 hc4 hf4 Ha4 Hb4 Ua4 Ub4
            clear hun hux hlx2
            by_cases hr1 : rx = -1
            · subst hr1
              rw [ren_no] at e1
              obtain ⟨P0, P1, P2, _⟩ := F2L.X.cells
              obtain ⟨Z0, Z1, Z2, _⟩ := F2L.Z.cells
              have hcl := F2L.r0.cellAt' hlx.out
              have hcr := F2L.r1.cellAt' hrx.out
              go_wp2_with fail
              go_roundw
              case rel => exact ⟨k + 1, by omega, by go_num, by rw [e0.out, e1.out]; have h9 := F2L.drew.drew.drew; simp only [setset] at h9; exact h9⟩
              case measure => simp [intOf]; omega
            · have hrx2 : (rx != -1) = true := by simpa using hr1
              have hrb := (HG.out k hlt).2
              rw [gd_nat hrx.out] at hrb
              obtain ⟨u, rfl⟩ : ∃ u : Nat, rx = u := ⟨rx.toNat, by omega⟩
              obtain ⟨_, uv, eu, _, _, hux, _, _⟩ := F2L.rN.get (k := u) (by rw [l.out]; omega)
              cases eu
              rw [ren_ne hr1, gd_nat hux.out] at e1
              have hun : u < n1 := by omega
              clear hr1 hrb
              obtain ⟨P0, P1, P2, _⟩ := F2L.X.cells
              obtain ⟨Z0, Z1, Z2, _⟩ := F2L.Z.cells
              have hcl := F2L.r0.cellAt' hlx.out
              have hcr := F2L.r1.cellAt' hrx.out
              go_wp2_with fail
              clear P0 P1 P2 Z0 Z1 Z2 hcl hcr
              obtain ⟨_, qx5, hq5, _, _, _, hc5, hf5⟩ := F2L.R.get (k := j) (by first | (rw [fwL_len, l0.out]; exact hj) | (rw [fwL_len, l1.out]; exact hj) | (rw [List.length_set, fwL_len, l0.out]; exact hj) | (rw [List.length_set, fwL_len, l1.out]; exact hj))
              cases hq5
              have F2LR := F2L.setR j uv
              obtain ⟨Pa50, Pa51, Pa52, _⟩ := F2L.X.cells
              obtain ⟨Za50, Za51, Za52, _⟩ := F2L.Z.cells
              have Na5 := F2L.rN.cellAt' hjx.out
              obtain ⟨Pb50, Pb51, Pb52, _⟩ := F2LR.X.cells
              obtain ⟨Zb50, Zb51, Zb52, _⟩ := F2LR.Z.cells
              have Nb5 := F2LR.rN.cellAt' hjx.out
              have Ha5 := F2L.r1.cellAt' hrx.out
              have Ua5 := F2L.rN.cellAt' hux.out
              have Hb5 := F2LR.r1.cellAt' hrx.out
              have Ub5 := F2LR.rN.cellAt' hux.out
              have hcd5 := cellD (cellD (cellD (cellD (hc5))))
              have hfd5 := frzD (frzD (frzD (frzD (hf5))))
              go_region_held3 (fun w' => w'.cell? ⟨w2.heap.size, 1, none⟩ = some (.slice (some ⟨gR, 0, none⟩) n1 cR) ∧ w'.cell? ⟨gs, k, none⟩ = some (.int .i64 j) ∧ w'.cell? ⟨w.heap.size, 1, none⟩ = some (.slice (some ⟨g1, 0, none⟩) n1 c1) ∧ w'.cell? ⟨g1, k, none⟩ = some (.int .i64 u) ∧ w'.cell? ⟨gs, u, none⟩ = some (.int .i64 uv))
                (((try dsimp only); (repeat' apply And.intro) <;> (first | ((repeat (with_reducible (first | exact Za51 | exact Na5 | exact Zb51 | exact Nb5 | exact Pa51 | exact Pb51 | exact Ha5 | exact Ua5 | exact Hb5 | exact Ub5 | refine cellD ?_))); done))))
                (fail)
              rename_i hHeld5
              clear hHeld5
              clear Pa50 Pa51 Pa52 Pb50 Pb51 Pb52 Za50 Za51 Za52 Zb50 Zb51 Zb52 Na5 Nb5 hc5 hf5 Ha5 Hb5 Ua5 Ub5
              go_wp2_with fail
              go_roundw
              case rel => exact ⟨k + 1, by omega, by go_num, by rw [e0.out, e1.out]; have h9 := F2LR.drew.drew.drew.drew; simp only [setset] at h9; exact h9⟩
              case measure => simp [intOf]; omega
        · obtain rfl : n1 = k := by omega
          clear hlt hk
          obtain ⟨P0, P1, P2, _⟩ := F.X.cells
          have ft : rtC tz h.t 0 = h.t := rtC_zero _ _
          rw [← ft] at F
          go_wp2_with fail
          go_loopw [8] (fun i wr => ∃ k : Nat, k ≤ n2 ∧ i = .int .i64 k ∧ FwAt w wr lo lo' w2.heap.size (.slice (some ⟨g0, 0, none⟩) n1 c0) (.slice (some ⟨g1, 0, none⟩) n1 c1) (.slice (some ⟨g2, 0, none⟩) n2 c2) (.slice (some ⟨gL, 0, none⟩) n1 cL) (.slice (some ⟨gR, 0, none⟩) n1 cR) (.slice (some ⟨gT, 0, none⟩) n2 cT) (.slice (some ⟨gs, 0, none⟩) n1 c) h tz (fwL h.l tz h.l n1) (fwL h.r tz h.r n1) (rtC tz h.t k)) (fun i _ => n2 - (intOf i).toNat)
          case atStart => exact ⟨0, Nat.zero_le _, rfl, F⟩
          case round =>
            clear F P0 P1 P2 ft
            obtain ⟨k, hk, rfl, F⟩ := hrel
            obtain ⟨P0, P1, P2, _⟩ := F.X.cells
            obtain ⟨Y0, Y1, Y2, y0, y1, y2⟩ := F.Y.cells
            obtain ⟨Z0, Z1, Z2, _⟩ := F.Z.cells
            by_cases hlt : k < n2
            · obtain ⟨_, x, ex, _, _, hxk, hcx, _⟩ := F.r2.get (k := k) (by rw [l2.out]; exact hlt)
              cases ex
              have hxb := HRB.out x (List.mem_of_getElem? hxk.out)
              by_cases hx1 : x = -1
              · subst hx1
                have es := Lib.hid (rtC_skip (N := tz) hxk.out)
                clear hxk hxb
                go_wp2_with fail
                go_roundw
                case rel => exact ⟨k + 1, by omega, by go_num, by rw [es.out]; exact F⟩
                case measure => simp [intOf]; omega
              · have hx2 : (x != -1) = true := by simpa using hx1
                obtain ⟨u, rfl⟩ : ∃ u : Nat, x = u := ⟨x.toNat, by omega⟩
                have hun : u < n1 := by omega
                obtain ⟨_, uv, eu, _, _, hux, hcu, _⟩ := F.rN.get (k := u) (by rw [l.out]; omega)
                cases eu
                have es := Lib.hid (rtC_set (N := tz) hxk.out)
                rw [ren_ne hx1, gd_nat hux.out] at es
                obtain ⟨_, qx, hq, _, _, _, hc, hf⟩ := F.T.get (k := k) (by rw [rtC_len, l2.out]; exact hlt)
                cases hq
                have F1 := F.setT k uv
                rw [es.out] at F1
                obtain ⟨Pb0, Pb1, Pb2, _⟩ := F1.X.cells
                obtain ⟨Zb0, Zb1, Zb2, _⟩ := F1.Z.cells
                have hcxb := F1.r2.cellAt' hxk.out
                have hcub := F1.rN.cellAt' hux.out
                have hcd := cellD hc
                have hfd := frzD hf
                clear hx1 hxk hxb hux
                go_wp2_with fail
                go_region_held3 (fun w' => w'.cell? ⟨w2.heap.size, 2, none⟩ = some (.slice (some ⟨gT, 0, none⟩) n2 cT) ∧ w'.cell? ⟨w.heap.size, 2, none⟩ = some (.slice (some ⟨g2, 0, none⟩) n2 c2) ∧ w'.cell? ⟨g2, k, none⟩ = some (.int .i64 u) ∧ w'.cell? ⟨gs, u, none⟩ = some (.int .i64 uv))
                  (((try dsimp only); (repeat' apply And.intro) <;> (first | ((repeat (with_reducible (first | exact Z2 | exact P2 | exact hcx | exact hcu | exact Zb2 | exact Pb2 | exact hcxb | exact hcub | refine cellD ?_))); done))))
                  (fail)
                rename_i hHeld
                clear hHeld
                go_wp2_with fail
                go_roundw
                case rel => exact ⟨k + 1, by omega, by go_num, F1.drew⟩
                case measure => simp [intOf]; omega
            · obtain rfl : n2 = k := by omega
              have hT := F.T
              have et : rtC tz h.t n2 = h.t.map (ren (gd tz)) := by rw [← l2.out]; exact rtC_end tz h.t
              rw [et] at hT
              have zb := F.bel.size
              have lY := F.Y.lt
              obtain ⟨hH, hB⟩ := made_done (w := w) (w3 := wr) (b := w.heap.size + 1) (h := ⟨fwL h.l tz h.l n1, fwL h.r tz h.r n1, h.t.map (ren (gd tz))⟩) (by omega) F.L F.R hT F.a01 F.a02 F.a12 F.bel
              clear F hT et HG HRB HPM
              go_wp2_with fail
              refine bodyPost_ret (v := .tuple #[.agg #[.slice (some ⟨gL, 0, none⟩) n1 cL, .slice (some ⟨gR, 0, none⟩) n1 cR, .slice (some ⟨gT, 0, none⟩) n2 cT], .bool true]) ?_ rfl ⟨_, rfl, hH, hB⟩
              simp [results, Try.results29, go_sem, Y0, Y1, Y2]
    · have hne : ((n : Int) != (n0 : Int)) = true := by simp; omega
      have e1 : moveO h tz = none := moveO_none (by rw [l0.out, l.out]; simp [hn])
      rw [e1]
      clear ec e1 hn ev ed hl
      go_enter Try.func29, Try.ntmps29
      go_wp2_with fail
      refine (CC _ H0 T0).mono ?_; rintro e w1 ⟨rfl, hb1⟩
      have X1 := Blk3.below (by exact X0) hb1
      have Y1 := Blk3.below (by exact Y0) hb1
      obtain ⟨p0, p1, p2, _⟩ := X1.cells
      obtain ⟨q0, q1, q2, f0, f1, f2⟩ := Y1.cells
      have B1 : Below w.heap.size w w1 := fin.trans (hb1.mono (by simp; omega))
      go_wp2_with fail
      refine bodyPost_ret (v := .tuple #[.agg #[.slice none 0 0, .slice none 0 0, .slice none 0 0], .bool false]) ?_ rfl ⟨_, rfl, Hv.zero _ _, ((B1.setCell (by simp) _).setCell (by simp) _).setCell (by simp) _⟩
      simp [results, Try.results29, go_sem, q0, q1, q2]
end Go.Proofs.Ytapkhgpifpgleaa
