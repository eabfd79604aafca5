/- l9Down of spec. -/
import Derived.Test.YteogflkahoanlaaGivU
import Derived.Test.YteogflkahoanlaaCnt2
namespace Go.Proofs.Yteogflkahoanlaa
open Go.RowKit

theorem RowC.at_ {w : World} {lo : Nat} {A : Option Addr} {n c : Nat} {xs : List Int} (h : RowC w lo (.slice A n c) xs) {k : Nat} {x : Int} (hx : xs[k]? = some x) : ∃ g o, A = some ⟨g, o, none⟩ ∧ lo ≤ g ∧ g < w.heap.size ∧ w.cell? ⟨g, o + k, none⟩ = some (.int .i64 x) := by
  obtain ⟨A', c', e, h0, h1, h2, h3⟩ := h
  cases e
  have hk := (List.getElem?_eq_some_iff.1 hx).1
  obtain ⟨g, o, rfl, _, h5⟩ := h3 (by omega)
  exact ⟨g, o, rfl, (h2 _ rfl).1, (h2 _ rfl).2, h5 k x hx⟩
theorem one_newC {w : World} {g : Nat} {x : Int} {t : TypeId} (hg : g = w.heap.size) : ∀ j u, ([x].map iv)[j]? = some u → (w.alloc (.cells #[.int .i64 x] t)).cell? ((⟨g, 0, none⟩ : Addr).add j) = some u := by
  subst hg; exact fun j u h => one_new j u h
def OwnV (x0 x1 x2 x3 x4 u : Value) (k : Nat) : Prop := x0.ownBlock = some k ∨ x1.ownBlock = some k ∨ x2.ownBlock = some k ∨ x3.ownBlock = some k ∨ x4.ownBlock = some k ∨ u.ownBlock = some k
/-- Where the counting down stands. -/
def DwnR (w : World) (lo lw : Nat) (x0 x1 x2 x3 x4 u : Value) (D : Dp) (gk : Nat) (wk iv_ : Value) (wr : World) : Prop :=
  ∃ (H : Hp) (c n ws : List Int) (i : Nat) (A : Option Addr) (nw cw : Nat) (A' : Option Addr) (n' c' : Nat), wk = .slice A nw cw ∧ iv_ = .int .i64 (i : Int) ∧ RowC wr lw (.slice A nw cw) ws ∧ MAt false wr lo w.heap.size 29 x0 x1 x2 (.slice A' n' c') x4 ⟨⟨H, c⟩, n⟩ ∧ (∀ k, (Value.slice A nw cw).ownBlock = some k → ¬ OwnM w.heap.size x0 x1 x2 (.slice A' n' c') x4 k) ∧
    i ≤ ws.length ∧ Hid (InvD ⟨H, c, n, ws.drop i⟩) ∧ Hid (fin_ ⟨H, c, n, ws.drop i⟩ = D) ∧ Hid (gk = muD ⟨H, c, n, ws.drop i⟩) ∧ i + gk ≤ 40 ∧ ((Value.slice A' n' c').ownBlock = x3.ownBlock ∨ ∃ j, w.heap.size ≤ j ∧ (Value.slice A' n' c').ownBlock = some j) ∧
    ((Value.slice A nw cw).ownBlock = u.ownBlock ∨ ∃ j, w.heap.size ≤ j ∧ (Value.slice A nw cw).ownBlock = some j) ∧ Blk5 wr (w.heap.size + 1) (.slice none 0 0) (.slice none 0 0) (.slice none 0 0) (.slice none 0 0) (.slice none 0 0) 29 ∧ (∀ k, OwnM w.heap.size x0 x1 x2 (.slice A' n' c') x4 k → k ≠ w.heap.size + 1) ∧ (∀ k, (Value.slice A nw cw).ownBlock = some k → k ≠ w.heap.size + 1) ∧ Fr (OwnV x0 x1 x2 x3 x4 u) w wr ∧ w.heap.size + 2 ≤ wr.heap.size
set_option maxRecDepth 100000 in
set_option maxHeartbeats 8000000 in
theorem l9Down_any (w : World) (lo lw gw cw : Nat) (A0 A1 A2 A3 A4 : Option Addr) (n0 c0 n1 c1 n2 c2 n3 c3 n4 c4 : Nat) (D : Dp) (hv : Dv w lo (.agg #[.slice A0 n0 c0, .slice A1 n1 c1, .slice A2 n2 c2, .slice A3 n3 c3, .slice A4 n4 c4]) D) (x : Int) (hw : Row w lw (.slice (some ⟨gw, 0, none⟩) 1 cw) [x])
    (hap : (Value.slice A0 n0 c0).ownBlock ≠ some gw ∧ (Value.slice A1 n1 c1).ownBlock ≠ some gw ∧ (Value.slice A2 n2 c2).ownBlock ≠ some gw ∧ (Value.slice A3 n3 c3).ownBlock ≠ some gw ∧ (Value.slice A4 n4 c4).ownBlock ≠ some gw) (hI : Hid (InvD ⟨D.C.h, D.C.c, D.n, [x]⟩)) :
    Calls Try.prog 50 #[.agg #[.slice A0 n0 c0, .slice A1 n1 c1, .slice A2 n2 c2, .slice A3 n3 c3, .slice A4 n4 c4], .slice (some ⟨gw, 0, none⟩) 1 cw] w fun e w' => ∃ A' n' c', e = .returned (.agg #[.slice A0 n0 c0, .slice A1 n1 c1, .slice A2 n2 c2, .slice A' n' c', .slice A4 n4 c4]) ∧ Dv w' lo (.agg #[.slice A0 n0 c0, .slice A1 n1 c1, .slice A2 n2 c2, .slice A' n' c', .slice A4 n4 c4]) (fin_ ⟨D.C.h, D.C.c, D.n, [x]⟩) ∧ Fr (OwnV (.slice A0 n0 c0) (.slice A1 n1 c1) (.slice A2 n2 c2) (.slice A3 n3 c3) (.slice A4 n4 c4) (.slice (some ⟨gw, 0, none⟩) 1 cw)) w w' := by
  have hdv := hv
  have hm : muD ⟨D.C.h, D.C.c, D.n, [x]⟩ ≤ 40 := by
    have := hvB_len hI.out.v
    dsimp only at this
    unfold muD; dsimp only; simp; omega
  have W0 : World := (w.alloc (.cells #[.slice A0 n0 c0, .slice A1 n1 c1, .slice A2 n2 c2, .slice A3 n3 c3, .slice A4 n4 c4] 29)).alloc (.cells #[.slice none 0 0, .slice none 0 0, .slice none 0 0, .slice none 0 0, .slice none 0 0] 29)
  clear W0
  obtain ⟨_, _, _, _, _, ev, ⟨_, _, _, _, ev1, ⟨_, _, _, ev2, r0, r1, r2, -⟩, r3, -⟩, r4, -⟩ := hdv
  cases ev; cases ev1; cases ev2
  have lt : ∀ {v : Value} {xs : List Int}, Row w lo v xs → ∀ k, v.ownBlock = some k → k < w.heap.size := fun r k e => (r.lt k e).2
  have M0 : MAt false (w.alloc (.cells #[.slice A0 n0 c0, .slice A1 n1 c1, .slice A2 n2 c2, .slice A3 n3 c3, .slice A4 n4 c4] 29)) lo w.heap.size 29 (.slice A0 n0 c0) (.slice A1 n1 c1) (.slice A2 n2 c2) (.slice A3 n3 c3) (.slice A4 n4 c4) D := MAt.ofDv (hv.alloc (.cells #[.slice A0 n0 c0, .slice A1 n1 c1, .slice A2 n2 c2, .slice A3 n3 c3, .slice A4 n4 c4] 29)) (Blk5.new w (.slice A0 n0 c0) (.slice A1 n1 c1) (.slice A2 n2 c2) (.slice A3 n3 c3) (.slice A4 n4 c4) 29)
    (fun e => by have := lt r0 _ e; omega) (fun e => by have := lt r1 _ e; omega) (fun e => by have := lt r2 _ e; omega) (fun e => by have := lt r3 _ e; omega) (fun e => by have := lt r4 _ e; omega)
  have M1 := M0.alloc (.cells #[.slice none 0 0, .slice none 0 0, .slice none 0 0, .slice none 0 0, .slice none 0 0] 29)
  have Y1 : Blk5 ((w.alloc (.cells #[.slice A0 n0 c0, .slice A1 n1 c1, .slice A2 n2 c2, .slice A3 n3 c3, .slice A4 n4 c4] 29)).alloc (.cells #[.slice none 0 0, .slice none 0 0, .slice none 0 0, .slice none 0 0, .slice none 0 0] 29)) (w.heap.size + 1) (.slice none 0 0) (.slice none 0 0) (.slice none 0 0) (.slice none 0 0) (.slice none 0 0) 29 := Blk5.new_at (w := w.alloc (.cells #[.slice A0 n0 c0, .slice A1 n1 c1, .slice A2 n2 c2, .slice A3 n3 c3, .slice A4 n4 c4] 29)) (b := w.heap.size + 1) (by simp) (.slice none 0 0) (.slice none 0 0) (.slice none 0 0) (.slice none 0 0) (.slice none 0 0) 29
  have R1 := ((RowC.ofRow hw).alloc (.cells #[.slice A0 n0 c0, .slice A1 n1 c1, .slice A2 n2 c2, .slice A3 n3 c3, .slice A4 n4 c4] 29)).alloc (.cells #[.slice none 0 0, .slice none 0 0, .slice none 0 0, .slice none 0 0, .slice none 0 0] 29)
  have F1 : Fr (OwnV (.slice A0 n0 c0) (.slice A1 n1 c1) (.slice A2 n2 c2) (.slice A3 n3 c3) (.slice A4 n4 c4) (.slice (some ⟨gw, 0, none⟩) 1 cw)) w ((w.alloc (.cells #[.slice A0 n0 c0, .slice A1 n1 c1, .slice A2 n2 c2, .slice A3 n3 c3, .slice A4 n4 c4] 29)).alloc (.cells #[.slice none 0 0, .slice none 0 0, .slice none 0 0, .slice none 0 0, .slice none 0 0] 29)) := ((Fr.refl _ w).alloc _).alloc _
  have hlw := hw.lt gw rfl
  have z1 : w.heap.size + 2 ≤ ((w.alloc (.cells #[.slice A0 n0 c0, .slice A1 n1 c1, .slice A2 n2 c2, .slice A3 n3 c3, .slice A4 n4 c4] 29)).alloc (.cells #[.slice none 0 0, .slice none 0 0, .slice none 0 0, .slice none 0 0, .slice none 0 0] 29)).heap.size := by simp
  have own0 : ∀ k, OwnM w.heap.size (.slice A0 n0 c0) (.slice A1 n1 c1) (.slice A2 n2 c2) (.slice A3 n3 c3) (.slice A4 n4 c4) k → k = w.heap.size ∨ k < w.heap.size := fun k e => by
    rcases e with e | e | e | e | e | e
    · exact .inl e
    · exact .inr (lt r0 k e)
    · exact .inr (lt r1 k e)
    · exact .inr (lt r2 k e)
    · exact .inr (lt r3 k e)
    · exact .inr (lt r4 k e)
  have hA0 : ∀ k, (Value.slice (some ⟨gw, 0, none⟩) 1 cw).ownBlock = some k → ¬ OwnM w.heap.size (.slice A0 n0 c0) (.slice A1 n1 c1) (.slice A2 n2 c2) (.slice A3 n3 c3) (.slice A4 n4 c4) k := fun k e h => by
    have e' : gw = k := by simpa [Value.ownBlock] using e
    subst e'
    rcases h with h | h | h | h | h | h
    · omega
    · exact hap.1 h
    · exact hap.2.1 h
    · exact hap.2.2.1 h
    · exact hap.2.2.2.1 h
    · exact hap.2.2.2.2 h
  have hA1 : ∀ k, OwnM w.heap.size (.slice A0 n0 c0) (.slice A1 n1 c1) (.slice A2 n2 c2) (.slice A3 n3 c3) (.slice A4 n4 c4) k → k ≠ w.heap.size + 1 := fun k e => by have := own0 k e; omega
  have hA2 : ∀ k, (Value.slice (some ⟨gw, 0, none⟩) 1 cw).ownBlock = some k → k ≠ w.heap.size + 1 := fun k e => by
    have e' : gw = k := by simpa [Value.ownBlock] using e
    omega
  clear hv M0 r0 r1 r2 r3 r4 lt own0 hap hw
  go_enter Try.func50, Try.ntmps50
  go_wp2_with fail
  go_loopg [1, 5, 6] (muD ⟨D.C.h, D.C.c, D.n, [x]⟩) (fun gk wk iv_ _ wr => DwnR w lo lw (.slice A0 n0 c0) (.slice A1 n1 c1) (.slice A2 n2 c2) (.slice A3 n3 c3) (.slice A4 n4 c4) (.slice (some ⟨gw, 0, none⟩) 1 cw) (fin_ ⟨D.C.h, D.C.c, D.n, [x]⟩) gk wk iv_ wr)
  case atStart => exact ⟨D.C.h, D.C.c, D.n, [x], 0, _, 1, cw, A3, n3, c3, rfl, rfl, R1, M1, hA0, Nat.zero_le _, hI, rfl, rfl, by omega, .inl rfl, .inl rfl, Y1, hA1, hA2, F1, z1⟩
  case round =>
    obtain ⟨H, c, n, ws, i, A, nw, cw', A', n', c', rfl, rfl, R, M, hno, hi, I, hfin, hgk, hg40, ho, how, Y, hy1, hy2, F, zr⟩ := hrel
    clear R1 M1 hA0 Y1 hA1 hA2 F1 z1
    have sF := F.size
    obtain ⟨b0, b1, b2, b3, b4, f0, f1, f2, f3, f4⟩ := M.blk.cells
    have hnw := R.form
    have hwl : ws.length ≤ 80 := by
      have := hgk.out; unfold muD at this; dsimp only at this; rw [List.length_drop] at this; omega
    by_cases hlt : i < nw
    · obtain ⟨y, hy⟩ : ∃ y, ws[i]? = some y := ⟨_, List.getElem?_eq_getElem (by omega)⟩
      obtain ⟨g, o, rfl, hg1, hg2, hcy⟩ := R.at_ hy
      have q1 : (i : Int) < (nw : Int) := by omega
      have hdrop : ws.drop i = y :: ws.drop (i + 1) := by
        rw [List.drop_eq_getElem_cons (by omega)]
        rw [List.getElem?_eq_getElem (by omega)] at hy
        rw [Option.some.inj hy]
      have I1 : InvD ⟨H, c, n, y :: ws.drop (i + 1)⟩ := by rw [← hdrop]; exact I.out
      have hstep := dn_inv I1
      have hfs := fin_cons I1
      have hfin1 : fin_ ⟨H, c, n, y :: ws.drop (i + 1)⟩ = fin_ ⟨D.C.h, D.C.c, D.n, [x]⟩ := by rw [← hdrop]; exact hfin.out
      have hgk1 : gk = muD ⟨H, c, n, y :: ws.drop (i + 1)⟩ := by rw [← hdrop]; exact hgk.out
      clear I hfin hgk
      by_cases hy9 : y = -1
      · subst hy9
        have e1 : dn H c n (-1) (ws.drop (i + 1)) = ⟨H, c, n, ws.drop (i + 1)⟩ := by unfold dn; rw [if_pos rfl]
        rw [e1] at hstep hfs
        have J := Lib.hid hstep.1
        have hm2 := Lib.hid (hgk1 ▸ hstep.2)
        have hf2 : Hid (fin_ ⟨H, c, n, ws.drop (i + 1)⟩ = fin_ ⟨D.C.h, D.C.c, D.n, [x]⟩) := hfs.symm.trans hfin1
        clear hstep hfs hfin1 I1 e1 hgk1 hdrop hy
        go_wp2_with fail
        go_roundg (muD ⟨H, c, n, ws.drop (i + 1)⟩)
        case measure => exact hm2.out
        case rel => exact ⟨H, c, n, ws, i + 1, _, _, _, A', n', c', rfl, by go_num, R, M, hno, by omega, J, hf2, rfl, by have := hm2.out; omega, ho, how, Y, hy1, hy2, F, zr⟩
      · obtain ⟨k, rfl⟩ := Int.eq_ofNat_of_zero_le (by have := (I1.rng y (List.mem_cons_self ..)).1; omega : 0 ≤ y)
        obtain ⟨hk0, hk1, hk2, z, hz, hz1⟩ := inv_head I1
        have hzb := inv_bd I1 hz
        have hz2 : z ≤ 100000 := by have := hzb.2.1; rw [List.length_cons, List.length_drop] at this; omega
        have hy2' : ((k : Int) == -1) = false := by simp
        obtain ⟨g4, z', hA4, _, _, hz', hcz, hfz⟩ := M.r4.get (k := k) hk2
        obtain rfl : z' = z := by have := hz'.out; dsimp only at this; rw [hz] at this; cases this; rfl
        have hkn : (k : Int) < (n4 : Int) := by have : n.length = n4 := (RowC.ofRow M.r4).form.1; omega
        have M2 := M.setN hA4 k (z' - 1)
        have o4 : OwnM w.heap.size (.slice A0 n0 c0) (.slice A1 n1 c1) (.slice A2 n2 c2) (.slice A' n' c') (.slice A4 n4 c4) g4 := .inr (.inr (.inr (.inr (.inr (by rw [hA4]; rfl)))))
        have v4 : OwnV (.slice A0 n0 c0) (.slice A1 n1 c1) (.slice A2 n2 c2) (.slice A3 n3 c3) (.slice A4 n4 c4) (.slice (some ⟨gw, 0, none⟩) 1 cw) g4 := .inr (.inr (.inr (.inr (.inl (by rw [hA4]; rfl)))))
        have R2 := R.other (p := ⟨g4, k, none⟩) (fun e => hno g4 e o4) (.int .i64 (z' - 1))
        have Y2 := Y.other (p := ⟨g4, k, none⟩) (fun e => hy1 g4 o4 e.symm) (.int .i64 (z' - 1))
        have F2 := F.setCell (p := ⟨g4, k, none⟩) (.inl v4) (.int .i64 (z' - 1))
        have zr2 : w.heap.size + 2 ≤ (wr.setCell ⟨g4, k, none⟩ (.int .i64 (z' - 1))).heap.size := by simp [World.setCell]; omega
        have hw9 : IntKind.i64.wrap (z' - 1) = z' - 1 := IntWalk.i64_in _ (by omega)
        have e4 : g4 ≠ w.heap.size := fun e => M.o4 (by rw [hA4, e]; rfl)
        have e4' : w.heap.size ≠ g4 := fun e => e4 e.symm
        subst hA4
        by_cases hz9 : z' = 1
        · subst hz9
          rw [show (1 : Int) - 1 = 0 from rfl] at M2 R2 Y2 F2 zr2 hw9
          obtain ⟨yl, hyl⟩ : ∃ yl, H.l[k]? = some yl := ⟨_, List.getElem?_eq_getElem hk0⟩
          obtain ⟨yr, hyr⟩ : ∃ yr, H.r[k]? = some yr := ⟨_, List.getElem?_eq_getElem hk1⟩
          have e1 := dn_rel (c := c) (rest := ws.drop (i + 1)) hz hyl hyr
          rw [e1] at hstep hfs
          have hdr : ws.drop (i + 1) ++ [yl, yr] = (ws ++ [yl, yr]).drop (i + 1) := by rw [List.drop_append_of_le_length (by omega)]
          rw [hdr] at hstep hfs
          have J := Lib.hid hstep.1
          have hm2 := Lib.hid (hgk1 ▸ hstep.2)
          have hf2 : Hid (fin_ ⟨⟨H.l.set k (-1), H.r.set k (-1), H.t⟩, c ++ [(k : Int)], n.set k 0, (ws ++ [yl, yr]).drop (i + 1)⟩ = fin_ ⟨D.C.h, D.C.c, D.n, [x]⟩) := hfs.symm.trans hfin1
          have n3b : n' ≤ 1000000 := by
            have h8 := I1.cl
            have h7 := (RowC.ofRow M.r3).form.1
            dsimp only at h8 h7; omega
          have hil : i + 1 ≤ (ws ++ [yl, yr]).length := by rw [List.length_append]; omega
          obtain ⟨g0, v0, hA0, _, _, hv0, hc0, hf0⟩ := M2.r0.get (k := k) hk0
          obtain ⟨g1, v1, hA1, _, _, hv1, hc1, hf1⟩ := M2.r1.get (k := k) hk1
          obtain rfl : yl = v0 := by have h9 := hv0.out; dsimp only at h9; rw [hyl] at h9; cases h9; rfl
          obtain rfl : yr = v1 := by have h9 := hv1.out; dsimp only at h9; rw [hyr] at h9; cases h9; rfl
          have hl0 : (k : Int) < (n0 : Int) := by have : H.l.length = n0 := (RowC.ofRow M2.r0).form.1; omega
          have hl1 : (k : Int) < (n1 : Int) := by have : H.r.length = n1 := (RowC.ofRow M2.r1).form.1; omega
          have hzz : ((1 : Int) - 1 > 0) = False := by simp
          obtain ⟨d0, d1, d2, d3, d4, -⟩ := M2.blk.cells
          subst hA0 hA1
          clear hstep hfs hfin1 I1 e1 hgk1 hdrop hy hz hyl hyr hzb hv0 hv1 hdr hz'
          have hc4 : (wr.setCell ⟨g4, k, none⟩ (.int .i64 0)).cell? ⟨g4, k, none⟩ = some (.int .i64 0) := World.cell?_setCell_same _ _ _ hcz
          clear M F Y R
          go_wp2_with fail
          go_region
          generalize wr.setCell ⟨g4, k, none⟩ (.int .i64 0) = W2 at M2 R2 Y2 F2 zr2 d0 d1 d2 d3 d4 hc0 hf0 hc1 hf1 hc4 ⊢
          clear b0 b1 b2 b3 b4 f0 f1 f2 f3 f4 hcy hcz hfz
          have SO : ∀ w' : World, Below W2.heap.size W2 w' → w'.cell? ⟨w.heap.size, 0, none⟩ = some (.slice (some ⟨g0, 0, none⟩) n0 c0) ∧ w'.cell? ⟨w.heap.size, 1, none⟩ = some (.slice (some ⟨g1, 0, none⟩) n1 c1) ∧ w'.cell? ⟨g0, k, none⟩ = some (.int .i64 yl) ∧ w'.cell? ⟨g1, k, none⟩ = some (.int .i64 yr) := fun w' hb => ⟨(M2.blk.below hb).cells.1, (M2.blk.below hb).cells.2.1, (hb.cell (p := ⟨g0, k, none⟩) (M2.own g0 (.inr (.inl rfl))).1).trans hc0, (hb.cell (p := ⟨g1, k, none⟩) (M2.own g1 (.inr (.inr (.inl rfl)))).1).trans hc1⟩
          have OG : ∀ (A5 : Option Addr) (c5 : Nat) (V w2 : World), V = W2 → (V.alloc (.cells #[.int .i64 yl, .int .i64 yr] 3)).drew.drew.grownBy w2 (Value.slice (some ⟨g, o, none⟩) nw cw').ownBlock →
              MAt false w2 lo w.heap.size 29 (.slice (some ⟨g0, 0, none⟩) n0 c0) (.slice (some ⟨g1, 0, none⟩) n1 c1) (.slice A2 n2 c2) (.slice A' n' c') (.slice (some ⟨g4, 0, none⟩) n4 c4) ⟨⟨H, c⟩, n.set k 0⟩ ∧ (w2.cell? ⟨w.heap.size, 0, none⟩ = some (.slice (some ⟨g0, 0, none⟩) n0 c0) ∧ w2.cell? ⟨w.heap.size, 1, none⟩ = some (.slice (some ⟨g1, 0, none⟩) n1 c1) ∧ w2.cell? ⟨g0, k, none⟩ = some (.int .i64 yl) ∧ w2.cell? ⟨g1, k, none⟩ = some (.int .i64 yr)) ∧ Blk5 w2 (w.heap.size + 1) (.slice none 0 0) (.slice none 0 0) (.slice none 0 0) (.slice none 0 0) (.slice none 0 0) 29 ∧ Fr (OwnV (.slice (some ⟨g0, 0, none⟩) n0 c0) (.slice (some ⟨g1, 0, none⟩) n1 c1) (.slice A2 n2 c2) (.slice A3 n3 c3) (.slice (some ⟨g4, 0, none⟩) n4 c4) (.slice (some ⟨gw, 0, none⟩) 1 cw)) w w2 := fun A5 c5 V w2 hV G5 => by
            subst hV
            have M3 := (M2.alloc (.cells #[.int .i64 yl, .int .i64 yr] 3)).drew.drew
            have Y3 := ((Y2.alloc (.cells #[.int .i64 yl, .int .i64 yr] 3)).drew).drew
            have F3 := (F2.alloc (.cells #[.int .i64 yl, .int .i64 yr] 3)).drew.drew
            have R3 := (R2.alloc (.cells #[.int .i64 yl, .int .i64 yr] 3)).drew.drew
            have FG := Fr.grown (S := fun j => (Value.slice (some ⟨g, o, none⟩) nw cw').ownBlock = some j) (Fr.refl _ (V.alloc (.cells #[.int .i64 yl, .int .i64 yr] 3)).drew.drew) G5 (fun k e => .inl e)
            have M4 := M3.fr FG (fun j e e' => hno j e' e)
            have SS := SO (V.alloc (.cells #[.int .i64 yl, .int .i64 yr] 3)).drew.drew (B5_dr (B5_dr (B5_al (Below.refl _ _) _)))
            refine ⟨M4, ⟨M4.blk.cells.1, M4.blk.cells.2.1, (FG.cell (p := ⟨g0, k, none⟩) (M3.own g0 (.inr (.inl rfl))).1 (fun e => hno g0 e (.inr (.inl rfl)))).trans SS.2.2.1, (FG.cell (p := ⟨g1, k, none⟩) (M3.own g1 (.inr (.inr (.inl rfl)))).1 (fun e => hno g1 e (.inr (.inr (.inl rfl))))).trans SS.2.2.2⟩, Y3.fr FG (fun e => hy2 _ e rfl), F3.grown G5 (fun j e => ?_)⟩
            rcases how with h9 | ⟨j2, hj2, h9⟩
            · exact .inl (.inr (.inr (.inr (.inr (.inr (by rw [← h9, e]))))))
            · rw [h9] at e; cases e; exact .inr hj2
          have R3 := (R2.alloc (.cells #[.int .i64 yl, .int .i64 yr] 3)).drew.drew
          have sL : lw ≤ (W2.alloc (.cells #[.int .i64 yl, .int .i64 yr] 3)).drew.drew.heap.size := by show _ ≤ (W2.alloc _).heap.size; simp; have := F2.size; omega
          have nw3 : nw + 2 ≤ 1048576 := by omega
          have gsz : ∀ j, OwnM w.heap.size (.slice (some ⟨g0, 0, none⟩) n0 c0) (.slice (some ⟨g1, 0, none⟩) n1 c1) (.slice A2 n2 c2) (.slice A' n' c') (.slice (some ⟨g4, 0, none⟩) n4 c4) j → j < (W2.alloc (.cells #[.int .i64 yl, .int .i64 yr] 3)).drew.drew.heap.size := fun j e => by
            have := (M2.own j e).1
            show j < (W2.alloc _).heap.size; simp; omega
          have zr3 : w.heap.size + 2 ≤ (W2.alloc (.cells #[.int .i64 yl, .int .i64 yr] 3)).drew.drew.heap.size := by show _ ≤ (W2.alloc _).heap.size; simp; omega
          clear M2 R2 Y2 F2
          go_wp2_with fail
          go_region_held3 (fun w' => w'.cell? ⟨w.heap.size, 0, none⟩ = some (.slice (some ⟨g0, 0, none⟩) n0 c0) ∧ w'.cell? ⟨w.heap.size, 1, none⟩ = some (.slice (some ⟨g1, 0, none⟩) n1 c1) ∧ w'.cell? ⟨g0, k, none⟩ = some (.int .i64 yl) ∧ w'.cell? ⟨g1, k, none⟩ = some (.int .i64 yr))
            (((try dsimp only); first | exact SA | (refine SO _ ?_; (repeat (with_reducible (first | exact Below.refl _ _ | refine B5_dr ?_ | refine B5_al ?_ _))); done)))
            (first
              | (refine step_append_rowC rfl _ _ rfl lw (some ⟨g, o, none⟩) nw cw' ws (by rfl) R3 W2.heap.size 2 2 [yl, yr] (by rfl) (fun j u hj => twoC_new j u hj) rfl (by decide) nw3 sL ?_; intro A5 c5 w2 R5 G5 own5; have SM := OG A5 c5 W2 w2 rfl G5; have SA := SM.2.1))
          all_goals
            rename_i hHeld
            clear hHeld
            obtain ⟨M5, SC, Y5, F5⟩ := SM
            generalize hsz : (W2.alloc (.cells #[.int .i64 yl, .int .i64 yr] 3)).drew.drew.heap.size = s3 at own5 gsz zr3 sL
            have hn5 : ∀ j, (Value.slice A5 (nw + 2) c5).ownBlock = some j → ¬ OwnM w.heap.size (.slice (some ⟨g0, 0, none⟩) n0 c0) (.slice (some ⟨g1, 0, none⟩) n1 c1) (.slice A2 n2 c2) (.slice A' n' c') (.slice (some ⟨g4, 0, none⟩) n4 c4) j := fun j e e' => by
              rcases own5 with h9 | h9
              · exact hno j (by rw [← h9, e]) e'
              · rw [h9] at e; cases e; have := gsz _ e'; omega
            have hy5 : ∀ j, (Value.slice A5 (nw + 2) c5).ownBlock = some j → j ≠ w.heap.size + 1 := fun j e => by
              rcases own5 with h9 | h9
              · exact hy2 j (by rw [← h9, e])
              · rw [h9] at e; cases e; omega
            have how5 : (Value.slice A5 (nw + 2) c5).ownBlock = (Value.slice (some ⟨gw, 0, none⟩) 1 cw).ownBlock ∨ ∃ j, w.heap.size ≤ j ∧ (Value.slice A5 (nw + 2) c5).ownBlock = some j := by
              rcases own5 with h9 | h9
              · rw [h9]; exact how
              · exact .inr ⟨s3, by omega, h9⟩
            clear SO OG R3 hno hy2 how SA SC own5 gsz sL G5 hsz
            obtain ⟨g0', v0', e0', _, _, _, hc0, hf0⟩ := M5.r0.get (k := k) hk0
            cases e0'
            obtain ⟨g1', v1', e1', _, _, _, hc1, hf1⟩ := M5.r1.get (k := k) hk1
            cases e1'
            obtain ⟨d0, d1, d2, d3, d4, p0, p1, p2, p3, p4⟩ := M5.blk.cells
            have e0 : g0 ≠ w.heap.size := fun e => M5.o0 (by rw [e]; rfl)
            have e0' : w.heap.size ≠ g0 := fun e => e0 e.symm
            have e1 : g1 ≠ w.heap.size := fun e => M5.o1 (by rw [e]; rfl)
            have e1' : w.heap.size ≠ g1 := fun e => e1 e.symm
            have e2 : g0 ≠ g1 := fun e => M5.a01 g0 rfl (by rw [e]; rfl)
            have e2' : g1 ≠ g0 := fun e => e2 e.symm
            have o0 : OwnM w.heap.size (.slice (some ⟨g0, 0, none⟩) n0 c0) (.slice (some ⟨g1, 0, none⟩) n1 c1) (.slice A2 n2 c2) (.slice A' n' c') (.slice (some ⟨g4, 0, none⟩) n4 c4) g0 := .inr (.inl rfl)
            have o1 : OwnM w.heap.size (.slice (some ⟨g0, 0, none⟩) n0 c0) (.slice (some ⟨g1, 0, none⟩) n1 c1) (.slice A2 n2 c2) (.slice A' n' c') (.slice (some ⟨g4, 0, none⟩) n4 c4) g1 := .inr (.inr (.inl rfl))
            have M6 := ((M5.setL rfl k (-1)).setR rfl k (-1)).alloc (.cells #[.int .i64 (k : Int)] 3)
            have R6 := ((R5.other (p := ⟨g0, k, none⟩) (fun e => hn5 g0 e o0) (.int .i64 (-1))).other (p := ⟨g1, k, none⟩) (fun e => hn5 g1 e o1) (.int .i64 (-1))).alloc (.cells #[.int .i64 (k : Int)] 3)
            have Y6 := ((Y5.other (p := ⟨g0, k, none⟩) (fun e => hy1 g0 o0 e.symm) (.int .i64 (-1))).other (p := ⟨g1, k, none⟩) (fun e => hy1 g1 o1 e.symm) (.int .i64 (-1))).alloc (.cells #[.int .i64 (k : Int)] 3)
            have F6 := ((F5.setCell (p := ⟨g0, k, none⟩) (.inl (.inl rfl)) (.int .i64 (-1))).setCell (p := ⟨g1, k, none⟩) (.inl (.inr (.inl rfl))) (.int .i64 (-1))).alloc (.cells #[.int .i64 (k : Int)] 3)
            have eW : (((w2.setCell ⟨g0, k, none⟩ (.int .i64 (-1))).setCell ⟨g1, k, none⟩ (.int .i64 (-1))).alloc (.cells #[.int .i64 (k : Int)] 3)).heap.size = w2.heap.size + 1 := by simp [World.setCell]
            have zr5 : w.heap.size + 2 ≤ w2.heap.size := by
              have := Y5.lt; omega
            have lo6 : lo ≤ (((w2.setCell ⟨g0, k, none⟩ (.int .i64 (-1))).setCell ⟨g1, k, none⟩ (.int .i64 (-1))).alloc (.cells #[.int .i64 (k : Int)] 3)).heap.size := by
              rw [eW]; have := M5.r0.lt g0 rfl; omega
            have own6 := M6.own
            have sz6 : w.heap.size ≤ (((w2.setCell ⟨g0, k, none⟩ (.int .i64 (-1))).setCell ⟨g1, k, none⟩ (.int .i64 (-1))).alloc (.cells #[.int .i64 (k : Int)] 3)).heap.size := F6.size
            clear M5 R5 Y5 F5 eW
            go_wp2_with (at_builtin; refine wpList_append_rowK (K := false) rfl _ _ rfl lo A' n' c' c rfl M6.r3 w2.heap.size 1 1 [(k : Int)] rfl (one_newC (by simp [World.setCell])) rfl (by decide) (by omega) lo6 ?_)
            intro A6 c6 w4 hr6 hg6 ho6
            have eW : (((w2.setCell ⟨g0, k, none⟩ (.int .i64 (-1))).setCell ⟨g1, k, none⟩ (.int .i64 (-1))).alloc (.cells #[.int .i64 (k : Int)] 3)).heap.size = w2.heap.size + 1 := by simp [World.setCell]
            rw [← eW] at ho6
            have M8 := M6.free hg6 hr6 ho6
            have FG := Fr.setCell (S := fun j => (Value.slice A' n' c').ownBlock = some j ∨ j = w.heap.size) (Fr.grown (S := fun j => (Value.slice A' n' c').ownBlock = some j ∨ j = w.heap.size) (Fr.refl _ _) hg6 (fun j e => .inl (.inl e))) (p := ⟨w.heap.size, 3, none⟩) (.inl (.inr rfl)) (.slice A6 (n' + 1) c6)
            have R8 := R6.fr FG (fun j e e' => hn5 j e (by rcases e' with e' | e'; · exact .inr (.inr (.inr (.inr (.inl e'))))
                                                           · exact .inl e'))
            have Y8 := Y6.fr FG (fun e' => by
              rcases e' with e' | e'
              · exact hy1 _ (.inr (.inr (.inr (.inr (.inl e'))))) rfl
              · omega)
            have F8 := (F6.grown hg6 (fun j e => by
              rcases ho with h9 | ⟨j2, hj2, h9⟩
              · exact .inl (.inr (.inr (.inr (.inl (by rw [← h9, e])))))
              · rw [h9] at e; cases e; exact .inr hj2)).setCell (p := ⟨w.heap.size, 3, none⟩) (.inr (Nat.le_refl _)) (.slice A6 (n' + 1) c6)
            have ho8 : (Value.slice A6 (n' + 1) c6).ownBlock = (Value.slice A3 n3 c3).ownBlock ∨ ∃ j, w.heap.size ≤ j ∧ (Value.slice A6 (n' + 1) c6).ownBlock = some j := by
              rcases ho6 with h9 | h9
              · rw [h9]; exact ho
              · exact .inr ⟨_, sz6, h9⟩
            have hn8 : ∀ j, (Value.slice A5 (nw + 2) c5).ownBlock = some j → ¬ OwnM w.heap.size (.slice (some ⟨g0, 0, none⟩) n0 c0) (.slice (some ⟨g1, 0, none⟩) n1 c1) (.slice A2 n2 c2) (.slice A6 (n' + 1) c6) (.slice (some ⟨g4, 0, none⟩) n4 c4) j := fun j e e' => by
              rcases e' with e' | e' | e' | e' | e' | e'
              · exact hn5 j e (.inl e')
              · exact hn5 j e (.inr (.inl e'))
              · exact hn5 j e (.inr (.inr (.inl e')))
              · exact hn5 j e (.inr (.inr (.inr (.inl e'))))
              · rcases ho6 with h9 | h9
                · exact hn5 j e (.inr (.inr (.inr (.inr (.inl (by rw [← h9, e']))))))
                · rw [h9] at e'; cases e'; have := (R6.lt _ e).2; omega
              · exact hn5 j e (.inr (.inr (.inr (.inr (.inr e')))))
            have hy8 : ∀ j, OwnM w.heap.size (.slice (some ⟨g0, 0, none⟩) n0 c0) (.slice (some ⟨g1, 0, none⟩) n1 c1) (.slice A2 n2 c2) (.slice A6 (n' + 1) c6) (.slice (some ⟨g4, 0, none⟩) n4 c4) j → j ≠ w.heap.size + 1 := fun j e' => by
              rcases e' with e' | e' | e' | e' | e' | e'
              · omega
              · exact hy1 j (.inr (.inl e'))
              · exact hy1 j (.inr (.inr (.inl e')))
              · exact hy1 j (.inr (.inr (.inr (.inl e'))))
              · rcases ho6 with h9 | h9
                · exact hy1 j (.inr (.inr (.inr (.inr (.inl (by rw [← h9, e']))))))
                · rw [h9] at e'; cases e'; omega
              · exact hy1 j (.inr (.inr (.inr (.inr (.inr e')))))
            have hB4 : Blk5 w4 w.heap.size (.slice (some ⟨g0, 0, none⟩) n0 c0) (.slice (some ⟨g1, 0, none⟩) n1 c1) (.slice A2 n2 c2) (.slice A' n' c') (.slice (some ⟨g4, 0, none⟩) n4 c4) 29 := (hg6.block _ M6.blk.lt (fun e => M6.o3 e.symm)).trans M6.blk
            have zr8 : w.heap.size + 2 ≤ (w4.setCell ⟨w.heap.size, 3, none⟩ (.slice A6 (n' + 1) c6)).heap.size := by have := Y8.lt; omega
            clear d0 d1 d2 d3 d4 p0 p1 p2 p3 p4 M6 R6 Y6 F6 FG hr6 hg6 ho6 eW own6
            obtain ⟨d0, d1, d2, d3, d4, p0, p1, p2, p3, p4⟩ := hB4.cells
            go_wp2_with fail
            go_roundg (muD ⟨⟨H.l.set k (-1), H.r.set k (-1), H.t⟩, c ++ [(k : Int)], n.set k 0, (ws ++ [yl, yr]).drop (i + 1)⟩)
            case measure => exact hm2.out
            case rel => exact ⟨_, _, _, ws ++ [yl, yr], i + 1, _, _, _, A6, n' + 1, c6, rfl, by go_num, R8, M8, hn8, hil, J, hf2, rfl, by have := hm2.out; omega, ho8, how5, Y8, hy8, hy5, F8, zr8⟩
        · have e1 := dn_keep (H := H) (c := c) (rest := ws.drop (i + 1)) hz hz9
          rw [e1] at hstep hfs
          have J := Lib.hid hstep.1
          have hm2 := Lib.hid (hgk1 ▸ hstep.2)
          have hf2 : Hid (fin_ ⟨H, c, n.set k (z' - 1), ws.drop (i + 1)⟩ = fin_ ⟨D.C.h, D.C.c, D.n, [x]⟩) := hfs.symm.trans hfin1
          have hzz : (0 : Int) < z' - 1 := by omega
          clear hstep hfs hfin1 I1 e1 hgk1 hdrop hy hz hzb hz'
          obtain ⟨d0, d1, d2, d3, d4, -⟩ := M2.blk.cells
          clear M F Y R
          go_wp2_with fail
          go_region
          go_wp2_with fail
          go_roundg (muD ⟨H, c, n.set k (z' - 1), ws.drop (i + 1)⟩)
          case measure => exact hm2.out
          case rel => exact ⟨H, c, n.set k (z' - 1), ws, i + 1, _, _, _, A', n', c', rfl, by go_num, R2.drew, M2.drew, hno, by omega, J, hf2, rfl, by have := hm2.out; omega, ho, how, Y2.drew, hy1, hy2, F2.drew, zr2⟩
    · have hie : i = ws.length := by omega
      have hD : fin_ ⟨D.C.h, D.C.c, D.n, [x]⟩ = ⟨⟨H, c⟩, n⟩ := by
        rw [← hfin.out, hie, List.drop_length, fin_nil]
      have q1 : ¬ ((i : Int) < (nw : Int)) := by omega
      obtain ⟨y0, y1, y2, y3, y4, h0, h1, h2, h3, h4⟩ := Y.cells
      have YF := Y.set5 (.slice A0 n0 c0) (.slice A1 n1 c1) (.slice A2 n2 c2) (.slice A' n' c') (.slice A4 n4 c4)
      have FF := ((((F.setCell (p := ⟨w.heap.size + 1, 0, none⟩) (.inr (by show _ ≤ w.heap.size + 1; omega)) (.slice A0 n0 c0)).setCell (p := ⟨w.heap.size + 1, 1, none⟩) (.inr (by show _ ≤ w.heap.size + 1; omega)) (.slice A1 n1 c1)).setCell (p := ⟨w.heap.size + 1, 2, none⟩) (.inr (by show _ ≤ w.heap.size + 1; omega)) (.slice A2 n2 c2)).setCell (p := ⟨w.heap.size + 1, 3, none⟩) (.inr (by show _ ≤ w.heap.size + 1; omega)) (.slice A' n' c')).setCell (p := ⟨w.heap.size + 1, 4, none⟩) (.inr (by show _ ≤ w.heap.size + 1; omega)) (.slice A4 n4 c4)
      have oo : ∀ k, OwnM w.heap.size (.slice A0 n0 c0) (.slice A1 n1 c1) (.slice A2 n2 c2) (.slice A' n' c') (.slice A4 n4 c4) k → k ≠ w.heap.size + 1 := hy1
      have S5 := fun (j : Nat) (u : Value) (V : World) => Fr.setCell (S := fun k => k = w.heap.size + 1) (Fr.refl _ V) (p := ⟨w.heap.size + 1, j, none⟩) (.inl rfl) u
      have MF := ((((M.fr (S5 0 (.slice A0 n0 c0) _) (fun k e => hy1 k e)).fr (S5 1 (.slice A1 n1 c1) _) (fun k e => hy1 k e)).fr (S5 2 (.slice A2 n2 c2) _) (fun k e => hy1 k e)).fr (S5 3 (.slice A' n' c') _) (fun k e => hy1 k e)).fr (S5 4 (.slice A4 n4 c4) _) (fun k e => hy1 k e)
      clear M F R S5
      go_wp2_with fail
      generalize (((((wr.setCell ⟨w.heap.size + 1, 0, none⟩ (.slice A0 n0 c0)).setCell ⟨w.heap.size + 1, 1, none⟩ (.slice A1 n1 c1)).setCell ⟨w.heap.size + 1, 2, none⟩ (.slice A2 n2 c2)).setCell ⟨w.heap.size + 1, 3, none⟩ (.slice A' n' c')).setCell ⟨w.heap.size + 1, 4, none⟩ (.slice A4 n4 c4)) = WF at YF FF MF ⊢
      obtain ⟨v0, v1, v2, v3, v4, -⟩ := YF.cells
      refine bodyPost_ret (v := .agg #[.slice A0 n0 c0, .slice A1 n1 c1, .slice A2 n2 c2, .slice A' n' c', .slice A4 n4 c4]) ?_ rfl ⟨A', n', c', rfl, by first | exact MF.dv | (rw [hD]; exact MF.dv), FF⟩
      simp [results, Try.results50, go_sem, v0, v1, v2, v3, v4]

end Go.Proofs.Yteogflkahoanlaa
