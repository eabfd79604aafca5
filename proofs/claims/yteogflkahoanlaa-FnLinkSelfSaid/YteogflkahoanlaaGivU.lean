/- giveUp of impl. -/
import Derived.Test.YteogflkahoanlaaGivI
import Derived.Defers
import Derived.Deep.LoopGhost
import Derived.Deep.RegionHeld3
import Derived.Deep.RegionLaw
namespace Go.Proofs.Yteogflkahoanlaa
open Go.RowKit

/-- Where the giving up stands. -/
def GivR (K : Bool) (w : World) (lo b : Nat) (x0 x1 x2 x3 x4 : Value) (D : Dp) (gk : Nat) (wk : Value) (wr : World) : Prop :=
  ∃ (H : Hp) (c n ws : List Int) (A : Option Addr) (nw cw : Nat) (A' : Option Addr) (n' c' : Nat), wk = .slice A nw cw ∧ RowC wr w.heap.size (.slice A nw cw) ws ∧ MAt K wr lo b 61 x0 x1 x2 (.slice A' n' c') x4 ⟨⟨H, c⟩, n⟩ ∧ Apart (.slice A' n' c') (.slice A nw cw) ∧
    Hid (InvD ⟨H, c, n, ws⟩) ∧ Hid (fin_ ⟨H, c, n, ws⟩ = D) ∧ Hid (gk = muD ⟨H, c, n, ws⟩) ∧ gk ≤ 40 ∧ ((Value.slice A' n' c').ownBlock = x3.ownBlock ∨ ∃ j, w.heap.size ≤ j ∧ (Value.slice A' n' c').ownBlock = some j) ∧ Fr (OwnM b x0 x1 x2 x3 x4) w wr
section
variable {K : Bool} {w wr : World} {lo b : Nat} {x0 x1 x2 x3 x4 : Value} {D : Dp} {gk : Nat}
/-- The old rows lie below the work. -/
theorem giv_old (hO : ∀ k, OwnM b x0 x1 x2 x3 x4 k → k < w.heap.size) {A A' : Option Addr} {nw cw n' c' : Nat} {ws : List Int} (R : RowC wr w.heap.size (.slice A nw cw) ws) (a : Apart (.slice A' n' c') (.slice A nw cw)) : ∀ k, (Value.slice A nw cw).ownBlock = some k → ¬ OwnM b x0 x1 x2 (.slice A' n' c') x4 k := by
  intro k e h
  have hk := (R.lt k e).1
  rcases h with h | h | h | h | h | h
  · have := hO k (.inl h); omega
  · have := hO k (.inr (.inl h)); omega
  · have := hO k (.inr (.inr (.inl h))); omega
  · have := hO k (.inr (.inr (.inr (.inl h)))); omega
  · exact a k h e
  · have := hO k (.inr (.inr (.inr (.inr (.inr h))))); omega
/-- The frame is widened by a change of what is the variable's own by now. -/
theorem giv_fr {v : Value} {w1 : World} (F : Fr (OwnM b x0 x1 x2 x3 x4) w wr) (ho : v.ownBlock = x3.ownBlock ∨ ∃ j, w.heap.size ≤ j ∧ v.ownBlock = some j) (F1 : Fr (OwnM b x0 x1 x2 v x4) wr w1) : Fr (OwnM b x0 x1 x2 x3 x4) w w1 :=
  Fr.widen F1 (fun k h => by
    rcases h with h | h | h | h | h | h
    · exact .inl (.inl h)
    · exact .inl (.inr (.inl h))
    · exact .inl (.inr (.inr (.inl h)))
    · exact .inl (.inr (.inr (.inr (.inl h))))
    · rcases ho with e | ⟨j, hj, e⟩
      · exact .inl (.inr (.inr (.inr (.inr (.inl (e ▸ h))))))
      · rw [e] at h; cases h; exact .inr hj
    · exact .inl (.inr (.inr (.inr (.inr (.inr h)))))) F
end
theorem inv_bd {H : Hp} {c n ws : List Int} (I : InvD ⟨H, c, n, ws⟩) {k : Nat} {z : Int} (hz : n[k]? = some z) : 0 ≤ z ∧ z ≤ 100 + ws.length ∧ H.l.length ≤ 8 := by
  have hv := hvB_len I.v
  have hk : k < H.l.length := by have := (List.getElem?_eq_some_iff.1 hz).1; have := I.nl; dsimp only at *; omega
  have h9 := I.cnt k hk
  dsimp only at h9
  rw [hz] at h9
  have e := Option.some.inj h9
  have q0 : H.l.count (k : Int) ≤ H.l.length := List.count_le_length
  have q1 : H.r.count (k : Int) ≤ H.r.length := List.count_le_length
  have q2 : H.t.count (k : Int) ≤ H.t.length := List.count_le_length
  have q3 : ws.count (k : Int) ≤ ws.length := List.count_le_length
  have := hv.1
  dsimp only at hv
  omega
theorem inv_head {H : Hp} {c n rest : List Int} {k : Nat} (I : InvD ⟨H, c, n, (k : Int) :: rest⟩) : k < H.l.length ∧ k < H.r.length ∧ k < n.length ∧ ∃ z, n[k]? = some z ∧ 1 ≤ z := by
  have hr := I.rng (k : Int) (List.mem_cons_self ..)
  have hk : k < H.l.length := by have := hr.2; dsimp only at this; omega
  have hv := hvB_len I.v
  have h9 := I.cnt k hk
  have hnl := I.nl
  dsimp only at h9 hv hnl
  refine ⟨hk, by omega, by omega, _, h9, ?_⟩
  have : ((k : Int) :: rest).count (k : Int) = rest.count (k : Int) + 1 := by rw [List.count_cons]; simp
  omega
theorem dn_keep {H : Hp} {c n rest : List Int} {k : Nat} {z : Int} (hz : n[k]? = some z) (h1 : z ≠ 1) : dn H c n (k : Int) rest = ⟨H, c, n.set k (z - 1), rest⟩ := by
  have hg : n.getD k 0 = z := by simp [List.getD, hz]
  unfold dn
  rw [if_neg (by omega), Int.toNat_natCast, hg, if_neg h1]
theorem dn_rel {H : Hp} {c n rest : List Int} {k : Nat} {y u : Int} (hz : n[k]? = some 1) (hy : H.l[k]? = some y) (hu : H.r[k]? = some u) : dn H c n (k : Int) rest = ⟨⟨H.l.set k (-1), H.r.set k (-1), H.t⟩, c ++ [(k : Int)], n.set k 0, rest ++ [y, u]⟩ := by
  have hg : n.getD k 0 = 1 := by simp [List.getD, hz]
  have g1 : H.l.getD k 0 = y := by simp [List.getD, hy]
  have g2 : H.r.getD k 0 = u := by simp [List.getD, hu]
  unfold dn
  rw [if_neg (by omega), Int.toNat_natCast, if_pos hg, g1, g2]
set_option maxRecDepth 100000 in
set_option maxHeartbeats 8000000 in
theorem giveUp_any (K : Bool) (w : World) (lo b : Nat) (hlo : lo ≤ w.heap.size) (A0 A1 A3 A4 : Option Addr) (n0 c0 n1 c1 n3 c3 n4 c4 : Nat) (x2 : Value) (D : Dp) (h : MAt K w lo b 61 (.slice A0 n0 c0) (.slice A1 n1 c1) x2 (.slice A3 n3 c3) (.slice A4 n4 c4) D) (x : Int) (hI : Hid (InvD ⟨D.C.h, D.C.c, D.n, [x]⟩)) (u : FrameMode) :
    CallsD Try.prog 74 #[.pointer (some ⟨b, 0, none⟩), .int .i64 x] u w fun e u' w' => u' = u ∧ (e = .returned (.tuple #[]) ∧ ∃ A' n' c', MAt K w' lo b 61 (.slice A0 n0 c0) (.slice A1 n1 c1) x2 (.slice A' n' c') (.slice A4 n4 c4) (fin_ ⟨D.C.h, D.C.c, D.n, [x]⟩) ∧
      ((Value.slice A' n' c').ownBlock = (Value.slice A3 n3 c3).ownBlock ∨ ∃ j, w.heap.size ≤ j ∧ (Value.slice A' n' c').ownBlock = some j) ∧ Fr (OwnM b (.slice A0 n0 c0) (.slice A1 n1 c1) x2 (.slice A3 n3 c3) (.slice A4 n4 c4)) w w') := by
  have hO : ∀ k, OwnM b (.slice A0 n0 c0) (.slice A1 n1 c1) x2 (.slice A3 n3 c3) (.slice A4 n4 c4) k → k < w.heap.size := fun k e => (h.own k e).1
  have hm : muD ⟨D.C.h, D.C.c, D.n, [x]⟩ ≤ 40 := by
    have := hvB_len hI.out.v
    dsimp only at this
    unfold muD; dsimp only; simp; omega
  have R0 : RowC (w.alloc (.cells #[.int .i64 x] 3)) w.heap.size (.slice (some ⟨w.heap.size, 0, none⟩) 1 1) [x] := RowC.ofRow (by
    unfold Row
    exact ⟨rfl, .inr ⟨w.heap.size, 1, #[.int .i64 x], rfl, Nat.le_refl _, heap_alloc_new w _, Nat.le_refl _, by unfold maxLen; omega, rfl, rfl⟩⟩)
  have h0 := h.alloc (.cells #[.int .i64 x] 3)
  have ap0 : Apart (.slice A3 n3 c3) (.slice (some ⟨w.heap.size, 0, none⟩) 1 1) := fun k e e' => by
    have := (h.r3.lt k e).2
    simp [Value.ownBlock] at e'; omega
  have F0 : Fr (OwnM b (.slice A0 n0 c0) (.slice A1 n1 c1) x2 (.slice A3 n3 c3) (.slice A4 n4 c4)) w (w.alloc (.cells #[.int .i64 x] 3)) := (Fr.refl _ w).alloc _
  clear h
  go_enter_d Try.func74, Try.ntmps74
  go_wp2_with fail
  go_loopg [4, 5] (muD ⟨D.C.h, D.C.c, D.n, [x]⟩) (fun gk wk _ wr => GivR K w lo b (.slice A0 n0 c0) (.slice A1 n1 c1) x2 (.slice A3 n3 c3) (.slice A4 n4 c4) (fin_ ⟨D.C.h, D.C.c, D.n, [x]⟩) gk wk wr)
  case atStart => exact ⟨D.C.h, D.C.c, D.n, [x], _, 1, 1, A3, n3, c3, rfl, R0, h0, ap0, hI, rfl, rfl, hm, .inl rfl, F0⟩
  case round =>
    obtain ⟨H, c, n, ws, A, nw, cw, A', n', c', rfl, R, M, ap, I, hfin, hgk, hg40, ho, F⟩ := hrel
    clear R0 h0 ap0 F0
    have sF := F.size
    obtain ⟨b0, b1, b2, b3, b4, f0, f1, f2, f3, f4⟩ := M.blk.cells
    cases ws with
    | nil =>
      obtain rfl : nw = 0 := R.form.1.symm
      have hD : fin_ ⟨D.C.h, D.C.c, D.n, [x]⟩ = ⟨⟨H, c⟩, n⟩ := by rw [← hfin.out, fin_nil]
      go_wp2_with fail
      go_end0
      refine ⟨rfl, A', n', c', ?_, ho, F⟩
      rw [hD]; exact M
    | cons y rest =>
      obtain ⟨g, o, rfl, hg1, hg2, hcy, hn1, hnc, hone, hmore⟩ := R.head
      have q1 : (0 : Int) < (nw : Int) := by omega
      have q2 : (1 : Int) ≤ (nw : Int) := by omega
      have q3 : (nw : Int) ≤ (cw : Int) := by omega
      have hstep := dn_inv I.out
      have hfs := fin_cons I.out
      by_cases hy : y = -1
      · subst hy
        have e1 : dn H c n (-1) rest = ⟨H, c, n, rest⟩ := by unfold dn; rw [if_pos rfl]
        rw [e1] at hstep hfs
        have J := Lib.hid hstep.1
        have hm2 := Lib.hid hstep.2
        have hf2 : Hid (fin_ ⟨H, c, n, rest⟩ = fin_ ⟨D.C.h, D.C.c, D.n, [x]⟩) := hfs.symm.trans hfin.out
        clear hstep hfs hfin I e1
        by_cases hc1 : cw = 1
        · obtain ⟨rfl, hrest, R2⟩ := hone hc1
          subst hc1
          clear hone hmore R
          have ap2 : Apart (.slice A' n' c') (.slice (some ⟨g, o, none⟩) 0 0) := fun k e e' => ap k e e'
          go_wp2_with fail
          go_roundg (muD ⟨H, c, n, rest⟩)
          case measure => rw [hgk.out]; exact hm2.out
          case rel => exact ⟨H, c, n, rest, _, _, _, A', n', c', rfl, R2, M, ap2, J, hf2, rfl, by have := hm2.out; have := hgk.out; omega, ho, F⟩
        · have hc2 : (1 : Int) < (cw : Int) := by omega
          have hc3 : ((cw : Int) - 1 == 0) = false := by simp; omega
          have hc4 : cw - 1 ≠ 0 := by omega
          have R2 := hmore (by omega)
          clear hone hmore R
          have ap2 : Apart (.slice A' n' c') (.slice (some ⟨g, o + 1, none⟩) (nw - 1) (cw - 1)) := fun k e e' => ap k e e'
          go_wp2_with fail
          go_roundg (muD ⟨H, c, n, rest⟩)
          case measure => rw [hgk.out]; exact hm2.out
          case rel => exact ⟨H, c, n, rest, _, _, _, A', n', c', rfl, R2, M, ap2, J, hf2, rfl, by have := hm2.out; have := hgk.out; omega, ho, F⟩
      · obtain ⟨k, rfl⟩ := Int.eq_ofNat_of_zero_le (by have := (I.out.rng y (List.mem_cons_self ..)).1; omega : 0 ≤ y)
        obtain ⟨hk0, hk1, hk2, z, hz, hz1⟩ := inv_head I.out
        have hzb := inv_bd I.out hz
        have hwl : ((k : Int) :: rest).length ≤ 40 := by have := hgk.out; unfold muD at this; dsimp only at this; omega
        have hy2 : ((k : Int) != -1) = true := by simp
        have CDn := countDown_any K wr lo b (.slice A0 n0 c0) (.slice A1 n1 c1) x2 (.slice A' n' c') A4 n4 c4 ⟨⟨H, c⟩, n⟩ M k hk2 z hz hz1 (by omega)
        have hFw : ∀ j, (Value.slice (some ⟨g, o, none⟩) nw cw).ownBlock = some j → ¬ ((Value.slice A4 n4 c4).ownBlock = some j) := fun j e e' => by
          have := hO j (.inr (.inr (.inr (.inr (.inr e')))))
          have := (R.lt j e).1; omega
        by_cases hz9 : z = 1
        · subst hz9
          obtain ⟨yl, hyl⟩ : ∃ yl, H.l[k]? = some yl := ⟨_, List.getElem?_eq_getElem hk0⟩
          obtain ⟨yr, hyr⟩ : ∃ yr, H.r[k]? = some yr := ⟨_, List.getElem?_eq_getElem hk1⟩
          have e1 := dn_rel (c := c) (rest := rest) hz hyl hyr
          rw [e1] at hstep hfs
          have J := Lib.hid hstep.1
          have hm2 := Lib.hid hstep.2
          have hf2 : Hid (fin_ ⟨⟨H.l.set k (-1), H.r.set k (-1), H.t⟩, c ++ [(k : Int)], n.set k 0, rest ++ [yl, yr]⟩ = fin_ ⟨D.C.h, D.C.c, D.n, [x]⟩) := hfs.symm.trans hfin.out
          have dT : decide ((1 : Int) = 1) = true := by simp
          rw [dT, show (1 : Int) - 1 = 0 from rfl] at CDn
          have n3b : n' ≤ 1000000 := by
            have h8 := I.out.cl
            have h7 := M.r3.toC.form.1
            dsimp only at h8 h7; omega
          have rl : rest.length ≤ 40 := by rw [List.length_cons] at hwl; omega
          have hkm0 := Lib.hid hyl
          have hkm1 := Lib.hid hyr
          clear hstep hfs hfin I e1 hz hyl hyr hzb hwl dT
          by_cases hc1 : cw = 1
          · obtain ⟨rfl, hrest, R2⟩ := hone hc1
            subst hc1
            clear hone hmore R
            have ap2 : Apart (.slice A' n' c') (.slice (some ⟨g, o, none⟩) 0 0) := fun j e e' => ap j e e'
            have hFw2 : ∀ j, (Value.slice (some ⟨g, o, none⟩) 0 0).ownBlock = some j → ¬ ((Value.slice A4 n4 c4).ownBlock = some j) := fun j e e' => hFw j e e'
            have rn : 0 ≤ 40 := by have := R2.form.1; omega
            go_wp2_with fail
            refine CDn.mono ?_; rintro e w1 ⟨rfl, M1, G1⟩
            have R3 := R2.fr G1 hFw2
            have F1 := giv_fr F ho (G1.mono (T := OwnM b (.slice A0 n0 c0) (.slice A1 n1 c1) x2 (.slice A' n' c') (.slice A4 n4 c4)) (fun j _ e => .inr (.inr (.inr (.inr (.inr e))))))
            have s1 := F1.size
            clear b0 b1 b2 b3 b4 f0 f1 f2 f3 f4 hcy M F G1 CDn R2
            obtain ⟨b0, b1, b2, b3, b4, f0, f1, f2, f3, f4⟩ := M1.blk.cells
            obtain ⟨g0, v0, hA0, _, _, hv0, hc0, _⟩ := M1.r0.get (k := k) hk0
            obtain ⟨g1, v1, hA1, _, _, hv1, hc1, _⟩ := M1.r1.get (k := k) hk1
            obtain rfl : yl = v0 := by have := hkm0.out; have h9 := hv0.out; dsimp only at h9; rw [this] at h9; cases h9; rfl
            obtain rfl : yr = v1 := by have := hkm1.out; have h9 := hv1.out; dsimp only at h9; rw [this] at h9; cases h9; rfl
            have hl0 : (k : Int) < (n0 : Int) := by have : H.l.length = n0 := (RowC.ofRow M1.r0).form.1; omega
            have hl1 : (k : Int) < (n1 : Int) := by have : H.r.length = n1 := (RowC.ofRow M1.r1).form.1; omega
            subst hA0 hA1
            clear hv0 hv1 hkm0 hkm1
            go_wp2_with fail
            have hnb : b < w1.heap.size := M1.blk.lt
            have SO : ∀ w' : World, Below w1.heap.size w1 w' → w'.cell? ⟨b, 0, none⟩ = some (.slice (some ⟨g0, 0, none⟩) n0 c0) ∧ w'.cell? ⟨b, 1, none⟩ = some (.slice (some ⟨g1, 0, none⟩) n1 c1) ∧ w'.cell? ⟨g0, k, none⟩ = some (.int .i64 yl) ∧ w'.cell? ⟨g1, k, none⟩ = some (.int .i64 yr) := fun w' hb => ⟨(M1.blk.below hb).cells.1, (M1.blk.below hb).cells.2.1, (hb.cell (p := ⟨g0, k, none⟩) (by show g0 < _; omega)).trans hc0, (hb.cell (p := ⟨g1, k, none⟩) (by show g1 < _; omega)).trans hc1⟩
            have M2 := (M1.alloc (.cells #[.int .i64 yl, .int .i64 yr] 3)).drew
            have R4 := (R3.alloc (.cells #[.int .i64 yl, .int .i64 yr] 3)).drew
            have s2 : (w1.alloc (.cells #[.int .i64 yl, .int .i64 yr] 3)).drew.heap.size = w1.heap.size + 1 := by show (w1.alloc _).heap.size = _; simp
            have sA : w.heap.size ≤ (w1.alloc (.cells #[.int .i64 yl, .int .i64 yr] 3)).drew.heap.size := by omega
            have hno : ∀ j, OwnM b (.slice (some ⟨g0, 0, none⟩) n0 c0) (.slice (some ⟨g1, 0, none⟩) n1 c1) x2 (.slice A' n' c') (.slice A4 n4 c4) j → ¬ ((Value.slice (some ⟨g, o, none⟩) 0 0).ownBlock = some j) := fun j e e' => giv_old hO R4 ap2 j e' e
            have SW2 := SO ((w1.alloc (.cells #[.int .i64 yl, .int .i64 yr] 3)).drew) (B5_dr (B5_al (Below.refl _ _) _))
            have F2 := (F1.alloc (.cells #[.int .i64 yl, .int .i64 yr] 3)).drew
            generalize hW2 : (w1.alloc (.cells #[.int .i64 yl, .int .i64 yr] 3)).drew = W2 at M2 R4 s2 sA SW2 F2
            have HW2 := Lib.hid hW2
            clear hW2
            have own4 := M2.own
            have hd5 : ∀ (A5 : Option Addr) (c5 : Nat) (w2 : World), W2.grownBy w2 (Value.slice (some ⟨g, o, none⟩) 0 0).ownBlock → MAt K w2 lo b 61 (.slice (some ⟨g0, 0, none⟩) n0 c0) (.slice (some ⟨g1, 0, none⟩) n1 c1) x2 (.slice A' n' c') (.slice A4 n4 c4) ⟨⟨H, c⟩, n.set k 0⟩ ∧ Fr (OwnM b (.slice (some ⟨g0, 0, none⟩) n0 c0) (.slice (some ⟨g1, 0, none⟩) n1 c1) x2 (.slice A3 n3 c3) (.slice A4 n4 c4)) w w2 ∧ w2.cell? ⟨b, 0, none⟩ = some (.slice (some ⟨g0, 0, none⟩) n0 c0) ∧ w2.cell? ⟨b, 1, none⟩ = some (.slice (some ⟨g1, 0, none⟩) n1 c1) ∧ w2.cell? ⟨g0, k, none⟩ = some (.int .i64 yl) ∧ w2.cell? ⟨g1, k, none⟩ = some (.int .i64 yr) := fun A5 c5 w2 G5 => by
              have FG := Fr.grown (S := fun j => (Value.slice (some ⟨g, o, none⟩) 0 0).ownBlock = some j) (Fr.refl _ W2) G5 (fun k e => .inl e)
              have M3 := M2.fr FG hno
              refine ⟨M3, F2.grown G5 (fun j e => .inr (R4.lt j e).1), M3.blk.cells.1, M3.blk.cells.2.1, (FG.cell (p := ⟨g0, k, none⟩) (own4 g0 (.inr (.inl rfl))).1 (hno g0 (.inr (.inl rfl)))).trans SW2.2.2.1, (FG.cell (p := ⟨g1, k, none⟩) (own4 g1 (.inr (.inr (.inl rfl)))).1 (hno g1 (.inr (.inr (.inl rfl))))).trans SW2.2.2.2⟩
            have hno2 := giv_old hO R4 ap2
            have lt3 : ∀ j, (Value.slice A' n' c').ownBlock = some j → j < W2.heap.size := fun j e => (own4 j (.inr (.inr (.inr (.inr (.inl e)))))).1
            clear F1 F2 M1 M2 R3
            go_region_held3 (fun w' => w'.cell? ⟨b, 0, none⟩ = some (.slice (some ⟨g0, 0, none⟩) n0 c0) ∧ w'.cell? ⟨b, 1, none⟩ = some (.slice (some ⟨g1, 0, none⟩) n1 c1) ∧ w'.cell? ⟨g0, k, none⟩ = some (.int .i64 yl) ∧ w'.cell? ⟨g1, k, none⟩ = some (.int .i64 yr))
              (((try dsimp only); first | exact SA | (refine SO _ ?_; (repeat (with_reducible (first | exact Below.refl _ _ | refine B5_dr ?_ | refine B5_al ?_ _))); done)))
              (first
                | (refine step_append_rowC rfl _ _ rfl w.heap.size (some ⟨g, o, none⟩) 0 0 rest (by rfl) (by rw [HW2.out]; exact R4) w1.heap.size 2 2 [yl, yr] (by rfl) (fun j u hj => twoC_new j u hj) rfl (by decide) (by omega) (by rw [HW2.out]; exact sA) ?_; rw [HW2.out]; intro A5 c5 w2 R5 G5 own5; have SM := hd5 A5 c5 w2 G5; have SA := SM.2.2))
            all_goals
              rename_i hHeld
              clear hHeld
              obtain ⟨M3, F3, -⟩ := SM
              have RL := release_any K w2 lo b (by have := F3.size; omega) (some ⟨g0, 0, none⟩) (some ⟨g1, 0, none⟩) A' n0 c0 n1 c1 n' c' x2 (.slice A4 n4 c4) _ M3 k hk0 hk1 n3b
              have hn5 : ∀ j, (Value.slice A5 (0 + 2) c5).ownBlock = some j → ¬ OwnM b (.slice (some ⟨g0, 0, none⟩) n0 c0) (.slice (some ⟨g1, 0, none⟩) n1 c1) x2 (.slice A' n' c') (.slice A4 n4 c4) j := fun j e e' => by
                rcases own5 with h9 | h9
                · exact hno2 j (h9 ▸ e) e'
                · rw [h9] at e; cases e; have := (own4 _ e').1; omega
              clear b0 b1 b2 b3 b4 f0 f1 f2 f3 f4 SA SO SW2 hd5
              go_wp2_with fail
              refine RL.mono ?_; rintro e w3 ⟨rfl, A6, c6, M6, own6, G6⟩
              have R6 := R5.fr G6 hn5
              have F6 := giv_fr F3 ho G6
              have ho6 : (Value.slice A6 (n' + 1) c6).ownBlock = (Value.slice A3 n3 c3).ownBlock ∨ ∃ j, w.heap.size ≤ j ∧ (Value.slice A6 (n' + 1) c6).ownBlock = some j := by
                rcases own6 with e | ⟨j, hj, _, e⟩
                · rw [e]; exact ho
                · exact .inr ⟨j, by have := F3.size; omega, e⟩
              have ap6 : Apart (.slice A6 (n' + 1) c6) (.slice A5 (0 + 2) c5) := fun j e e' => by
                rcases own6 with h9 | ⟨j2, hj, _, h9⟩
                · rw [h9] at e; exact hn5 j e' (.inr (.inr (.inr (.inr (.inl e)))))
                · rw [h9] at e; cases e; have := (R5.lt j e').2; omega
              clear RL G6 R5 M3 F3
              go_wp2_with fail
              go_roundg (muD ⟨⟨H.l.set k (-1), H.r.set k (-1), H.t⟩, c ++ [(k : Int)], n.set k 0, rest ++ [yl, yr]⟩)
              case measure => rw [hgk.out]; exact hm2.out
              case rel => exact ⟨_, _, _, _, _, _, _, A6, n' + 1, c6, rfl, R6, M6, ap6, J, hf2, rfl, by have := hm2.out; have := hgk.out; omega, ho6, F6⟩
          · have hc2 : (1 : Int) < (cw : Int) := by omega
            have hc3 : ((cw : Int) - 1 == 0) = false := by simp; omega
            have hc4 : cw - 1 ≠ 0 := by omega
            have R2 := hmore (by omega)
            clear hone hmore R
            have ap2 : Apart (.slice A' n' c') (.slice (some ⟨g, o + 1, none⟩) (nw - 1) (cw - 1)) := fun j e e' => ap j e e'
            have hFw2 : ∀ j, (Value.slice (some ⟨g, o + 1, none⟩) (nw - 1) (cw - 1)).ownBlock = some j → ¬ ((Value.slice A4 n4 c4).ownBlock = some j) := fun j e e' => hFw j e e'
            have rn : (nw - 1) ≤ 40 := by have := R2.form.1; omega
            go_wp2_with fail
            refine CDn.mono ?_; rintro e w1 ⟨rfl, M1, G1⟩
            have R3 := R2.fr G1 hFw2
            have F1 := giv_fr F ho (G1.mono (T := OwnM b (.slice A0 n0 c0) (.slice A1 n1 c1) x2 (.slice A' n' c') (.slice A4 n4 c4)) (fun j _ e => .inr (.inr (.inr (.inr (.inr e))))))
            have s1 := F1.size
            clear b0 b1 b2 b3 b4 f0 f1 f2 f3 f4 hcy M F G1 CDn R2
            obtain ⟨b0, b1, b2, b3, b4, f0, f1, f2, f3, f4⟩ := M1.blk.cells
            obtain ⟨g0, v0, hA0, _, _, hv0, hc0, _⟩ := M1.r0.get (k := k) hk0
            obtain ⟨g1, v1, hA1, _, _, hv1, hc1, _⟩ := M1.r1.get (k := k) hk1
            obtain rfl : yl = v0 := by have := hkm0.out; have h9 := hv0.out; dsimp only at h9; rw [this] at h9; cases h9; rfl
            obtain rfl : yr = v1 := by have := hkm1.out; have h9 := hv1.out; dsimp only at h9; rw [this] at h9; cases h9; rfl
            have hl0 : (k : Int) < (n0 : Int) := by have : H.l.length = n0 := (RowC.ofRow M1.r0).form.1; omega
            have hl1 : (k : Int) < (n1 : Int) := by have : H.r.length = n1 := (RowC.ofRow M1.r1).form.1; omega
            subst hA0 hA1
            clear hv0 hv1 hkm0 hkm1
            go_wp2_with fail
            have hnb : b < w1.heap.size := M1.blk.lt
            have SO : ∀ w' : World, Below w1.heap.size w1 w' → w'.cell? ⟨b, 0, none⟩ = some (.slice (some ⟨g0, 0, none⟩) n0 c0) ∧ w'.cell? ⟨b, 1, none⟩ = some (.slice (some ⟨g1, 0, none⟩) n1 c1) ∧ w'.cell? ⟨g0, k, none⟩ = some (.int .i64 yl) ∧ w'.cell? ⟨g1, k, none⟩ = some (.int .i64 yr) := fun w' hb => ⟨(M1.blk.below hb).cells.1, (M1.blk.below hb).cells.2.1, (hb.cell (p := ⟨g0, k, none⟩) (by show g0 < _; omega)).trans hc0, (hb.cell (p := ⟨g1, k, none⟩) (by show g1 < _; omega)).trans hc1⟩
            have M2 := (M1.alloc (.cells #[.int .i64 yl, .int .i64 yr] 3)).drew
            have R4 := (R3.alloc (.cells #[.int .i64 yl, .int .i64 yr] 3)).drew
            have s2 : (w1.alloc (.cells #[.int .i64 yl, .int .i64 yr] 3)).drew.heap.size = w1.heap.size + 1 := by show (w1.alloc _).heap.size = _; simp
            have sA : w.heap.size ≤ (w1.alloc (.cells #[.int .i64 yl, .int .i64 yr] 3)).drew.heap.size := by omega
            have hno : ∀ j, OwnM b (.slice (some ⟨g0, 0, none⟩) n0 c0) (.slice (some ⟨g1, 0, none⟩) n1 c1) x2 (.slice A' n' c') (.slice A4 n4 c4) j → ¬ ((Value.slice (some ⟨g, o + 1, none⟩) (nw - 1) (cw - 1)).ownBlock = some j) := fun j e e' => giv_old hO R4 ap2 j e' e
            have SW2 := SO ((w1.alloc (.cells #[.int .i64 yl, .int .i64 yr] 3)).drew) (B5_dr (B5_al (Below.refl _ _) _))
            have F2 := (F1.alloc (.cells #[.int .i64 yl, .int .i64 yr] 3)).drew
            generalize hW2 : (w1.alloc (.cells #[.int .i64 yl, .int .i64 yr] 3)).drew = W2 at M2 R4 s2 sA SW2 F2
            have HW2 := Lib.hid hW2
            clear hW2
            have own4 := M2.own
            have hd5 : ∀ (A5 : Option Addr) (c5 : Nat) (w2 : World), W2.grownBy w2 (Value.slice (some ⟨g, o + 1, none⟩) (nw - 1) (cw - 1)).ownBlock → MAt K w2 lo b 61 (.slice (some ⟨g0, 0, none⟩) n0 c0) (.slice (some ⟨g1, 0, none⟩) n1 c1) x2 (.slice A' n' c') (.slice A4 n4 c4) ⟨⟨H, c⟩, n.set k 0⟩ ∧ Fr (OwnM b (.slice (some ⟨g0, 0, none⟩) n0 c0) (.slice (some ⟨g1, 0, none⟩) n1 c1) x2 (.slice A3 n3 c3) (.slice A4 n4 c4)) w w2 ∧ w2.cell? ⟨b, 0, none⟩ = some (.slice (some ⟨g0, 0, none⟩) n0 c0) ∧ w2.cell? ⟨b, 1, none⟩ = some (.slice (some ⟨g1, 0, none⟩) n1 c1) ∧ w2.cell? ⟨g0, k, none⟩ = some (.int .i64 yl) ∧ w2.cell? ⟨g1, k, none⟩ = some (.int .i64 yr) := fun A5 c5 w2 G5 => by
              have FG := Fr.grown (S := fun j => (Value.slice (some ⟨g, o + 1, none⟩) (nw - 1) (cw - 1)).ownBlock = some j) (Fr.refl _ W2) G5 (fun k e => .inl e)
              have M3 := M2.fr FG hno
              refine ⟨M3, F2.grown G5 (fun j e => .inr (R4.lt j e).1), M3.blk.cells.1, M3.blk.cells.2.1, (FG.cell (p := ⟨g0, k, none⟩) (own4 g0 (.inr (.inl rfl))).1 (hno g0 (.inr (.inl rfl)))).trans SW2.2.2.1, (FG.cell (p := ⟨g1, k, none⟩) (own4 g1 (.inr (.inr (.inl rfl)))).1 (hno g1 (.inr (.inr (.inl rfl))))).trans SW2.2.2.2⟩
            have hno2 := giv_old hO R4 ap2
            have lt3 : ∀ j, (Value.slice A' n' c').ownBlock = some j → j < W2.heap.size := fun j e => (own4 j (.inr (.inr (.inr (.inr (.inl e)))))).1
            clear F1 F2 M1 M2 R3
            go_region_held3 (fun w' => w'.cell? ⟨b, 0, none⟩ = some (.slice (some ⟨g0, 0, none⟩) n0 c0) ∧ w'.cell? ⟨b, 1, none⟩ = some (.slice (some ⟨g1, 0, none⟩) n1 c1) ∧ w'.cell? ⟨g0, k, none⟩ = some (.int .i64 yl) ∧ w'.cell? ⟨g1, k, none⟩ = some (.int .i64 yr))
              (((try dsimp only); first | exact SA | (refine SO _ ?_; (repeat (with_reducible (first | exact Below.refl _ _ | refine B5_dr ?_ | refine B5_al ?_ _))); done)))
              (first
                | (refine step_append_rowC rfl _ _ rfl w.heap.size (some ⟨g, o + 1, none⟩) (nw - 1) (cw - 1) rest (by rfl) (by rw [HW2.out]; exact R4) w1.heap.size 2 2 [yl, yr] (by rfl) (fun j u hj => twoC_new j u hj) rfl (by decide) (by omega) (by rw [HW2.out]; exact sA) ?_; rw [HW2.out]; intro A5 c5 w2 R5 G5 own5; have SM := hd5 A5 c5 w2 G5; have SA := SM.2.2))
            all_goals
              rename_i hHeld
              clear hHeld
              obtain ⟨M3, F3, -⟩ := SM
              have RL := release_any K w2 lo b (by have := F3.size; omega) (some ⟨g0, 0, none⟩) (some ⟨g1, 0, none⟩) A' n0 c0 n1 c1 n' c' x2 (.slice A4 n4 c4) _ M3 k hk0 hk1 n3b
              have hn5 : ∀ j, (Value.slice A5 ((nw - 1) + 2) c5).ownBlock = some j → ¬ OwnM b (.slice (some ⟨g0, 0, none⟩) n0 c0) (.slice (some ⟨g1, 0, none⟩) n1 c1) x2 (.slice A' n' c') (.slice A4 n4 c4) j := fun j e e' => by
                rcases own5 with h9 | h9
                · exact hno2 j (h9 ▸ e) e'
                · rw [h9] at e; cases e; have := (own4 _ e').1; omega
              clear b0 b1 b2 b3 b4 f0 f1 f2 f3 f4 SA SO SW2 hd5
              go_wp2_with fail
              refine RL.mono ?_; rintro e w3 ⟨rfl, A6, c6, M6, own6, G6⟩
              have R6 := R5.fr G6 hn5
              have F6 := giv_fr F3 ho G6
              have ho6 : (Value.slice A6 (n' + 1) c6).ownBlock = (Value.slice A3 n3 c3).ownBlock ∨ ∃ j, w.heap.size ≤ j ∧ (Value.slice A6 (n' + 1) c6).ownBlock = some j := by
                rcases own6 with e | ⟨j, hj, _, e⟩
                · rw [e]; exact ho
                · exact .inr ⟨j, by have := F3.size; omega, e⟩
              have ap6 : Apart (.slice A6 (n' + 1) c6) (.slice A5 ((nw - 1) + 2) c5) := fun j e e' => by
                rcases own6 with h9 | ⟨j2, hj, _, h9⟩
                · rw [h9] at e; exact hn5 j e' (.inr (.inr (.inr (.inr (.inl e)))))
                · rw [h9] at e; cases e; have := (R5.lt j e').2; omega
              clear RL G6 R5 M3 F3
              go_wp2_with fail
              go_roundg (muD ⟨⟨H.l.set k (-1), H.r.set k (-1), H.t⟩, c ++ [(k : Int)], n.set k 0, rest ++ [yl, yr]⟩)
              case measure => rw [hgk.out]; exact hm2.out
              case rel => exact ⟨_, _, _, _, _, _, _, A6, n' + 1, c6, rfl, R6, M6, ap6, J, hf2, rfl, by have := hm2.out; have := hgk.out; omega, ho6, F6⟩
        · have e1 := dn_keep (H := H) (c := c) (rest := rest) hz hz9
          rw [e1] at hstep hfs
          have J := Lib.hid hstep.1
          have hm2 := Lib.hid hstep.2
          have hf2 : Hid (fin_ ⟨H, c, n.set k (z - 1), rest⟩ = fin_ ⟨D.C.h, D.C.c, D.n, [x]⟩) := hfs.symm.trans hfin.out
          have dT : decide (z = 1) = false := by simp [hz9]
          rw [dT] at CDn
          clear hstep hfs hfin I e1 hz hzb hwl dT
          by_cases hc1 : cw = 1
          · obtain ⟨rfl, hrest, R2⟩ := hone hc1
            subst hc1
            clear hone hmore R
            have ap2 : Apart (.slice A' n' c') (.slice (some ⟨g, o, none⟩) 0 0) := fun j e e' => ap j e e'
            have hFw2 : ∀ j, (Value.slice (some ⟨g, o, none⟩) 0 0).ownBlock = some j → ¬ ((Value.slice A4 n4 c4).ownBlock = some j) := fun j e e' => hFw j e e'
            go_wp2_with fail
            refine CDn.mono ?_; rintro e w1 ⟨rfl, M1, G1⟩
            have R3 := R2.fr G1 hFw2
            have F1 := giv_fr F ho (G1.mono (T := OwnM b (.slice A0 n0 c0) (.slice A1 n1 c1) x2 (.slice A' n' c') (.slice A4 n4 c4)) (fun j _ e => .inr (.inr (.inr (.inr (.inr e))))))
            clear b0 b1 b2 b3 b4 f0 f1 f2 f3 f4 hcy M F G1 CDn R2
            go_wp2_with fail
            go_roundg (muD ⟨H, c, n.set k (z - 1), rest⟩)
            case measure => rw [hgk.out]; exact hm2.out
            case rel => exact ⟨H, c, _, rest, _, _, _, A', n', c', rfl, R3, M1, ap2, J, hf2, rfl, by have := hm2.out; have := hgk.out; omega, ho, F1⟩
          · have hc2 : (1 : Int) < (cw : Int) := by omega
            have hc3 : ((cw : Int) - 1 == 0) = false := by simp; omega
            have hc4 : cw - 1 ≠ 0 := by omega
            have R2 := hmore (by omega)
            clear hone hmore R
            have ap2 : Apart (.slice A' n' c') (.slice (some ⟨g, o + 1, none⟩) (nw - 1) (cw - 1)) := fun j e e' => ap j e e'
            have hFw2 : ∀ j, (Value.slice (some ⟨g, o + 1, none⟩) (nw - 1) (cw - 1)).ownBlock = some j → ¬ ((Value.slice A4 n4 c4).ownBlock = some j) := fun j e e' => hFw j e e'
            go_wp2_with fail
            refine CDn.mono ?_; rintro e w1 ⟨rfl, M1, G1⟩
            have R3 := R2.fr G1 hFw2
            have F1 := giv_fr F ho (G1.mono (T := OwnM b (.slice A0 n0 c0) (.slice A1 n1 c1) x2 (.slice A' n' c') (.slice A4 n4 c4)) (fun j _ e => .inr (.inr (.inr (.inr (.inr e))))))
            clear b0 b1 b2 b3 b4 f0 f1 f2 f3 f4 hcy M F G1 CDn R2
            go_wp2_with fail
            go_roundg (muD ⟨H, c, n.set k (z - 1), rest⟩)
            case measure => rw [hgk.out]; exact hm2.out
            case rel => exact ⟨H, c, _, rest, _, _, _, A', n', c', rfl, R3, M1, ap2, J, hf2, rfl, by have := hm2.out; have := hgk.out; omega, ho, F1⟩

end Go.Proofs.Yteogflkahoanlaa
