/- shade, slices.Index, markFirstGray of impl. -/
import Derived.Test.YtdealoclkajliaaICols
import Derived.Test.YtdealoclkajliaaSStep
import Derived.Test.YtdealoclkajliaaBlk3
import Derived.Test.YtdealoclkajliaaSlIx
namespace Go.Proofs.Ytdealoclkajliaa
open Go.RowKit

theorem set_self {c : List Int} {k : Nat} {x : Int} (h : c[k]? = some x) : c.set k x = c := by
  apply List.ext_getElem?
  intro i
  rw [List.getElem?_set]
  split
  · rename_i e; subst e
    obtain ⟨hl, he⟩ := List.getElem?_eq_some_iff.1 h
    rw [if_pos hl, h]
  · rfl

set_option maxHeartbeats 1000000 in
theorem implShade_any (w : World) (lo g n c : Nat) (xs : List Int) (h : Row w lo (.slice (some ⟨g, 0, none⟩) n c) xs) (hn : xs.length = n) (hv : ∀ x ∈ xs, 0 ≤ x ∧ x ≤ 2) (k : Int) (h1 : -1 ≤ k) (h2 : k < n) :
    Calls Try.prog 67 #[.slice (some ⟨g, 0, none⟩) n c, .int .i64 k] w fun e w' => e = .returned (.tuple #[]) ∧ Row w' lo (.slice (some ⟨g, 0, none⟩) n c) (shade xs k) ∧ OnlyB g w w' := by
  by_cases hk : k = -1
  · subst hk
    go_enter Try.func67, Try.ntmps67
    go_wp2_with fail
    go_end0
    exact ⟨rfl, by rw [shade_none]; exact h, World.grownBy.refl w _, rfl⟩
  · obtain ⟨j, rfl⟩ := Int.eq_ofNat_of_zero_le (by omega : 0 ≤ k)
    obtain ⟨g', x, e, _, _, hx, hc, hf⟩ := h.get (k := j) (by omega)
    cases e
    have hk2 : ((j : Int) == -1) = false := by simp
    have hk3 : ((j : Int) != -1) = true := by simp
    have hb := hv x (List.mem_of_getElem? hx.out)
    have hcb : colB x = true := by simp [colB, hb]
    have H := shaded_any x
    rw [hcb] at H
    have R := h.set_ j (shV x)
    have hs : Hid (xs.set j (shV x) = shade xs j) := by
      unfold Hid
      by_cases hx0 : x = 0
      · subst hx0; rw [shade_white hx.out]; rfl
      · have : shV x = x := by unfold shV; rw [if_neg hx0, if_pos (by omega)]
        rw [this, shade_other hx.out hx0]; exact set_self hx.out
    have gr : OnlyB g w (w.setCell ⟨g, j, none⟩ (.int .i64 (shV x))) := ⟨⟨rfl, rfl, rfl, by simp [World.setCell], fun b _ hne => Below.heap_setCell _ _ _ _ (fun e => hne (by rw [e]))⟩, by simp [World.setCell]⟩
    generalize shV x = y at *
    rw [hs.out] at R
    clear hx hb hcb hv hs
    go_enter Try.func67, Try.ntmps67
    go_wp2_with (go_at_call 74; refine (H _).mono ?_; rintro e w' ⟨rfl, rfl⟩)
    go_end0
    exact ⟨rfl, R, gr⟩

theorem stepC_none {C : Cp} (h : firstOf C.c 1 = -1) : stepC C = C ∧ movesB C = false := by
  unfold stepC movesB; rw [if_pos h]; simp [h]
theorem stepC_some {C : Cp} {k : Nat} (h : firstOf C.c 1 = k) : stepC C = ⟨C.h, blackC C.h C.c k⟩ ∧ movesB C = true := by
  unfold stepC movesB; rw [if_neg (by omega), h]; simp

set_option maxRecDepth 100000 in
set_option maxHeartbeats 2000000 in
theorem markFirstGray_any (w : World) (lo : Nat) (A0 A1 A2 : Option Addr) (n0 c0 n1 c1 n2 c2 g n3 c3 : Nat) (C : Cp) (hv : Cv w lo (.agg #[.slice A0 n0 c0, .slice A1 n1 c1, .slice A2 n2 c2, .slice (some ⟨g, 0, none⟩) n3 c3]) C) (hC : cvB C = true) :
    Calls Try.prog 102 #[.agg #[.slice A0 n0 c0, .slice A1 n1 c1, .slice A2 n2 c2], .slice (some ⟨g, 0, none⟩) n3 c3] w fun e w' =>
      e = .returned (.bool (movesB C)) ∧
      Cv w' lo (.agg #[.slice A0 n0 c0, .slice A1 n1 c1, .slice A2 n2 c2, .slice (some ⟨g, 0, none⟩) n3 c3]) (stepC C) ∧ w.grownBy w' (some g) := by
  have hvo := hv
  obtain ⟨_, _, _, _, _, _, _, _, _, _, _, _, ev, hh, ⟨r0, r1, r2, r3⟩, ⟨l0, l1, l2, l3⟩, ⟨_, _, _, m3⟩, ⟨a01, a02, a12⟩, ⟨a03, a13, a23⟩⟩ := hvo.open_
  cases ev
  obtain ⟨hvh, hlen, hcol⟩ := cvB_parts hC
  obtain ⟨⟨hrl, _⟩, pl, pr, _⟩ := hvB_parts hvh
  have hvl := hvB_len hvh
  have lC := l3.out
  have lL := l0.out
  have lR := l1.out
  have P := Blk3.new w (.slice A0 n0 c0) (.slice A1 n1 c1) (.slice A2 n2 c2) 32
  have VV := hv.alloc (.cells #[.slice A0 n0 c0, .slice A1 n1 c1, .slice A2 n2 c2] 32)
  have S0 := r0.alloc (.cells #[.slice A0 n0 c0, .slice A1 n1 c1, .slice A2 n2 c2] 32)
  have S1 := r1.alloc (.cells #[.slice A0 n0 c0, .slice A1 n1 c1, .slice A2 n2 c2] 32)
  have S2 := r2.alloc (.cells #[.slice A0 n0 c0, .slice A1 n1 c1, .slice A2 n2 c2] 32)
  have S3 := r3.alloc (.cells #[.slice A0 n0 c0, .slice A1 n1 c1, .slice A2 n2 c2] 32)
  have G0 : w.grownBy (w.alloc (.cells #[.slice A0 n0 c0, .slice A1 n1 c1, .slice A2 n2 c2] 32)) (some g) := ⟨rfl, rfl, rfl, by simp, fun j hj _ => ((Below.refl w.heap.size w).alloc (Nat.le_refl _) _).block j hj⟩
  have gw := (r3.lt g rfl).2
  generalize hbv : w.heap.size = b at *
  have nb : b ≠ g := by omega
  have I := slicesIndex_any _ _ _ _ _ _ S3 lC m3 1
  go_enter Try.func102, Try.ntmps102
  go_wp2_with fail
  generalize w.alloc (.cells #[.slice A0 n0 c0, .slice A1 n1 c1, .slice A2 n2 c2] 32) = W at P VV S0 S1 S2 S3 G0 I ⊢
  rcases first_cases C.c 1 with e1 | ⟨k, e1, hk, hkc⟩
  · obtain ⟨s1, s2⟩ := stepC_none e1
    have hs := Lib.hid s2
    rw [e1] at I
    rw [← s1] at VV
    clear e1 s1 s2
    refine I.mono ?_; rintro e w' ⟨rfl, rfl⟩
    go_wp2_with fail
    go_ret
    exact ⟨ret_bool hs.out.symm, VV, G0⟩
  · obtain ⟨s1, s2⟩ := stepC_some e1
    have hs := Lib.hid s2
    have hst := Lib.hid s1
    rw [e1] at I
    clear e1 s1 s2
    obtain ⟨g0, x, rfl, _, hg0, hx, hcx, _⟩ := S0.get (k := k) (by omega)
    obtain ⟨g1, y, rfl, _, hg1, hy, hcy, _⟩ := S1.get (k := k) (by omega)
    have bx : -1 ≤ x ∧ x < n3 := by
      rw [List.all_eq_true] at pl; have := pl x (List.mem_of_getElem? hx.out); simp only [ptB, decide_eq_true_eq] at this; omega
    have bY : -1 ≤ y ∧ y < n3 := by
      rw [List.all_eq_true] at pr; have := pr y (List.mem_of_getElem? hy.out); simp only [ptB, decide_eq_true_eq] at this; omega
    have n03 : g0 ≠ g := fun e => a03 g0 rfl (by rw [e]; rfl)
    have n13 : g1 ≠ g := fun e => a13 g1 rfl (by rw [e]; rfl)
    have hB : Hid (blackC C.h C.c k = (shade (shade C.c x) y).set k 2) := by
      unfold Hid blackC
      rw [show C.h.l.getD k 0 = x by simp [List.getD, hx.out], show C.h.r.getD k 0 = y by simp [List.getD, hy.out]]
    have hkn : (k : Int) < (n3 : Int) := by omega
    have hkn0 : (k : Int) < (n0 : Int) := by omega
    have hkn1 : (k : Int) < (n1 : Int) := by omega
    have L1 : (shade C.c x).length = n3 := by rw [shade_len]; exact lC
    have L2 : (shade (shade C.c x) y).length = n3 := by rw [shade_len]; exact L1
    have hcol2 := shade_valid x hcol
    have T := implShade_any W lo g n3 c3 _ S3 lC hcol x bx.1 bx.2
    have own0 : (Value.slice (some ⟨g0, 0, none⟩) n0 c0).ownBlock ≠ some g := fun e => n03 (Option.some.inj e)
    have own1 : (Value.slice (some ⟨g1, 0, none⟩) n1 c1).ownBlock ≠ some g := fun e => n13 (Option.some.inj e)
    have own2 : (Value.slice A2 n2 c2).ownBlock ≠ some g := fun e => a23 g e rfl
    obtain ⟨x0, x1, x2, _⟩ := P.cells
    clear hx hy pl pr hvh hC hv hh r0 r1 r2 r3 VV hkc hlen hvl
    refine I.mono ?_; rintro e w' ⟨rfl, rfl⟩
    go_wp2_with fail
    refine T.mono ?_; rintro e w1 ⟨rfl, R1, O1⟩
    have P1 := Blk3.kept (by exact P) O1.1 nb
    have K0 := onlyB_row S0 O1 own0
    have K1 := onlyB_row S1 O1 own1
    have K2 := onlyB_row S2 O1 own2
    have hcy1 := O1.1.cell hcy (fun e => n13 (Option.some.inj e))
    have G1 := trans_grown G0 O1.1
    obtain ⟨p0, p1, p2, _⟩ := P1.cells
    have T2 := implShade_any w1 lo g n3 c3 _ R1 L1 hcol2 y bY.1 bY.2
    clear T I S0 S1 S2 S3 P G0 O1 x0 x1 x2
    go_wp2_with fail
    refine T2.mono ?_; rintro e w2 ⟨rfl, R2, O2⟩
    have J0 := (onlyB_row K0 O2 own0).other (a := ⟨g, k, none⟩) own0 (.int .i64 2)
    have J1 := (onlyB_row K1 O2 own1).other (a := ⟨g, k, none⟩) own1 (.int .i64 2)
    have J2 := (onlyB_row K2 O2 own2).other (a := ⟨g, k, none⟩) own2 (.int .i64 2)
    have G2 := grown_setNew (trans_grown G1 O2.1) (p := ⟨g, k, none⟩) (.inl rfl) (.int .i64 2)
    obtain ⟨_, zz, e', _, _, _, hcz3, hfz3⟩ := R2.get (k := k) (by omega)
    cases e'
    have R3 := R2.set_ k 2
    rw [← hB.out] at R3
    clear K0 K1 K2 G1 O2 P1 T2 R1 R2
    go_wp2_with fail
    go_ret
    exact ⟨ret_bool hs.out.symm, by rw [hst.out]; exact ⟨_, _, _, _, rfl, ⟨_, _, _, rfl, J0, J1, J2, a01, a02, a12⟩, R3, a03, a13, a23⟩, G2⟩
end Go.Proofs.Ytdealoclkajliaa
