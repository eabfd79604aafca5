/- The law FnCopyStep, walked. -/
import Derived.Test.YtapkhgpifpgleaaDCStep
import Derived.Test.YtapkhgpifpgleaaMvI
import Derived.Test.YtapkhgpifpgleaaStepT
import Derived.Test.YtapkhgpifpgleaaCc
import Derived.Test.YtapkhgpifpgleaaLaws0
namespace Go.Proofs.Ytapkhgpifpgleaa
open Go.RowKit

theorem row_maxO {w : World} {lo n c : Nat} {A : Option Addr} {xs : List Int} (h : Row w lo (.slice A n c) xs) : xs.length ≤ 9223372036854775807 := by
  obtain ⟨A', c', _, h1, h2⟩ := h.form
  unfold maxLen at h2; omega
theorem ccInts_sameO (w : World) (lo lo' : Nat) (A A' : Option Addr) (c c' : Nat) (xs : List Int) (h : Row w lo (.slice A xs.length c) xs) (h' : Row w lo' (.slice A' xs.length c') xs) :
    Calls Try.prog 32 #[.slice A xs.length c, .slice A' xs.length c'] w (RetB w true) :=
  (ccInts_any w lo lo' A A' xs.length c xs.length c' xs xs h rfl (row_maxO h) h' rfl (row_maxO h')).mono fun _ _ ⟨he, nq, hw⟩ => ⟨by rw [he]; simp, by rw [hw]; exact below_drewN (Below.refl _ _) _⟩
theorem ccInts_rowsS (w : World) (lo lo' : Nat) (A A' : Option Addr) (n c c' : Nat) (xs : List Int) (hn : xs.length = n) (h : Row w lo (.slice A n c) xs) (h' : Row w lo' (.slice A' n c') xs) :
    Calls Try.prog 32 #[.slice A n c, .slice A' n c'] w (RetB w true) := by
  subst hn; exact ccInts_sameO w lo lo' A A' c c' xs h h'
theorem step_on {h : Hp} {s xs : List Int} {k : Nat} (hv : hvB h = true) (hp : s <+: xs) (hd : difB h.l.length xs = true) (hk : k < xs.length) : stepB h xs (k : Int) = true ∧ s <+: stepL h xs (k : Int) ∧ difB h.l.length (stepL h xs (k : Int)) = true := by
  have hb : stepB h xs (k : Int) = true := by
    unfold stepB; rw [hv, hd]; simp [plB]; omega
  have hg := List.getElem?_eq_getElem hk
  have hgd : gd xs (k : Int) = xs[k] := gdx_some hg
  obtain ⟨hr, hn⟩ := dif_rangeM hd
  have hc : plB (gd xs (k : Int)) h.l.length = true := by
    rw [hgd]; have := hr _ (List.getElem_mem hk); simp [plB]; omega
  have hall : xs.all (plB · h.l.length) = true := by
    rw [List.all_eq_true]; intro x hx; have := hr x hx; simp [plB]; omega
  have hs : stepL h xs (k : Int) = meets xs (kid2 h (gd xs (k : Int))) := by unfold stepL; rw [if_pos hb]
  refine ⟨hb, ?_, ?_⟩
  · rw [hs]; exact hp.trans (meets_pre _ _)
  · rw [hs]
    unfold difB; rw [decide_eq_true_eq]
    have h9 := meets_cells hall (kid2_pt hv hc)
    rw [List.all_eq_true] at h9
    exact ⟨fun x hx => by have := h9 x hx; simpa [plB] using this, meets_nodup hn _⟩
theorem step_open {h : Hp} {s : List Int} {i : Int} (e : stepB h s i = true) : difB h.l.length s = true ∧ ∃ a : Nat, i = a ∧ a < s.length := by
  unfold stepB at e
  simp only [Bool.and_eq_true] at e
  exact ⟨e.1.2, plB_nat e.2⟩
set_option maxRecDepth 100000 in
set_option maxHeartbeats 4000000 in
theorem lawCopyStep_walk (w : World) (A : Option Addr) (n c : Nat) (h : Inp w A n c) :
    Calls Try.prog 9 #[.slice A n c] w (LawTrue w) := by
  by_cases hbig : 1048576 < n
  · go_enter Try.func9, Try.ntmps9
    go_wp2_with fail
    go_ret
    exact ⟨rfl, Below.refl _ _⟩
  go_enter Try.func9, Try.ntmps9
  go_wp2_with fail
  refine (drawCopyStep_any _ _ _ _ h).mono ?_; rintro e w1 ⟨v, hp, AS, ns, cs, s, i, rfl, HA, hva, hls, hn9, RS, hxb, hb1⟩
  have BW1 : Below w.heap.size w w1 := (Below.refl w.heap.size w).trans (hb1.mono (Below.refl w.heap.size w).size)
  have zz1 := hb1.size
  have C := fun W lo lo' v (hW : Hv W lo v hp) A c (hr : Row W lo' (.slice A ns c) s) => implStep_any W lo lo' v hp hW A ns c s hr hls (by omega) i
  have D := fun W lo lo' v (hW : Hv W lo v hp) A c (hr : Row W lo' (.slice A ns c) s) => specStep_any W lo lo' v hp hW A ns c s hr hls (by omega) i
  have HAo := HA
  obtain ⟨A0, n0, c0, A1, n1, c1, A2, n2, c2, rfl, ⟨r0, r1, r2⟩, ⟨l0, l1, l2⟩, _⟩ := HAo.open_
  rcases eb : stepB hp s i
  · have hxs : stepL hp s i = [] := by unfold stepL; rw [eb]; simp
    rw [eb, hxs] at C D
    clear eb hxs r0 r1 r2 hxb
    go_wp2_with fail
    refine (C _ _ _ _ (HA.alloc (.cells #[.slice A0 n0 c0, .slice A1 n1 c1, .slice A2 n2 c2] 27)) _ _ (RS.alloc (.cells #[.slice A0 n0 c0, .slice A1 n1 c1, .slice A2 n2 c2] 27))).mono ?_; rintro e w2 ⟨AR2, kR2, rfl, R2, hb2⟩
    have BW2 : Below w.heap.size w w2 := (BW1.alloc BW1.size (.cells #[.slice A0 n0 c0, .slice A1 n1 c1, .slice A2 n2 c2] 27)).trans (hb2.mono (BW1.alloc BW1.size (.cells #[.slice A0 n0 c0, .slice A1 n1 c1, .slice A2 n2 c2] 27)).size)
    have zz2 := hb2.size
    have HA_2 := Hv.below (by exact (HA.alloc (.cells #[.slice A0 n0 c0, .slice A1 n1 c1, .slice A2 n2 c2] 27))) hb2
    have RS_2 := Row.below (by exact (RS.alloc (.cells #[.slice A0 n0 c0, .slice A1 n1 c1, .slice A2 n2 c2] 27))) hb2
    have X_2 := Blk3.below (by exact (Blk3.new w1 (.slice A0 n0 c0) (.slice A1 n1 c1) (.slice A2 n2 c2) 27)) hb2
    obtain ⟨cX_2_0, cX_2_1, cX_2_2, _⟩ := X_2.cells
    have lX_2 := X_2.lt
    go_wp2_with fail
    refine (D _ _ _ _ HA_2 _ _ RS_2).mono ?_; rintro e w3 ⟨AR3, kR3, rfl, R3, hb3⟩
    have BW3 : Below w.heap.size w w3 := BW2.trans (hb3.mono BW2.size)
    have zz3 := hb3.size
    have HA_3 := Hv.below (by exact HA_2) hb3
    have RS_3 := Row.below (by exact RS_2) hb3
    have X_3 := Blk3.below (by exact X_2) hb3
    obtain ⟨cX_3_0, cX_3_1, cX_3_2, _⟩ := X_3.cells
    have lX_3 := X_3.lt
    have R2_3 := Row.below (by exact R2) hb3
    go_wp2_with fail
    refine (ccInts_sameO _ _ _ _ _ _ _ [] R2_3 R3).mono ?_; rintro e w4 ⟨rfl, hb4⟩
    have BW4 : Below w.heap.size w w4 := BW3.trans (hb4.mono BW3.size)
    have zz4 := hb4.size
    have HA_4 := Hv.below (by exact HA_3) hb4
    have RS_4 := Row.below (by exact RS_3) hb4
    have X_4 := Blk3.below (by exact X_3) hb4
    obtain ⟨cX_4_0, cX_4_1, cX_4_2, _⟩ := X_4.cells
    have lX_4 := X_4.lt
    have R2_4 := Row.below (by exact R2_3) hb4
    have R3_4 := Row.below (by exact R3) hb4
    go_wp2_with fail
    refine (ccInts_sameO _ _ _ _ _ _ _ [] R2_4 R3_4).mono ?_; rintro e w5 ⟨rfl, hb5⟩
    have BW5 : Below w.heap.size w w5 := BW4.trans (hb5.mono BW4.size)
    have zz5 := hb5.size
    have HA_5 := Hv.below (by exact HA_4) hb5
    have RS_5 := Row.below (by exact RS_4) hb5
    have X_5 := Blk3.below (by exact X_4) hb5
    obtain ⟨cX_5_0, cX_5_1, cX_5_2, _⟩ := X_5.cells
    have lX_5 := X_5.lt
    have R2_5 := Row.below (by exact R2_4) hb5
    have R3_5 := Row.below (by exact R3_4) hb5
    go_wp2_with fail
    go_ret
    exact ⟨rfl, BW5⟩
  · obtain ⟨hd, a, rfl, ha⟩ := step_open eb
    have h8 := hvB_len hva
    have hF := step_on hva (List.prefix_refl s) hd ha
    rw [eb] at C D
    have F0 := fun xs (k : Nat) (h1 : s <+: xs) (h2 : difB hp.l.length xs = true) (h3 : k < xs.length) => step_on hva h1 h2 h3
    have G0 := fun xs (h2 : difB hp.l.length xs = true) => dif_len h2
    have ST := fun W lo lo' v (hW : Hv W lo v hp) A n c xs (hr : Row W lo' (.slice A n c) xs) (hl : Hid (xs.length = n)) (hm : n ≤ 9223372036854775807) (k : Int) => implStep_any W lo lo' v hp hW A n c xs hr hl hm k
    have hl0 := l0.out
    have hsn := hls.out
    rw [hl0] at F0 G0 hF h8
    have HF := Lib.hid F0
    have HG := Lib.hid G0
    generalize stepL hp s (a : Int) = xs at C D hF
    have hP : Hid (s <+: xs ∧ difB n0 xs = true) := ⟨hF.2.1, hF.2.2⟩
    have gx := G0 xs hF.2.2
    have han : a < ns := by omega
    have hpl := hF.2.1.length_le
    obtain ⟨nx, hnx⟩ : ∃ nx, nx = xs.length := ⟨_, rfl⟩
    unfold RetRB at C D
    rw [← hnx] at C D gx hpl
    have HXL : Hid (xs.length = nx) := hnx.symm
    have hax : a ≤ nx := by omega
    have n8 : n0 ≤ 8 := by omega
    clear F0 G0 hF hnx hl0 hpl hsn ha hd eb r0 r1 r2 hxb hva h8
    go_wp2_with fail
    refine (C _ _ _ _ (HA.alloc (.cells #[.slice A0 n0 c0, .slice A1 n1 c1, .slice A2 n2 c2] 27)) _ _ (RS.alloc (.cells #[.slice A0 n0 c0, .slice A1 n1 c1, .slice A2 n2 c2] 27))).mono ?_; rintro e w2 ⟨AR2, kR2, rfl, R2, hb2⟩
    have BW2 : Below w.heap.size w w2 := (BW1.alloc BW1.size (.cells #[.slice A0 n0 c0, .slice A1 n1 c1, .slice A2 n2 c2] 27)).trans (hb2.mono (BW1.alloc BW1.size (.cells #[.slice A0 n0 c0, .slice A1 n1 c1, .slice A2 n2 c2] 27)).size)
    have zz2 := hb2.size
    have HA_2 := Hv.below (by exact (HA.alloc (.cells #[.slice A0 n0 c0, .slice A1 n1 c1, .slice A2 n2 c2] 27))) hb2
    have RS_2 := Row.below (by exact (RS.alloc (.cells #[.slice A0 n0 c0, .slice A1 n1 c1, .slice A2 n2 c2] 27))) hb2
    have X_2 := Blk3.below (by exact (Blk3.new w1 (.slice A0 n0 c0) (.slice A1 n1 c1) (.slice A2 n2 c2) 27)) hb2
    obtain ⟨cX_2_0, cX_2_1, cX_2_2, _⟩ := X_2.cells
    have lX_2 := X_2.lt
    go_wp2_with fail
    refine (D _ _ _ _ HA_2 _ _ RS_2).mono ?_; rintro e w3 ⟨AR3, kR3, rfl, R3, hb3⟩
    have BW3 : Below w.heap.size w w3 := BW2.trans (hb3.mono BW2.size)
    have zz3 := hb3.size
    have HA_3 := Hv.below (by exact HA_2) hb3
    have RS_3 := Row.below (by exact RS_2) hb3
    have X_3 := Blk3.below (by exact X_2) hb3
    obtain ⟨cX_3_0, cX_3_1, cX_3_2, _⟩ := X_3.cells
    have lX_3 := X_3.lt
    have R2_3 := Row.below (by exact R2) hb3
    go_wp2_with fail
    refine (ccInts_rowsS _ _ _ _ _ _ _ _ _ HXL.out R2_3 R3).mono ?_; rintro e w4 ⟨rfl, hb4⟩
    have BW4 : Below w.heap.size w w4 := BW3.trans (hb4.mono BW3.size)
    have zz4 := hb4.size
    have HA_4 := Hv.below (by exact HA_3) hb4
    have RS_4 := Row.below (by exact RS_3) hb4
    have X_4 := Blk3.below (by exact X_3) hb4
    obtain ⟨cX_4_0, cX_4_1, cX_4_2, _⟩ := X_4.cells
    have lX_4 := X_4.lt
    have R2_4 := Row.below (by exact R2_3) hb4
    have R3_4 := Row.below (by exact R3) hb4
    go_wp2_with fail
    go_loopw [6, 10] (fun v i wr => ∃ (k nx : Nat) (A' : Option Addr) (c' : Nat) (xs : List Int), v = .slice A' nx c' ∧ i = .int .i64 k ∧ k ≤ nx ∧ nx ≤ n0 ∧ Hid (xs.length = nx) ∧ Hid (s <+: xs ∧ difB n0 xs = true) ∧ Row wr 0 (.slice A' nx c') xs ∧ Below w4.heap.size w4 wr) (fun _ i _ => n0 - (intOf i).toNat)
    case atStart => exact ⟨a, nx, _, _, xs, rfl, rfl, hax, gx, HXL, hP, Row.mono (by exact R2_4) (Nat.zero_le _), Below.refl _ _⟩
    case round =>
      clear hP gx HXL hax
      obtain ⟨k, nx, A', c', xs, rfl, rfl, hk, hnx, hxl, hpp, hrow, hbr⟩ := hrel
      have BR := BW4.trans (hbr.mono BW4.size)
      have HAr := Hv.below (by exact HA_4) hbr
      have Xr := Blk3.below (by exact X_4) hbr
      obtain ⟨p0, p1, p2, _⟩ := Xr.cells
      have lXr := Xr.lt
      by_cases hlt : k < nx
      · obtain ⟨f1, f2, f3⟩ := HF.out xs k hpp.out.1 hpp.out.2 (by rw [hxl.out]; exact hlt)
        have g9 := HG.out _ f3
        have S := ST _ _ _ _ HAr A' nx c' xs hrow hxl (by omega) (k : Int)
        rw [f1] at S
        have g10 := f2.length_le
        have g11 : nx ≤ (stepL hp xs (k : Int)).length := by
          unfold stepL; rw [if_pos f1, ← hxl.out]; exact (meets_pre _ _).length_le
        have hq9 : Hid (s <+: stepL hp xs (k : Int) ∧ difB n0 (stepL hp xs (k : Int)) = true) := ⟨f2, f3⟩
        generalize stepL hp xs (k : Int) = ys at S g9 g10 g11 hq9
        obtain ⟨ny, hny⟩ : ∃ ny, ny = ys.length := ⟨_, rfl⟩
        unfold RetRB at S
        rw [← hny] at S g9 g10 g11
        have hyl : Hid (ys.length = ny) := hny.symm
        clear f1 f2 f3 hny hpp hxl hrow
        go_wp2_with fail
        refine S.mono ?_; rintro e w9 ⟨A9, c9, rfl, R9, hb9⟩
        clear S
        go_wp2_with fail
        go_roundw
        case rel => exact ⟨k + 1, ny, A9, c9, ys, rfl, by go_num, by omega, g9, hyl, hq9, R9.mono (Nat.zero_le _), hbr.trans (hb9.mono hbr.size)⟩
        case measure => simp [intOf]; omega
      · obtain rfl : nx = k := by omega
        have hge0 : ns ≤ nx := by have h9 := hpp.out.1.length_le; have h8 := hls.out; have h7 := hxl.out; omega
        have hge : (ns : Int) ≤ (nx : Int) := by omega
        have hle : (nx : Int) ≤ (n0 : Int) := by omega
        obtain ⟨gx, rfl, _, _⟩ := hrow.at_ (k := 0) (by rw [hxl.out]; omega)
        have RC := hrow.cut (k := ns) (by rw [hxl.out]; exact hge0)
        have ht : xs.take ns = s := by rw [← hls.out]; exact (List.prefix_iff_eq_take.1 hpp.out.1).symm
        rw [ht] at RC
        have hcap : nx ≤ c' := by obtain ⟨_, _, e9, _, h9⟩ := hrow.form; cases e9; omega
        have RSr := Row.below (by exact RS_4) hbr
        have Q := ccInts_rowsS _ _ _ _ _ _ _ _ _ hls.out RC RSr
        clear ht RC hrow hpp
        go_wp2_with fail
        refine Q.mono ?_; rintro e w10 ⟨rfl, hb10⟩
        have X10 := Xr.below hb10
        obtain ⟨q0, q1, q2, _⟩ := X10.cells
        clear p0 p1 p2
        go_wp2_with fail
        go_ret
        exact ⟨ret_bool (by simp), BR.trans (hb10.mono BR.size)⟩
end Go.Proofs.Ytapkhgpifpgleaa
