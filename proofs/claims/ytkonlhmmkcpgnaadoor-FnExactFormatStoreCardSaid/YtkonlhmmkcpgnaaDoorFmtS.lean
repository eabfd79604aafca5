/- FormatStore of impl: the text of a store. -/
import Derived.Test.YtkonlhmmkcpgnaaDoorBldS
import Derived.Test.YtkonlhmmkcpgnaaDoorIStos
namespace Go.Proofs.YtkonlhmmkcpgnaaDoor
open Go.RowKit

theorem Blk4.farS {w w' : World} {B b : Nat} {x y z u : Value} {t : TypeId} (h : Blk4 w b x y z u t) (hb : Below B w w') (hB : b < B) : Blk4 w' b x y z u t := (hb.block b hB).trans h
/-- The text of the first k free cells. -/
def freeT (c : List Int) (k : Nat) : List UInt8 := rootsT ⟨[], [], c⟩ k
theorem freeT_succ {c : List Int} {k : Nat} {x : Int} (hx : c[k]? = some x) : freeT c (k + 1) = freeT c k ++ [32, ltr x] := rootsT_succ (h := ⟨[], [], c⟩) hx
theorem freeT_len (c : List Int) (k : Nat) : (freeT c k).length = 2 * k := rootsT_len _ _
/-- The text of a store. -/
def fmtS (C : Cp) : List UInt8 := if stoB C = true then fmtL C.h ++ [32, 102, 114, 101, 101] ++ freeT C.c C.c.length else []
theorem fmtL_le {h : Hp} (hv : hvB h = true) : (fmtL h).length ≤ 40 := by
  have h8 := hvB_len hv
  obtain ⟨⟨_, _⟩, _⟩ := hvB_parts hv
  unfold fmtL; rw [if_pos hv, fmtV_len]; omega
theorem sto_range {C : Cp} (h : stoB C = true) : C.c.length ≤ 8 ∧ ∀ x ∈ C.c, 0 ≤ x ∧ x ≤ 8 := by
  obtain ⟨hv, h1, hf, _⟩ := stoB_parts h
  have h8 := hvB_len hv
  refine ⟨by omega, fun x hx => ?_⟩
  have h9 := hf x hx
  simp only [freeB, decide_eq_true_eq] at h9
  omega

set_option maxRecDepth 100000 in
set_option maxHeartbeats 4000000 in
theorem implFmtS_any (w : World) (lo : Nat) (v : Value) (C : Cp) (hv : Cv w lo v C) :
    Calls Tryd.prog 10 #[v] w fun e w' => e = .returned (.string ⟨(fmtS C).toArray⟩) ∧ Below w.heap.size w w' := by
  have hvo := hv
  obtain ⟨A0, n0, c0, A1, n1, c1, A2, n2, c2, A3, n3, c3, rfl, hh, ⟨r0, r1, r2, r3⟩, ⟨l0, l1, l2, l3⟩, ⟨mm0, mm1, mm2, mm3⟩, _⟩ := hvo.open_
  have X0 := Blk4.new w (.slice A0 n0 c0) (.slice A1 n1 c1) (.slice A2 n2 c2) (.slice A3 n3 c3) 27
  have fin : Below w.heap.size w (w.alloc (.cells #[.slice A0 n0 c0, .slice A1 n1 c1, .slice A2 n2 c2, .slice A3 n3 c3] 27)) := (Below.refl _ _).alloc (Nat.le_refl _) _
  have VV := hv.alloc (.cells #[.slice A0 n0 c0, .slice A1 n1 c1, .slice A2 n2 c2, .slice A3 n3 c3] 27)
  have HH := hh.alloc (.cells #[.slice A0 n0 c0, .slice A1 n1 c1, .slice A2 n2 c2, .slice A3 n3 c3] 27)
  have S3 := r3.alloc (.cells #[.slice A0 n0 c0, .slice A1 n1 c1, .slice A2 n2 c2, .slice A3 n3 c3] 27)
  have V := implStoreValid_any _ _ _ _ VV
  clear hv hh r0 r1 r2 r3 VV
  rcases ev : stoB C
  · have hf : Hid (fmtS C = []) := by unfold Hid fmtS; rw [ev]; simp
    rw [ev] at V
    clear ev
    go_enter Tryd.func10, Tryd.ntmps10
    go_wp2_with fail
    refine V.mono ?_; rintro e w1 ⟨rfl, hb1⟩
    go_wp2_with fail
    go_ret
    exact ⟨by rw [hf.out]; rfl, fin.trans (hb1.mono fin.size)⟩
  · have e3 := l3.out
    have hf : Hid (fmtS C = fmtL C.h ++ [32, 102, 114, 101, 101] ++ freeT C.c n3) := by unfold Hid fmtS; rw [if_pos ev, e3]
    obtain ⟨hle, hrg⟩ := sto_range ev
    have HRG := Lib.hid hrg
    obtain ⟨hvh, _⟩ := stoB_parts ev
    have hl40 := fmtL_le hvh
    have FH := fun W h9 => implFmt_any W lo (.agg #[.slice A0 n0 c0, .slice A1 n1 c1, .slice A2 n2 c2]) C.h h9
    rw [ev] at V
    have hn3 : n3 ≤ 8 := by omega
    generalize fmtL C.h = ft at FH hf hl40
    clear ev hle hrg hvh
    go_enter Tryd.func10, Tryd.ntmps10
    go_wp2_with fail
    refine V.mono ?_; rintro e w1 ⟨rfl, hb1⟩
    have X1 := Blk4.below (by exact X0) hb1
    have H1 := Hv.below (by exact HH) hb1
    have F1 := Row.below (by exact S3) hb1
    have B1 := fin.trans (hb1.mono fin.size)
    have z1 : w.heap.size + 1 ≤ w1.heap.size := by have := hb1.size; simp at this; omega
    have hN : Bld w1.heap.size w1.heap.size [] (w1.alloc (.cells #[.pointer none, .slice none 0 0] 51)) := Lib.fresh_isBuilder _ _ w1
    have XA := X1.alloc (.cells #[.pointer none, .slice none 0 0] 51)
    have HA := H1.alloc (.cells #[.pointer none, .slice none 0 0] 51)
    have FA := F1.alloc (.cells #[.pointer none, .slice none 0 0] 51)
    have BA : Below w1.heap.size w1 (w1.alloc (.cells #[.pointer none, .slice none 0 0] 51)) := (Below.refl _ _).alloc (Nat.le_refl _) _
    have zA : (w1.alloc (.cells #[.pointer none, .slice none 0 0] 51)).heap.size = w1.heap.size + 1 := by simp
    obtain ⟨x0, x1, x2, x3, _⟩ := X1.cells
    have lX1 := X1.lt
    clear V X0 HH S3 fin hb1
    go_wp2_with fail
    generalize w1.alloc (.cells #[.pointer none, .slice none 0 0] 51) = W1 at hN XA HA FA BA zA ⊢
    refine (FH _ HA).mono ?_; rintro e w2 ⟨rfl, hb2⟩
    have X2 := XA.below hb2
    have F2 := FA.below hb2
    have N2 := bld_below hN hb2
    have C2 := BA.trans (hb2.mono BA.size)
    have WT := writeText_any _ _ [] ft _ rfl w2 N2 (by simp; omega) C2.size
    rw [List.nil_append] at WT
    obtain ⟨x0, x1, x2, x3, _⟩ := X2.cells
    clear FH HA XA FA hN BA hb2 X1 H1
    go_wp2_with fail
    refine WT.mono ?_; rintro e w3 ⟨rfl, N3, hb3⟩
    have C3 := C2.trans hb3
    have WU := writeText_any _ _ ft [32, 102, 114, 101, 101] ⟨#[32, 102, 114, 101, 101]⟩ rfl w3 N3 (by simp; omega) C3.size
    clear WT N2
    go_wp2_with fail
    refine WU.mono ?_; rintro e w4 ⟨rfl, N4, hb4⟩
    have C4 := C3.trans hb4
    have F4 := F1.below C4
    have X4 := (X2.farS hb3 (by omega)).farS hb4 (by omega)
    obtain ⟨x0, x1, x2, x3, _⟩ := X4.cells
    have hE : ft ++ [32, 102, 114, 101, 101] ++ freeT C.c 0 = ft ++ [32, 102, 114, 101, 101] := by simp [freeT, rootsT]
    rw [← hE] at N4
    clear hE WU N3 X2 F2
    go_wp2_with fail
    go_loopw [5, 17] (fun _ i wr => ∃ m : Nat, m ≤ n3 ∧ i = .int .i64 m ∧ Bld w1.heap.size w1.heap.size (Lib.byteCells (ft ++ [32, 102, 114, 101, 101] ++ freeT C.c m)) wr ∧ Below w1.heap.size w1 wr) (fun _ i _ => n3 - (intOf i).toNat)
    case atStart => exact ⟨0, Nat.zero_le _, rfl, N4, C4⟩
    case round =>
      clear N4
      obtain ⟨m, hm, rfl, HB, hW⟩ := hrel
      have hrl := freeT_len C.c m
      by_cases hlt : m < n3
      · obtain ⟨g0, x, rfl, _, hg0, hx, hcx, _⟩ := (F1.below hW).get (k := m) (by rw [e3]; exact hlt)
        obtain ⟨x1, x2⟩ := HRG.out x (List.mem_of_getElem? hx.out)
        have HS := Lib.hid (freeT_succ hx.out)
        have W1 := writeByte_any _ _ _ (32 : UInt8).toNat wr HB (by rw [Lib.byteCells_length, List.length_append, List.length_append, hrl]; simp; omega) hW.size
        rw [byteCells_snoc] at W1
        clear hx HB
        go_wp2_with fail
        refine W1.mono ?_; rintro e w5 ⟨rfl, HB5, hb5⟩
        have hW5 := hW.trans hb5
        have IT := itoa_any w5 x x1 x2
        have W2 := writeText_any _ _ (ft ++ [32, 102, 114, 101, 101] ++ freeT C.c m ++ [32]) [ltr x] ⟨#[ltr x]⟩ rfl w5 HB5 (by rw [List.length_append, List.length_append, List.length_append, hrl]; simp; omega) hW5.size
        have e9 : (ft ++ [32, 102, 114, 101, 101] ++ freeT C.c m ++ [32] ++ [ltr x]) = ft ++ [32, 102, 114, 101, 101] ++ freeT C.c (m + 1) := by rw [HS.out]; simp
        rw [e9] at W2
        clear HB5 W1 e9
        go_wp2_with fail
        refine IT.mono ?_; rintro e w6 ⟨rfl, rfl⟩
        go_wp2_with fail
        refine W2.mono ?_; rintro e w7 ⟨rfl, HB7, hb7⟩
        go_wp2_with fail
        go_roundw
        case rel => exact ⟨m + 1, by omega, by go_num, HB7, hW5.trans hb7⟩
        case measure => simp [intOf]; omega
      · obtain rfl : m = n3 := by omega
        rw [← hf.out] at HB
        have S := string_any _ _ _ wr HB hW.size
        clear HB hf
        go_wp2_with fail
        refine S.mono ?_; rintro e w8 ⟨rfl, hb8⟩
        go_wp2_with fail
        go_ret
        exact ⟨rfl, B1.trans ((hW.trans hb8).mono B1.size)⟩
end Go.Proofs.YtkonlhmmkcpgnaaDoor
