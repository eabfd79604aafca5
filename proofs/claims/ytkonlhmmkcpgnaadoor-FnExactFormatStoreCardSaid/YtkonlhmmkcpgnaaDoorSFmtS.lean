/- FormatStore of spec. -/
import Derived.Test.YtkonlhmmkcpgnaaDoorFmtS
import Derived.Test.YtkonlhmmkcpgnaaDoorSFmt
namespace Go.Proofs.YtkonlhmmkcpgnaaDoor
open Go.RowKit

set_option maxRecDepth 100000 in
set_option maxHeartbeats 4000000 in
theorem specFmtS_any (w : World) (lo : Nat) (v : Value) (C : Cp) (hv : Cv w lo v C) :
    Calls Tryd.prog 12 #[v] w fun e w' => e = .returned (.string ⟨(fmtS C).toArray⟩) ∧ Below w.heap.size w w' := by
  have hvo := hv
  obtain ⟨A0, n0, c0, A1, n1, c1, A2, n2, c2, A3, n3, c3, rfl, hh, ⟨r0, r1, r2, r3⟩, ⟨l0, l1, l2, l3⟩, ⟨mm0, mm1, mm2, mm3⟩, _⟩ := hvo.open_
  have X0 := Blk4.new w (.slice A0 n0 c0) (.slice A1 n1 c1) (.slice A2 n2 c2) (.slice A3 n3 c3) 27
  have fin : Below w.heap.size w (w.alloc (.cells #[.slice A0 n0 c0, .slice A1 n1 c1, .slice A2 n2 c2, .slice A3 n3 c3] 27)) := (Below.refl _ _).alloc (Nat.le_refl _) _
  have VV := hv.alloc (.cells #[.slice A0 n0 c0, .slice A1 n1 c1, .slice A2 n2 c2, .slice A3 n3 c3] 27)
  have HH := hh.alloc (.cells #[.slice A0 n0 c0, .slice A1 n1 c1, .slice A2 n2 c2, .slice A3 n3 c3] 27)
  have S3 := r3.alloc (.cells #[.slice A0 n0 c0, .slice A1 n1 c1, .slice A2 n2 c2, .slice A3 n3 c3] 27)
  have V := specStoreValid_any _ _ _ _ VV
  clear hv hh r0 r1 r2 r3 VV
  rcases ev : stoB C
  · have hf : Hid (fmtS C = []) := by unfold Hid fmtS; rw [ev]; simp
    rw [ev] at V
    clear ev
    go_enter Tryd.func12, Tryd.ntmps12
    go_wp2_with fail
    refine V.mono ?_; rintro e w1 ⟨rfl, hb1⟩
    go_wp2_with fail
    go_ret
    exact ⟨by rw [hf.out]; rfl, fin.trans (hb1.mono fin.size)⟩
  · have e3 := l3.out
    have hf : Hid (fmtS C = fmtL C.h ++ [32, 102, 114, 101, 101] ++ freeT C.c n3) := by unfold Hid fmtS; rw [if_pos ev, e3]
    obtain ⟨hle, hrg⟩ := sto_range ev
    have HRG := Lib.hid hrg
    obtain ⟨hvh, _⟩ := stoB_parts ev
    have hl40 := fmtL_le hvh
    have FH := fun W h9 => specFmt_any W lo (.agg #[.slice A0 n0 c0, .slice A1 n1 c1, .slice A2 n2 c2]) C.h h9
    rw [ev] at V
    have hn3 : n3 ≤ 8 := by omega
    generalize fmtL C.h = ft at FH hf hl40
    clear ev hle hrg hvh
    go_enter Tryd.func12, Tryd.ntmps12
    go_wp2_with fail
    refine V.mono ?_; rintro e w1 ⟨rfl, hb1⟩
    have X1 := Blk4.below (by exact X0) hb1
    have H1 := Hv.below (by exact HH) hb1
    have F1 := Row.below (by exact S3) hb1
    have B1 := fin.trans (hb1.mono fin.size)
    obtain ⟨x0, x1, x2, x3, _⟩ := X1.cells
    clear V X0 HH S3 fin hb1
    go_wp2_with fail
    refine (FH _ H1).mono ?_; rintro e w2 ⟨rfl, hb2⟩
    have X2 := X1.below hb2
    have F2 := F1.below hb2
    have B2 := B1.trans (hb2.mono B1.size)
    obtain ⟨x0, x1, x2, x3, _⟩ := X2.cells
    have hA1 := add_lists ft [32, 102, 114, 101, 101] #[32, 102, 114, 101, 101] rfl (by simp; omega)
    have hE : ft ++ [32, 102, 114, 101, 101] ++ freeT C.c 0 = ft ++ [32, 102, 114, 101, 101] := by simp [freeT, rootsT]
    rw [← hE] at hA1
    generalize hs1 : ft ++ [32, 102, 114, 101, 101] ++ freeT C.c 0 = s1 at hA1
    have HS1 := Lib.hid hs1
    clear FH H1 X1 F1 hE hs1
    go_wp2_with fail
    go_loopw [3, 4] (fun s i wr => ∃ m : Nat, m ≤ n3 ∧ i = .int .i64 m ∧ s = .string ⟨(ft ++ [32, 102, 114, 101, 101] ++ freeT C.c m).toArray⟩ ∧ Blk4 wr w.heap.size (.slice A0 n0 c0) (.slice A1 n1 c1) (.slice A2 n2 c2) (.slice A3 n3 c3) 27 ∧ Row wr lo (.slice A3 n3 c3) C.c ∧ Below w.heap.size w wr) (fun _ i _ => n3 - (intOf i).toNat)
    case atStart => exact ⟨0, Nat.zero_le _, rfl, by rw [HS1.out], X2, F2, B2⟩
    case round =>
      clear X2 F2 B2 x0 x1 x2 x3
      obtain ⟨m, hm, rfl, rfl, X, F, hW⟩ := hrel
      have hrl := freeT_len C.c m
      obtain ⟨q0, q1, q2, q3, _⟩ := X.cells
      by_cases hlt : m < n3
      · obtain ⟨g2, x, rfl, _, hg2, hx, hcx, _⟩ := F.get (k := m) (by rw [e3]; exact hlt)
        obtain ⟨x1, x2⟩ := HRG.out x (List.mem_of_getElem? hx.out)
        have h9 : x ≤ 9 := by omega
        have HS := Lib.hid (freeT_succ hx.out)
        have hA1 := add_lists (ft ++ [32, 102, 114, 101, 101] ++ freeT C.c m) [32] #[32] rfl (by rw [List.length_append, List.length_append, hrl]; simp; omega)
        have hA2 := add_lists (ft ++ [32, 102, 114, 101, 101] ++ freeT C.c m ++ [32]) [ltr x] #[ltr x] rfl (by rw [List.length_append, List.length_append, List.length_append, hrl]; simp; omega)
        have e9 : (ft ++ [32, 102, 114, 101, 101] ++ freeT C.c m ++ [32] ++ [ltr x]) = ft ++ [32, 102, 114, 101, 101] ++ freeT C.c (m + 1) := by rw [HS.out]; simp
        rw [e9] at hA2
        generalize hs3 : ft ++ [32, 102, 114, 101, 101] ++ freeT C.c (m + 1) = s3 at hA2
        have HS3 := Lib.hid hs3
        generalize ft ++ [32, 102, 114, 101, 101] ++ freeT C.c m ++ [32] = s2 at hA1 hA2
        generalize hs0 : ft ++ [32, 102, 114, 101, 101] ++ freeT C.c m = s0 at hA1 ⊢
        clear hx hrl e9 hs3 hs0
        go_wp2_with fail
        refine (dec_any wr x x1 h9).mono ?_; rintro e wa ⟨rfl, ha⟩
        have XA := X.below ha
        have FA := F.below ha
        have BA := hW.trans (ha.mono hW.size)
        go_wp2_with fail
        go_roundw
        case rel => exact ⟨m + 1, by omega, by go_num, by rw [HS3.out], XA, FA, BA⟩
        case measure => simp [intOf]; omega
      · obtain rfl : m = n3 := by omega
        clear hrl
        go_wp2_with fail
        go_ret
        exact ⟨by rw [hf.out]; rfl, hW⟩
end Go.Proofs.YtkonlhmmkcpgnaaDoor
