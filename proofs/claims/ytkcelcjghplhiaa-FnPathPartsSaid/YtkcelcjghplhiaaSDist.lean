/- spec.l2Distances: the search by a queue. -/
import Derived.Test.YtkcelcjghplhiaaQinv
import Derived.Test.YtkcelcjghplhiaaPut
import Derived.Test.YtkcelcjghplhiaaCopy2
import Derived.Deep.LoopGhost
import Derived.Deep.CutRange
import Derived.Deep.RegionLaw
import Derived.Test.YtkcelcjghplhiaaPure
import Derived.Test.YtkcelcjghplhiaaExactH
import Derived.Test.YtkcelcjghplhiaaWrong
namespace Go.Proofs.Ytkcelcjghplhiaa
open Go.RowKit

theorem Below.set_any {w : World} {B : Nat} {p : Addr} (hp : B ≤ p.block) (v : Value) : Below B w (w.setCell p v) := (Below.refl _ _).setCell hp v
theorem Below.set_only {w : World} {p q : Addr} (hp : q.block ≠ p.block) (v : Value) : (w.setCell p v).cell? q = w.cell? q := World.cell?_setCell_far _ _ _ _ (by exact hp.symm)
theorem gd_of_get {D : List Int} {k : Nat} {u : Int} (h : D[k]? = some u) : gd D (k : Int) = u := gd_nat h
theorem mk_hit {d x : Int} {s : List Int × List Int} (h : ¬ (x ≠ -1 ∧ gd s.1 x < 0)) : mark d s x = s := by unfold mark; rw [if_neg h]
theorem mk_new {d x : Int} {s : List Int × List Int} (h1 : x ≠ -1) (h2 : gd s.1 x < 0) : mark d s x = (s.1.set x.toNat d, s.2 ++ [x]) := by unfold mark; rw [if_pos ⟨h1, h2⟩]
/-- The two rows of the search lie apart: the distances in block go, the queue from block lq on. -/
def Rows2 (wr : World) (lo lq go n0 co : Nat) (v : Value) (D q : List Int) : Prop :=
  Row wr lo (.slice (some ⟨go, 0, none⟩) n0 co) D ∧ Row wr lq v q

set_option maxRecDepth 100000 in
set_option maxHeartbeats 4000000 in
theorem l2Distances_any (w : World) (lo : Nat) (v : Value) (h : Hp) (hv : Hv w lo v h) (hva : hvB h = true) (SA : Option Addr) (sn sc : Nat) (starts : List Int) (ls : Nat) (hs : Row w ls (.slice SA sn sc) starts) (hsn : starts.length = sn) (hsm : sn ≤ 9223372036854775806) (hst : starts.all (ptB · h.l.length) = true) :
    Calls Try.prog 29 #[v, .slice SA sn sc] w (NewRow w (dist h starts)) := by
  obtain ⟨i0, hi, hz0, hz1, hz2⟩ := info_parts Try.infoInt
  obtain ⟨A0, n0, c0, A1, n1, c1, A2, n2, c2, rfl, ⟨h0, h1, h2⟩, ⟨l0, l1, l2⟩, _⟩ := hv.open_
  have hl := hvB_len hva
  obtain ⟨⟨hrl, _⟩, hp0, hp1, _⟩ := hvB_parts hva
  have u0 : n0 ≤ 8 ∧ 0 < n0 ∧ Hid (n1 = n0) := by have := l0.out; have := l1.out; exact ⟨by omega, by omega, by unfold Hid; omega⟩
  obtain ⟨u0a, u0c, u0b⟩ := u0
  obtain ⟨fin, hfin⟩ : ∃ fin, Hid (dist h starts = fin) := ⟨_, rfl⟩
  have hst' : Hid (starts.all (ptB · n0) = true) := by unfold Hid; rw [← l0.out]; exact hst
  have HP0 : Hid (h.l.all (ptB · n0) = true) := by unfold Hid; rw [← l0.out]; exact hp0
  have HP1 : Hid (h.r.all (ptB · n0) = true) := by unfold Hid; rw [← l0.out]; exact hp1
  have HRL : Hid (h.r.length = n0) := by unfold Hid; rw [hrl]; exact l0.out
  have HSN := Lib.hid hsn
  clear hst hp0 hp1 hl hsn hrl
  rw [hfin.out]
  have X0 := Blk3.new w (.slice A0 n0 c0) (.slice A1 n1 c1) (.slice A2 n2 c2) 25
  have M := l1Many_any (w.alloc (.cells #[.slice A0 n0 c0, .slice A1 n1 c1, .slice A2 n2 c2] 25)) n0 (by omega)
  go_enter Try.func29, Try.ntmps29
  go_wp2_with fail
  refine M.mono ?_; rintro e w1 ⟨Ao, co, rfl, hr1, hb1⟩
  rw [List.length_replicate] at hr1 ⊢
  obtain ⟨go, rfl, hgo1, hgo2, _⟩ := hr1.at_ (k := 0) (by simpa using u0c)
  simp at hgo1
  have z1 : w.heap.size + 1 ≤ w1.heap.size := by have := hb1.size; simp at this; omega
  have B1 : Below w.heap.size w w1 := ((Below.refl _ _).alloc (Nat.le_refl _) _).trans (hb1.mono (by simp))
  have X1 := (Blk3.below (by exact X0) hb1).alloc (.cells #[] 3)
  have O1 := (hr1.mono (lo' := w.heap.size + 1) (by simp)).alloc (.cells #[] 3)
  have Q1 : Row (w1.alloc (.cells #[] 3)) w1.heap.size (.slice (some ⟨w1.heap.size, 0, none⟩) 0 0) [] := Row.of_own (World.ownsRow_lit w1 #[] 0 (Nat.le_refl _) (by unfold maxLen; omega) rfl) rfl rfl
  have B1' := B1.alloc B1.size (.cells #[] 3)
  clear X0 M hr1
  go_wp2_with fail
  go_loopg [6, 7] sn (fun g q i wr => ∃ (k : Nat) (A : Option Addr) (cc : Nat) (s : List Int × List Int), Hid (g + k = sn) ∧ i = .int .i64 k ∧ Hid (s = marks 1 (List.replicate n0 (-1), []) (starts.take k)) ∧ q = .slice A s.2.length cc ∧
    Row wr w1.heap.size (.slice A s.2.length cc) s.2 ∧ Row wr (w.heap.size + 1) (.slice (some ⟨go, 0, none⟩) n0 co) s.1 ∧ Hid (s.1.length = n0 ∧ negs s.1 + s.2.length = n0) ∧ Blk3 wr w.heap.size (.slice A0 n0 c0) (.slice A1 n1 c1) (.slice A2 n2 c2) 25 ∧ Below w.heap.size w wr ∧ w1.heap.size ≤ wr.heap.size)
  case atStart => exact ⟨0, _, _, (List.replicate n0 (-1), []), by unfold Hid; simp, rfl, rfl, rfl, Q1, O1, ⟨by simp, by simp [negs_rep]⟩, X1, B1', by simp⟩
  case round =>
    obtain ⟨k, A, cc, s, hg, rfl, hs', rfl, hq, ho, hinv, X, hB, hsz⟩ := hrel
    by_cases hlt : k < sn
    · obtain ⟨gs, x, rfl, _, _, hx, hcx, _⟩ := (hs.below hB).get (k := k) (by have := HSN.out; omega)
      have hpt : -1 ≤ x ∧ x < n0 := by
        have h1 := hst'.out
        rw [List.all_eq_true] at h1
        have := h1 x (List.mem_of_getElem? hx.out)
        simpa [ptB] using this
      obtain ⟨hpt1, hpt2⟩ := hpt
      have htk : Hid (marks 1 (List.replicate n0 (-1), []) (starts.take (k + 1)) = mark 1 s x) := by
        unfold Hid; rw [take_snoc hx.out, marks_snoc, hs'.out]
      clear hx hs'
      by_cases hx1 : x = -1
      · subst hx1
        have hmk := mk_hit (d := 1) (x := -1) (s := s) (by simp)
        have HMK := Lib.hid hmk
        clear hmk
        go_wp2_with fail
        go_roundg (gk - 1)
        case rel => exact ⟨k + 1, A, cc, s, by have := hg.out; unfold Hid; omega, by go_num, by unfold Hid; rw [htk.out, HMK.out], rfl, hq, ho, hinv, X, hB, hsz⟩
        case measure => have := hg.out; omega
      · obtain ⟨kk, rfl⟩ : ∃ kk : Nat, x = kk := ⟨x.toNat, by omega⟩
        have hkk : kk < n0 := by omega
        have hne1 : (((kk : Nat) : Int) != -1) = true := by simp
        obtain ⟨go', u, eo, _, _, hu, hcu, hfu⟩ := ho.get (k := kk) (by have := hinv.out.1; omega)
        cases eo
        have hgd := gd_nat hu.out
        by_cases hneg : u < 0
        · have hmk := mk_new (d := 1) (x := (kk : Int)) (s := s) (by omega) (by omega)
          have hnn := negs_set (d := 1) hu.out hneg (by omega)
          have HMK := Lib.hid hmk
          have HNN := Lib.hid hnn
          clear hmk hgd hu hnn
          have hfo : go < wr.heap.size := (ho.lt go rfl).2
          have hgs : gs < w.heap.size := (hs.lt gs rfl).2
          have ho2 := ho.set_ kk 1
          have hq2 := hq.other (a := ⟨go, kk, none⟩) (fun e => by have := (hq.lt go e).1; omega) (iv 1)
          have hB2 := hB.setCell (p := ⟨go, kk, none⟩) (by show w.heap.size ≤ go; omega) (iv 1)
          have X2 := X.other (p := ⟨go, kk, none⟩) (by simp; omega) (iv 1)
          have hsz2 : w1.heap.size ≤ (wr.setCell ⟨go, kk, none⟩ (iv 1)).heap.size := by simpa [World.setCell] using hsz
          have hcx2 : (wr.setCell ⟨go, kk, none⟩ (iv 1)).cell? ⟨gs, k, none⟩ = some (.int .i64 (kk : Int)) := ((Below.set_any (B := w.heap.size) (by simp; omega) _).cell (p := ⟨gs, k, none⟩) hgs).trans hcx
          have hql : s.2.length ≤ 8 := by have := hinv.out.2; omega
          clear hq X hB hsz
          go_upto_region 8 with (fail)
          generalize (wr.setCell ⟨go, kk, none⟩ (.int .i64 1)) = W2 at ho2 hq2 hB2 X2 hsz2 hcx2 ⊢
          have hown : W2.ownsRow w1.heap.size 3 1 (.slice A s.2.length cc) s.2.length (s.2.map iv) := hq2
          go_wp2_with (at_builtin; refine wpList_append_own _ rfl _ _ 23 rfl w1.heap.size 3 i0 (.int .i64 0) 1 8 Try.underlying23 hi hz0 hz1 hz2 rfl (by decide) _ _ _ rfl (hown.alloc _) ⟨W2.heap.size, 0, none⟩ 1 1 [.int .i64 (kk : Int)] rfl rfl ?ap1 ?ap2 ?ap3 ?ap4 ?ap5 ?_)
          try case ap1 => exact one_new
          case ap2 => first | rfl | (intro u hu; simp at hu; subst hu; rfl)
          case ap3 => unfold maxLen; omega
          case ap4 => omega
          case ap5 => first | omega | (simp; omega)
          intro v' w3 hown' hgrow _
          have hrow' : Row w3 w1.heap.size v' (s.2 ++ [(kk : Int)]) := Row.of_own hown' (by simp) (by simp)
          obtain ⟨A', c', hv', _⟩ := hrow'.form
          subst hv'
          have hB3 := (hB2.alloc hB2.size (.cells #[.int .i64 (kk : Int)] 3)).grown hgrow (by have := hB2.size; simp; omega) (fun j hj => by have := (hown.lt j hj).1; omega)
          have X3 := Blk3.keptR (X2.alloc (.cells #[.int .i64 (kk : Int)] 3)) hgrow (fun e => by have := (hown.lt _ e.symm).1; omega)
          have ho3 := Row.kept (ho2.alloc (.cells #[.int .i64 (kk : Int)] 3)) hgrow (.inr fun e => by have := (hown.lt go e.symm).1; omega)
          have hsz3 : w1.heap.size ≤ w3.heap.size := by have := hgrow.size; simp at this; omega
          clear hown hown' hgrow
          go_wp2_with fail
          go_roundg (gk - 1)
          case rel =>
            refine ⟨k + 1, A', c', (s.1.set kk 1, s.2 ++ [(kk : Int)]), by have := hg.out; unfold Hid; omega, by go_num, by unfold Hid; rw [htk.out, HMK.out]; simp, rfl, hrow', ho3, ⟨by simpa using hinv.out.1, ?_⟩, X3, hB3, hsz3⟩
            have := hinv.out.2; have := HNN.out
            show negs (s.1.set kk 1) + (s.2 ++ [(kk : Int)]).length = n0
            rw [List.length_append]; simp only [List.length_singleton]; omega
          case measure => have := hg.out; omega
        · have hmk := mk_hit (d := 1) (x := (kk : Int)) (s := s) (by omega)
          have HMK := Lib.hid hmk
          clear hmk hgd hu
          go_wp2_with fail
          go_roundg (gk - 1)
          case rel => exact ⟨k + 1, A, cc, s, by have := hg.out; unfold Hid; omega, by go_num, by unfold Hid; rw [htk.out, HMK.out], rfl, hq, ho, hinv, X, hB, hsz⟩
          case measure => have := hg.out; omega
    · have hkf : k = sn := by have := hg.out; omega
      have hs2 : s = marks 1 (List.replicate n0 (-1), []) starts := by rw [hs'.out, List.take_of_length_le (by rw [HSN.out]; omega)]
      obtain ⟨f0, Q0⟩ := qinv_start (h := h) (n0 := n0) l0.out hst'.out hs2
      rw [hfin.out] at Q0
      have hng0 := Lib.hid hinv.out.2
      clear hkf hs' hs2 hinv hg
      obtain ⟨D0, q0⟩ := s
      simp only at Q0 hng0 hq ho ⊢
      go_wp2_with fail
      go_loopg [6, 8] n0 (fun g q i wr => ∃ (ik : Nat) (A : Option Addr) (cc : Nat) (D ql : List Int) (d : Int) (Aq Bq : List Int) (f : Nat), Hid (negs D + (ql.length - ik) = g) ∧ Hid (negs D + ql.length = n0) ∧ i = .int .i64 ik ∧ q = .slice A ql.length cc ∧
        Row wr w1.heap.size (.slice A ql.length cc) ql ∧ Row wr (w.heap.size + 1) (.slice (some ⟨go, 0, none⟩) n0 co) D ∧ Hid (QInv h fin n0 D ql ik d Aq Bq f) ∧ Blk3 wr w.heap.size (.slice A0 n0 c0) (.slice A1 n1 c1) (.slice A2 n2 c2) 25 ∧ Below w.heap.size w wr ∧ w1.heap.size ≤ wr.heap.size)
      case atStart => exact ⟨0, A, cc, D0, q0, 1, q0, [], f0, by unfold Hid; have := hng0.out; omega, hng0, rfl, rfl, hq, ho, Q0, X, hB, hsz⟩
      case round =>
        obtain ⟨ik, A, cc, D, ql, d, Aq, Bq, f, hg, hng, rfl, rfl, hq, ho, hQ, X, hB, hsz⟩ := hrel
        have hql8 : ql.length ≤ 8 := by have := hng.out; omega
        by_cases hlt : ik < ql.length
        · obtain ⟨d', c, AA, B', f', Q1⟩ := qinv_head hQ.out hlt
          have hcget : ql[ik]? = some c := by
            have h1 := Q1.dr
            have h2 : (ql.drop ik)[0]? = some c := by rw [h1]; rfl
            simpa using h2
          have hcp : plB c n0 = true := by
            have h1 := Q1.cells
            rw [List.all_eq_true] at h1
            exact h1 c (List.mem_of_getElem? hcget)
          obtain ⟨kc, rfl, hkc⟩ := plB_nat hcp
          have hkc1 : kc < n1 := by have := u0b.out; omega
          obtain ⟨gq, xq, rfl, _, hgq, hxq, hcq, _⟩ := hq.get hlt
          have hxe : xq = (kc : Int) := by have := hxq.out.symm.trans hcget; simpa using this
          subst hxe
          have e0 := h0.below hB
          have e1 := h1.below hB
          obtain ⟨ga, lx0, eA0, _, hga, hl0, hcl, _⟩ := e0.get (k := kc) (by have := l0.out; omega)
          obtain ⟨gb, rx0, eA1, _, hgb, hr0, hcr, _⟩ := e1.get (k := kc) (by have := l1.out; omega)
          subst eA0 eA1
          have hgl : gd h.l (kc : Int) = lx0 := gd_nat hl0.out
          have hgr : gd h.r (kc : Int) = rx0 := gd_nat hr0.out
          obtain ⟨pre, hpre, Q2, hng2⟩ := qinv_step Q1 l0.out HRL.out HP0.out HP1.out (s := marks (d' + 1) (D, B') [lx0, rx0]) (by rw [hgl, hgr])
          have hp1 := gd_all HP0.out (c := (kc : Int)) (by rw [l0.out]; exact hcp)
          have hp2 := gd_all HP1.out (c := (kc : Int)) (by rw [HRL.out]; exact hcp)
          rw [hgl] at hp1
          rw [hgr] at hp2
          have hpts : Hid ([lx0, rx0].all (ptB · n0) = true) := by unfold Hid; simp [hp1, hp2]
          have hd9 : 1 ≤ d' ∧ d' ≤ 8 := ⟨Q1.d1, by have := Q1.d2 (by simp); omega⟩
          obtain ⟨hd1, hd2⟩ := hd9
          have hdc : gd D (kc : Int) = d' := Q1.va _ (by simp)
          have HQ2 := Lib.hid Q2
          have HD := Lib.hid hdc
          have HLD := Lib.hid Q1.len
          have HPR := Lib.hid hpre
          obtain ⟨q0_, q1_, q2_, _⟩ := X.cells
          have lx := X.lt
          clear Q1 Q2 hcget hcp hgl hgr hp1 hp2 hxq e0 e1 hl0 hr0 hdc hpre hQ
          go_wp2_with fail
          go_region_held3 (fun w' => w'.cell? ⟨w.heap.size, 0, none⟩ = some (.slice (some ⟨ga, 0, none⟩) n0 c0) ∧ w'.cell? ⟨w.heap.size, 1, none⟩ = some (.slice (some ⟨gb, 0, none⟩) n1 c1) ∧ w'.cell? ⟨ga, kc, none⟩ = some (.int .i64 lx0) ∧ w'.cell? ⟨gb, kc, none⟩ = some (.int .i64 rx0))
            (((try dsimp only); (repeat' apply And.intro) <;> (with_reducible (first | exact q0_ | exact q1_ | exact hcl | exact hcr | exact cellD q0_ | exact cellD q1_ | exact cellD hcl | exact cellD hcr | exact cellA (cellD q0_) _ | exact cellA (cellD q1_) _ | exact cellA (cellD hcl) _ | exact cellA (cellD hcr) _ | exact cellD (cellA q0_ _) | exact cellD (cellA q1_ _) | exact cellD (cellA hcl _) | exact cellD (cellA hcr _)))))
            (fail)
          have hob : (Value.slice (some ⟨gq, 0, none⟩) ql.length cc).ownBlock ≠ some wr.heap.size := by simp [Value.ownBlock]; omega
          have hB3 := (hB.alloc hB.size (.cells #[.int .i64 lx0, .int .i64 rx0] 3)).drew
          have X3 : Blk3 (wr.alloc (.cells #[.int .i64 lx0, .int .i64 rx0] 3)).drew w.heap.size (.slice (some ⟨ga, 0, none⟩) n0 c0) (.slice (some ⟨gb, 0, none⟩) n1 c1) (.slice A2 n2 c2) 25 := X.alloc (.cells #[.int .i64 lx0, .int .i64 rx0] 3)
          have hq3 := (hq.alloc (.cells #[.int .i64 lx0, .int .i64 rx0] 3)).drew
          have ho3 := (ho.alloc (.cells #[.int .i64 lx0, .int .i64 rx0] 3)).drew
          have hn3 : Row (wr.alloc (.cells #[.int .i64 lx0, .int .i64 rx0] 3)).drew wr.heap.size (.slice (some ⟨wr.heap.size, 0, none⟩) 2 2) [lx0, rx0] := Row.drew (Row.lit_lo rfl wr.heap.size (Nat.le_refl _) [lx0, rx0] (by simp))
          have hs3 : wr.heap.size + 1 ≤ (wr.alloc (.cells #[.int .i64 lx0, .int .i64 rx0] 3)).drew.heap.size := by simp
          rename_i hHeld_
          clear hHeld_ q0_ q1_ q2_ hcl hcr hcq X hB hq ho lx hga hgb hgq
          generalize (wr.alloc (.cells #[.int .i64 lx0, .int .i64 rx0] 3)).drew = W3 at hB3 X3 hq3 ho3 hn3 hs3 ⊢
          have hq3' : Row W3 w1.heap.size (.slice (some ⟨gq, 0, none⟩) ql.length cc) (pre ++ B') := by rw [← HPR.out]; exact hq3
          have hnq0 : Hid ((pre ++ B').length = ql.length) := by unfold Hid; rw [← HPR.out]
          clear hq3
          generalize hlz : wr.heap.size = lz at *
          have HLZ := Lib.hid hlz
          clear hlz
          generalize ql.length = nq0 at *
          obtain ⟨G, HG⟩ : ∃ G, Hid (G = gk) := ⟨_, rfl⟩
          go_wp2_with fail
          go_loopg [6, 11] 2 (fun g2 q kq w2 => ∃ (k2 : Nat) (A' : Option Addr) (nq cc' : Nat) (s2 : List Int × List Int), Hid ((pre ++ s2.2).length = nq) ∧ Hid (g2 + k2 = 2) ∧ kq = .int .i64 k2 ∧ Hid (s2 = marks (d' + 1) (D, B') ([lx0, rx0].take k2)) ∧ q = .slice A' nq cc' ∧
            Row w2 w1.heap.size (.slice A' nq cc') (pre ++ s2.2) ∧ Row w2 (w.heap.size + 1) (.slice (some ⟨go, 0, none⟩) n0 co) s2.1 ∧ Hid (s2.1.length = n0 ∧ negs s2.1 + s2.2.length = negs D + B'.length ∧ gd s2.1 (kc : Int) = d') ∧
            Hid (k2 < 2 → Row w2 lz (.slice (some ⟨lz, 0, none⟩) 2 2) [lx0, rx0]) ∧ Hid (k2 = 0 → (Value.slice A' nq cc').ownBlock ≠ some lz) ∧ Blk3 w2 w.heap.size (.slice (some ⟨ga, 0, none⟩) n0 c0) (.slice (some ⟨gb, 0, none⟩) n1 c1) (.slice A2 n2 c2) 25 ∧ Below w.heap.size w w2 ∧ lz + 1 ≤ w2.heap.size)
          case atStart => exact ⟨0, _, _, _, (D, B'), hnq0, rfl, rfl, rfl, rfl, hq3', ho3, ⟨HLD.out, rfl, HD.out⟩, fun _ => hn3, fun _ => hob, X3, hB3, hs3⟩
          case round =>
            obtain ⟨k2, A', nq, cc', s2, hnq, hg2, rfl, hs2, rfl, hq, ho, hinv, hlit, hown0, X, hB, hsz2⟩ := hrel
            have hpl : nq ≤ 8 := by
              have h1 := hng.out; have h2 := hinv.out.2.1; have h3 := hnq.out; have h4 := hnq0.out; simp only [List.length_append] at h3 h4; omega
            by_cases hlt2 : k2 < 2
            · obtain ⟨gl, x, egl, _, hgl, hx, hcx, _⟩ := (hlit.out hlt2).get (k := k2) (by simpa using hlt2)
              cases egl
              have hpt : -1 ≤ x ∧ x < n0 := by
                have h1 := hpts.out
                rw [List.all_eq_true] at h1
                have := h1 x (List.mem_of_getElem? hx.out)
                simpa [ptB] using this
              obtain ⟨hpt1, hpt2⟩ := hpt
              have htk : Hid (marks (d' + 1) (D, B') ([lx0, rx0].take (k2 + 1)) = mark (d' + 1) s2 x) := by
                unfold Hid; rw [take_snoc hx.out, marks_snoc, hs2.out]
              have hgo3 : go < lz := by omega
              have hxk := hx
              clear hx hs2
              by_cases hx1 : x = -1
              · subst hx1
                have hmk := mk_hit (d := d' + 1) (x := -1) (s := s2) (by simp)
                have HMK := Lib.hid hmk
                have hl2 := hlit.out hlt2
                clear hmk
                go_wp2_with fail
                go_roundg (gk - 1)
                case rel => exact ⟨k2 + 1, A', nq, cc', s2, hnq, by have := hg2.out; unfold Hid; omega, by go_num, by unfold Hid; rw [htk.out, HMK.out], rfl, hq, ho, hinv, fun _ => hl2, fun e => by omega, X, hB, hsz2⟩
                case measure => have := hg2.out; omega
              · obtain ⟨kk, rfl⟩ : ∃ kk : Nat, x = kk := ⟨x.toNat, by omega⟩
                have hkk : kk < n0 := by omega
                have hne1 : (((kk : Nat) : Int) != -1) = true := by simp
                obtain ⟨go', u, eo, _, _, hu, hcu, hfu⟩ := ho.get (k := kk) (by have := hinv.out.1; omega)
                cases eo
                have hgd := gd_nat hu.out
                by_cases hneg : u < 0
                · have hmk := mk_new (d := d' + 1) (x := (kk : Int)) (s := s2) (by omega) (by omega)
                  have hnn := negs_set (d := d' + 1) hu.out hneg (by omega)
                  obtain ⟨go', uc, eo, _, _, huc, hcuc, _⟩ := ho.get (k := kc) (by have := hinv.out.1; omega)
                  cases eo
                  have huc' : uc = d' := by have h1 := gd_nat huc.out; rw [hinv.out.2.2] at h1; exact h1.symm
                  subst huc'
                  have hkkc : kk ≠ kc := by
                    rintro rfl
                    rw [hinv.out.2.2] at hgd
                    omega
                  have HMK := Lib.hid hmk
                  have HNN := Lib.hid hnn
                  have hwr : IntKind.i64.wrap (uc + 1) = uc + 1 := IntWalk.i64_in _ (by omega)
                  have hl2 := hlit.out hlt2
                  have ho2 := ho.set_ kk (uc + 1)
                  have hq2 := hq.other (a := ⟨go, kk, none⟩) (fun e => by have := (hq.lt go e).1; omega) (iv (uc + 1))
                  have hB2 := hB.setCell (p := ⟨go, kk, none⟩) (by show w.heap.size ≤ go; omega) (iv (uc + 1))
                  have X2 := X.other (p := ⟨go, kk, none⟩) (by simp; omega) (iv (uc + 1))
                  have hl3 := hl2.other (a := ⟨go, kk, none⟩) (by simp [Value.ownBlock]; omega) (iv (uc + 1))
                  have hsz3 : lz + 1 ≤ (wr.setCell ⟨go, kk, none⟩ (iv (uc + 1))).heap.size := by simpa [World.setCell] using hsz2
                  have hcx3 : (wr.setCell ⟨go, kk, none⟩ (iv (uc + 1))).cell? ⟨lz, k2, none⟩ = some (.int .i64 (kk : Int)) := ((Below.set_only (w := wr) (p := ⟨go, kk, none⟩) (q := ⟨lz, k2, none⟩) (by simp; omega) _)).trans hcx
                  have hcc3 : (wr.setCell ⟨go, kk, none⟩ (iv (uc + 1))).cell? ⟨go, kc, none⟩ = some (.int .i64 uc) := by
                    obtain ⟨_, u9, e9, _, _, hu9, hc9, _⟩ := ho2.get (k := kc) (by simp; have := hinv.out.1; omega)
                    cases e9
                    have h9 := hu9.out
                    rw [List.getElem?_set_ne hkkc] at h9
                    have h8 := huc.out
                    rw [h9] at h8
                    cases h8
                    exact hc9
                  clear hmk hgd hu hnn huc
                  go_upto_region 18 with (fail)
                  go_region_held3 (fun w' => w'.cell? ⟨lz, k2, none⟩ = some (.int .i64 (kk : Int)) ∧ w'.cell? ⟨go, kc, none⟩ = some (.int .i64 uc))
                    (((try dsimp only); (repeat' apply And.intro) <;> (with_reducible (first | exact hcx | exact hcuc | exact cellD hcx | exact cellD hcuc | exact hcx3 | exact hcc3 | exact cellD hcx3 | exact cellD hcc3))))
                    (fail)
                  rename_i hHeld2
                  clear hHeld2 hq X hB hcx hcuc hcx3 hcc3 hlit
                  have hB2' := hB2.drew
                  have X2' : Blk3 (wr.setCell ⟨go, kk, none⟩ (iv (uc + 1))).drew w.heap.size (.slice (some ⟨ga, 0, none⟩) n0 c0) (.slice (some ⟨gb, 0, none⟩) n1 c1) (.slice A2 n2 c2) 25 := X2
                  have hq2' := hq2.drew
                  have ho2' := ho2.drew
                  have hl3' := hl3.drew
                  have hsz4 : lz + 1 ≤ (wr.setCell ⟨go, kk, none⟩ (iv (uc + 1))).drew.heap.size := hsz3
                  have hcx4 := (Row.get hl3' (k := k2) (by simpa using hlt2))
                  clear hB2 X2 hq2 ho2 hl3 hsz3
                  generalize (wr.setCell ⟨go, kk, none⟩ (.int .i64 (uc + 1))).drew = W2 at hB2' X2' hq2' ho2' hl3' hsz4 hcx4 ⊢
                  obtain ⟨gl5, x5, e5, _, _, hx5, hcx5, _⟩ := hcx4
                  cases e5
                  have hxx5 : x5 = (kk : Int) := by have h9 := hxk.out; rw [hx5.out] at h9; simpa using h9
                  subst hxx5
                  have hown : W2.ownsRow w1.heap.size 3 1 (.slice A' nq cc') nq ((pre ++ s2.2).map iv) := own_of hq2' hnq.out
                  clear hx5
                  go_wp2_with (at_builtin; refine wpList_append_own _ rfl _ _ 23 rfl w1.heap.size 3 i0 (.int .i64 0) 1 8 Try.underlying23 hi hz0 hz1 hz2 rfl (by decide) _ _ _ rfl (hown.alloc _) ⟨W2.heap.size, 0, none⟩ 1 1 [.int .i64 (kk : Int)] rfl rfl ?ap1 ?ap2 ?ap3 ?ap4 ?ap5 ?_)
                  try case ap1 => exact one_new
                  case ap2 => first | rfl | (intro u hu; simp at hu; subst hu; rfl)
                  case ap3 => unfold maxLen; omega
                  case ap4 => omega
                  case ap5 => first | omega | (simp; omega)
                  intro v' w3 hown' hgrow _
                  have hrow' : Row w3 w1.heap.size v' (pre ++ (s2.2 ++ [(kk : Int)])) := Row.of_own hown' (by simp) (by have := hnq.out; simp only [List.length_append] at this ⊢; simp; omega)
                  obtain ⟨A4, c4, hv', _⟩ := hrow'.form
                  subst hv'
                  have hB3 := (hB2'.alloc hB2'.size (.cells #[.int .i64 (kk : Int)] 3)).grown hgrow (by have := hB2'.size; simp; omega) (fun j hj => by have := (hown.lt j hj).1; omega)
                  have X3 := Blk3.keptR (X2'.alloc (.cells #[.int .i64 (kk : Int)] 3)) hgrow (fun e => by have := (hown.lt _ e.symm).1; omega)
                  have ho3 := Row.kept (ho2'.alloc (.cells #[.int .i64 (kk : Int)] 3)) hgrow (.inr fun e => by have := (hown.lt go e.symm).1; omega)
                  have hl4 : k2 = 0 → Row w3 lz (.slice (some ⟨lz, 0, none⟩) 2 2) [lx0, rx0] := fun e0 => Row.kept (hl3'.alloc (.cells #[.int .i64 (kk : Int)] 3)) hgrow (.inr fun e => hown0.out e0 e.symm)
                  have hsz3 : lz + 1 ≤ w3.heap.size := by have := hgrow.size; simp at this; omega
                  clear hown hown' hgrow
                  go_wp2_with fail
                  go_roundg (gk - 1)
                  case rel =>
                    refine ⟨k2 + 1, A4, _, c4, (s2.1.set kk (uc + 1), s2.2 ++ [(kk : Int)]), rfl, by have := hg2.out; unfold Hid; omega, by go_num, by unfold Hid; rw [htk.out, HMK.out]; simp, rfl, hrow', ho3, ⟨by simpa using hinv.out.1, ?_, ?_⟩, fun e => hl4 (by omega), fun e => by omega, X3, hB3, hsz3⟩
                    · have := hinv.out.2.1; have := HNN.out
                      show negs (s2.1.set kk (uc + 1)) + (s2.2 ++ [(kk : Int)]).length = negs D + B'.length
                      rw [List.length_append]; simp only [List.length_singleton]; omega
                    · have h9 := gd_set_ne (D := s2.1) (x := (kk : Int)) (y := (kc : Int)) (d := uc + 1) (by omega) (by omega) (by omega)
                      have h8 := hinv.out.2.2
                      show gd (s2.1.set kk (uc + 1)) (kc : Int) = uc
                      simp only [Int.toNat_natCast] at h9
                      rw [h9]; exact h8
                  case measure => have := hg2.out; omega
                · have hmk := mk_hit (d := d' + 1) (x := (kk : Int)) (s := s2) (by omega)
                  have HMK := Lib.hid hmk
                  have hl2 := hlit.out hlt2
                  clear hmk hgd hu
                  go_wp2_with fail
                  go_roundg (gk - 1)
                  case rel => exact ⟨k2 + 1, A', nq, cc', s2, hnq, by have := hg2.out; unfold Hid; omega, by go_num, by unfold Hid; rw [htk.out, HMK.out], rfl, hq, ho, hinv, fun _ => hl2, fun e => by omega, X, hB, hsz2⟩
                  case measure => have := hg2.out; omega
            · have hk2 : k2 = 2 := by have := hg2.out; omega
              subst hk2
              have hs9 : s2 = marks (d' + 1) (D, B') [lx0, rx0] := hs2.out
              have HQ3 := HQ2.out
              rw [← hs9] at HQ3
              have HQ4 := Lib.hid HQ3
              clear hs9 HQ3 hs2 HQ2
              go_wp2_with fail
              go_roundg (G - 1)
              case rel =>
                refine ⟨ik + 1, A', cc', s2.1, pre ++ s2.2, d', AA, s2.2, f', ?_, ?_, by go_num, by rw [hnq.out], by rw [hnq.out]; exact hq, ho, HQ4, X, hB, by omega⟩
                · have h1 := hg.out; have h2 := hnq0.out; have h3 := hinv.out.2.1; have h4 := HQ4.out.le; have h5 := HG.out
                  unfold Hid; simp only [List.length_append] at h2 h4 ⊢; omega
                · have h1 := hng.out; have h2 := hnq0.out; have h3 := hinv.out.2.1
                  unfold Hid; simp only [List.length_append] at h2 ⊢; omega
              case measure => have h1 := hg.out; have h5 := HG.out; omega
        · have hD := qinv_end hQ.out (by omega)
          have HD := Lib.hid hD
          have hlD := Lib.hid hQ.out.len
          clear hD hQ
          go_wp2_with fail
          go_ret
          refine ⟨some ⟨go, 0, none⟩, co, ?_, ?_, hB⟩
          · rw [← HD.out]; simp [hlD.out]
          · rw [← HD.out, hlD.out]; exact ho.mono (by omega)
end Go.Proofs.Ytkcelcjghplhiaa
