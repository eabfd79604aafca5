import Derived.Test.YtfoimicbmkiigaaGreatBthA
import Derived.Test.YtfoimicbmkiigaaGreatStos
import Derived.Test.YtfoimicbmkiigaaGreatOwn
import Derived.ArgAppend
import Derived.Lib.SliceRun
import Derived.Deep.RegionLawGrows
import Derived.Test.YtfoimicbmkiigaaGreatGSms
import Derived.Test.YtfoimicbmkiigaaGreatIStos
import Derived.Deep.RegionHeld3
import Derived.OrdersHeld
/- Words of copies of Boths; slices.Clone of operations. -/
namespace Go.Proofs.YtfoimicbmkiigaaGreat
open Go.RowKit

theorem ORow.emptyB (w : World) (lo : Nat) (hlo : lo ≤ w.heap.size) : ORow (w.alloc (.cells #[] 40)) lo (.slice (some ⟨w.heap.size, 0, none⟩) 0 0) [] := by
  unfold ORow
  exact ⟨rfl, .inr ⟨w.heap.size, 0, #[], rfl, hlo, heap_alloc_new w _, Nat.le_refl _, by unfold maxLen; omega, rfl, rfl⟩⟩
theorem ORow.cellsV {w : World} {lo g n c : Nat} {os : List Opv} (h : ORow w lo (.slice (some ⟨g, 0, none⟩) n c) os) : ∀ j u, (ovs os)[j]? = some u → w.cell? ((⟨g, 0, none⟩ : Addr).add j) = some u := by
  intro j u hj
  have hc := h
  unfold ORow at hc
  obtain ⟨hlt, e⟩ := List.getElem?_eq_some_iff.1 hj
  obtain ⟨A9, c9, e9, _, _⟩ := h.form
  cases e9
  have := hc.cellAt j (by rw [ovs_len] at hlt; exact hlt)
  rw [show (⟨g, 0, none⟩ : Addr).add j = ⟨g, j, none⟩ by unfold Addr.add; split <;> simp_all, this]; exact hj
theorem ovs_one (os : List Opv) : ∀ u ∈ ovs os, u.oneCell' = true := by
  intro u hu
  unfold ovs at hu
  rw [List.mem_flatMap] at hu
  obtain ⟨o, _, h⟩ := hu
  simp at h
  rcases h with rfl | rfl | rfl <;> rfl
theorem infoOpC : (Tryz.prog.info? 40).map (fun i => (i.zero, i.size, i.bytes)) = some (some (.agg #[.int .i64 0, .int .i64 0, .int .i64 0]), 3, 24) := by kernel_rfl
theorem after_appendO {W w' : World} {v' : Value} {n : Nat} {os : List Opv} (hown : w'.ownsRow W.heap.size 40 3 v' (0 + n) ([] ++ ovs os)) (hgr : W.grownBy w' none) (hn : 0 + n = os.length) :
    ∃ A c, v' = .slice A os.length c ∧ ORow w' W.heap.size (.slice A os.length c) os ∧ Below W.heap.size W w' := by
  have hr : ORow w' W.heap.size v' os := by unfold ORow; rw [← hn]; simpa using hown
  obtain ⟨A, c, rfl, _⟩ := hr.form
  exact ⟨A, c, rfl, hr, below_of_grown hgr⟩
/-- Operations are appended to a literal empty row. -/
theorem step_append_orow {ops : Array Oper} {o : Oper} {a : Act} {w : World} {K : Act → World → Prop} {Q : Exit → Act → World → Prop} {E : Prop}
    (hg : o.guard = none) (s x : Operand) (hop : o.op = Op.call { callee := Callee.builtin Builtin.append, args := #[s, x], argTypes := #[30, 30] })
    (base : Option Addr) (lb : Nat) (hs : a.eval s = .slice base 0 0) (hbase : ORow w lb (.slice base 0 0) []) (hlb : lb ≤ w.heap.size)
    (lo : Nat) (A : Option Addr) (n c : Nat) (os : List Opv) (hx : a.eval x = .slice A n c) (hr : ORow w lo (.slice A n c) os) (hn : Hid (os.length = n)) (hb : n ≤ 1048576)
    (hK : ∀ A' c' w', ORow w' lb (.slice A' n c') os → Below w.heap.size w w' → K (a.put o.dst (.slice A' n c')) w') : if Region.wanted o (yielded ops a.tmps) = true then Oper.wp Tryz.prog o a w K Q else E := by
  have hn' := hn.out
  obtain ⟨i0, hi, hz0, hz1, hz2⟩ := info_parts infoOpC
  rcases Nat.eq_zero_or_pos n with h0 | h0
  · subst h0
    obtain rfl : os = [] := List.eq_nil_of_length_eq_zero hn'
    exact step_append_zero hg s x 30 hop 40 i0 Tryz.underlying30 hi base 0 0 hs (Nat.le_refl _) A c hx (hK base 0 _ hbase (Below.refl _ _))
  · obtain ⟨g, _, rfl, _⟩ := hr.get (k := 0) (by omega)
    refine step_append_grows hg s x 30 hop 40 i0 (.agg #[.int .i64 0, .int .i64 0, .int .i64 0]) 3 24 Tryz.underlying30 hi hz0 hz1 hz2 rfl (by decide) base 0 0 [] hs (fun _ => ⟨rfl, rfl⟩) rfl (fun _ _ j u hj => nil_get hj) ⟨g, 0, none⟩ n c (ovs os) hx (by rw [ovs_len]; omega) (ORow.cellsV hr) (ovs_one _) (by omega) (by unfold maxLen; omega) (by omega) ?_
    intro v' w' hown hgr
    obtain ⟨A', c', rfl, hr', hb'⟩ := after_appendO (os := os) (n := n) hown hgr (by omega)
    have h9 := hK A' c' w' (by rw [← hn']; exact hr'.mono hlb) hb'
    rw [hn']; exact h9
theorem wpList_append_orow {ops : Array Oper} {rest : List Oper} {o : Oper} {a : Act} {w : World} {Q : Exit → Act → World → Prop}
    (hg : o.guard = none) (s x : Operand) (hop : o.op = Op.call { callee := Callee.builtin Builtin.append, args := #[s, x], argTypes := #[30, 30] })
    (base : Option Addr) (lb : Nat) (hs : a.eval s = .slice base 0 0) (hbase : ORow w lb (.slice base 0 0) []) (hlb : lb ≤ w.heap.size)
    (lo : Nat) (A : Option Addr) (n c : Nat) (os : List Opv) (hx : a.eval x = .slice A n c) (hr : ORow w lo (.slice A n c) os) (hn : Hid (os.length = n)) (hb : n ≤ 1048576)
    (hK : ∀ A' c' w', ORow w' lb (.slice A' n c') os → Below w.heap.size w w' → wpList Tryz.prog ops Q rest (a.put o.dst (.slice A' n c')) w') : wpList Tryz.prog ops Q (o :: rest) a w := by
  have hn' := hn.out
  obtain ⟨i0, hi, hz0, hz1, hz2⟩ := info_parts infoOpC
  rcases Nat.eq_zero_or_pos n with h0 | h0
  · subst h0
    obtain rfl : os = [] := List.eq_nil_of_length_eq_zero hn'
    refine wpList_append_zero hg s x 30 hop 40 i0 Tryz.underlying30 hi base 0 0 hs (Nat.le_refl _) A 0 c rfl hx ?_
    intro w' hw'
    have e := hw'.out
    subst e
    exact hK base 0 _ hbase (Below.refl _ _)
  · obtain ⟨g, _, rfl, _⟩ := hr.get (k := 0) (by omega)
    refine wpList_append_grows w hg s x 30 hop 40 i0 (.agg #[.int .i64 0, .int .i64 0, .int .i64 0]) 3 24 Tryz.underlying30 hi hz0 hz1 hz2 rfl (by decide) base 0 0 [] hs (fun _ => ⟨rfl, rfl⟩) rfl (fun _ _ j u hj => nil_get hj) ⟨g, 0, none⟩ n c (ovs os) hx (by rw [ovs_len]; omega) (ORow.cellsV hr) (ovs_one _) (by omega) (by unfold maxLen; omega) (by omega) ?_
    intro v' w' hown hgr
    obtain ⟨A', c', rfl, hr', hb'⟩ := after_appendO (os := os) (n := n) hown hgr (by omega)
    have h9 := hK A' c' w' (by rw [← hn']; exact hr'.mono hlb) hb'
    rw [hn']; exact h9
def NewORowC (w : World) (n : Nat) (os : List Opv) (e : Ending) (w' : World) : Prop := ∃ A c, e = .returned (.slice A n c) ∧ ORow w' w.heap.size (.slice A n c) os ∧ Below w.heap.size w w'
set_option maxRecDepth 100000 in
set_option maxHeartbeats 2000000 in
theorem cloneOps_any (w : World) (lo : Nat) (A : Option Addr) (n c : Nat) (os : List Opv) (h : ORow w lo (.slice A n c) os) (hn : Hid (os.length = n)) (hb : n ≤ 1048576) :
    Calls Tryz.prog 75 #[.slice A n c] w (NewORowC w n os) := by
  by_cases hA : A = none
  · subst hA
    have h0 : n = 0 ∧ c = 0 := by
      rcases h.2 with ⟨e, _⟩ | ⟨g, cap, cur, e, _⟩
      · cases e; exact ⟨rfl, rfl⟩
      · cases e
    obtain ⟨rfl, rfl⟩ := h0
    have NE := fun W : World => Lib.run_eql_slice_nil (P := Tryz.prog) W 30 40 none 0 0 0 0 Tryz.underlying30
    go_enter Tryz.func75, Tryz.ntmps75
    go_wp2_with fail
    go_ret
    exact ⟨none, 0, rfl, ⟨ovs_len os, .inl ⟨rfl, hn.out⟩⟩, Below.refl _ _⟩
  · obtain ⟨g, rfl⟩ : ∃ g, A = some g := by cases A with | none => exact absurd rfl hA | some g => exact ⟨g, rfl⟩
    have E0 := ORow.emptyB w w.heap.size (Nat.le_refl _)
    have R := h.alloc (.cells #[] 40)
    have NE := fun W : World => Lib.run_eql_slice_nil (P := Tryz.prog) W 30 40 (some g) n c 0 0 Tryz.underlying30
    go_enter Tryz.func75, Tryz.ntmps75
    go_wp2_with (at_builtin; refine wpList_append_orow rfl _ _ rfl (some ⟨w.heap.size, 0, none⟩) w.heap.size rfl E0 (by simp) lo (some g) n c os rfl R hn hb ?_)
    intro A' c' w1 hr hb1
    have B1 : Below w.heap.size w w1 := ((Below.refl w.heap.size w).alloc (Nat.le_refl _) _).trans (hb1.mono (by simp))
    go_wp2_with fail
    go_ret
    exact ⟨A', c', rfl, hr, B1⟩

end Go.Proofs.YtfoimicbmkiigaaGreat

/- Copies of Boths, of spec and of impl. -/
namespace Go.Proofs.YtfoimicbmkiigaaGreat
open Go.RowKit

set_option maxRecDepth 100000 in
set_option maxHeartbeats 4000000 in
theorem copyOfBoth_any (w : World) (lo : Nat) (v : Value) (B : Bp) (h : Bv w lo v B) (b0 : B.C.h.l.length ≤ 1048576) (b1 : B.C.h.r.length ≤ 1048576) (b2 : B.C.h.t.length ≤ 1048576) (b3 : B.C.c.length ≤ 1048576) (b4 : B.G.c.length ≤ 1048576) (b5 : B.os.length ≤ 1048576) : Calls Tryz.prog 31 #[v] w (NewBv w B) := by
  obtain ⟨A0, n0, c0, A1, n1, c1, A2, n2, c2, A3, n3, c3, A4, n4, c4, A5, n5, c5, C, p, cc, a, os, i, z, rfl, rfl, hc, ho, ⟨l0, l1, l2, l3, l4, l5⟩, ⟨m0, m1, m2, m3, m4, m5⟩⟩ := h.open_
  dsimp only at *
  have X := (Blk10.new w (.slice A0 n0 c0) (.slice A1 n1 c1) (.slice A2 n2 c2) (.slice A3 n3 c3) (.int .i64 p) (.slice A4 n4 c4) (.int .i64 a) (.slice A5 n5 c5) (.int .i64 i) (.bool z) 32).alloc (.cells #[.slice none 0 0, .slice none 0 0, .slice none 0 0, .slice none 0 0, .int .i64 0, .slice none 0 0, .int .i64 0, .slice none 0 0, .int .i64 0, .bool false] 32)
  have Y := Blk10.new_at (w := w.alloc (.cells #[.slice A0 n0 c0, .slice A1 n1 c1, .slice A2 n2 c2, .slice A3 n3 c3, .int .i64 p, .slice A4 n4 c4, .int .i64 a, .slice A5 n5 c5, .int .i64 i, .bool z] 32)) (b := w.heap.size + 1) (by simp) (.slice none 0 0) (.slice none 0 0) (.slice none 0 0) (.slice none 0 0) (.int .i64 0) (.slice none 0 0) (.int .i64 0) (.slice none 0 0) (.int .i64 0) (.bool false) 32
  have HC := (hc.alloc (.cells #[.slice A0 n0 c0, .slice A1 n1 c1, .slice A2 n2 c2, .slice A3 n3 c3, .int .i64 p, .slice A4 n4 c4, .int .i64 a, .slice A5 n5 c5, .int .i64 i, .bool z] 32)).alloc (.cells #[.slice none 0 0, .slice none 0 0, .slice none 0 0, .slice none 0 0, .int .i64 0, .slice none 0 0, .int .i64 0, .slice none 0 0, .int .i64 0, .bool false] 32)
  have HO := (ho.alloc (.cells #[.slice A0 n0 c0, .slice A1 n1 c1, .slice A2 n2 c2, .slice A3 n3 c3, .int .i64 p, .slice A4 n4 c4, .int .i64 a, .slice A5 n5 c5, .int .i64 i, .bool z] 32)).alloc (.cells #[.slice none 0 0, .slice none 0 0, .slice none 0 0, .slice none 0 0, .int .i64 0, .slice none 0 0, .int .i64 0, .slice none 0 0, .int .i64 0, .bool false] 32)
  have BB : Below w.heap.size w ((w.alloc (.cells #[.slice A0 n0 c0, .slice A1 n1 c1, .slice A2 n2 c2, .slice A3 n3 c3, .int .i64 p, .slice A4 n4 c4, .int .i64 a, .slice A5 n5 c5, .int .i64 i, .bool z] 32)).alloc (.cells #[.slice none 0 0, .slice none 0 0, .slice none 0 0, .slice none 0 0, .int .i64 0, .slice none 0 0, .int .i64 0, .slice none 0 0, .int .i64 0, .bool false] 32)) := ((Below.refl _ _).alloc (Nat.le_refl _) _).alloc (by simp) _
  have sz : w.heap.size + 2 ≤ ((w.alloc (.cells #[.slice A0 n0 c0, .slice A1 n1 c1, .slice A2 n2 c2, .slice A3 n3 c3, .int .i64 p, .slice A4 n4 c4, .int .i64 a, .slice A5 n5 c5, .int .i64 i, .bool z] 32)).alloc (.cells #[.slice none 0 0, .slice none 0 0, .slice none 0 0, .slice none 0 0, .int .i64 0, .slice none 0 0, .int .i64 0, .slice none 0 0, .int .i64 0, .bool false] 32)).heap.size := by simp
  have hnb : w.heap.size ≠ w.heap.size + 1 := by omega
  have b5' : n5 ≤ 1048576 := by have := l5.out; omega
  clear hc ho h
  go_enter Tryz.func31, Tryz.ntmps31
  go_wp2_with fail
  generalize (w.alloc (.cells #[.slice A0 n0 c0, .slice A1 n1 c1, .slice A2 n2 c2, .slice A3 n3 c3, .int .i64 p, .slice A4 n4 c4, .int .i64 a, .slice A5 n5 c5, .int .i64 i, .bool z] 32)).alloc (.cells #[.slice none 0 0, .slice none 0 0, .slice none 0 0, .slice none 0 0, .int .i64 0, .slice none 0 0, .int .i64 0, .slice none 0 0, .int .i64 0, .bool false] 32) = W at X Y HC HO BB sz ⊢
  have SO : ∀ w' : World, Below W.heap.size W w' → w'.cell? ⟨w.heap.size, 0, none⟩ = some (.slice A0 n0 c0) ∧ w'.cell? ⟨w.heap.size, 1, none⟩ = some (.slice A1 n1 c1) ∧ w'.cell? ⟨w.heap.size, 2, none⟩ = some (.slice A2 n2 c2) ∧ w'.cell? ⟨w.heap.size, 3, none⟩ = some (.slice A3 n3 c3) ∧ w'.cell? ⟨w.heap.size, 4, none⟩ = some (.int .i64 p) ∧ w'.cell? ⟨w.heap.size, 5, none⟩ = some (.slice A4 n4 c4) ∧ w'.cell? ⟨w.heap.size, 6, none⟩ = some (.int .i64 a) ∧ w'.cell? ⟨w.heap.size, 7, none⟩ = some (.slice A5 n5 c5) ∧ w'.cell? ⟨w.heap.size, 8, none⟩ = some (.int .i64 i) ∧ w'.cell? ⟨w.heap.size, 9, none⟩ = some (.bool z) := fun w' hb => (X.below hb).cells.1
  obtain ⟨⟨x0, x1, x2, x3, x4, x5, x6, x7, x8, x9⟩, _⟩ := X.cells
  have TS := fun V (hV : Cv V lo (.agg #[.slice A0 n0 c0, .slice A1 n1 c1, .slice A2 n2 c2, .slice A3 n3 c3]) C) => copyOfStore_any V lo _ C hV b0 b1 b2 b3
  have TG := fun V (hV : Gv V lo (.agg #[.int .i64 p, .slice A4 n4 c4, .int .i64 a]) ⟨p, cc, a⟩) => copyOfGc_any V lo _ ⟨p, cc, a⟩ hV b4
  have HS : Cv W lo (.agg #[.slice A0 n0 c0, .slice A1 n1 c1, .slice A2 n2 c2, .slice A3 n3 c3]) C := HC.cv
  have HG : Gv W lo (.agg #[.int .i64 p, .slice A4 n4 c4, .int .i64 a]) ⟨p, cc, a⟩ := HC.gv
  have TC := fun V (hV : ORow V lo (.slice A5 n5 c5) os) => cloneOps_any V lo A5 n5 c5 os hV l5 b5'
  go_region_held3 (fun w' => w'.cell? ⟨w.heap.size, 0, none⟩ = some (.slice A0 n0 c0) ∧ w'.cell? ⟨w.heap.size, 1, none⟩ = some (.slice A1 n1 c1) ∧ w'.cell? ⟨w.heap.size, 2, none⟩ = some (.slice A2 n2 c2) ∧ w'.cell? ⟨w.heap.size, 3, none⟩ = some (.slice A3 n3 c3) ∧ w'.cell? ⟨w.heap.size, 4, none⟩ = some (.int .i64 p) ∧ w'.cell? ⟨w.heap.size, 5, none⟩ = some (.slice A4 n4 c4) ∧ w'.cell? ⟨w.heap.size, 6, none⟩ = some (.int .i64 a) ∧ w'.cell? ⟨w.heap.size, 7, none⟩ = some (.slice A5 n5 c5) ∧ w'.cell? ⟨w.heap.size, 8, none⟩ = some (.int .i64 i) ∧ w'.cell? ⟨w.heap.size, 9, none⟩ = some (.bool z))
    (((try dsimp only); (first | (refine SO _ ?_; (repeat (with_reducible (first | exact Below.refl _ _ | exact hB3 | exact hB2 | exact hB1 | refine B10_dr ?_ | refine B10_al ?_ _))); done) | (with_reducible exact ((X.below hB3).far10 hnb _ _ _ _ _ _ _ _ _ _).cells.1))))
    (first
      | (go_at_call 39; (with_reducible refine Calls.mono (TS _ ?_) ?_); (· repeat (with_reducible (first | exact HS | refine Cv.alloc ?_ _ | refine Cv.drew ?_))); rintro e u1 ⟨vs, rfl, K1, hb1⟩; (have hB1 : Below W.heap.size W u1 := (by refine B10_th ?_ hb1; repeat (with_reducible (first | exact Below.refl _ _ | refine B10_dr ?_ | refine B10_al ?_ _)))); (have K1l : Cv u1 W.heap.size vs C := K1.mono (Below.size (by repeat (with_reducible (first | exact Below.refl _ _ | refine B10_dr ?_ | refine B10_al ?_ _))))); (obtain ⟨D0, e0, d0, D1, e1, d1, D2, e2, d2, D3, e3, d3, hv9, -⟩ := Cv.open_ K1l); (subst hv9))
      | (go_at_call 74; (with_reducible refine Calls.mono (TG _ ?_) ?_); (· repeat (with_reducible (first | exact HG | refine Gv.below ?_ hb1 | refine Gv.alloc ?_ _ | refine Gv.drew ?_))); rintro e u2 ⟨vg, rfl, K2, hb2⟩; (have hB2 : Below W.heap.size W u2 := (by refine B10_th ?_ hb2; repeat (with_reducible (first | exact Below.refl _ _ | exact hB1 | refine B10_dr ?_ | refine B10_al ?_ _)))); (obtain ⟨D4, e4, d4, hv9, -⟩ := Gv.open_ K2); (dsimp only at hv9); (subst hv9); (have CG : CGv u2 W.heap.size (.agg #[.slice D0 e0 d0, .slice D1 e1 d1, .slice D2 e2 d2, .slice D3 e3 d3]) _ C ⟨p, cc, a⟩ := CGv.mk (by repeat (with_reducible (first | exact K1l | refine Cv.alloc ?_ _ | refine Cv.drew ?_))) K2 (Below.size (by repeat (with_reducible (first | exact Below.refl _ _ | exact hB1 | refine B10_dr ?_ | refine B10_al ?_ _)))) hb2))
      | (go_at_call 75; (with_reducible refine Calls.mono (TC _ ?_) ?_); (· repeat (with_reducible (first | exact HO | refine ORow.below ?_ hb2 | refine ORow.below ?_ hb1 | refine ORow.alloc ?_ _ | refine ORow.drew ?_))); rintro e u3 ⟨A7, c7, rfl, K3, hb3⟩; (have hB3 : Below W.heap.size W u3 := (by refine B10_th ?_ hb3; repeat (with_reducible (first | exact Below.refl _ _ | exact hB2 | refine B10_dr ?_ | refine B10_al ?_ _)))); (have HB : Bv u3 W.heap.size _ ⟨C, ⟨p, cc, a⟩, os, i, z⟩ := Bv.mk0 (CGv.below (by repeat (with_reducible (first | exact CG | refine CGv.alloc ?_ _ | refine CGv.drew ?_))) hb3) (ORow.mono K3 (Below.size (by repeat (with_reducible (first | exact Below.refl _ _ | exact hB2 | refine B10_dr ?_ | refine B10_al ?_ _))))) i z); (obtain ⟨⟨q0, q1, q2, q3, q4, q5, q6, q7, q8, q9⟩, ⟨k0, k1, k2, k3, k4, k5, k6, k7, k8, k9⟩⟩ := (Y.below hB3).cells)))
  all_goals
    rename_i hHeld
    clear hHeld
    have zz := hB3.size
    have YF := (Y.below hB3).set10 (.slice D0 e0 d0) (.slice D1 e1 d1) (.slice D2 e2 d2) (.slice D3 e3 d3) (.int .i64 p) (.slice D4 e4 d4) (.int .i64 a) (.slice A7 n5 c7) (.int .i64 i) (.bool z)
    obtain ⟨HF, FF⟩ := both_done (w := w) (b := w.heap.size + 1) HB (by omega) (by omega) (BB.trans (hB3.mono BB.size)) (.slice D0 e0 d0) (.slice D1 e1 d1) (.slice D2 e2 d2) (.slice D3 e3 d3) (.int .i64 p) (.slice D4 e4 d4) (.int .i64 a) (.slice A7 n5 c7) (.int .i64 i) (.bool z)
    clear q0 q1 q2 q3 q4 q5 q6 q7 q8 q9 k0 k1 k2 k3 k4 k5 k6 k7 k8 k9 x0 x1 x2 x3 x4 x5 x6 x7 x8 x9 SO
    go_wp2_with fail
    generalize ((((((((((u3.setCell ⟨w.heap.size + 1, 0, none⟩ (.slice D0 e0 d0)).setCell ⟨w.heap.size + 1, 1, none⟩ (.slice D1 e1 d1)).setCell ⟨w.heap.size + 1, 2, none⟩ (.slice D2 e2 d2)).setCell ⟨w.heap.size + 1, 3, none⟩ (.slice D3 e3 d3)).setCell ⟨w.heap.size + 1, 4, none⟩ (.int .i64 p)).setCell ⟨w.heap.size + 1, 5, none⟩ (.slice D4 e4 d4)).setCell ⟨w.heap.size + 1, 6, none⟩ (.int .i64 a)).setCell ⟨w.heap.size + 1, 7, none⟩ (.slice A7 n5 c7)).setCell ⟨w.heap.size + 1, 8, none⟩ (.int .i64 i)).setCell ⟨w.heap.size + 1, 9, none⟩ (.bool z)) = WF at YF HF FF ⊢
    obtain ⟨⟨v0, v1, v2, v3, v4, v5, v6, v7, v8, v9⟩, -⟩ := YF.cells
    refine bodyPost_ret (v := .agg #[.slice D0 e0 d0, .slice D1 e1 d1, .slice D2 e2 d2, .slice D3 e3 d3, .int .i64 p, .slice D4 e4 d4, .int .i64 a, .slice A7 n5 c7, .int .i64 i, .bool z]) ?_ rfl ⟨_, rfl, HF, FF⟩
    simp [results, Tryz.results31, go_sem, v0, v1, v2, v3, v4, v5, v6, v7, v8, v9]

set_option maxRecDepth 100000 in
set_option maxHeartbeats 4000000 in
theorem l7Copy_any (w : World) (lo : Nat) (v : Value) (B : Bp) (h : Bv w lo v B) (hv : gcB B.C B.G = true) (b5 : B.os.length ≤ 1048576) : Calls Tryz.prog 81 #[v] w (NewBv w B) := by
  obtain ⟨A0, n0, c0, A1, n1, c1, A2, n2, c2, A3, n3, c3, A4, n4, c4, A5, n5, c5, C, p, cc, a, os, i, z, rfl, rfl, hc, ho, ⟨l0, l1, l2, l3, l4, l5⟩, ⟨m0, m1, m2, m3, m4, m5⟩⟩ := h.open_
  dsimp only at *
  obtain ⟨h1, h2, _⟩ := gcB_iff.1 hv
  have hp : 0 < cc.length := by have := gcB_sizes hv; dsimp only at this; omega
  have b4 : cc.length ≤ 1048576 := by have := gcB_sizes hv; dsimp only at this; omega
  clear hv h2
  have X := (Blk10.new w (.slice A0 n0 c0) (.slice A1 n1 c1) (.slice A2 n2 c2) (.slice A3 n3 c3) (.int .i64 p) (.slice A4 n4 c4) (.int .i64 a) (.slice A5 n5 c5) (.int .i64 i) (.bool z) 32).alloc (.cells #[.slice none 0 0, .slice none 0 0, .slice none 0 0, .slice none 0 0, .int .i64 0, .slice none 0 0, .int .i64 0, .slice none 0 0, .int .i64 0, .bool false] 32)
  have Y := Blk10.new_at (w := w.alloc (.cells #[.slice A0 n0 c0, .slice A1 n1 c1, .slice A2 n2 c2, .slice A3 n3 c3, .int .i64 p, .slice A4 n4 c4, .int .i64 a, .slice A5 n5 c5, .int .i64 i, .bool z] 32)) (b := w.heap.size + 1) (by simp) (.slice none 0 0) (.slice none 0 0) (.slice none 0 0) (.slice none 0 0) (.int .i64 0) (.slice none 0 0) (.int .i64 0) (.slice none 0 0) (.int .i64 0) (.bool false) 32
  have HC := (hc.alloc (.cells #[.slice A0 n0 c0, .slice A1 n1 c1, .slice A2 n2 c2, .slice A3 n3 c3, .int .i64 p, .slice A4 n4 c4, .int .i64 a, .slice A5 n5 c5, .int .i64 i, .bool z] 32)).alloc (.cells #[.slice none 0 0, .slice none 0 0, .slice none 0 0, .slice none 0 0, .int .i64 0, .slice none 0 0, .int .i64 0, .slice none 0 0, .int .i64 0, .bool false] 32)
  have HO := (ho.alloc (.cells #[.slice A0 n0 c0, .slice A1 n1 c1, .slice A2 n2 c2, .slice A3 n3 c3, .int .i64 p, .slice A4 n4 c4, .int .i64 a, .slice A5 n5 c5, .int .i64 i, .bool z] 32)).alloc (.cells #[.slice none 0 0, .slice none 0 0, .slice none 0 0, .slice none 0 0, .int .i64 0, .slice none 0 0, .int .i64 0, .slice none 0 0, .int .i64 0, .bool false] 32)
  have BB : Below w.heap.size w ((w.alloc (.cells #[.slice A0 n0 c0, .slice A1 n1 c1, .slice A2 n2 c2, .slice A3 n3 c3, .int .i64 p, .slice A4 n4 c4, .int .i64 a, .slice A5 n5 c5, .int .i64 i, .bool z] 32)).alloc (.cells #[.slice none 0 0, .slice none 0 0, .slice none 0 0, .slice none 0 0, .int .i64 0, .slice none 0 0, .int .i64 0, .slice none 0 0, .int .i64 0, .bool false] 32)) := ((Below.refl _ _).alloc (Nat.le_refl _) _).alloc (by simp) _
  have sz : w.heap.size + 2 ≤ ((w.alloc (.cells #[.slice A0 n0 c0, .slice A1 n1 c1, .slice A2 n2 c2, .slice A3 n3 c3, .int .i64 p, .slice A4 n4 c4, .int .i64 a, .slice A5 n5 c5, .int .i64 i, .bool z] 32)).alloc (.cells #[.slice none 0 0, .slice none 0 0, .slice none 0 0, .slice none 0 0, .int .i64 0, .slice none 0 0, .int .i64 0, .slice none 0 0, .int .i64 0, .bool false] 32)).heap.size := by simp
  have hnb : w.heap.size ≠ w.heap.size + 1 := by omega
  have b5' : n5 ≤ 1048576 := by have := l5.out; omega
  clear hc ho h
  go_enter Tryz.func81, Tryz.ntmps81
  go_wp2_with fail
  generalize (w.alloc (.cells #[.slice A0 n0 c0, .slice A1 n1 c1, .slice A2 n2 c2, .slice A3 n3 c3, .int .i64 p, .slice A4 n4 c4, .int .i64 a, .slice A5 n5 c5, .int .i64 i, .bool z] 32)).alloc (.cells #[.slice none 0 0, .slice none 0 0, .slice none 0 0, .slice none 0 0, .int .i64 0, .slice none 0 0, .int .i64 0, .slice none 0 0, .int .i64 0, .bool false] 32) = W at X Y HC HO BB sz ⊢
  have SO : ∀ w' : World, Below W.heap.size W w' → w'.cell? ⟨w.heap.size, 0, none⟩ = some (.slice A0 n0 c0) ∧ w'.cell? ⟨w.heap.size, 1, none⟩ = some (.slice A1 n1 c1) ∧ w'.cell? ⟨w.heap.size, 2, none⟩ = some (.slice A2 n2 c2) ∧ w'.cell? ⟨w.heap.size, 3, none⟩ = some (.slice A3 n3 c3) ∧ w'.cell? ⟨w.heap.size, 4, none⟩ = some (.int .i64 p) ∧ w'.cell? ⟨w.heap.size, 5, none⟩ = some (.slice A4 n4 c4) ∧ w'.cell? ⟨w.heap.size, 6, none⟩ = some (.int .i64 a) ∧ w'.cell? ⟨w.heap.size, 7, none⟩ = some (.slice A5 n5 c5) ∧ w'.cell? ⟨w.heap.size, 8, none⟩ = some (.int .i64 i) ∧ w'.cell? ⟨w.heap.size, 9, none⟩ = some (.bool z) := fun w' hb => (X.below hb).cells.1
  obtain ⟨⟨x0, x1, x2, x3, x4, x5, x6, x7, x8, x9⟩, _⟩ := X.cells
  have TS := fun V (hV : Cv V lo (.agg #[.slice A0 n0 c0, .slice A1 n1 c1, .slice A2 n2 c2, .slice A3 n3 c3]) C) => l4Copy_any V lo _ C hV h1
  have TG := fun V (hV : Gv V lo (.agg #[.int .i64 p, .slice A4 n4 c4, .int .i64 a]) ⟨p, cc, a⟩) => l6Copy_any V lo _ ⟨p, cc, a⟩ hV hp b4
  have HS : Cv W lo (.agg #[.slice A0 n0 c0, .slice A1 n1 c1, .slice A2 n2 c2, .slice A3 n3 c3]) C := HC.cv
  have HG : Gv W lo (.agg #[.int .i64 p, .slice A4 n4 c4, .int .i64 a]) ⟨p, cc, a⟩ := HC.gv
  go_region_held3 (fun w' => w'.cell? ⟨w.heap.size, 0, none⟩ = some (.slice A0 n0 c0) ∧ w'.cell? ⟨w.heap.size, 1, none⟩ = some (.slice A1 n1 c1) ∧ w'.cell? ⟨w.heap.size, 2, none⟩ = some (.slice A2 n2 c2) ∧ w'.cell? ⟨w.heap.size, 3, none⟩ = some (.slice A3 n3 c3) ∧ w'.cell? ⟨w.heap.size, 4, none⟩ = some (.int .i64 p) ∧ w'.cell? ⟨w.heap.size, 5, none⟩ = some (.slice A4 n4 c4) ∧ w'.cell? ⟨w.heap.size, 6, none⟩ = some (.int .i64 a) ∧ w'.cell? ⟨w.heap.size, 7, none⟩ = some (.slice A5 n5 c5) ∧ w'.cell? ⟨w.heap.size, 8, none⟩ = some (.int .i64 i) ∧ w'.cell? ⟨w.heap.size, 9, none⟩ = some (.bool z))
    (((try dsimp only); (first | (refine SO _ ?_; (repeat (with_reducible (first | exact Below.refl _ _ | exact hB3 | exact hB2 | exact hB1 | refine B10_dr ?_ | refine B10_al ?_ _))); done) | (with_reducible exact ((X.below hB3).far10 hnb _ _ _ _ _ _ _ _ _ _).cells.1))))
    (first
      | (go_at_call 125; (with_reducible refine Calls.mono (TS _ ?_) ?_); (· repeat (with_reducible (first | exact HS | refine Cv.alloc ?_ _ | refine Cv.drew ?_))); rintro e u1 ⟨vs, rfl, K1, hb1⟩; (have hB1 : Below W.heap.size W u1 := (by refine B10_th ?_ hb1; repeat (with_reducible (first | exact Below.refl _ _ | refine B10_dr ?_ | refine B10_al ?_ _)))); (have K1l : Cv u1 W.heap.size vs C := K1.mono (Below.size (by repeat (with_reducible (first | exact Below.refl _ _ | refine B10_dr ?_ | refine B10_al ?_ _))))); (obtain ⟨D0, e0, d0, D1, e1, d1, D2, e2, d2, D3, e3, d3, hv9, -⟩ := Cv.open_ K1l); (subst hv9))
      | (go_at_call 120; (with_reducible refine Calls.mono (TG _ ?_) ?_); (· repeat (with_reducible (first | exact HG | refine Gv.below ?_ hb1 | refine Gv.alloc ?_ _ | refine Gv.drew ?_))); rintro e u2 ⟨vg, rfl, K2, hb2⟩; (have hB2 : Below W.heap.size W u2 := (by refine B10_th ?_ hb2; repeat (with_reducible (first | exact Below.refl _ _ | exact hB1 | refine B10_dr ?_ | refine B10_al ?_ _)))); (obtain ⟨D4, e4, d4, hv9, -⟩ := Gv.open_ K2); (dsimp only at hv9); (subst hv9); (have CG : CGv u2 W.heap.size (.agg #[.slice D0 e0 d0, .slice D1 e1 d1, .slice D2 e2 d2, .slice D3 e3 d3]) _ C ⟨p, cc, a⟩ := CGv.mk (by repeat (with_reducible (first | exact K1l | refine Cv.alloc ?_ _ | refine Cv.drew ?_))) K2 (Below.size (by repeat (with_reducible (first | exact Below.refl _ _ | exact hB1 | refine B10_dr ?_ | refine B10_al ?_ _)))) hb2))
      | (refine step_append_orow rfl (.tmp 9) (.tmp 11) rfl _ W.heap.size (by rfl) ?_ ?_ lo A5 n5 c5 os (by rfl) ?_ l5 b5' ?_; (· repeat (with_reducible (first | (refine ORow.emptyB _ _ ?_; (first | exact Nat.le_refl _ | exact Below.size (by repeat (with_reducible (first | exact Below.refl _ _ | exact hB2 | exact hB1 | refine B10_dr ?_ | refine B10_al ?_ _))))) | refine ORow.drew ?_ | refine ORow.alloc ?_ _ | refine ORow.below ?_ hb2 | refine ORow.below ?_ hb1))); (· exact Below.size (by repeat (with_reducible (first | exact Below.refl _ _ | exact hB2 | refine B10_dr ?_ | refine B10_al ?_ _)))); (· repeat (with_reducible (first | exact HO | refine ORow.below ?_ hb2 | refine ORow.below ?_ hb1 | refine ORow.alloc ?_ _ | refine ORow.drew ?_))); intro A7 c7 u3 K3 hb3; (have hB3 : Below W.heap.size W u3 := (by refine B10_th ?_ hb3; repeat (with_reducible (first | exact Below.refl _ _ | exact hB2 | refine B10_dr ?_ | refine B10_al ?_ _)))); (have HB : Bv u3 W.heap.size _ ⟨C, ⟨p, cc, a⟩, os, i, z⟩ := Bv.mk0 (CGv.below (by repeat (with_reducible (first | exact CG | refine CGv.alloc ?_ _ | refine CGv.drew ?_))) hb3) K3 i z); (obtain ⟨⟨q0, q1, q2, q3, q4, q5, q6, q7, q8, q9⟩, ⟨k0, k1, k2, k3, k4, k5, k6, k7, k8, k9⟩⟩ := (Y.below hB3).cells)))
  all_goals
    rename_i hHeld
    clear hHeld
    have zz := hB3.size
    have YF := (Y.below hB3).set10 (.slice D0 e0 d0) (.slice D1 e1 d1) (.slice D2 e2 d2) (.slice D3 e3 d3) (.int .i64 p) (.slice D4 e4 d4) (.int .i64 a) (.slice A7 n5 c7) (.int .i64 i) (.bool z)
    obtain ⟨HF, FF⟩ := both_done (w := w) (b := w.heap.size + 1) HB (by omega) (by omega) (BB.trans (hB3.mono BB.size)) (.slice D0 e0 d0) (.slice D1 e1 d1) (.slice D2 e2 d2) (.slice D3 e3 d3) (.int .i64 p) (.slice D4 e4 d4) (.int .i64 a) (.slice A7 n5 c7) (.int .i64 i) (.bool z)
    clear q0 q1 q2 q3 q4 q5 q6 q7 q8 q9 k0 k1 k2 k3 k4 k5 k6 k7 k8 k9 x0 x1 x2 x3 x4 x5 x6 x7 x8 x9 SO
    go_wp2_with fail
    generalize ((((((((((u3.setCell ⟨w.heap.size + 1, 0, none⟩ (.slice D0 e0 d0)).setCell ⟨w.heap.size + 1, 1, none⟩ (.slice D1 e1 d1)).setCell ⟨w.heap.size + 1, 2, none⟩ (.slice D2 e2 d2)).setCell ⟨w.heap.size + 1, 3, none⟩ (.slice D3 e3 d3)).setCell ⟨w.heap.size + 1, 4, none⟩ (.int .i64 p)).setCell ⟨w.heap.size + 1, 5, none⟩ (.slice D4 e4 d4)).setCell ⟨w.heap.size + 1, 6, none⟩ (.int .i64 a)).setCell ⟨w.heap.size + 1, 7, none⟩ (.slice A7 n5 c7)).setCell ⟨w.heap.size + 1, 8, none⟩ (.int .i64 i)).setCell ⟨w.heap.size + 1, 9, none⟩ (.bool z)) = WF at YF HF FF ⊢
    obtain ⟨⟨v0, v1, v2, v3, v4, v5, v6, v7, v8, v9⟩, -⟩ := YF.cells
    refine bodyPost_ret (v := .agg #[.slice D0 e0 d0, .slice D1 e1 d1, .slice D2 e2 d2, .slice D3 e3 d3, .int .i64 p, .slice D4 e4 d4, .int .i64 a, .slice A7 n5 c7, .int .i64 i, .bool z]) ?_ rfl ⟨_, rfl, HF, FF⟩
    simp [results, Tryz.results81, go_sem, v0, v1, v2, v3, v4, v5, v6, v7, v8, v9]

end Go.Proofs.YtfoimicbmkiigaaGreat

