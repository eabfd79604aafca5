import Derived.Test.YteogflkahoanlaaCopys
import Derived.Test.YteogflkahoanlaaPureKS
import Derived.ArgAppend
import Derived.WalkSpells
import Derived.Deep.Upon
import Derived.Test.YteogflkahoanlaaWrong
import Derived.Test.YteogflkahoanlaaCol
import Derived.Test.YteogflkahoanlaaRdA
import Derived.Test.YteogflkahoanlaaStoKs
import Derived.Test.YteogflkahoanlaaHpB
import Derived.Test.YteogflkahoanlaaStoA
import Derived.Test.YteogflkahoanlaaPure
/- spec.l1Copy of a heap that may have no roots: the new rows lie in blocks, the empty one too. -/
namespace Go.Proofs.Yteogflkahoanlaa
open Go.RowKit

/-- A new heap comes back, whose three rows lie in blocks. -/
def NewHvB (w : World) (h : Hp) (e : Ending) (w' : World) : Prop := ∃ g0 c0 g1 c1 g2 c2, e = .returned (.agg #[.slice (some ⟨g0, 0, none⟩) h.l.length c0, .slice (some ⟨g1, 0, none⟩) h.r.length c1, .slice (some ⟨g2, 0, none⟩) h.t.length c2]) ∧
  Hv w' w.heap.size (.agg #[.slice (some ⟨g0, 0, none⟩) h.l.length c0, .slice (some ⟨g1, 0, none⟩) h.r.length c1, .slice (some ⟨g2, 0, none⟩) h.t.length c2]) h ∧ Below w.heap.size w w'
theorem rowE_at {w : World} {lo g : Nat} (hg : g = w.heap.size) (hlo : lo ≤ w.heap.size) : Row (w.alloc (.cells #[] 3)) lo (.slice (some ⟨g, 0, none⟩) 0 0) [] := by
  subst hg
  unfold Row
  exact ⟨rfl, .inr ⟨w.heap.size, 0, #[], rfl, hlo, heap_alloc_new w _, Nat.le_refl _, by unfold maxLen; omega, rfl, rfl⟩⟩
/-- A row that is not empty and one that is, without room, lie apart. -/
theorem apart_empty {w : World} {lo lo' : Nat} {v : Value} {xs : List Int} {g : Nat} (h : Row w lo v xs) (hp : 0 < xs.length) (h' : Row w lo' (.slice (some ⟨g, 0, none⟩) 0 0) []) : Apart v (.slice (some ⟨g, 0, none⟩) 0 0) := by
  intro b hb hb'
  obtain rfl : g = b := by simpa [Value.ownBlock] using hb'
  rcases h.2 with ⟨e, h0⟩ | ⟨g1, cap, cur, e, _, hg, h1, _, h3, _⟩
  · omega
  · subst e
    obtain rfl : g1 = g := by simpa [Value.ownBlock] using hb
    rcases h'.2 with ⟨e, _⟩ | ⟨g2, cap2, cur2, e, _, hg2, _, _, h4, _⟩
    · cases e
    · cases e
      rw [hg] at hg2
      have h5 : cur = cur2 := by simpa using hg2
      subst h5
      omega
theorem step_append_zeroR {P : Program} {ops : Array Oper} {o : Oper} {a : Act} {w : World} {K : Act → World → Prop} {Q : Exit → Act → World → Prop} {E : Prop}
    (hg : o.guard = none) (s x : Operand) (t : TypeId) (hop : o.op = Op.call { callee := Callee.builtin Builtin.append, args := #[s, x], argTypes := #[t, t] })
    (e : TypeId) (i : TypeInfo) (h1 : P.underlying t = some (.slice e)) (h2 : P.info? e = some i)
    (lo g : Nat) (hs : a.eval s = .slice (some ⟨g, 0, none⟩) 0 0) (hR : Row w lo (.slice (some ⟨g, 0, none⟩) 0 0) []) (ax : Option Addr) (cx : Nat) (hx : a.eval x = .slice ax 0 cx)
    (hK : ∀ v' w', Row w' lo v' [] → (∃ g, v' = .slice (some ⟨g, 0, none⟩) 0 0) → Below w.heap.size w w' → K (a.put o.dst v') w') :
    if Region.wanted o (yielded ops a.tmps) = true then Oper.wp P o a w K Q else E := by
  have hw : Region.wanted o (yielded ops a.tmps) = true := by simp [Region.wanted, hg]
  rw [if_pos hw]
  have h9 := hK _ _ hR ⟨g, rfl⟩ (Below.refl _ _)
  have hrun : (Builtin.append_ #[t, t] o.type #[.slice (some ⟨g, 0, none⟩) 0 0, .slice ax 0 cx]).run P w = .ok (.slice (some ⟨g, 0, none⟩) 0 0) w := by
    refine run_append_nothing w t t o.type e i h1 h2 _ 0 0 (Nat.le_refl _) _ ?_
    cases ax with
    | none => exact Src.ofNil w h1 cx
    | some ad => exact Src.ofSlice w h1 ad 0 cx [] (by simp) (fun j u hj => by simp at hj) (fun u hu => by simp at hu)
  unfold Oper.wp
  simp [execOp, hop, resolve, invoke, builtin, hs, hx, hrun, Result.andThen]
  exact h9

set_option maxRecDepth 100000 in
set_option maxHeartbeats 3200000 in
theorem l1CopyE_any (w : World) (lo : Nat) (v : Value) (h : Hp) (hv : Hv w lo v h) (z0 : 0 < h.l.length) (z1 : 0 < h.r.length) (z2 : h.t = []) (b0 : h.l.length ≤ 1048576) (b1 : h.r.length ≤ 1048576) :
    Calls Try.prog 85 #[v] w (NewHvB w h) := by
  obtain ⟨A0, n0, c0, A1, n1, c1, A2, n2, c2, rfl, ⟨h0, h1, h2⟩, ⟨l0, l1, l2⟩, _⟩ := hv.open_
  obtain ⟨g0, rfl, _, _⟩ := h0.at_ z0
  obtain ⟨g1, rfl, _, _⟩ := h1.at_ z1
  have y0 : n0 = h.l.length := l0.out.symm
  have y1 : n1 = h.r.length := l1.out.symm
  obtain rfl : n2 = 0 := by rw [← l2.out, z2]; rfl
  obtain ⟨i0, hi, hz0, hz1, hz2⟩ := info_parts Try.infoInt
  have E0 : (h.l.map iv).length = n0 * 1 := by simp; omega
  have E1 : (h.r.map iv).length = n1 * 1 := by simp; omega
  have M0 : 0 + n0 ≤ maxLen := by unfold maxLen; omega
  have M1 : 0 + n1 ≤ maxLen := by unfold maxLen; omega
  have u0 : 0 < n0 ∧ n0 ≤ 1048576 := by omega
  have u1 : 0 < n1 ∧ n1 ≤ 1048576 := by omega
  obtain ⟨u0a, u0b⟩ := u0
  obtain ⟨u1a, u1b⟩ := u1
  have L0 : Hid (0 + n0 = h.l.length) := by unfold Hid; omega
  have L1 : Hid (0 + n1 = h.r.length) := by unfold Hid; omega
  clear hv y0 y1
  have X0 := (Blk3.new w (.slice (some ⟨g0, 0, none⟩) n0 c0) (.slice (some ⟨g1, 0, none⟩) n1 c1) (.slice A2 0 c2) 25).alloc (.cells #[.slice none 0 0, .slice none 0 0, .slice none 0 0] 25)
  obtain ⟨p00, p01, p02, _⟩ := X0.cells
  have Y0 := Blk3.new_at (w := w.alloc (.cells #[.slice (some ⟨g0, 0, none⟩) n0 c0, .slice (some ⟨g1, 0, none⟩) n1 c1, .slice A2 0 c2] 25)) (b := w.heap.size + 1) (by simp) (.slice none 0 0) (.slice none 0 0) (.slice none 0 0) 25
  go_enter Try.func85, Try.ntmps85
  go_wp2_with fail
  go_region_held3 (fun w' => w'.cell? ⟨w.heap.size, 0, none⟩ = some (.slice (some ⟨g0, 0, none⟩) n0 c0) ∧ w'.cell? ⟨w.heap.size, 1, none⟩ = some (.slice (some ⟨g1, 0, none⟩) n1 c1) ∧ w'.cell? ⟨w.heap.size, 2, none⟩ = some (.slice A2 0 c2))
    (((try dsimp only); (repeat' apply And.intro) <;> (first | ((repeat (with_reducible (first | exact p30 | exact p31 | exact p32 | exact p20 | exact p21 | exact p22 | exact p10 | exact p11 | exact p12 | exact p00 | exact p01 | exact p02 | refine cellD ?_ | refine cellA ?_ _))); done) | (rw [World.cell?_setCell_far _ _ _ _ (by simp), World.cell?_setCell_far _ _ _ _ (by simp), World.cell?_setCell_far _ _ _ _ (by simp)]; first | exact p30 | exact p31 | exact p32) | (go_keep; done))))
    (first
      | (refine step_append_grows rfl (.tmp 3) (.tmp 5) 23 rfl 3 i0 (.int .i64 0) 1 8 Try.underlying23 hi hz0 hz1 hz2 rfl (by decide) _ 0 0 [] (by rfl) (fun _ => ⟨rfl, rfl⟩) rfl (fun _ _ j u hj => nil_get hj) ⟨g0, 0, none⟩ n0 c0 (h.l.map iv) (by rfl) E0 ?_ (ints_oneCell _ _) (by omega) (by omega) (by omega) ?_; (exact Row.cellsV (lo := lo) (n := n0) (c := c0) (xs := h.l) (by repeat (with_reducible (first | refine Row.drew ?_ | refine Row.alloc ?_ _ | exact h0)))); intro v0 w1 hown0 hgr0; obtain ⟨A0', c0', rfl, hr0, hb1⟩ := after_append (xs := h.l) hown0 hgr0 L0.out; have X1 : Blk3 w1 w.heap.size (.slice (some ⟨g0, 0, none⟩) n0 c0) (.slice (some ⟨g1, 0, none⟩) n1 c1) (.slice A2 0 c2) 25 := (by repeat (with_reducible (first | exact X0 | refine Blk3.drew ?_ | refine Blk3.alloc ?_ _ | refine Blk3.below ?_ hb1))); have Y1 : Blk3 w1 (w.heap.size + 1) (.slice none 0 0) (.slice none 0 0) (.slice none 0 0) 25 := (by repeat (with_reducible (first | exact Y0 | refine Blk3.drew ?_ | refine Blk3.alloc ?_ _ | refine Blk3.below ?_ hb1))); obtain ⟨p10, p11, p12, _⟩ := X1.cells; obtain ⟨q10, q11, q12, f10, f11, f12⟩ := Y1.cells; (have sz1 : w.heap.size + 2 ≤ w1.heap.size := (by have := hb1.size; (try simp at this); omega)); clear hown0 hgr0)
      | (refine step_append_grows rfl (.tmp 7) (.tmp 9) 23 rfl 3 i0 (.int .i64 0) 1 8 Try.underlying23 hi hz0 hz1 hz2 rfl (by decide) _ 0 0 [] (by rfl) (fun _ => ⟨rfl, rfl⟩) rfl (fun _ _ j u hj => nil_get hj) ⟨g1, 0, none⟩ n1 c1 (h.r.map iv) (by rfl) E1 ?_ (ints_oneCell _ _) (by omega) (by omega) (by omega) ?_; (exact Row.cellsV (lo := lo) (n := n1) (c := c1) (xs := h.r) (by repeat (with_reducible (first | refine Row.drew ?_ | refine Row.alloc ?_ _ | exact h1 | refine Row.below ?_ hb1)))); intro v1 w2 hown1 hgr1; obtain ⟨A1', c1', rfl, hr1, hb2⟩ := after_append (xs := h.r) hown1 hgr1 L1.out; have X2 : Blk3 w2 w.heap.size (.slice (some ⟨g0, 0, none⟩) n0 c0) (.slice (some ⟨g1, 0, none⟩) n1 c1) (.slice A2 0 c2) 25 := (by repeat (with_reducible (first | exact X0 | refine Blk3.drew ?_ | refine Blk3.alloc ?_ _ | refine Blk3.below ?_ hb2 | refine Blk3.below ?_ hb1))); have Y2 : Blk3 w2 (w.heap.size + 1) (.slice none 0 0) (.slice none 0 0) (.slice none 0 0) 25 := (by repeat (with_reducible (first | exact Y0 | refine Blk3.drew ?_ | refine Blk3.alloc ?_ _ | refine Blk3.below ?_ hb2 | refine Blk3.below ?_ hb1))); obtain ⟨p20, p21, p22, _⟩ := X2.cells; obtain ⟨q20, q21, q22, f20, f21, f22⟩ := Y2.cells; (have sz2 : w.heap.size + 2 ≤ w2.heap.size := (by have := hb2.size; (try simp at this); omega)); clear hown1 hgr1)
      | (refine step_append_zeroR rfl (.tmp 11) (.tmp 13) 23 rfl 3 i0 Try.underlying23 hi (w.heap.size + 2) _ (by rfl) (by repeat (with_reducible (first | (refine rowE_at ?_ ?_ <;> first | omega | (simp <;> omega)) | refine Row.drew ?_ | refine Row.alloc ?_ _ | refine Row.below ?_ hb2 | refine Row.below ?_ hb1))) A2 c2 (by rfl) ?_; intro v2 w3 hr2 hv2 hb3; obtain ⟨g2, hv2⟩ := hv2; subst hv2; have X3 : Blk3 w3 w.heap.size (.slice (some ⟨g0, 0, none⟩) n0 c0) (.slice (some ⟨g1, 0, none⟩) n1 c1) (.slice A2 0 c2) 25 := (by repeat (with_reducible (first | exact X0 | refine Blk3.drew ?_ | refine Blk3.alloc ?_ _ | refine Blk3.below ?_ hb3 | refine Blk3.below ?_ hb2 | refine Blk3.below ?_ hb1))); have Y3 : Blk3 w3 (w.heap.size + 1) (.slice none 0 0) (.slice none 0 0) (.slice none 0 0) 25 := (by repeat (with_reducible (first | exact Y0 | refine Blk3.drew ?_ | refine Blk3.alloc ?_ _ | refine Blk3.below ?_ hb3 | refine Blk3.below ?_ hb2 | refine Blk3.below ?_ hb1))); obtain ⟨p30, p31, p32, _⟩ := X3.cells; obtain ⟨q30, q31, q32, f30, f31, f32⟩ := Y3.cells))
  all_goals
    have B1 : Below w.heap.size w w1 := Below.trans (by repeat (with_reducible (first | exact Below.refl _ _ | refine Below.drew ?_ | refine Below.alloc ?_ (by first | omega | (simp <;> omega)) _))) (hb1.mono (by first | omega | (simp <;> omega)))
    have s1 : w.heap.size + 2 ≤ w1.heap.size := by have := hb1.size; simp at this; omega
    have B2 : Below w.heap.size w w2 := Below.trans (by repeat (with_reducible (first | exact B1 | refine Below.drew ?_ | refine Below.alloc ?_ (by first | omega | (simp <;> omega)) _))) (hb2.mono (by first | omega | (simp <;> omega)))
    have s2 : w.heap.size + 2 ≤ w2.heap.size := by have := hb2.size; (try simp at this); omega
    have B3 : Below w.heap.size w w3 := Below.trans (by repeat (with_reducible (first | exact B2 | refine Below.drew ?_ | refine Below.alloc ?_ (by first | omega | (simp <;> omega)) _))) (hb3.mono (by first | omega | (simp <;> omega)))
    have r0 := hr0.mono (lo' := w.heap.size + 2) (by first | omega | (simp <;> omega))
    have r1 := hr1.mono (lo' := w.heap.size + 2) (by first | omega | (simp <;> omega))
    have a01 := apart_new (lo := w.heap.size + 2) (v := .slice A0' h.l.length c0') (xs := h.l) (by repeat (with_reducible (first | exact r0 | refine Row.drew ?_ | refine Row.alloc ?_ _))) hr1
    have R0 : Row w3 _ _ _ := (by repeat (with_reducible (first | exact r0 | refine Row.drew ?_ | refine Row.alloc ?_ _ | refine Row.below ?_ hb3 | refine Row.below ?_ hb2)) : Row w3 (w.heap.size + 2) (.slice A0' h.l.length c0') h.l)
    have R1 : Row w3 _ _ _ := (by repeat (with_reducible (first | exact r1 | refine Row.drew ?_ | refine Row.alloc ?_ _ | refine Row.below ?_ hb3)) : Row w3 (w.heap.size + 2) (.slice A1' h.r.length c1') h.r)
    have a02 := apart_empty R0 z0 hr2
    have a12 := apart_empty R1 z1 hr2
    have ht2 : Row w3 (w.heap.size + 2) (.slice (some ⟨g2, 0, none⟩) 0 0) h.t := by rw [z2]; exact hr2
    obtain ⟨hH, hB⟩ := copy_done R0 R1 ht2 a01 a02 a12 B3
    obtain ⟨h0', rfl, _⟩ := R0.at_ z0
    obtain ⟨h1', rfl, _⟩ := R1.at_ z1
    clear p00 p01 p02 p10 p11 p12 p20 p21 p22 p30 p31 p32 q10 q11 q12 q20 q21 q22
    go_wp2_with fail
    refine bodyPost_ret (v := .agg #[.slice (some ⟨h0', 0, none⟩) h.l.length c0', .slice (some ⟨h1', 0, none⟩) h.r.length c1', .slice (some ⟨g2, 0, none⟩) 0 0]) ?_ rfl ⟨h0', c0', h1', c1', g2, 0, by rw [z2]; rfl, by rw [z2]; exact hH, hB⟩
    simp [results, Try.results85, go_sem, q30, q31, q32]
theorem l1CopyG_any (w : World) (lo : Nat) (v : Value) (h : Hp) (hv : Hv w lo v h) (z0 : 0 < h.l.length) (z1 : 0 < h.r.length) (b0 : h.l.length ≤ 1048576) (b1 : h.r.length ≤ 1048576) (b2 : h.t.length ≤ 1048576) :
    Calls Try.prog 85 #[v] w (NewHvB w h) := by
  rcases Nat.eq_zero_or_pos h.t.length with z2 | z2
  · exact l1CopyE_any w lo v h hv z0 z1 (List.eq_nil_of_length_eq_zero z2) b0 b1
  · refine (l1Copy_any w lo v h hv z0 z1 z2 b0 b1 b2).mono ?_
    rintro e w' ⟨v', rfl, hH, hB⟩
    obtain ⟨A0, c0, A1, c1, A2, c2, rfl, r0, r1, r2, _⟩ := hH.form
    obtain ⟨g0, rfl, _⟩ := r0.at_ z0
    obtain ⟨g1, rfl, _⟩ := r1.at_ z1
    obtain ⟨g2, rfl, _⟩ := r2.at_ z2
    exact ⟨g0, c0, g1, c1, g2, c2, rfl, hH, hB⟩
end Go.Proofs.Yteogflkahoanlaa

/- spec.l1Wrong of any heap: a heap comes back, whatever it is, in new blocks; of what was there only the reader has turned. -/
namespace Go.Proofs.Yteogflkahoanlaa
open Go.RowKit

/-- A heap in block bx over rows of the call's own, the reader, and nothing else has turned. -/
structure HSt (w wr : World) (B rb bx rs : Nat) (A : Option Addr) (nb c p : Nat) (v0 v1 v2 : Value) (h : Hp) : Prop where
  res : Blk3 wr rs (.slice none 0 0) (.slice none 0 0) (.slice none 0 0) 25
  blk : Blk3 wr bx v0 v1 v2 25
  hv : Hv wr (rs + 1) (.agg #[v0, v1, v2]) h
  far : v0.ownBlock ≠ some bx ∧ v1.ownBlock ≠ some bx ∧ v2.ownBlock ≠ some bx
  rd : Rd wr B rb A nb c p
  gr : w.grownBy wr (some rb)
  rbl : rb < rs
  rsw : w.heap.size ≤ rs
  rsb : rs < bx
theorem blk3_kept {w w' : World} {b rb : Nat} {x y z : Value} {t : TypeId} (h : Blk3 w b x y z t) (hg : w.grownBy w' (some rb)) (hb : b ≠ rb) : Blk3 w' b x y z t := (hg.block b h.lt (fun e => hb (Option.some.inj e))).trans h
section
variable {w wr : World} {B rb bx rs : Nat} {A : Option Addr} {nb c p : Nat} {v0 v1 v2 : Value} {h : Hp}
theorem HSt.pick (h1 : HSt w wr B rb bx rs A nb c p v0 v1 v2 h) {w1 : World} {p' : Nat} (hR : Rd w1 B rb A nb c p') (hO : Only rb wr w1) : HSt w w1 B rb bx rs A nb c p' v0 v1 v2 h :=
  ⟨blk3_kept h1.res hO.1 (by have := h1.rbl; omega), blk3_kept h1.blk hO.1 (by have := h1.rbl; have := h1.rsb; omega), h1.hv.low_kept hO.1 (by have := h1.rbl; omega), h1.far, hR, grown_trans h1.gr hO.1, h1.rbl, h1.rsw, h1.rsb⟩
theorem HSt.drew (h1 : HSt w wr B rb bx rs A nb c p v0 v1 v2 h) : HSt w wr.drew B rb bx rs A nb c p v0 v1 v2 h := ⟨h1.res, h1.blk, h1.hv, h1.far, h1.rd, grown_drew h1.gr, h1.rbl, h1.rsw, h1.rsb⟩
theorem HSt.alloc (h1 : HSt w wr B rb bx rs A nb c p v0 v1 v2 h) (o : Obj) : HSt w (wr.alloc o) B rb bx rs A nb c p v0 v1 v2 h := ⟨h1.res.alloc o, h1.blk.alloc o, h1.hv.alloc o, h1.far, h1.rd.alloc o, grown_alloc h1.gr o, h1.rbl, h1.rsw, h1.rsb⟩
theorem h_done (h1 : HSt w wr B rb bx rs A nb c p v0 v1 v2 h) : Hv (((wr.setCell ⟨rs, 0, none⟩ v0).setCell ⟨rs, 1, none⟩ v1).setCell ⟨rs, 2, none⟩ v2) w.heap.size (.agg #[v0, v1, v2]) h ∧ Rd (((wr.setCell ⟨rs, 0, none⟩ v0).setCell ⟨rs, 1, none⟩ v1).setCell ⟨rs, 2, none⟩ v2) B rb A nb c p ∧ w.grownBy (((wr.setCell ⟨rs, 0, none⟩ v0).setCell ⟨rs, 1, none⟩ v1).setCell ⟨rs, 2, none⟩ v2) (some rb) := by
  have hr := h1.rbl
  have hs := h1.rsb
  have hw := h1.rsw
  have hB := h1.rd.2.2.1
  have n2 : rb ≠ rs := by omega
  have n3 : B ≤ rs := by omega
  have lt : rs < rs + 1 := by omega
  exact ⟨(((h1.hv.low_set (p := ⟨rs, 0, none⟩) lt _).low_set (p := ⟨rs, 1, none⟩) lt _).low_set (p := ⟨rs, 2, none⟩) lt _).mono (by omega),
    ((h1.rd.other (a := ⟨rs, 0, none⟩) n2 n3 _).other (a := ⟨rs, 1, none⟩) n2 n3 _).other (a := ⟨rs, 2, none⟩) n2 n3 _,
    grown_set (grown_set (grown_set h1.gr (p := ⟨rs, 0, none⟩) (.inr hw) _) (p := ⟨rs, 1, none⟩) (.inr hw) _) (p := ⟨rs, 2, none⟩) (.inr hw) _⟩
theorem HSt.rows (h1 : HSt w wr B rb bx rs A nb c p v0 v1 v2 h) : Row wr (rs + 1) v0 h.l ∧ Row wr (rs + 1) v1 h.r ∧ Row wr (rs + 1) v2 h.t := by
  obtain ⟨_, _, _, e, r0, r1, r2, _⟩ := h1.hv
  cases e; exact ⟨r0, r1, r2⟩
end
theorem HSt.cell0 {w wr : World} {B rb bx rs : Nat} {A : Option Addr} {nb c p : Nat} {v1 v2 : Value} {g n cp : Nat} {h : Hp} (h1 : HSt w wr B rb bx rs A nb c p (.slice (some ⟨g, 0, none⟩) n cp) v1 v2 h) (k : Nat) (x : Int) :
    HSt w (wr.setCell ⟨g, k, none⟩ (.int .i64 x)) B rb bx rs A nb c p (.slice (some ⟨g, 0, none⟩) n cp) v1 v2 ⟨h.l.set k x, h.r, h.t⟩ := by
  obtain ⟨_, _, _, e, r0, r1, r2, a01, a02, a12⟩ := h1.hv
  cases e
  have hg := (r0.lt g rfl).1
  have hr := h1.rbl
  have hs := h1.rsb
  have hw := h1.rsw
  have hB := h1.rd.2.2.1
  have fb : bx ≠ g := fun e => h1.far.1 (by rw [e]; rfl)
  exact ⟨h1.res.other (p := ⟨g, k, none⟩) (by show _ ≠ g; omega) _, h1.blk.other (p := ⟨g, k, none⟩) fb _,
    ⟨_, _, _, rfl, r0.set_ k x, r1.other (a := ⟨g, k, none⟩) (fun e => a01 g rfl e) _, r2.other (a := ⟨g, k, none⟩) (fun e => a02 g rfl e) _, a01, a02, a12⟩, h1.far,
    h1.rd.other (a := ⟨g, k, none⟩) (by show _ ≠ g; omega) (by show _ ≤ g; omega) _, grown_set h1.gr (p := ⟨g, k, none⟩) (.inr (by show _ ≤ g; omega)) _, h1.rbl, h1.rsw, h1.rsb⟩
/-- Row 1 was appended to, and stored. -/
theorem HSt.grew1 {w w4 w5 : World} {B rb bx rs : Nat} {A : Option Addr} {nb c p : Nat} {v0 v2 : Value} {g3 n cp g n' cap : Nat} {h : Hp} {o : Obj} {ys : List Int} (h1 : HSt w w4 B rb bx rs A nb c p v0 (.slice (some ⟨g3, 0, none⟩) n cp) v2 h)
    (W1 : Row w5 (rs + 1) (.slice (some ⟨g, 0, none⟩) n' cap) ys) (hgr : (w4.alloc o).grownBy w5 (some g3)) (hat : (Value.slice (some ⟨g3, 0, none⟩) n cp).ownBlock = some g ∨ g = w4.heap.size + 1) :
    HSt w (w5.setCell ⟨bx, 1, none⟩ (.slice (some ⟨g, 0, none⟩) n' cap)) B rb bx rs A nb c p v0 (.slice (some ⟨g, 0, none⟩) n' cap) v2 ⟨h.l, ys, h.t⟩ := by
  have hr := h1.rbl
  have hs := h1.rsb
  have hw := h1.rsw
  have hB := h1.rd.2.2.1
  have hbl := h1.blk.lt
  obtain ⟨_, _, _, e, r0, r1, r2, a01, a02, a12⟩ := h1.hv
  cases e
  obtain ⟨hg, hgl⟩ := r1.lt g3 rfl
  have fb : bx ≠ g3 := fun e => h1.far.2.1 (by rw [e]; rfl)
  have fg : (Value.slice (some ⟨g, 0, none⟩) n' cap).ownBlock ≠ some bx := fun e => by
    have e1 : g = bx := by simpa [Value.ownBlock] using e
    rcases hat with h9 | h9
    · have : g3 = g := by simpa [Value.ownBlock] using h9
      omega
    · omega
  have n2 : rb ≠ bx := by omega
  have n3 : B ≤ bx := by omega
  have K0 := (r0.alloc o).kept hgr (.inr fun e => a01 g3 e rfl)
  have K2 := (r2.alloc o).kept hgr (.inr fun e => a12 g3 rfl e)
  exact ⟨(blk3_kept (h1.res.alloc o) hgr (by omega)).other (p := ⟨bx, 1, none⟩) (by show rs ≠ bx; omega) _, (blk3_kept (h1.blk.alloc o) hgr fb).set1 _,
    ⟨_, _, _, rfl, K0.other (a := ⟨bx, 1, none⟩) (fun e => h1.far.1 e) _, W1.other (a := ⟨bx, 1, none⟩) fg _, K2.other (a := ⟨bx, 1, none⟩) (fun e => h1.far.2.2 e) _, lies_apart r0 hat a01, a02, (lies_apart r2 hat a12.symm).symm⟩, ⟨h1.far.1, fg, h1.far.2.2⟩, (((h1.rd.alloc o).kept hgr (by omega) (by omega)).other (a := ⟨bx, 1, none⟩) n2 n3 _),
    grown_set (p := ⟨bx, 1, none⟩) (grown_new (grown_alloc h1.gr o) hgr (by omega)) (.inr (by show _ ≤ bx; omega)) _, hr, hw, hs⟩
/-- Row 2 was appended to, and stored. -/
theorem HSt.grew2 {w w4 w5 : World} {B rb bx rs : Nat} {A : Option Addr} {nb c p : Nat} {v0 v1 : Value} {g3 n cp g n' cap : Nat} {h : Hp} {o : Obj} {ys : List Int} (h1 : HSt w w4 B rb bx rs A nb c p v0 v1 (.slice (some ⟨g3, 0, none⟩) n cp) h)
    (W1 : Row w5 (rs + 1) (.slice (some ⟨g, 0, none⟩) n' cap) ys) (hgr : (w4.alloc o).grownBy w5 (some g3)) (hat : (Value.slice (some ⟨g3, 0, none⟩) n cp).ownBlock = some g ∨ g = w4.heap.size + 1) :
    HSt w (w5.setCell ⟨bx, 2, none⟩ (.slice (some ⟨g, 0, none⟩) n' cap)) B rb bx rs A nb c p v0 v1 (.slice (some ⟨g, 0, none⟩) n' cap) ⟨h.l, h.r, ys⟩ := by
  have hr := h1.rbl
  have hs := h1.rsb
  have hw := h1.rsw
  have hB := h1.rd.2.2.1
  have hbl := h1.blk.lt
  obtain ⟨_, _, _, e, r0, r1, r2, a01, a02, a12⟩ := h1.hv
  cases e
  obtain ⟨hg, hgl⟩ := r2.lt g3 rfl
  have fb : bx ≠ g3 := fun e => h1.far.2.2 (by rw [e]; rfl)
  have fg : (Value.slice (some ⟨g, 0, none⟩) n' cap).ownBlock ≠ some bx := fun e => by
    have e1 : g = bx := by simpa [Value.ownBlock] using e
    rcases hat with h9 | h9
    · have : g3 = g := by simpa [Value.ownBlock] using h9
      omega
    · omega
  have n2 : rb ≠ bx := by omega
  have n3 : B ≤ bx := by omega
  have K0 := (r0.alloc o).kept hgr (.inr fun e => a02 g3 e rfl)
  have K1 := (r1.alloc o).kept hgr (.inr fun e => a12 g3 e rfl)
  exact ⟨(blk3_kept (h1.res.alloc o) hgr (by omega)).other (p := ⟨bx, 2, none⟩) (by show rs ≠ bx; omega) _, (blk3_kept (h1.blk.alloc o) hgr fb).set2 _,
    ⟨_, _, _, rfl, K0.other (a := ⟨bx, 2, none⟩) (fun e => h1.far.1 e) _, K1.other (a := ⟨bx, 2, none⟩) (fun e => h1.far.2.1 e) _, W1.other (a := ⟨bx, 2, none⟩) fg _, a01, lies_apart r0 hat a02, lies_apart r1 hat a12⟩, ⟨h1.far.1, h1.far.2.1, fg⟩, (((h1.rd.alloc o).kept hgr (by omega) (by omega)).other (a := ⟨bx, 2, none⟩) n2 n3 _),
    grown_set (p := ⟨bx, 2, none⟩) (grown_new (grown_alloc h1.gr o) hgr (by omega)) (.inr (by show _ ≤ bx; omega)) _, hr, hw, hs⟩
/-- The roots were replaced by none, and stored. -/
theorem HSt.bare {w wr : World} {B rb bx rs : Nat} {A : Option Addr} {nb c p : Nat} {v0 v1 v2 : Value} {h : Hp} (h1 : HSt w wr B rb bx rs A nb c p v0 v1 v2 h) :
    HSt w ((wr.setCell ⟨bx, 2, none⟩ (.slice (some ⟨wr.heap.size, 0, none⟩) 0 0)).alloc (.cells #[] 3)) B rb bx rs A nb c p v0 v1 (.slice (some ⟨wr.heap.size, 0, none⟩) 0 0) ⟨h.l, h.r, []⟩ := by
  have hr := h1.rbl
  have hs := h1.rsb
  have hw := h1.rsw
  have hB := h1.rd.2.2.1
  have hbl := h1.blk.lt
  obtain ⟨_, _, _, e, r0, r1, r2, a01, a02, a12⟩ := h1.hv
  cases e
  have n2 : rb ≠ bx := by omega
  have n3 : B ≤ bx := by omega
  have fg : (Value.slice (some ⟨wr.heap.size, 0, none⟩) 0 0).ownBlock ≠ some bx := fun e => by
    have e1 : wr.heap.size = bx := by simpa [Value.ownBlock] using e
    omega
  have sz : (wr.setCell ⟨bx, 2, none⟩ (.slice (some ⟨wr.heap.size, 0, none⟩) 0 0)).heap.size = wr.heap.size := by simp [World.setCell]
  have ap : ∀ (v : Value) (xs : List Int), Row wr (rs + 1) v xs → Apart v (.slice (some ⟨wr.heap.size, 0, none⟩) 0 0) := fun v xs r b hb hb' => by
    have h9 := (r.lt b hb).2
    have e1 : wr.heap.size = b := by simpa [Value.ownBlock] using hb'
    omega
  exact ⟨(h1.res.other (p := ⟨bx, 2, none⟩) (by show rs ≠ bx; omega) _).alloc _, (h1.blk.set2 _).alloc _,
    ⟨_, _, _, rfl, (r0.other (a := ⟨bx, 2, none⟩) (fun e => h1.far.1 e) _).alloc _, (r1.other (a := ⟨bx, 2, none⟩) (fun e => h1.far.2.1 e) _).alloc _, rowE_at sz.symm (by rw [sz]; omega), a01, ap _ _ r0, ap _ _ r1⟩, ⟨h1.far.1, h1.far.2.1, fg⟩,
    (h1.rd.other (a := ⟨bx, 2, none⟩) n2 n3 _).alloc _, grown_alloc (grown_set (p := ⟨bx, 2, none⟩) h1.gr (.inr (by show _ ≤ bx; omega)) _) _, hr, hw, hs⟩
/-- Some heap comes back, of bounded rows. -/
def SzH (N : Nat) (h : Hp) : Prop := 1 ≤ h.l.length ∧ h.l.length ≤ 8 ∧ 1 ≤ h.r.length ∧ h.r.length ≤ N ∧ h.t.length ≤ N
def DrawnWB (N : Nat) (w : World) (B rb : Nat) (A : Option Addr) (nb c p : Nat) (e : Ending) (w' : World) : Prop :=
  ∃ v h p', e = .returned v ∧ Hv w' w.heap.size v h ∧ SzH N h ∧ Rd w' B rb A nb c p' ∧ p' ≤ p + 4 ∧ w.grownBy w' (some rb)

set_option maxRecDepth 100000 in
set_option maxHeartbeats 4000000 in
theorem l1WrongG_any (N : Nat) (hN : N ≤ 100) (w : World) (B rb : Nat) (A : Option Addr) (nb c p : Nat) (h : Rd w B rb A nb c p) (hp : p ≤ 10000) (lo : Nat) (v : Value) (hh : Hp) (hv : Hv w lo v hh) (hlen : SzH N hh) :
    Calls Try.prog 96 #[.pointer (some ⟨rb, 0, none⟩), v] w (DrawnWB (N + 1) w B rb A nb c p) := by
  obtain ⟨i0, hi, hz0, hz1, hz2⟩ := info_parts Try.infoInt
  have hrl := h.lt
  obtain ⟨Z0, k0, d0, Z1, k1, d1, Z2, k2, d2, rfl, _⟩ := hv.open_
  have hv1 := (hv.alloc (.cells #[.slice Z0 k0 d0, .slice Z1 k1 d1, .slice Z2 k2 d2] 25)).alloc (.cells #[.slice none 0 0, .slice none 0 0, .slice none 0 0] 25)
  have Y0 := Blk3.new_at (w := w.alloc (.cells #[.slice Z0 k0 d0, .slice Z1 k1 d1, .slice Z2 k2 d2] 25)) (b := w.heap.size + 1) (by simp) (.slice none 0 0) (.slice none 0 0) (.slice none 0 0) 25
  have hR0 := (h.alloc (.cells #[.slice Z0 k0 d0, .slice Z1 k1 d1, .slice Z2 k2 d2] 25)).alloc (.cells #[.slice none 0 0, .slice none 0 0, .slice none 0 0] 25)
  have G0 : w.grownBy ((w.alloc (.cells #[.slice Z0 k0 d0, .slice Z1 k1 d1, .slice Z2 k2 d2] 25)).alloc (.cells #[.slice none 0 0, .slice none 0 0, .slice none 0 0] 25)) (some rb) := grown_alloc (grown_alloc (World.grownBy.refl w _) _) _
  have sz : ((w.alloc (.cells #[.slice Z0 k0 d0, .slice Z1 k1 d1, .slice Z2 k2 d2] 25)).alloc (.cells #[.slice none 0 0, .slice none 0 0, .slice none 0 0] 25)).heap.size = w.heap.size + 2 := by simp
  obtain ⟨ln1, ln2, ln3, ln4, ln5⟩ := hlen
  have C := l1CopyG_any _ _ _ _ hv1 (by omega) (by omega) (by omega) (by omega) (by omega)
  clear hv hv1 h
  go_enter Try.func96, Try.ntmps96
  go_wp2_with fail
  generalize (w.alloc (.cells #[.slice Z0 k0 d0, .slice Z1 k1 d1, .slice Z2 k2 d2] 25)).alloc (.cells #[.slice none 0 0, .slice none 0 0, .slice none 0 0] 25) = W at Y0 hR0 G0 sz C ⊢
  refine C.mono ?_; rintro e w3 ⟨g0, c0, g1, c1, g2, c2, rfl, hv3, hb3⟩
  have z3 := hb3.size
  generalize hn0 : hh.l.length = n0 at hv3 ln1 ln2 ⊢
  generalize hn1 : hh.r.length = n1 at hv3 ln3 ln4 ⊢
  generalize hn2 : hh.t.length = n2 at hv3 ln5 ⊢
  have L0 := Lib.hid hn0
  have L1 := Lib.hid hn1
  have L2 := Lib.hid hn2
  clear hn0 hn1 hn2 C
  have st : HSt w (w3.alloc (.cells #[.slice (some ⟨g0, 0, none⟩) n0 c0, .slice (some ⟨g1, 0, none⟩) n1 c1, .slice (some ⟨g2, 0, none⟩) n2 c2] 25)) B rb w3.heap.size (w.heap.size + 1) A nb c p (.slice (some ⟨g0, 0, none⟩) n0 c0) (.slice (some ⟨g1, 0, none⟩) n1 c1) (.slice (some ⟨g2, 0, none⟩) n2 c2) hh := {
    res := (Y0.below hb3).alloc _
    blk := Blk3.new w3 _ _ _ _
    hv := (hv3.mono (by omega)).alloc _
    far := by
      obtain ⟨_, _, _, e, r0, r1, r2, _⟩ := hv3
      cases e
      exact ⟨fun e => by have := (r0.lt _ e).2; omega, fun e => by have := (r1.lt _ e).2; omega, fun e => by have := (r2.lt _ e).2; omega⟩
    rd := (hR0.below hb3).alloc _
    gr := grown_alloc (grown_of G0 hb3) _
    rbl := by omega
    rsw := by omega
    rsb := by omega }
  have P := fun W hR => pick_any W B rb A nb c p hR 20 (by omega) (by omega) (by omega)
  clear hv3 hb3 hR0 G0 Y0
  go_wp2_with fail
  refine (P _ (by exact st.rd)).mono ?_; rintro e w4 ⟨x, rfl, hx, hR4, hO4⟩
  have st1 := st.pick hR4 hO4
  generalize w3.heap.size = bx at st1 ⊢
  clear st P hR4 hO4
  obtain ⟨x0, x1, x2, xf0, xf1, xf2⟩ := st1.blk.cells
  by_cases t4 : 4 ≤ x
  · have q0 : ((x : Int) == 0) = false := by simp; omega
    have q1 : ((x : Int) == 1) = false := by simp; omega
    have q2 : ((x : Int) == 2) = false := by simp; omega
    have q3 : ((x : Int) == 3) = false := by simp; omega
    obtain ⟨hH, hR, hG⟩ := h_done st1
    obtain ⟨r0, r1, r2, f0, f1, f2⟩ := st1.res.cells
    have hz : SzH (N + 1) hh := ⟨by rw [L0.out]; exact ln1, by rw [L0.out]; exact ln2, by rw [L1.out]; exact ln3, by rw [L1.out]; omega, by rw [L2.out]; omega⟩
    clear st1
    go_wp2_with fail
    refine bodyPost_ret (v := .agg #[.slice (some ⟨g0, 0, none⟩) n0 c0, .slice (some ⟨g1, 0, none⟩) n1 c1, .slice (some ⟨g2, 0, none⟩) n2 c2]) ?_ rfl ⟨_, hh, p + 1, rfl, hH, hz, hR, by omega, hG⟩
    simp [results, Try.results96, go_sem, r0, r1, r2]
  by_cases t0 : x = 0
  · subst t0
    have u1 : 1 ≤ (n0 : Int) := by omega
    have u2 : (n0 : Int) ≤ 1048576 := by omega
    have v1 : p + 1 ≤ 1048576 := by omega
    have v2 : p + 1 + 1 ≤ 1048576 := by omega
    have hrb4 : rb < w4.heap.size := st1.rd.lt
    clear x1 x2 xf0 xf1 xf2
    go_wp2_with fail
    go_region_held3 (fun w' => w'.cell? ⟨bx, 0, none⟩ = some (.slice (some ⟨g0, 0, none⟩) n0 c0))
      ((with_reducible (first | exact x0 | exact cellD x0 | exact cellA x0 _ | exact cellD (cellA x0 _) | exact cellA (cellD x0) _ | exact y0 | exact cellA y0 _ | exact z0 | (rw [World.cell?_setCell_far _ _ _ _ (by exact hgb)]; exact z0))))
      (first
        | (go_at_call 86; (with_reducible refine (pick_any _ B rb A nb c (p + 1) st1.rd.drew (n0 : Int) u1 u2 v1).mono ?_); rintro e w5 ⟨xv, rfl, hxv, hR5, hO5⟩; have hxn : xv < hh.l.length := (by rw [L0.out]; omega); have st2 := st1.drew.pick hR5 hO5; obtain ⟨y0, y1, y2, _⟩ := st2.blk.cells)
        | (go_at_call 86; (with_reducible refine (pick_any _ B rb A nb c (p + 1) (st1.rd.alloc (.cells #[.int .i64 (-2), .int .i64 8, .int .i64 0] 3)).drew (n0 : Int) u1 u2 v1).mono ?_); rintro e w5 ⟨xv, rfl, hxv, hR5, hO5⟩; have hxn : xv < hh.l.length := (by rw [L0.out]; omega); have hlit := Row.kept (row := some rb) (lit3 w4 (-2) 8 0).drew hO5.1 (.inr (lit_ne hrb4)); have st2 := (st1.alloc (.cells #[.int .i64 (-2), .int .i64 8, .int .i64 0] 3)).drew.pick hR5 hO5; obtain ⟨y0, y1, y2, _⟩ := st2.blk.cells)
        | (go_at_call 76; (with_reducible refine (num_any _ B rb A nb c (p + 1 + 1) hR5 v2 w4.heap.size 3 3 [-2, 8, 0] 0 hlit (len3 _ _ _) (by decide) (by decide) (Nat.ne_of_gt hrb4)).mono ?_); rintro e w6 ⟨yv, _, rfl, hR6, hO6⟩; have st3 := st2.pick hR6 hO6; obtain ⟨g', _, e', hg1, hg2, _, hc6, hf6⟩ := st3.rows.1.get (k := xv) hxn; cases e'; obtain ⟨z0, z1, z2, _⟩ := st3.blk.cells; have hgb : g0 ≠ bx := (fun e => st3.far.1 (by rw [e]; rfl)))
        | (go_at_call 76; (with_reducible refine (num_any _ B rb A nb c (p + 1 + 1) (hR5.alloc (.cells #[.int .i64 (-2), .int .i64 8, .int .i64 0] 3)) v2 w5.heap.size 3 3 [-2, 8, 0] 0 (lit3 w5 (-2) 8 0) (len3 _ _ _) (by decide) (by decide) (Nat.ne_of_gt hR5.lt)).mono ?_); rintro e w6 ⟨yv, _, rfl, hR6, hO6⟩; have st3 := (st2.alloc (.cells #[.int .i64 (-2), .int .i64 8, .int .i64 0] 3)).pick hR6 hO6; obtain ⟨g', _, e', hg1, hg2, _, hc6, hf6⟩ := st3.rows.1.get (k := xv) hxn; cases e'; obtain ⟨z0, z1, z2, _⟩ := st3.blk.cells; have hgb : g0 ≠ bx := (fun e => st3.far.1 (by rw [e]; rfl))))
    all_goals
      have st4 := st3.cell0 xv yv
      obtain ⟨hH, hR, hG⟩ := h_done st4
      obtain ⟨x0, x1, x2, _⟩ := st4.blk.cells
      obtain ⟨s0, s1, s2, h0, h1, h2⟩ := st4.res.cells
      have hz : SzH (N + 1) ⟨hh.l.set xv yv, hh.r, hh.t⟩ := ⟨by show 1 ≤ (hh.l.set xv yv).length; rw [List.length_set, L0.out]; exact ln1, by show (hh.l.set xv yv).length ≤ 8; rw [List.length_set, L0.out]; exact ln2, by show 1 ≤ hh.r.length; rw [L1.out]; exact ln3, by show hh.r.length ≤ _; rw [L1.out]; omega, by show hh.t.length ≤ _; rw [L2.out]; omega⟩
      clear st4 st3 st2 st1 hR5 hO5 hR6 hO6 y0 y1 y2 z0 z1 z2 hc6 hf6
      go_wp2_with fail
      refine bodyPost_ret (v := .agg #[.slice (some ⟨g0, 0, none⟩) n0 c0, .slice (some ⟨g1, 0, none⟩) n1 c1, .slice (some ⟨g2, 0, none⟩) n2 c2]) ?_ rfl ⟨_, _, p + 1 + 1 + 1, rfl, hH, hz, hR, by omega, hG⟩
      simp [results, Try.results96, go_sem, s0, s1, s2]
  by_cases t1 : x = 1
  · subst t1
    obtain ⟨_, rr1, _⟩ := st1.rows
    have own1 : w4.ownsRow (w.heap.size + 1 + 1) 3 1 (.slice (some ⟨g1, 0, none⟩) n1 c1) n1 (hh.r.map iv) := own_of rr1 L1.out
    have hbx4 : bx < w4.heap.size := st1.blk.lt
    have hbxl := st1.rsb
    have hz4 : (w4.alloc (.cells #[.int .i64 (-1)] 3)).heap.size = w4.heap.size + 1 := by simp
    have lr := L1.out
    go_wp2_with (at_builtin; refine wpList_append_lies _ rfl _ _ 23 rfl (w.heap.size + 1 + 1) 3 i0 (.int .i64 0) 1 8 Try.underlying23 hi hz0 hz1 hz2 rfl (by decide) _ _ _ rfl (own1.alloc _) ⟨w4.heap.size, 0, none⟩ 1 1 [.int .i64 (-1)] rfl rfl one_new (fun u hu => by simp at hu; subst hu; rfl) (by decide) (by unfold maxLen; omega) (by omega) (by simp; omega) (w4.heap.size + 1) hz4 ?_)
    intro g cap w5 hown hgr0 hat hlt
    have hgr : (w4.alloc (.cells #[.int .i64 (-1)] 3)).grownBy w5 (some g1) := hgr0
    have W1 : Row w5 (w.heap.size + 1 + 1) (.slice (some ⟨g, 0, none⟩) (n1 + 1) cap) (hh.r ++ [-1]) := Row.of_own hown (by simp) (by simp; omega)
    have fb : bx ≠ g1 := fun e => st1.far.2.1 (by rw [e]; rfl)
    have X5 := blk3_kept (st1.blk.alloc (.cells #[.int .i64 (-1)] 3)) hgr fb
    obtain ⟨q0, q1, q2, qf0, qf1, qf2⟩ := X5.cells
    have st2 := st1.grew1 W1 hgr hat
    obtain ⟨hH, hR, hG⟩ := h_done st2
    obtain ⟨v0, v1, v2, _⟩ := st2.blk.cells
    obtain ⟨s0, s1, s2, h0, h1, h2⟩ := st2.res.cells
    have hz : SzH (N + 1) ⟨hh.l, hh.r ++ [-1], hh.t⟩ := ⟨by show 1 ≤ hh.l.length; rw [L0.out]; exact ln1, by show hh.l.length ≤ 8; rw [L0.out]; exact ln2, by show 1 ≤ (hh.r ++ [-1]).length; simp, by show (hh.r ++ [-1]).length ≤ _; simp; omega, by show hh.t.length ≤ _; rw [L2.out]; omega⟩
    clear st1 st2 W1 hown hgr hgr0 hat X5 own1 rr1 x0 x1 x2 lr
    go_wp2_with fail
    refine bodyPost_ret (v := .agg #[.slice (some ⟨g0, 0, none⟩) n0 c0, .slice (some ⟨g, 0, none⟩) (n1 + 1) cap, .slice (some ⟨g2, 0, none⟩) n2 c2]) ?_ rfl ⟨_, _, p + 1, rfl, hH, hz, hR, by omega, hG⟩
    simp [results, Try.results96, go_sem, s0, s1, s2]
  by_cases t2 : x = 2
  · subst t2
    have v1 : p + 1 ≤ 1048576 := by omega
    have hrb4 : rb < w4.heap.size := st1.rd.lt
    have hbx4 : bx < w4.heap.size := st1.blk.lt
    have hbxl := st1.rsb
    have hrbl := st1.rbl
    have hBrb := st1.rd.2.2.1
    have ng : bx ≠ g2 := fun e => st1.far.2.2 (by rw [← e]; rfl)
    have o2a : w.heap.size + 1 + 1 ≤ g2 := (st1.rows.2.2.lt g2 rfl).1
    have nr : w.heap.size + 1 ≠ g2 := by omega
    have M2 : n2 + 1 ≤ maxLen := by unfold maxLen; omega
    have M3 : (n2 + 1) * 8 ≤ 140737488355328 := by omega
    clear x0 x1 xf0 xf1 xf2
    go_wp2_with fail
    go_region_law (first
        | (refine step_append_lies _ (by rfl) _ _ _ (by rfl) (w.heap.size + 1 + 1) 3 i0 (.int .i64 0) 1 8 Try.underlying23 hi hz0 hz1 hz2 rfl (by decide) (.slice (some ⟨g2, 0, none⟩) n2 c2) n2 (hh.t.map iv) (by rfl) (own2.alloc _) ⟨w5.heap.size, 0, none⟩ 1 1 [.int .i64 yv] (by rfl) (by rfl) one_new (one_cell yv) (by decide) M2 M3 hbase5 (w5.heap.size + 1) hz5 ?_; intro g cap w6 hown hgr0 hat hlt6; have hgr : (w5.alloc (.cells #[.int .i64 yv] 3)).grownBy w6 (some g2) := hgr0; have X6 := blk3_kept (st2.blk.alloc (.cells #[.int .i64 yv] 3)) hgr ng; obtain ⟨q0, q1, q2, qf0, qf1, qf2⟩ := X6.cells)
        | (go_simp; go_at_call 76; (with_reducible refine (num_any _ B rb A nb c (p + 1) (st1.rd.alloc (.cells #[.int .i64 0, .int .i64 (-1), .int .i64 9] 3)).drew v1 w4.heap.size 3 3 [0, -1, 9] 0 (lit3 w4 0 (-1) 9).drew (len3 _ _ _) (by decide) (by decide) (Nat.ne_of_gt hrb4)).mono ?_); rintro e w5 ⟨yv, _, rfl, hR5, hO5⟩; have st2 := (st1.alloc (.cells #[.int .i64 0, .int .i64 (-1), .int .i64 9] 3)).drew.pick hR5 hO5; obtain ⟨y0, y1, y2, _⟩ := st2.blk.cells; have hbx5 := st2.blk.lt; have own2 := own_of st2.rows.2.2 L2.out; have hz5 := size_one w5 yv; have hbase5 := base_one yv (show w.heap.size + 1 + 1 ≤ bx by omega) hbx5))
    all_goals
      have W2 : Row w6 (w.heap.size + 1 + 1) (.slice (some ⟨g, 0, none⟩) (n2 + 1) cap) (hh.t ++ [yv]) := Row.of_own hown (by simp) (by have := L2.out; simp; omega)
      have st3 := st2.grew2 W2 hgr hat
      obtain ⟨hH, hR, hG⟩ := h_done st3
      obtain ⟨v0', v1', v2', _⟩ := st3.blk.cells
      obtain ⟨s0, s1, s2, h0, h1, h2⟩ := st3.res.cells
      have hz : SzH (N + 1) ⟨hh.l, hh.r, hh.t ++ [yv]⟩ := ⟨by show 1 ≤ hh.l.length; rw [L0.out]; exact ln1, by show hh.l.length ≤ 8; rw [L0.out]; exact ln2, by show 1 ≤ hh.r.length; rw [L1.out]; exact ln3, by show hh.r.length ≤ _; rw [L1.out]; omega, by show (hh.t ++ [yv]).length ≤ _; have := L2.out; simp; omega⟩
      clear W2 hown hgr hgr0 hat X6 own2 st1 st2 st3 y0 y1 y2 x2
      go_wp2_with fail
      refine bodyPost_ret (v := .agg #[.slice (some ⟨g0, 0, none⟩) n0 c0, .slice (some ⟨g1, 0, none⟩) n1 c1, .slice (some ⟨g, 0, none⟩) (n2 + 1) cap]) ?_ rfl ⟨_, _, p + 1 + 1, rfl, hH, hz, hR, by omega, hG⟩
      simp [results, Try.results96, go_sem, s0, s1, s2]
  · obtain rfl : x = 3 := by omega
    have hbx4 : bx < w4.heap.size := st1.blk.lt
    have st2 := st1.bare
    obtain ⟨hH, hR, hG⟩ := h_done st2
    obtain ⟨v0, v1, v2, _⟩ := st2.blk.cells
    obtain ⟨s0, s1, s2, h0, h1, h2⟩ := st2.res.cells
    have hz : SzH (N + 1) ⟨hh.l, hh.r, []⟩ := ⟨by show 1 ≤ hh.l.length; rw [L0.out]; exact ln1, by show hh.l.length ≤ 8; rw [L0.out]; exact ln2, by show 1 ≤ hh.r.length; rw [L1.out]; exact ln3, by show hh.r.length ≤ _; rw [L1.out]; omega, by simp⟩
    clear st1 st2
    go_wp2_with fail
    refine bodyPost_ret (v := .agg #[.slice (some ⟨g0, 0, none⟩) n0 c0, .slice (some ⟨g1, 0, none⟩) n1 c1, .slice (some ⟨w4.heap.size, 0, none⟩) 0 0]) ?_ rfl ⟨_, _, p + 1, rfl, hH, hz, hR, by omega, hG⟩
    simp [results, Try.results96, go_sem, s0, s1, s2]
end Go.Proofs.Yteogflkahoanlaa

/- NewStore of spec. -/
namespace Go.Proofs.Yteogflkahoanlaa
open Go.RowKit

/-- A new store. -/
def newSO (c r : Int) : Option Cp := if szB c r = true then some ⟨⟨List.replicate c.toNat (-1), List.replicate c.toNat (-1), List.replicate r.toNat (-1)⟩, nums c.toNat⟩ else none
theorem nums_set (k n : Nat) (hk : k < n) : (nums k ++ List.replicate (n - k) (0 : Int)).set k (k : Int) = nums (k + 1) ++ List.replicate (n - (k + 1)) 0 := by
  rw [List.set_append, if_neg (by rw [nums_len]; omega), nums_len, Nat.sub_self, show n - k = (n - (k + 1)) + 1 from by omega, List.replicate_succ, List.set_cons_zero, nums_succ]
  simp

set_option maxRecDepth 100000 in
set_option maxHeartbeats 4000000 in
theorem specNewStore_any (w : World) (c r : Int) : Calls Try.prog 88 #[.int .i64 c, .int .i64 r] w (OptCv w (newSO c r)) := by
  obtain ⟨i0, hi, hz0, hz1, hz2⟩ := info_parts Try.infoInt
  have Y := Blk4.new w (.slice none 0 0) (.slice none 0 0) (.slice none 0 0) (.slice none 0 0) 27
  have BY : Below w.heap.size w (w.alloc (.cells #[.slice none 0 0, .slice none 0 0, .slice none 0 0, .slice none 0 0] 27)) := (Below.refl _ _).alloc (Nat.le_refl _) _
  have sY : (w.alloc (.cells #[.slice none 0 0, .slice none 0 0, .slice none 0 0, .slice none 0 0] 27)).heap.size = w.heap.size + 1 := by simp
  have N := specNewHeap_any (w.alloc (.cells #[.slice none 0 0, .slice none 0 0, .slice none 0 0, .slice none 0 0] 27)) c r
  rcases es : szB c r
  · have hf : Hid (newSO c r = none) := by unfold Hid newSO; rw [es]; simp
    rw [show newO c r = none by unfold newO; rw [es]; simp] at N
    go_enter Try.func88, Try.ntmps88
    go_wp2_with fail
    refine N.mono ?_; rintro e w1 ⟨v, rfl, hH, hb1⟩
    obtain ⟨D0, m0, d0, D1, m1, d1, D2, m2, d2, rfl, _⟩ := hH.open_
    have Y1 := (Y.below hb1).alloc (.cells #[.slice D0 m0 d0, .slice D1 m1 d1, .slice D2 m2 d2] 25)
    have B1 := (BY.trans (hb1.mono (by rw [sY]; omega))).alloc (Nat.le_trans BY.size hb1.size) (.cells #[.slice D0 m0 d0, .slice D1 m1 d1, .slice D2 m2 d2] 25)
    obtain ⟨y0, y1, y2, y3, f0, f1, f2, f3⟩ := Y1.cells
    obtain ⟨hZ, hB⟩ := zero_done (w := w) (b := w.heap.size) (Nat.le_refl _) B1
    simp only [Option.isSome]
    go_wp2_with fail
    rw [hf.out]
    refine bodyPost_ret (v := .tuple #[.agg #[.slice none 0 0, .slice none 0 0, .slice none 0 0, .slice none 0 0], .bool false]) ?_ rfl ⟨_, rfl, hZ, hB⟩
    simp [results, Try.results88, go_sem, y0, y1, y2, y3]
  · obtain ⟨n, rfl⟩ : ∃ n : Nat, c = n := by
      simp only [szB, decide_eq_true_eq] at es
      exact ⟨c.toNat, by omega⟩
    have hnn : 1 ≤ n ∧ n ≤ 8 := by simp only [szB, decide_eq_true_eq] at es; omega
    obtain ⟨u1, u8⟩ := hnn
    obtain ⟨hp, hhp⟩ : ∃ hp : Hp, newO (n : Int) r = some hp ∧ newSO (n : Int) r = some ⟨hp, nums n⟩ := by
      refine ⟨_, by unfold newO; rw [if_pos es], ?_⟩
      unfold newSO; rw [if_pos es]; simp
    have hf := Lib.hid hhp.2
    rw [hhp.1] at N
    clear hhp es
    go_enter Try.func88, Try.ntmps88
    go_wp2_with fail
    refine N.mono ?_; rintro e w1 ⟨v, rfl, hH, hb1⟩
    have hH' : Hv w1 (w.alloc (.cells #[.slice none 0 0, .slice none 0 0, .slice none 0 0, .slice none 0 0] 27)).heap.size v hp := hH
    obtain ⟨D0, m0, d0, D1, m1, d1, D2, m2, d2, rfl, ⟨s0, s1, s2⟩, _⟩ := hH'.open_
    have z1 := hb1.size
    rw [sY] at z1
    have Y3 := (Y.below hb1).alloc (.cells #[.slice D0 m0 d0, .slice D1 m1 d1, .slice D2 m2 d2] 25)
    have H3 := (hH'.mono (lo' := w.heap.size + 1) (by rw [sY]; omega)).alloc (.cells #[.slice D0 m0 d0, .slice D1 m1 d1, .slice D2 m2 d2] 25)
    have B3 := (BY.trans (hb1.mono (by rw [sY]; omega))).alloc (by omega) (.cells #[.slice D0 m0 d0, .slice D1 m1 d1, .slice D2 m2 d2] 25)
    have Z3 := Blk3.new_at (w := w1) (b := w1.heap.size) rfl (.slice D0 m0 d0) (.slice D1 m1 d1) (.slice D2 m2 d2) 25
    have z3 : (w1.alloc (.cells #[.slice D0 m0 d0, .slice D1 m1 d1, .slice D2 m2 d2] 25)).heap.size = w1.heap.size + 1 := by simp
    have zh := Lib.hid z3
    simp only [Option.isSome]
    clear N Y BY hH hH' s0 s1 s2 hb1 z3
    obtain ⟨h0, h1, h2, _⟩ := Z3.cells
    go_wp2_with fail
    generalize w1.alloc (.cells #[.slice D0 m0 d0, .slice D1 m1 d1, .slice D2 m2 d2] 25) = W3 at Y3 H3 B3 Z3 h0 h1 h2 zh ⊢
    have S4 := Blk4.new_at (w := W3) (b := w1.heap.size + 1) zh.out.symm (.slice D0 m0 d0) (.slice D1 m1 d1) (.slice D2 m2 d2) (.slice none 0 0) 27
    have B4 : Below (w1.heap.size + 1) W3 (W3.alloc (.cells #[.slice D0 m0 d0, .slice D1 m1 d1, .slice D2 m2 d2, .slice none 0 0] 27)) := (Below.refl _ _).alloc (by have := zh.out; omega) _
    have z4 : w1.heap.size + 1 + 1 ≤ (W3.alloc (.cells #[.slice D0 m0 d0, .slice D1 m1 d1, .slice D2 m2 d2, .slice none 0 0] 27)).heap.size := by have := zh.out; simp; omega
    go_loopw [9] (fun i wr => ∃ (k : Nat) (E : Option Addr) (q : Nat), k ≤ n ∧ i = .int .i64 k ∧ Blk4 wr (w1.heap.size + 1) (.slice D0 m0 d0) (.slice D1 m1 d1) (.slice D2 m2 d2) (.slice E k q) 27 ∧ Row wr ((w1.heap.size + 1) + 1) (.slice E k q) (nums k) ∧ Below (w1.heap.size + 1) W3 wr ∧ (w1.heap.size + 1) + 1 ≤ wr.heap.size) (fun i _ => n - (intOf i).toNat)
    case atStart => exact ⟨0, none, 0, Nat.zero_le _, rfl, S4, Row.nil _ _, B4, z4⟩
    case round =>
      clear S4 B4 z4
      obtain ⟨k, E, q, hk, rfl, S, R, B, zr⟩ := hrel
      obtain ⟨c0, c1, c2, c3, g0, g1, g2, g3⟩ := S.cells
      by_cases hlt : k < n
      · have hkn : (k : Int) < (n : Int) := by omega
        have hown : wr.ownsRow ((w1.heap.size + 1) + 1) 3 1 (.slice E k q) k ((nums k).map iv) := by have h9 := R; unfold Row at h9; rw [nums_len] at h9; exact h9
        have cA3 := cellA c3 (.cells #[.int .i64 (k : Int)] 3)
        clear R
        go_wp2_with (at_builtin; refine wpList_append_own_at _ rfl _ _ 23 rfl ((w1.heap.size + 1) + 1) 3 i0 (.int .i64 0) 1 8 Try.underlying23 hi hz0 hz1 hz2 rfl (by decide) _ _ _ rfl (hown.alloc _) ⟨wr.heap.size, 0, none⟩ 1 1 [.int .i64 (k : Int)] rfl rfl ?ap1 ?ap2 ?ap3 ?ap4 ?ap5 ?_)
        try case ap1 => exact one_new
        try case ap2 => first | rfl | (intro u hu; simp at hu; subst hu; rfl)
        try case ap3 => unfold maxLen; omega
        try case ap4 => omega
        try case ap5 => first | omega | (simp; omega)
        intro v' w4 hown' hgrow hnil hloc
        have hrow' : Row w4 ((w1.heap.size + 1) + 1) v' (nums (k + 1)) := Row.of_own hown' (by rw [nums_succ]; simp) (by rw [nums_len])
        have hB' := (B.alloc (by omega) (.cells #[.int .i64 (k : Int)] 3)).grown hgrow (by simp; omega) (fun j hj => by have := (hown.lt j hj).1; omega)
        have S5 := Blk4.kept_own (S.alloc (.cells #[.int .i64 (k : Int)] 3)) hgrow (fun e => by have := (hown.lt _ e.symm).1; omega)
        have hz4 : (w1.heap.size + 1) + 1 ≤ w4.heap.size := by have := hgrow.size; simp at this; omega
        obtain ⟨A4, c4, hv', _⟩ := hrow'.form
        rw [nums_len] at hv'
        subst hv'
        have S6 := S5.set3 (.slice A4 (k + 1) c4)
        have hB6 := hB'.setCell (p := ⟨(w1.heap.size + 1), 3, none⟩) (by simp) (.slice A4 (k + 1) c4)
        have hr6 := hrow'.other (a := ⟨(w1.heap.size + 1), 3, none⟩) (fun e => by have := (hrow'.lt _ e).1; simp at this; omega) (.slice A4 (k + 1) c4)
        have hz6 : (w1.heap.size + 1) + 1 ≤ (w4.setCell ⟨(w1.heap.size + 1), 3, none⟩ (.slice A4 (k + 1) c4)).heap.size := by simp [World.setCell]; omega
        obtain ⟨k0, k1, k2, k3, j0, j1, j2, j3⟩ := S5.cells
        clear hown hown' hgrow hloc hnil hrow' hB' S c0 c1 c2 c3 cA3
        go_wp2_with fail
        go_roundw
        case rel => exact ⟨k + 1, A4, c4, by omega, by go_num, S6, hr6, hB6, hz6⟩
        case measure => simp [intOf]; omega
      · obtain rfl : k = n := by omega
        have hw3 := zh.out
        have B9 : Below W3.heap.size W3 wr := by rw [hw3]; exact B
        obtain ⟨y0, y1, y2, y3, f0, f1, f2, f3⟩ := (Y3.below B9).cells
        have BB := B3.trans (B9.mono (by omega))
        have hH := H3.below B9
        obtain ⟨_, _, _, evv, H0, H1, H2, aa, ab, ac⟩ := H3
        cases evv
        have ap : ∀ (v : Value) (xs : List Int), Row W3 (w.heap.size + 1) v xs → Apart v (.slice E k q) := fun v xs r j e e' => by
          have h1 := (r.lt j e).2
          have h2 := (R.lt j e').1
          omega
        have CC : Cv wr (w.heap.size + 1) (.agg #[.slice D0 m0 d0, .slice D1 m1 d1, .slice D2 m2 d2, .slice E k q]) ⟨hp, nums k⟩ := ⟨_, _, _, _, rfl, hH, R.mono (by omega), ap _ _ H0, ap _ _ H1, ap _ _ H2⟩
        have lb : w.heap.size < w.heap.size + 1 := by omega
        clear hw3 B9
        have CF := ((((CC.set_low (p := ⟨w.heap.size, 0, none⟩) lb (.slice D0 m0 d0)).set_low (p := ⟨w.heap.size, 1, none⟩) lb (.slice D1 m1 d1)).set_low (p := ⟨w.heap.size, 2, none⟩) lb (.slice D2 m2 d2)).set_low (p := ⟨w.heap.size, 3, none⟩) lb (.slice E k q)).mono (lo' := w.heap.size) (by omega)
        have BF := ((((BB.setCell (p := ⟨w.heap.size, 0, none⟩) (by simp) (.slice D0 m0 d0)).setCell (p := ⟨w.heap.size, 1, none⟩) (by simp) (.slice D1 m1 d1)).setCell (p := ⟨w.heap.size, 2, none⟩) (by simp) (.slice D2 m2 d2)).setCell (p := ⟨w.heap.size, 3, none⟩) (by simp) (.slice E k q))
        go_wp2_with fail
        rw [hf.out]
        refine bodyPost_ret (v := .tuple #[.agg #[.slice D0 m0 d0, .slice D1 m1 d1, .slice D2 m2 d2, .slice E k q], .bool true]) ?_ rfl ⟨_, rfl, CF, BF⟩
        simp [results, Try.results88, go_sem, y0, y1, y2, y3]
end Go.Proofs.Yteogflkahoanlaa

/- Plain facts of stores: what keeps a store valid. -/
namespace Go.Proofs.Yteogflkahoanlaa
open Go.RowKit

theorem free_mk {h : Hp} {k : Nat} (h1 : k < h.l.length) (h2 : h.l[k]? = some (-1)) (h3 : h.r[k]? = some (-1)) (h4 : (k : Int) ∉ h.l) (h5 : (k : Int) ∉ h.r) (h6 : (k : Int) ∉ h.t) : freeB h (k : Int) = true := by
  simp only [freeB, decide_eq_true_eq]
  exact ⟨by omega, by omega, by simpa using h2, by simpa using h3, h4, h5, h6⟩
theorem free_parts {h : Hp} {x : Int} (e : freeB h x = true) : ∃ k : Nat, x = k ∧ k < h.l.length ∧ h.l[k]? = some (-1) ∧ h.r[k]? = some (-1) ∧ (k : Int) ∉ h.l ∧ (k : Int) ∉ h.r ∧ (k : Int) ∉ h.t := by
  simp only [freeB, decide_eq_true_eq] at e
  obtain ⟨h0, h1, h2, h3, h4, h5, h6⟩ := e
  obtain ⟨k, rfl⟩ := Int.eq_ofNat_of_zero_le h0
  exact ⟨k, rfl, by omega, by simpa using h2, by simpa using h3, h4, h5, h6⟩
theorem sto_put {C : Cp} (hC : stoB C = true) {h' : Hp} (hv : hvB h' = true) (hl : h'.l.length = C.h.l.length) (hf : ∀ x ∈ C.c, freeB C.h x = true → freeB h' x = true) : stoB ⟨h', C.c⟩ = true := by
  obtain ⟨_, h2, h3, h4⟩ := stoB_parts hC
  exact stoB_of hv (by show C.c.length ≤ h'.l.length; omega) (fun x hx => hf x hx (h3 x hx)) h4
theorem not_in_set {l : List Int} {k : Nat} {x y : Int} (h : x ∉ l) (hy : y ≠ x) : x ∉ l.set k y := fun hm => by
  rcases List.mem_or_eq_of_mem_set hm with h9 | h9
  · exact h h9
  · exact hy h9.symm
theorem root_pt {h : Hp} (hv : hvB h = true) {b : Int} (hb : b ∈ h.t) : ptB b h.l.length = true := by
  obtain ⟨_, _, _, h5⟩ := hvB_parts hv
  rw [List.all_eq_true] at h5; exact h5 b hb
theorem sto_left {C : Cp} (hC : stoB C = true) {a : Nat} {b : Int} (ha : (a : Int) ∈ C.h.t) (hb : b ∈ C.h.t) : stoB ⟨⟨C.h.l.set a b, C.h.r, C.h.t⟩, C.c⟩ = true := by
  obtain ⟨hv, _⟩ := stoB_parts hC
  obtain ⟨⟨hr, hs⟩, h3, h4, h5⟩ := hvB_parts hv
  refine sto_put hC (hvB_mk (by simpa using hr) (by simpa using hs) ?_ (by simpa using h4) (by simpa using h5)) (by simp) fun x hx hf => ?_
  · rw [List.length_set]; exact all_set h3 a (root_pt hv hb)
  · obtain ⟨k, rfl, f1, f2, f3, f4, f5, f6⟩ := free_parts hf
    have hka : a ≠ k := fun e => f6 (e ▸ ha)
    exact free_mk (by simpa using f1) (by show (C.h.l.set a b)[k]? = _; rw [List.getElem?_set_ne hka]; exact f2) f3 (not_in_set f4 (fun e => f6 (e ▸ hb))) f5 f6
theorem sto_right {C : Cp} (hC : stoB C = true) {a : Nat} {b : Int} (ha : (a : Int) ∈ C.h.t) (hb : b ∈ C.h.t) : stoB ⟨⟨C.h.l, C.h.r.set a b, C.h.t⟩, C.c⟩ = true := by
  obtain ⟨hv, _⟩ := stoB_parts hC
  obtain ⟨⟨hr, hs⟩, h3, h4, h5⟩ := hvB_parts hv
  refine sto_put hC (hvB_mk (by simpa using hr) hs h3 (all_set h4 a (root_pt hv hb)) h5) rfl fun x hx hf => ?_
  obtain ⟨k, rfl, f1, f2, f3, f4, f5, f6⟩ := free_parts hf
  have hka : a ≠ k := fun e => f6 (e ▸ ha)
  exact free_mk f1 f2 (by show (C.h.r.set a b)[k]? = _; rw [List.getElem?_set_ne hka]; exact f3) f4 (not_in_set f5 (fun e => f6 (e ▸ hb))) f6
theorem sto_root {C : Cp} (hC : stoB C = true) (k : Nat) {y : Int} (hy : y ∈ C.h.l ∨ y = -1) : stoB ⟨⟨C.h.l, C.h.r, C.h.t.set k y⟩, C.c⟩ = true := by
  obtain ⟨hv, _⟩ := stoB_parts hC
  obtain ⟨⟨hr, hs⟩, h3, h4, h5⟩ := hvB_parts hv
  have hp : ptB y C.h.l.length = true := by
    rcases hy with hy | rfl
    · rw [List.all_eq_true] at h3; exact h3 y hy
    · simp only [szB, decide_eq_true_eq] at hs
      simp [ptB]; omega
  refine sto_put hC (hvB_mk hr (by simpa using hs) h3 h4 (all_set h5 k hp)) rfl fun x hx hf => ?_
  obtain ⟨j, rfl, f1, f2, f3, f4, f5, f6⟩ := free_parts hf
  refine free_mk f1 f2 f3 f4 f5 (not_in_set f6 fun e => ?_)
  rcases hy with hy | h9
  · exact f4 (e ▸ hy)
  · omega
theorem newS_valid {n m : Nat} (h1 : 1 ≤ n) (h8 : n ≤ 8) (m1 : 1 ≤ m) (m3 : m ≤ 3) : stoB ⟨⟨List.replicate n (-1), List.replicate n (-1), List.replicate m (-1)⟩, nums n⟩ = true := by
  have hall : ∀ k : Nat, (List.replicate k (-1 : Int)).all (ptB · ((List.replicate n (-1 : Int)).length : Nat)) = true := fun k => by
    rw [List.all_eq_true]; intro x hx
    obtain ⟨_, rfl⟩ := List.mem_replicate.1 hx
    simp [ptB]; omega
  have hno : ∀ (k j : Nat), (k : Int) ∉ List.replicate j (-1 : Int) := fun k j hm => by
    have := (List.mem_replicate.1 hm).2; omega
  refine stoB_of (hvB_mk (by simp) (by simp [szB]; omega) (hall n) (hall n) (hall m)) (by show (nums n).length ≤ (List.replicate n (-1 : Int)).length; rw [nums_len]; simp) (fun x hx => ?_) (up_nodup (nums_up n))
  obtain ⟨h0, hn⟩ := mem_nums.1 hx
  obtain ⟨k, rfl⟩ := Int.eq_ofNat_of_zero_le h0
  have hk : k < n := by omega
  exact free_mk (by simpa using hk) (by simp [hk]) (by simp [hk]) (hno k n) (hno k n) (hno k m)
/-- What is taken leaves a valid store. -/
theorem alloc_valid {C : Cp} {k : Int} (h : allocB C k = true) : stoB (allocC C k) = true := by
  obtain ⟨hC, ⟨h0, h1⟩, hne⟩ := allocB_iff.1 h
  obtain ⟨hv, hle, hf, hnd⟩ := stoB_parts hC
  obtain ⟨⟨hr, hs⟩, h3, h4, h5⟩ := hvB_parts hv
  obtain ⟨x, tl, ec⟩ : ∃ x tl, C.c = x :: tl := by
    cases e : C.c with
    | nil => exact absurd e hne
    | cons x tl => exact ⟨x, tl, rfl⟩
  have e1 : allocC C k = ⟨⟨C.h.l, C.h.r, C.h.t.set k.toNat x⟩, tl⟩ := by unfold allocC; rw [if_pos h, ec]; rfl
  rw [e1]
  rw [ec] at hf hnd hle
  rw [List.nodup_cons] at hnd
  have hpx : ptB x C.h.l.length = true := by
    obtain ⟨j, rfl, f1, _⟩ := free_parts (hf x (List.mem_cons_self ..))
    simp [ptB]; omega
  refine stoB_of (hvB_mk hr (by simpa using hs) h3 h4 (all_set h5 _ hpx)) (by simp at hle; show tl.length ≤ C.h.l.length; omega) (fun y hy => ?_) hnd.2
  obtain ⟨j, rfl, f1, f2, f3, f4, f5, f6⟩ := free_parts (hf y (List.mem_cons_of_mem _ hy))
  exact free_mk f1 f2 f3 f4 f5 (not_in_set f6 (fun e => hnd.1 (e ▸ hy)))
end Go.Proofs.Yteogflkahoanlaa

