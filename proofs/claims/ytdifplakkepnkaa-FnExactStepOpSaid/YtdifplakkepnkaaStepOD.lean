/- Words of StepOp. -/
import Derived.Test.YtdifplakkepnkaaBthA
import Derived.Test.YtdifplakkepnkaaBthD
import Derived.Test.YtdifplakkepnkaaTgt
import Derived.Test.YtdifplakkepnkaaExH
import Derived.Test.YtdifplakkepnkaaGColI
import Derived.Test.YtdifplakkepnkaaCntA
namespace Go.Proofs.Ytdifplakkepnkaa
open Go.RowKit

def opAt (B : Bp) : Opv := (B.os[B.i.toNat]?).getD Opv.zero
def gc1 (C' : Cp) (G : Gp) (o : Opv) : Gp := if o.k = 1 then (colorO C' G (rootA C' o.a)).getD Gp.zero else G
def gc2 (C' : Cp) (G : Gp) (t : Int) (b : Bool) : Gp := if b = true ∧ t ≠ -1 then (shadeGO C' G t).getD Gp.zero else G
/-- An operation of a valid Both that is not at its end. -/
def stepOB (B : Bp) (b : Bool) : Bp :=
  if runE B.C (opAt B) = 0 then ⟨runC B.C (opAt B), gc2 (runC B.C (opAt B)) (gc1 (runC B.C (opAt B)) B.G (opAt B)) (tgtX B.C (opAt B)) b, B.os, B.i + 1, B.z⟩ else ⟨runC B.C (opAt B), B.G, B.os, B.i + 1, B.z⟩
def stepOO (B : Bp) (b : Bool) : Option Bp := if (bothB B && !B.z && !decide (B.i = B.os.length)) = true then some (stepOB B b) else none
theorem color_len (C : Cp) (G : Gp) (k : Int) : ((colorO C G k).getD Gp.zero).c.length ≤ 1048576 := by
  unfold colorO; split
  · rename_i h
    have h9 := gcB_sizes (Bool.and_eq_true_iff.1 h).1
    simp only [Option.getD_some, colorG, List.length_set]; omega
  · simp [Gp.zero]
theorem shade_lenG (C : Cp) (G : Gp) (k : Int) : ((shadeGO C G k).getD Gp.zero).c.length ≤ 1048576 := by
  unfold shadeGO; split
  · rename_i h
    have h9 := gcB_sizes (Bool.and_eq_true_iff.1 h).1
    simp only [Option.getD_some, shadeG]; split <;> (try rw [shade_len]) <;> omega
  · simp [Gp.zero]
theorem stepOO_short (B : Bp) (b : Bool) (h : ShortL B 1048576) : ShortL ((stepOO B b).getD Bp.zero) 1048576 := by
  obtain ⟨h0, h1, h2, h3, h4, h5⟩ := h
  unfold stepOO
  split
  · rename_i hb
    simp only [Bool.and_eq_true] at hb
    have hg := (gcB_iff.1 (bothB_iff.1 hb.1.1).1).1
    have hC : ShortC (runC B.C (opAt B)) := by
      rcases er : runB B.C (opAt B)
      · rw [runC_not er]; exact zeroC_short
      · exact stoB_short (run_valid er)
    obtain ⟨c0, c1, c2, c3⟩ := hC
    have g1 : (gc1 (runC B.C (opAt B)) B.G (opAt B)).c.length ≤ 1048576 := by
      unfold gc1; split
      · exact color_len _ _ _
      · exact h4
    have g2 : (gc2 (runC B.C (opAt B)) (gc1 (runC B.C (opAt B)) B.G (opAt B)) (tgtX B.C (opAt B)) b).c.length ≤ 1048576 := by
      unfold gc2; split
      · exact shade_lenG _ _ _
      · exact g1
    simp only [Option.getD_some]
    unfold stepOB
    split
    · exact ⟨c0, c1, c2, c3, g2, h5⟩
    · exact ⟨c0, c1, c2, c3, h4, h5⟩
  · simp [ShortL, Bp.zero, Cp.zero, Hp.zero, Gp.zero]
/-- The store replaced by one that was made before. -/
theorem Bv.withStore {w w' : World} {lo : Nat} {s0 s1 s2 s3 d0 d1 d2 d3 r u : Value} {C C' : Cp} {p a i : Int} {cc : List Int} {os : List Opv} {z : Bool} (hs : Cv w lo (.agg #[s0, s1, s2, s3]) C') (hB : Bv w' w.heap.size (.agg #[d0, d1, d2, d3, .int .i64 p, r, .int .i64 a, u, .int .i64 i, .bool z]) ⟨C, ⟨p, cc, a⟩, os, i, z⟩) (hl : lo ≤ w.heap.size) (hb : Below w.heap.size w w') (i' : Int) (z' : Bool) :
    Bv w' lo (.agg #[s0, s1, s2, s3, .int .i64 p, r, .int .i64 a, u, .int .i64 i', .bool z']) ⟨C', ⟨p, cc, a⟩, os, i', z'⟩ := by
  obtain ⟨_, _, _, _, _, _, e, hc, ho, _⟩ := hB
  cases e
  exact Bv.mk0 (CGv.mk hs hc.gv hl hb) (ho.mono hl) i' z'
/-- The store replaced by one that was made behind it. -/
theorem Bv.withStore' {w w' : World} {lo : Nat} {s0 s1 s2 s3 d0 d1 d2 d3 r u : Value} {C C' : Cp} {p a i : Int} {cc : List Int} {os : List Opv} {z : Bool} (hB : Bv w lo (.agg #[d0, d1, d2, d3, .int .i64 p, r, .int .i64 a, u, .int .i64 i, .bool z]) ⟨C, ⟨p, cc, a⟩, os, i, z⟩) (hs : Cv w' w.heap.size (.agg #[s0, s1, s2, s3]) C') (hl : lo ≤ w.heap.size) (hb : Below w.heap.size w w') (i' : Int) (z' : Bool) :
    Bv w' lo (.agg #[s0, s1, s2, s3, .int .i64 p, r, .int .i64 a, u, .int .i64 i', .bool z']) ⟨C', ⟨p, cc, a⟩, os, i', z'⟩ := by
  obtain ⟨_, _, _, _, _, _, e, hc, ho, _⟩ := hB
  cases e
  exact Bv.mk0 (CGv.mk' hc.gv hs hl hb) (ho.below hb) i' z'
/-- The collector replaced by one that was made behind it. -/
theorem Bv.withGc {w w' : World} {lo : Nat} {s0 s1 s2 s3 r r' u : Value} {C : Cp} {p a p' a' i : Int} {cc cc' : List Int} {os : List Opv} {z : Bool} (hB : Bv w lo (.agg #[s0, s1, s2, s3, .int .i64 p, r, .int .i64 a, u, .int .i64 i, .bool z]) ⟨C, ⟨p, cc, a⟩, os, i, z⟩) (hg : Gv w' w.heap.size (.agg #[.int .i64 p', r', .int .i64 a']) ⟨p', cc', a'⟩) (hl : lo ≤ w.heap.size) (hb : Below w.heap.size w w') :
    Bv w' lo (.agg #[s0, s1, s2, s3, .int .i64 p', r', .int .i64 a', u, .int .i64 i, .bool z]) ⟨C, ⟨p', cc', a'⟩, os, i, z⟩ := by
  obtain ⟨_, _, _, _, _, _, e, hc, ho, _⟩ := hB
  cases e
  exact Bv.mk0 (CGv.mk hc.cv hg hl hb) (ho.below hb) i z
theorem Bv.cg {w : World} {lo : Nat} {v0 v1 v2 v3 p r a u i z : Value} {B : Bp} (h : Bv w lo (.agg #[v0, v1, v2, v3, p, r, a, u, i, z]) B) : CGv w lo (.agg #[v0, v1, v2, v3]) (.agg #[p, r, a]) B.C B.G := by
  obtain ⟨_, _, _, _, _, _, e, hc, ho, _⟩ := h
  cases e
  exact hc
theorem rowTy {w : World} {lo b : Nat} {v : Value} {xs : List Int} {x0 x1 x2 x3 x4 x5 x6 x7 x8 x9 : Value} (h : Row w lo v xs) (X : Blk10 w b x0 x1 x2 x3 x4 x5 x6 x7 x8 x9 34) : v.ownBlock ≠ some b := by
  intro e
  rcases h.2 with ⟨rfl, _⟩ | ⟨g, cap, cur, rfl, _, hh, _⟩
  · simp [Value.ownBlock] at e
  · simp [Value.ownBlock] at e
    subst e
    unfold Blk10 at X
    rw [hh] at X
    simp at X
theorem orowTy {w : World} {lo b : Nat} {v : Value} {os : List Opv} {x0 x1 x2 x3 x4 x5 x6 x7 x8 x9 : Value} (h : ORow w lo v os) (X : Blk10 w b x0 x1 x2 x3 x4 x5 x6 x7 x8 x9 34) : v.ownBlock ≠ some b := by
  intro e
  rcases h.2 with ⟨rfl, _⟩ | ⟨g, cap, cur, rfl, _, hh, _⟩
  · simp [Value.ownBlock] at e
  · simp [Value.ownBlock] at e
    subst e
    unfold Blk10 at X
    rw [hh] at X
    simp at X
/-- A store into a Both's variable does not turn a Both. -/
theorem Bv.setT {w : World} {lo b : Nat} {v : Value} {B : Bp} {x0 x1 x2 x3 x4 x5 x6 x7 x8 x9 : Value} (h : Bv w lo v B) (X : Blk10 w b x0 x1 x2 x3 x4 x5 x6 x7 x8 x9 34) (o : Nat) (u : Value) : Bv (w.setCell ⟨b, o, none⟩ u) lo v B := by
  obtain ⟨v0, v1, v2, v3, r, o', e, ⟨_, _, _, _, _, e1, e2, ⟨_, _, _, _, e3, ⟨_, _, _, e4, r0, r1, r2, x⟩, r3, y⟩, hr, ap⟩, ho, ab⟩ := h
  subst e
  cases e1; cases e2; cases e3; cases e4
  exact ⟨_, _, _, _, _, _, rfl, ⟨_, _, _, _, _, rfl, rfl, ⟨_, _, _, _, rfl, ⟨_, _, _, rfl, r0.other (a := ⟨b, o, none⟩) (rowTy r0 X) u, r1.other (a := ⟨b, o, none⟩) (rowTy r1 X) u, r2.other (a := ⟨b, o, none⟩) (rowTy r2 X) u, x⟩, r3.other (a := ⟨b, o, none⟩) (rowTy r3 X) u, y⟩, hr.other (a := ⟨b, o, none⟩) (rowTy hr X) u, ap⟩, ownsRow_setCell_other ho (a := ⟨b, o, none⟩) (orowTy ho X) u, ab⟩
theorem tgtX_new {C : Cp} {o : Opv} : o.k = 1 → tgtX C o = -1 := by
  intro h
  unfold tgtX
  rw [if_neg]
  rintro ⟨_, h9, _⟩
  omega
end Go.Proofs.Ytdifplakkepnkaa
