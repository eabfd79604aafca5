/- PutLeft, PutRight, PutRoot of both. -/
import Derived.Test.YtdealoclkajliaaCan
namespace Go.Proofs.Ytdealoclkajliaa
open Go.RowKit

def putL (h : Hp) (c t : Int) : Option Hp := if (hvB h && plB c h.l.length && ptB t h.l.length) = true then some ⟨h.l.set c.toNat t, h.r, h.t⟩ else none
def putR (h : Hp) (c t : Int) : Option Hp := if (hvB h && plB c h.r.length && ptB t h.l.length) = true then some ⟨h.l, h.r.set c.toNat t, h.t⟩ else none
def putT (h : Hp) (c t : Int) : Option Hp := if (hvB h && plB c h.t.length && ptB t h.l.length) = true then some ⟨h.l, h.r, h.t.set c.toNat t⟩ else none

theorem hvB_len {h : Hp} (hh : hvB h = true) : h.r.length = h.l.length ∧ 1 ≤ h.l.length ∧ h.l.length ≤ 8 ∧ 1 ≤ h.t.length ∧ h.t.length ≤ 3 := by
  simp [hvB, szB] at hh; omega
theorem plB_nat {x : Int} {n : Nat} (h : plB x n = true) : ∃ k : Nat, x = k ∧ k < n := by
  simp [plB] at h; exact ⟨x.toNat, by omega, by omega⟩


end Go.Proofs.Ytdealoclkajliaa
