/- From an argument as it is read to the walk's word for it. -/
import Derived.Test.YtapkhgpifpgleaaRdA
import Derived.ProofKit
import Derived.OpenShut
namespace Go.Proofs.Ytapkhgpifpgleaa
open Go.RowKit

theorem inp_nil (W : World) : Inp W none 0 0 := ⟨.inl rfl, Nat.le_refl _, by omega⟩
theorem inp_of (W : World) (x : Addr) (len cap : Nat) (zs : List Int) (hl : len ≤ cap) (hm : cap ≤ maxLen) (hz : zs.length = cap)
    (hcell : ∀ i, i < zs.length → W.cell? (x.add i) = some (.int .u8 (zs.getD i 0))) (hw : ∀ n ∈ zs, (Lit.int .u8 n).wf = true) : Inp W (some x) len cap := by
  refine ⟨?_, hl, by unfold maxLen at hm; omega⟩
  by_cases h0 : len = 0
  · exact .inl h0
  obtain ⟨b, off, spot⟩ := x
  have hc := hcell 0 (by omega)
  have hspot : spot = none := by simpa [Addr.add] using World.cell?_spot hc
  subst hspot
  have hadd : ∀ i, (⟨b, off, none⟩ : Addr).add i = ⟨b, off + i, none⟩ := fun i => by unfold Addr.add; split <;> simp_all
  refine .inr ⟨b, off, rfl, ?_, fun k hk => ?_⟩
  · have := World.block_lt_of_cell? W _ hc; rw [hadd] at this; exact this
  · have hk' := hcell k (by omega)
    rw [hadd] at hk'
    have hin : zs.getD k 0 ∈ zs := by
      have hkl : k < zs.length := by omega
      rw [List.getD_eq_getElem?_getD, List.getElem?_eq_getElem hkl]; exact List.getElem_mem hkl
    have hwf := hw _ hin
    have hwf := bounds_u8 hwf
    exact ⟨_, by omega, by omega, hk'⟩
end Go.Proofs.Ytapkhgpifpgleaa
