/- spec.Reachable. -/
import Derived.Test.YtkcelcjghplhiaaMemB
import Derived.Test.YtkcelcjghplhiaaSDist
import Derived.Maps.AppendAt
namespace Go.Proofs.Ytkcelcjghplhiaa
open Go.RowKit

theorem liveL_take {h : Hp} {k : Nat} {u : Int} (hv : hvB h = true) (hu : (dist h h.t)[k]? = some u) : (liveL h).take (k + 1) = (liveL h).take k ++ [decide (0 < u)] := by
  have hk : (liveL h)[k]? = some (decide (0 ≤ u)) := by unfold liveL; rw [if_pos hv, List.getElem?_map, hu]; rfl
  have ho := dist_okV h h.t
  rw [List.all_eq_true] at ho
  have hh := ho u (List.mem_of_getElem? hu)
  have e : decide (0 ≤ u) = decide (0 < u) := by simp [okV] at hh; simp; omega
  rw [List.take_add_one, hk, e]; rfl
theorem one_newV {w : World} {x : Value} {t : TypeId} : ∀ j u, [x][j]? = some u → (w.alloc (.cells #[x] t)).cell? ((⟨w.heap.size, 0, none⟩ : Addr).add j) = some u := one_new

end Go.Proofs.Ytkcelcjghplhiaa
