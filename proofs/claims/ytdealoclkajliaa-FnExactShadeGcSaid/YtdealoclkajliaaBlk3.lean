/- Blocks of three cells that are kept and stored into; worlds that have grown. -/
import Derived.Test.YtdealoclkajliaaMemos
namespace Go.Proofs.Ytdealoclkajliaa
open Go.RowKit

theorem grown_trans {row : Option Nat} {a b c : World} (h : a.grownBy b row) (k : b.grownBy c row) : a.grownBy c row :=
  ⟨k.os.trans h.os, k.tape.trans h.tape, k.output.trans h.output, Nat.le_trans h.size k.size, fun i hi hne => (k.block i (Nat.lt_of_lt_of_le hi h.size) hne).trans (h.block i hi hne)⟩
theorem grown_of {row : Option Nat} {a b c : World} (h : a.grownBy b row) (k : Below b.heap.size b c) : a.grownBy c row :=
  grown_trans h ⟨k.os, k.tape, k.output, k.size, fun i hi _ => k.block i hi⟩
theorem grown_alloc {row : Option Nat} {a b : World} (h : a.grownBy b row) (o : Obj) : a.grownBy (b.alloc o) row := grown_of h ((Below.refl _ _).alloc (Nat.le_refl _) o)
theorem grown_set {row : Option Nat} {a b : World} (h : a.grownBy b row) {p : Addr} (hp : some p.block = row ∨ a.heap.size ≤ p.block) (u : Value) : a.grownBy (b.setCell p u) row :=
  ⟨h.os, h.tape, h.output, by simpa [World.setCell] using h.size, fun i hi hne => (Below.heap_setCell b p u i (by
    rintro rfl
    rcases hp with hp | hp
    · exact hne hp
    · omega)).trans (h.block i hi hne)⟩
theorem grown_drewN {row : Option Nat} {a b : World} (h : a.grownBy b row) (n : Nat) : a.grownBy (b.drewN n) row := ⟨h.os, h.tape, h.output, h.size, h.block⟩
theorem grown_drew {row : Option Nat} {a b : World} (h : a.grownBy b row) : a.grownBy b.drew row := ⟨h.os, h.tape, h.output, h.size, h.block⟩
theorem Blk3.kept {w w' : World} {rb b : Nat} {x y z : Value} {t : TypeId} (h : Blk3 w b x y z t) (hg : w.grownBy w' (some rb)) (hb : b ≠ rb) : Blk3 w' b x y z t :=
  (hg.block b h.lt (by simp; exact hb)).trans h
theorem Blk3.set0 {w : World} {b : Nat} {x y z : Value} {t : TypeId} (h : Blk3 w b x y z t) (u : Value) : Blk3 (w.setCell ⟨b, 0, none⟩ u) b u y z t := by
  unfold Blk3 at h ⊢; simp [World.setCell, Array.getElem?_modify, h]
theorem Blk3.set1 {w : World} {b : Nat} {x y z : Value} {t : TypeId} (h : Blk3 w b x y z t) (u : Value) : Blk3 (w.setCell ⟨b, 1, none⟩ u) b x u z t := by
  unfold Blk3 at h ⊢; simp [World.setCell, Array.getElem?_modify, h]
theorem Blk3.set2 {w : World} {b : Nat} {x y z : Value} {t : TypeId} (h : Blk3 w b x y z t) (u : Value) : Blk3 (w.setCell ⟨b, 2, none⟩ u) b x y u t := by
  unfold Blk3 at h ⊢; simp [World.setCell, Array.getElem?_modify, h]
end Go.Proofs.Ytdealoclkajliaa
