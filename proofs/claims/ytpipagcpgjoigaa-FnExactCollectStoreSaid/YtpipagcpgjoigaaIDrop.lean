/- dropPointersTo of impl. -/
import Derived.Test.YtpipagcpgjoigaaISto
import Derived.Test.YtpipagcpgjoigaaStoK
namespace Go.Proofs.Ytpipagcpgjoigaa
open Go.RowKit

theorem cellSt {w : World} {a p : Addr} {u v : Value} (h : w.cell? a = some u) (hne : a.block ≠ p.block) : (w.setCell p v).cell? a = some u := (World.cell?_setCell_far w p a v hne.symm).trans h
theorem below_rowS {rb B : Nat} {w w' : World} (h : w.grownBy w' (some rb)) (hB : B ≤ rb) (hs : B ≤ w.heap.size) : Below B w w' :=
  ⟨h.os, h.tape, h.output, h.size, fun k hk => h.block k (by omega) (fun e => by have := Option.some.inj e; omega)⟩
theorem onlyB_blk3 {w w' : World} {b g : Nat} {x y z : Value} {t : TypeId} (h : Blk3 w b x y z t) (hO : OnlyB g w w') (hne : b ≠ g) : Blk3 w' b x y z t := (hO.1.block b h.lt (fun e => hne (Option.some.inj e))).trans h
theorem onlyB_blk4 {w w' : World} {b g : Nat} {x y z u : Value} {t : TypeId} (h : Blk4 w b x y z u t) (hO : OnlyB g w w') (hne : b ≠ g) : Blk4 w' b x y z u t := (hO.1.block b h.lt (fun e => hne (Option.some.inj e))).trans h
theorem blk4_drew {w : World} {b : Nat} {x y z u : Value} {t : TypeId} (h : Blk4 w b x y z u t) : Blk4 w.drew b x y z u t := h
theorem row_parts {w : World} {lo n c : Nat} {A : Option Addr} {xs : List Int} (h : Row w lo (.slice A n c) xs) : (A = none ∧ n = 0 ∧ c = 0 ∧ xs = []) ∨ ∃ g, A = some ⟨g, 0, none⟩ := by
  rcases h.2 with ⟨e, h0⟩ | ⟨g, cap, cur, e, _⟩
  · cases e; exact .inl ⟨rfl, rfl, rfl, List.eq_nil_of_length_eq_zero h0⟩
  · cases e; exact .inr ⟨g, rfl⟩
/-- The first k pointers to x are none. -/
def dropN (l : List Int) (x : Int) (k : Nat) : List Int := l.mapIdx fun i y => if i < k ∧ y = x then -1 else y
theorem dropN_len (l : List Int) (x : Int) (k : Nat) : (dropN l x k).length = l.length := by unfold dropN; simp
theorem dropN_at (l : List Int) (x : Int) (k i : Nat) : (dropN l x k)[i]? = l[i]?.map fun y => if i < k ∧ y = x then -1 else y := by unfold dropN; simp
theorem dropN_zero (l : List Int) (x : Int) : dropN l x 0 = l := by
  apply List.ext_getElem?; intro i; rw [dropN_at]; simp
theorem dropN_get (l : List Int) (x : Int) (k : Nat) : (dropN l x k)[k]? = l[k]? := by rw [dropN_at]; simp
theorem dropN_hit {l : List Int} {x : Int} {k : Nat} (hx : l[k]? = some x) : dropN l x (k + 1) = (dropN l x k).set k (-1) := by
  apply List.ext_getElem?; intro i
  rw [List.getElem?_set, dropN_at, dropN_at, dropN_len]
  obtain ⟨hk, _⟩ := List.getElem?_eq_some_iff.1 hx
  by_cases e : k = i
  · subst e
    rw [if_pos rfl, if_pos hk, hx]; simp
  · rw [if_neg e]
    congr 1; funext y
    by_cases h9 : i < k
    · simp [h9, show i < k + 1 by omega]
    · simp [h9, show ¬ i < k + 1 by omega]
theorem dropN_miss {l : List Int} {x y : Int} {k : Nat} (hy : l[k]? = some y) (h : y ≠ x) : dropN l x (k + 1) = dropN l x k := by
  apply List.ext_getElem?; intro i
  rw [dropN_at, dropN_at]
  by_cases e : i = k
  · subst e
    rw [hy]; simp [h]
  · congr 1; funext z
    by_cases h9 : i < k
    · simp [h9, show i < k + 1 by omega]
    · simp [h9, show ¬ i < k + 1 by omega]
theorem clr_drop {l : List Int} {n j : Nat} (hn : l.length = n) : dropN (l.set j (-1)) (j : Int) n = clrN l [(j : Int)] n := by
  apply List.ext_getElem?; intro i
  rw [dropN_at, clrN_at, List.getElem?_set]
  by_cases e : j = i
  · subst e
    rw [if_pos rfl]
    by_cases hj : j < l.length
    · rw [if_pos hj, List.getElem?_eq_getElem hj]
      simp [clrF, show j < n by omega]
    · rw [if_neg hj, List.getElem?_eq_none (by omega)]; rfl
  · rw [if_neg e]
    cases hx : l[i]? with
    | none => rfl
    | some y =>
      have hi : i < n := by have := (List.getElem?_eq_some_iff.1 hx).1; omega
      have e2 : ¬ ((i : Int) = (j : Int)) := by omega
      simp [clrF, hi, e2]

set_option maxHeartbeats 1000000 in
theorem dropPointers_any (w : World) (lo g n c : Nat) (xs : List Int) (h : Row w lo (.slice (some ⟨g, 0, none⟩) n c) xs) (l : Hid (xs.length = n)) (hm : n ≤ 9223372036854775807) (x : Int) :
    Calls Try.prog 73 #[.slice (some ⟨g, 0, none⟩) n c, .int .i64 x] w fun e w' => e = .returned (.tuple #[]) ∧ Row w' lo (.slice (some ⟨g, 0, none⟩) n c) (dropN xs x n) ∧ OnlyB g w w' := by
  rw [← dropN_zero xs x] at h
  go_enter Try.func73, Try.ntmps73
  go_wp2_with fail
  go_loopw [4, 5, 8] (fun _ _ i wr => ∃ k : Nat, k ≤ n ∧ i = .int .i64 k ∧ Row wr lo (.slice (some ⟨g, 0, none⟩) n c) (dropN xs x k) ∧ w.grownBy wr (some g) ∧ Hid (wr.heap.size = w.heap.size)) (fun _ _ i _ => n - (intOf i).toNat)
  case atStart => exact ⟨0, Nat.zero_le _, rfl, h, World.grownBy.refl w _, rfl⟩
  case round =>
    clear h
    obtain ⟨k, hk, rfl, R, G, hs⟩ := hrel
    by_cases hlt : k < n
    · obtain ⟨_, y, ey, _, _, hy', hcy, hfy⟩ := R.get (k := k) (by rw [dropN_len, l.out]; exact hlt)
      cases ey
      have hkn : (k : Int) < (n : Int) := by omega
      have hy : Hid (xs[k]? = some y) := by unfold Hid; rw [← dropN_get xs x k]; exact hy'.out
      clear hy'
      by_cases hyx : y = x
      · subst hyx
        have R' := R.set_ k (-1)
        rw [← dropN_hit hy.out] at R'
        have G' := grown_setNew G (p := ⟨g, k, none⟩) (.inl rfl) (iv (-1))
        have hs' : Hid ((wr.setCell ⟨g, k, none⟩ (iv (-1))).heap.size = w.heap.size) := by unfold Hid; simp [World.setCell, hs.out]
        clear hy R G hs
        go_wp2_with fail
        go_roundw
        case rel => exact ⟨k + 1, by omega, by go_num, R', G', hs'⟩
        case measure => simp [intOf]; omega
      · have hyx1 : (y == x) = false := by simp [hyx]
        rw [← dropN_miss hy.out hyx] at R
        clear hy
        go_wp2_with fail
        go_roundw
        case rel => exact ⟨k + 1, by omega, by go_num, R, G, hs⟩
        case measure => simp [intOf]; omega
    · obtain rfl : k = n := by omega
      go_wp2_with fail
      go_end0
      exact ⟨rfl, R, G, hs.out⟩

end Go.Proofs.Ytpipagcpgjoigaa
