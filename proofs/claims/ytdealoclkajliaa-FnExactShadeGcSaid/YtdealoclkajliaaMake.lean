/- Rows that are made: nonePointers, l1Many, copyOfInts. -/
import Derived.Test.YtdealoclkajliaaLoops
import Derived.Laws.CopyOwn
namespace Go.Proofs.Ytdealoclkajliaa
open Go.RowKit

theorem Try.infoInt : (Try.prog.info? 3).map (fun i => (i.zero, i.size, i.bytes)) = some (some (.int .i64 0), 1, 8) := by kernel_rfl

/-- A new row comes back, and nothing that was there has turned. -/
def NewRow (w : World) (xs : List Int) (e : Ending) (w' : World) : Prop := ∃ A c, e = .returned (.slice A xs.length c) ∧ Row w' w.heap.size (.slice A xs.length c) xs ∧ Below w.heap.size w w'

theorem mc_int (n : Nat) : (madeCells #[Value.int .i64 0] n).toList = (List.replicate n (0 : Int)).map iv := by
  rw [toList_madeCells_one]; simp

theorem set_rep (k n : Nat) (x : Int) (hk : k < n) : (List.replicate k x ++ List.replicate (n - k) (0 : Int)).set k x = List.replicate (k + 1) x ++ List.replicate (n - (k + 1)) 0 := by
  rw [List.set_append, if_neg (by simp), List.length_replicate, Nat.sub_self, show n - k = (n - (k + 1)) + 1 from by omega, List.replicate_succ, List.set_cons_zero, List.replicate_succ' (n := k)]
  simp

theorem Row.of_own {w : World} {lo : Nat} {v : Value} {n : Nat} {xs : List Int} {l : List Value} (h : w.ownsRow lo 3 1 v n l) (hl : l = xs.map iv) (hn : n = xs.length) : Row w lo v xs := by
  subst hl hn; exact h

theorem one_new {w : World} {x : Value} {t : TypeId} : ∀ j u, [x][j]? = some u → (w.alloc (.cells #[x] t)).cell? ((⟨w.heap.size, 0, none⟩ : Addr).add j) = some u := by
  intro j u hj
  match j, hj with
  | 0, hj => simp at hj; subst hj; simp [Addr.add]

/-- The cells of a row, as a copy asks for them. -/
theorem Row.src {w : World} {lo : Nat} {A : Option Addr} {n c : Nat} {xs : List Int} (h : Row w lo (.slice A n c) xs) (hp : 0 < xs.length) :
    ∃ ad, A = some ad ∧ ∀ (j : Nat) (u : Int), xs[j]? = some u → w.cell? (ad.add j) = some (iv u) := by
  obtain ⟨g, e, _, _, _⟩ := h.at_ (k := 0) hp
  refine ⟨_, e, fun j u hj => ?_⟩
  have hjl : j < xs.length := (List.getElem?_eq_some_iff.1 hj).1
  obtain ⟨g', e', _, _, hcell, _⟩ := h.at_ hjl
  rw [e] at e'; cases e'
  have hadd : (⟨g, 0, none⟩ : Addr).add j = ⟨g, j, none⟩ := by unfold Addr.add; split <;> simp_all
  rw [hadd, hcell]
  simp [List.getD, hj]

set_option maxHeartbeats 400000 in
theorem copyOfInts_any (w : World) (lo : Nat) (A : Option Addr) (n c : Nat) (xs : List Int) (h : Row w lo (.slice A n c) xs) (hn : xs.length = n) (hm : n ≤ 1048576) :
    Calls Try.prog 83 #[.slice A n c] w (NewRow w xs) := by
  obtain ⟨i0, hi, hz0, hz1, hz2⟩ := info_parts Try.infoInt
  have hii : (Try.prog.info? 3).map (·.size) = some 1 := by rw [hi]; simp [hz1]
  go_enter Try.func83, Try.ntmps83
  go_wp2_with (at_make; refine wpList_make_full _ rfl _ _ 22 rfl w.heap.size 3 i0 (.int .i64 0) 1 Try.underlying22 hi hz0 hz1 _ _ _ _ n rfl rfl rfl rfl ?b2 ?b3 (Nat.le_refl _) ?_)
  case b2 => rw [hz2]; omega
  case b3 => unfold maxLen; omega
  intro w0 hown0 hgrow0
  rw [mc_int] at hown0
  have hrow0 : Row w0 w.heap.size (.slice (some ⟨w.heap.size, 0, none⟩) n n) (List.replicate n 0) := by unfold Row; simpa using hown0
  have hb0 : Below w.heap.size w w0 := (Below.refl _ _).grown hgrow0 (Nat.le_refl _) (fun k h => by cases h)
  have h0 : Row w0 lo (.slice A n c) xs := h.below hb0
  have hblk : ∃ cur : List Value, Hid (w0.heap[w.heap.size]? = some (.cells cur.toArray 3 (0, 0))) ∧ cur.length = n := by
    rcases hown0.2 with ⟨e, _⟩ | ⟨g, cap, cur, e, _, hg, _, _, h3, _⟩
    · cases e
    · cases e; exact ⟨cur.toList, by unfold Hid; simpa using hg, by simpa using h3⟩
  obtain ⟨cur, hcur, hcl⟩ := hblk
  clear hown0 hgrow0 hz0 hz1 hz2 hrow0
  go_wp2_with (refine wpList_copy_splice rfl _ _ 22 22 rfl 3 Try.underlying22 hii _ _ _ _ _ _ rfl rfl w.heap.size 0 cur 3 hcur.out (xs.map iv) ?d1 ?d2 ?d3 ?d4 w.heap.size w hb0 (Nat.le_refl _) ?_)
  case d1 => simp [hn]
  case d2 =>
    intro hp
    first | exact h0.src (by omega) | exact ⟨rfl, h0.src (by omega)⟩
  case d3 => simp; omega
  case d4 => exact ints_oneCell _ _
  intro w' hw' hb'
  have hrow' : Row w' w.heap.size (.slice (some ⟨w.heap.size, 0, none⟩) n n) xs := by
    have e : splice cur 0 (xs.map iv) = xs.map iv := by simp [splice]; omega
    have hh := hw'.out
    rw [e] at hh
    refine ⟨by simp, .inr ⟨w.heap.size, n, _, by rw [hn], Nat.le_refl _, hh, by omega, by unfold maxLen; omega, by simp [hn], by rw [Nat.mul_one]; exact List.take_of_length_le (by simp)⟩⟩
  clear hw' hcur hb0 h0
  go_wp2
  go_ret
  refine ⟨some ⟨w.heap.size, 0, none⟩, n, ?_, ?_, hb'⟩
  · rw [hn]; rfl
  · rw [hn]; exact hrow'
end Go.Proofs.Ytdealoclkajliaa
