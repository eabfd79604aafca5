/- impl.heapReader: what it holds, and how it is made. -/
import Derived.Test.YtpimndfafibgeaaFmt
namespace Go.Proofs.Ytpimndfafibgeaa
open Go.RowKit

/-- What a reader has read: how far, so many cells and roots, the pointers of each, all pointers. -/
structure RdS where
  a : Nat
  n : Nat
  m : Nat
  ls : List Int
  rs : List Int
  ts : List Int
  ps : List Int
/-- A pointer to a node of the reader in block b, or nil. -/
def ptrV (b : Nat) (x : Int) : Value := if x = -1 then .pointer none else .pointer (some ⟨b, 2 + x.toNat * 3, none⟩)
inductive Slot where
  | text | pos | num (k : Nat) | left (k : Nat) | right (k : Nat) | flag (k : Nat) | cells | root (k : Nat) | rooted
  deriving DecidableEq
def slotOf (o : Nat) : Slot :=
  if o = 0 then .text else if o = 1 then .pos
  else if o < 26 then (if (o - 2) % 3 = 0 then .num ((o - 2) / 3) else if (o - 2) % 3 = 1 then .left ((o - 2) / 3) else .right ((o - 2) / 3))
  else if o < 34 then .flag (o - 26) else if o = 34 then .cells else if o < 38 then .root (o - 35) else .rooted
theorem slot_inj : ∀ o, o < 39 → ∀ o', o' < 39 → slotOf o' = slotOf o → o' = o := by decide +kernel
theorem slot_num : ∀ k, k < 8 → slotOf (2 + k * 3) = .num k := by decide +kernel
theorem slot_left : ∀ k, k < 8 → slotOf (2 + k * 3 + 1) = .left k := by decide +kernel
theorem slot_right : ∀ k, k < 8 → slotOf (2 + k * 3 + 2) = .right k := by decide +kernel
theorem slot_flag : ∀ k, k < 8 → slotOf (26 + k) = .flag k := by decide +kernel
theorem slot_root : ∀ k, k < 3 → slotOf (35 + k) = .root k := by decide +kernel
def slotV (nn b : Nat) (s : ByteArray) (σ : RdS) : Slot → Value
  | .text => .string s
  | .pos => .int .i64 σ.a
  | .num k => .int .i64 (if k < nn then (k : Int) else 0)
  | .left k => ptrV b (σ.ls.getD k (-1))
  | .right k => ptrV b (σ.rs.getD k (-1))
  | .flag k => .bool (σ.ps.contains (k : Int))
  | .cells => .int .i64 σ.n
  | .root k => ptrV b (σ.ts.getD k (-1))
  | .rooted => .int .i64 σ.m
/-- The reader's block. -/
def RB (w : World) (b nn : Nat) (s : ByteArray) (σ : RdS) : Prop :=
  ∃ cs : Array Value, w.heap[b]? = some (.cells cs 79 (0, 0)) ∧ ∀ o, o < 39 → cs[o]? = some (slotV nn b s σ (slotOf o))
theorem RB.get {w : World} {b nn : Nat} {s : ByteArray} {σ : RdS} (h : RB w b nn s σ) {o : Nat} (ho : o < 39) {t : Slot} (ht : slotOf o = t) : w.cell? ⟨b, o, none⟩ = some (slotV nn b s σ t) ∧ w.frozen? ⟨b, o, none⟩ = false := by
  obtain ⟨cs, hb, hc⟩ := h
  exact ⟨by rw [Lib.cell_of_heap hb, hc o ho, ht], Lib.frozen_of_heap hb o⟩
theorem RB.lt {w : World} {b nn : Nat} {s : ByteArray} {σ : RdS} (h : RB w b nn s σ) : b < w.heap.size := by
  obtain ⟨cs, hb, _⟩ := h
  exact (Array.getElem?_eq_some_iff.1 hb).1
theorem RB.far {w w' : World} {b nn : Nat} {s : ByteArray} {σ : RdS} (h : RB w b nn s σ) (hw : w'.heap[b]? = w.heap[b]?) : RB w' b nn s σ := by
  obtain ⟨cs, hb, hc⟩ := h
  exact ⟨cs, hw.trans hb, hc⟩
theorem RB.drewN {w : World} {b nn : Nat} {s : ByteArray} {σ : RdS} (h : RB w b nn s σ) (k : Nat) : RB (w.drewN k) b nn s σ := h
theorem RB.set {w : World} {b nn nn' : Nat} {s : ByteArray} {σ σ' : RdS} (h : RB w b nn s σ) {o : Nat} (ho : o < 39) {t : Slot} (ht : slotOf o = t) {v : Value}
    (hv : slotV nn' b s σ' t = v) (hn : ∀ t', t' ≠ t → slotV nn' b s σ' t' = slotV nn b s σ t') : RB (w.setCell ⟨b, o, none⟩ v) b nn' s σ' := by
  obtain ⟨cs, hb, hc⟩ := h
  have hs : o < cs.size := (Array.getElem?_eq_some_iff.1 (hc o ho)).1
  refine ⟨cs.setIfInBounds o v, ?_, fun o' ho' => ?_⟩
  · simp [World.setCell, Array.getElem?_modify, hb]
  · rw [Array.getElem?_setIfInBounds]
    by_cases e : o = o'
    · subst e
      rw [if_pos rfl, if_pos hs, ht, hv]
    · rw [if_neg e, hc o' ho', hn _ (fun e2 => e (slot_inj o ho o' ho' (e2.trans ht.symm)).symm)]
theorem getD_snoc {α : Type} (l : List α) (x d : α) (j : Nat) : (l ++ [x]).getD j d = if j = l.length then x else l.getD j d := by
  simp only [List.getD_eq_getElem?_getD, List.getElem?_append]
  by_cases h : j < l.length
  · rw [if_pos h, if_neg (by omega)]
  · rw [if_neg h]
    by_cases e : j = l.length
    · subst e; simp
    · rw [if_neg e, List.getElem?_eq_none (by simp; omega), List.getElem?_eq_none (by omega)]
/-- The steps of a reader. -/
theorem RB.setNum {w : World} {b k : Nat} {s : ByteArray} {σ : RdS} (h : RB w b k s σ) (hk : k < 8) : RB (w.setCell ⟨b, 2 + k * 3, none⟩ (.int .i64 (k : Int))) b (k + 1) s σ :=
  h.set (by omega) (slot_num k hk) (by simp [slotV]) (fun t' ht => by
    cases t' <;> simp_all [slotV]
    rename_i j
    by_cases h1 : j < k
    · rw [if_pos (by omega), if_pos h1]
    · rw [if_neg (by omega), if_neg h1])
theorem RB.setPos {w : World} {b nn : Nat} {s : ByteArray} {σ : RdS} (h : RB w b nn s σ) : RB (w.setCell ⟨b, 1, none⟩ (.int .i64 ((σ.a : Int) + 1))) b nn s { σ with a := σ.a + 1 } :=
  h.set (by omega) (t := .pos) rfl (by simp [slotV]) (fun t' ht => by cases t' <;> simp_all [slotV])
theorem RB.setLeft {w : World} {b nn k : Nat} {s : ByteArray} {σ : RdS} (h : RB w b nn s σ) (hk : k < 8) (hl : σ.ls.length = k) (x : Int) : RB (w.setCell ⟨b, 2 + k * 3 + 1, none⟩ (ptrV b x)) b nn s { σ with ls := σ.ls ++ [x] } :=
  h.set (by omega) (slot_left k hk) (by simp only [slotV, getD_snoc]; rw [if_pos hl.symm]) (fun t' ht => by
    cases t' <;> simp only [slotV]
    rename_i j
    rw [getD_snoc, if_neg (fun e => ht (by rw [e, hl]))])
theorem RB.setRight {w : World} {b nn k : Nat} {s : ByteArray} {σ : RdS} (h : RB w b nn s σ) (hk : k < 8) (hl : σ.rs.length = k) (x : Int) : RB (w.setCell ⟨b, 2 + k * 3 + 2, none⟩ (ptrV b x)) b nn s { σ with rs := σ.rs ++ [x] } :=
  h.set (by omega) (slot_right k hk) (by simp only [slotV, getD_snoc]; rw [if_pos hl.symm]) (fun t' ht => by
    cases t' <;> simp only [slotV]
    rename_i j
    rw [getD_snoc, if_neg (fun e => ht (by rw [e, hl]))])
theorem RB.setRoot {w : World} {b nn k : Nat} {s : ByteArray} {σ : RdS} (h : RB w b nn s σ) (hk : k < 3) (hl : σ.ts.length = k) (x : Int) : RB (w.setCell ⟨b, 35 + k, none⟩ (ptrV b x)) b nn s { σ with ts := σ.ts ++ [x] } :=
  h.set (by omega) (slot_root k hk) (by simp only [slotV, getD_snoc]; rw [if_pos hl.symm]) (fun t' ht => by
    cases t' <;> simp only [slotV]
    rename_i j
    rw [getD_snoc, if_neg (fun e => ht (by rw [e, hl]))])
theorem RB.setFlag {w : World} {b nn k : Nat} {s : ByteArray} {σ : RdS} (h : RB w b nn s σ) (hk : k < 8) : RB (w.setCell ⟨b, 26 + k, none⟩ (.bool true)) b nn s { σ with ps := (k : Int) :: σ.ps } :=
  h.set (by omega) (slot_flag k hk) (by simp [slotV]) (fun t' ht => by
    cases t' <;> simp only [slotV]
    rename_i j
    have : j ≠ k := fun e => ht (by rw [e])
    simp; omega)
theorem RB.none_ {w : World} {b nn : Nat} {s : ByteArray} {σ : RdS} (h : RB w b nn s σ) : RB w b nn s { σ with ps := (-1) :: σ.ps } := by
  obtain ⟨cs, hb, hc⟩ := h
  refine ⟨cs, hb, fun o ho => ?_⟩
  rw [hc o ho]
  cases slotOf o <;> simp only [slotV]
  rename_i j
  simp
theorem RB.setCells {w : World} {b nn : Nat} {s : ByteArray} {σ : RdS} (h : RB w b nn s σ) : RB (w.setCell ⟨b, 34, none⟩ (.int .i64 ((σ.n : Int) + 1))) b nn s { σ with n := σ.n + 1 } :=
  h.set (by omega) (t := .cells) rfl (by simp [slotV]) (fun t' ht => by cases t' <;> simp_all [slotV])
theorem RB.setRooted {w : World} {b nn : Nat} {s : ByteArray} {σ : RdS} (h : RB w b nn s σ) : RB (w.setCell ⟨b, 38, none⟩ (.int .i64 ((σ.m : Int) + 1))) b nn s { σ with m := σ.m + 1 } :=
  h.set (by omega) (t := .rooted) rfl (by simp [slotV]) (fun t' ht => by cases t' <;> simp_all [slotV])
def RdS.zero : RdS := ⟨0, 0, 0, [], [], [], []⟩

set_option maxRecDepth 100000 in
theorem newRdr_any (w : World) (s : ByteArray) :
    Calls Try.prog 29 #[.string s] w fun e w' => e = .returned (.pointer (some ⟨w.heap.size, 0, none⟩)) ∧ RB w' w.heap.size 8 s RdS.zero ∧ Below w.heap.size w w' := by
  go_enter Try.func29, Try.ntmps29
  go_wp2_with fail
  go_loopw [4, 8] (fun _ i wr => ∃ k : Nat, k ≤ 8 ∧ i = .int .i64 k ∧ RB wr w.heap.size k s RdS.zero ∧ Below w.heap.size w wr) (fun _ i _ => 8 - (intOf i).toNat)
  case atStart =>
    refine ⟨0, by omega, rfl, ⟨_, heap_alloc_new w _, ?_⟩, (Below.refl _ _).alloc (Nat.le_refl _) _⟩
    intro o ho
    have : ∀ o, o < 39 → slotV 0 w.heap.size s RdS.zero (slotOf o) = match slotOf o with | .text => .string s | .pos => .int .i64 0 | .num _ => .int .i64 0 | .left _ => .pointer none | .right _ => .pointer none | .flag _ => .bool false | .cells => .int .i64 0 | .root _ => .pointer none | .rooted => .int .i64 0 := by
      intro o _
      cases slotOf o <;> simp [slotV, RdS.zero, ptrV]
    rw [this o ho]
    match o, ho with
    | 0, _ => rfl
    | 1, _ => rfl
    | 2, _ => rfl
    | 3, _ => rfl
    | 4, _ => rfl
    | 5, _ => rfl
    | 6, _ => rfl
    | 7, _ => rfl
    | 8, _ => rfl
    | 9, _ => rfl
    | 10, _ => rfl
    | 11, _ => rfl
    | 12, _ => rfl
    | 13, _ => rfl
    | 14, _ => rfl
    | 15, _ => rfl
    | 16, _ => rfl
    | 17, _ => rfl
    | 18, _ => rfl
    | 19, _ => rfl
    | 20, _ => rfl
    | 21, _ => rfl
    | 22, _ => rfl
    | 23, _ => rfl
    | 24, _ => rfl
    | 25, _ => rfl
    | 26, _ => rfl
    | 27, _ => rfl
    | 28, _ => rfl
    | 29, _ => rfl
    | 30, _ => rfl
    | 31, _ => rfl
    | 32, _ => rfl
    | 33, _ => rfl
    | 34, _ => rfl
    | 35, _ => rfl
    | 36, _ => rfl
    | 37, _ => rfl
    | 38, _ => rfl
    | n + 39, h => exact absurd h (by omega)
  case round =>
    obtain ⟨k, hk, rfl, hR, hW⟩ := hrel
    by_cases hlt : k < 8
    · obtain ⟨q, f⟩ := hR.get (o := 2 + k * 3) (by omega) (slot_num k hlt)
      have hR' := hR.setNum hlt
      have hW' := hW.setCell (p := ⟨w.heap.size, 2 + k * 3, none⟩) (Nat.le_refl _) (.int .i64 (k : Int))
      clear hR
      go_wp2_with fail
      go_roundw
      case rel => exact ⟨k + 1, by omega, by go_num, hR', hW'⟩
      case measure => simp [intOf]; omega
    · obtain rfl : k = 8 := by omega
      go_wp2_with fail
      go_ret
      exact ⟨rfl, hR, hW⟩
end Go.Proofs.Ytpimndfafibgeaa
