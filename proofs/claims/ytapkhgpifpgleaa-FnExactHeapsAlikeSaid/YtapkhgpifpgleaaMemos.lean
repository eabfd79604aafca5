import Derived.Test.YtapkhgpifpgleaaChecked
import Derived.WalkKit
import Derived.WalkSpells
import Derived.WalkLawsBesides
import Derived.Lib.Hide
/- The small functions of heaps over numbers: each contract says which Bool comes back, and that the world stays. -/
namespace Go.Proofs.Ytapkhgpifpgleaa
open Go.RowKit

def szB (c r : Int) : Bool := decide (1 ≤ c ∧ c ≤ 8 ∧ 1 ≤ r ∧ r ≤ 3)
def ptB (x n : Int) : Bool := decide (-1 ≤ x ∧ x < n)
def plB (x n : Int) : Bool := decide (0 ≤ x ∧ x < n)

set_option maxHeartbeats 400000 in
theorem sizesValid_any (c r : Int) (w : World) : Calls Try.prog 58 #[.int .i64 c, .int .i64 r] w fun e w' => e = .returned (.bool (szB c r)) ∧ w = w' := by
  by_cases h1 : 1 ≤ c <;> by_cases h2 : c ≤ 8 <;> by_cases h3 : 1 ≤ r <;> by_cases h4 : r ≤ 3
  all_goals
    go_enter Try.func58, Try.ntmps58
    go_wp2
    go_ret
    exact ⟨by simp [szB, h1, h2, h3, h4], rfl⟩

set_option maxHeartbeats 400000 in
theorem pointerValid_any (x n : Int) (hn : 0 ≤ n) (w : World) : Calls Try.prog 74 #[.int .i64 x, .int .i64 n] w fun e w' => e = .returned (.bool (ptB x n)) ∧ w = w' := by
  by_cases h0 : x = -1
  · subst h0
    go_enter Try.func74, Try.ntmps74
    go_wp2
    go_ret
    exact ⟨by simp [ptB]; omega, rfl⟩
  · have h0' : (x == -1) = false := by simpa using h0
    by_cases h1 : 0 ≤ x <;> by_cases h2 : x < n
    all_goals
      go_enter Try.func74, Try.ntmps74
      go_wp2
      go_ret
      exact ⟨by simp [ptB, h2]; try omega, rfl⟩

set_option maxHeartbeats 400000 in
theorem l1Points_any (x n : Int) (w : World) : Calls Try.prog 65 #[.int .i64 x, .int .i64 n] w fun e w' => e = .returned (.bool (ptB x n)) ∧ w = w' := by
  by_cases h1 : -1 ≤ x <;> by_cases h2 : x < n
  all_goals
    go_enter Try.func65, Try.ntmps65
    go_wp2
    go_ret
    exact ⟨by simp [ptB, h1, h2], rfl⟩

set_option maxHeartbeats 400000 in
theorem hasPlace_any (A : Option Addr) (n c : Nat) (x : Int) (w : World) : Calls Try.prog 53 #[.slice A n c, .int .i64 x] w fun e w' => e = .returned (.bool (plB x n)) ∧ w = w' := by
  by_cases h1 : 0 ≤ x <;> by_cases h2 : x < n
  all_goals
    go_enter Try.func53, Try.ntmps53
    go_wp2
    go_ret
    exact ⟨by simp [plB, h1, h2], rfl⟩
end Go.Proofs.Ytapkhgpifpgleaa

/- Words for memory: a row of ints ('Row'), a heap by value ('Hv'), and how they are kept by draws, new blocks, stores elsewhere. -/
namespace Go.Proofs.Ytapkhgpifpgleaa
open Go.RowKit

theorem ret_bool {a b : Bool} (h : a = b) : Ending.returned (.bool a) = .returned (.bool b) := by rw [h]
theorem ret_int {k : IntKind} {a b : Int} (h : a = b) : Ending.returned (.int k a) = .returned (.int k b) := by rw [h]

abbrev iv (n : Int) : Value := .int .i64 n

/-- The slice value owns a row of ints, in a block from 'lo' on (or it is nil). -/
def Row (w : World) (lo : Nat) (v : Value) (xs : List Int) : Prop := w.ownsRow lo 3 1 v xs.length (xs.map iv)

theorem Row.form {w : World} {lo : Nat} {v : Value} {xs : List Int} (h : Row w lo v xs) : ∃ A c, v = .slice A xs.length c ∧ xs.length ≤ c ∧ c ≤ maxLen := by
  rcases h.2 with ⟨rfl, e⟩ | ⟨g, cap, cur, rfl, _, _, h1, h2, _⟩
  · exact ⟨none, 0, by rw [e], by omega, by unfold maxLen; omega⟩
  · exact ⟨_, cap, rfl, h1, h2⟩

theorem Row.nil (w : World) (lo : Nat) : Row w lo (.slice none 0 0) [] := World.ownsRow_nil w lo _ _

theorem Row.at_ {w : World} {lo : Nat} {A : Option Addr} {n c : Nat} {xs : List Int} (h : Row w lo (.slice A n c) xs) {k : Nat} (hk : k < xs.length) :
    ∃ g, A = some ⟨g, 0, none⟩ ∧ lo ≤ g ∧ g < w.heap.size ∧ w.cell? ⟨g, k, none⟩ = some (iv (xs.getD k 0)) ∧ w.frozen? ⟨g, k, none⟩ = false := by
  have hc := h
  unfold Row at hc
  rcases h.2 with ⟨e, h0⟩ | ⟨g, cap, cur, e, hb, hg, h1, h2, h3, h4⟩
  · omega
  · cases e
    refine ⟨g, rfl, hb, (Array.getElem?_eq_some_iff.1 hg).1, ?_, hc.frozenAt k⟩
    rw [hc.cellAt k (by omega)]
    simp [List.getD, List.getElem?_eq_getElem hk]

/-- The same, the number under a name of its own. -/
theorem Row.get {w : World} {lo : Nat} {A : Option Addr} {n c : Nat} {xs : List Int} (h : Row w lo (.slice A n c) xs) {k : Nat} (hk : k < xs.length) :
    ∃ g x, A = some ⟨g, 0, none⟩ ∧ lo ≤ g ∧ g < w.heap.size ∧ Hid (xs[k]? = some x) ∧ w.cell? ⟨g, k, none⟩ = some (.int .i64 x) ∧ w.frozen? ⟨g, k, none⟩ = false := by
  obtain ⟨g, e, h1, h2, h3, h4⟩ := h.at_ hk
  exact ⟨g, xs.getD k 0, e, h1, h2, by unfold Hid; simp [List.getD, List.getElem?_eq_getElem hk], h3, h4⟩

theorem Row.lt {w : World} {lo : Nat} {v : Value} {xs : List Int} (h : Row w lo v xs) : ∀ k, v.ownBlock = some k → lo ≤ k ∧ k < w.heap.size := World.ownsRow.lt h

theorem Row.kept {w w' : World} {lo : Nat} {v : Value} {xs : List Int} {row : Option Nat} (h : Row w lo v xs) (hg : w.grownBy w' row) (hne : v.ownBlock = none ∨ v.ownBlock ≠ row) : Row w' lo v xs := World.ownsRow.kept h hg hne

theorem grown_of_below {w w' : World} (h : Below w.heap.size w w') : w.grownBy w' none := ⟨h.os, h.tape, h.output, h.size, fun k hk _ => h.block k hk⟩

theorem Row.below {w w' : World} {lo : Nat} {v : Value} {xs : List Int} (h : Row w lo v xs) (hb : Below w.heap.size w w') : Row w' lo v xs :=
  h.kept (grown_of_below hb) (by cases v.ownBlock <;> simp)
theorem Row.alloc {w : World} {lo : Nat} {v : Value} {xs : List Int} (h : Row w lo v xs) (o : Obj) : Row (w.alloc o) lo v xs := World.ownsRow.alloc h o
theorem Row.drew {w : World} {lo : Nat} {v : Value} {xs : List Int} (h : Row w lo v xs) : Row w.drew lo v xs := h
theorem Row.drewN {w : World} {lo : Nat} {v : Value} {xs : List Int} (h : Row w lo v xs) (n : Nat) : Row (w.drewN n) lo v xs := h
theorem Row.undrewN {w : World} {lo : Nat} {v : Value} {xs : List Int} {n : Nat} (h : Row (w.drewN n) lo v xs) : Row w lo v xs := h
theorem Row.other {w : World} {lo : Nat} {v : Value} {xs : List Int} (h : Row w lo v xs) {a : Addr} (ha : v.ownBlock ≠ some a.block) (u : Value) : Row (w.setCell a u) lo v xs := ownsRow_setCell_other h ha u
theorem Row.mono {w : World} {lo lo' : Nat} {v : Value} {xs : List Int} (h : Row w lo v xs) (hl : lo' ≤ lo) : Row w lo' v xs := by
  refine ⟨h.1, ?_⟩
  rcases h.2 with h2 | ⟨g, cap, cur, e, hb, r⟩
  · exact .inl h2
  · exact .inr ⟨g, cap, cur, e, by omega, r⟩
/-- A row that lies from 'lo' on in a world that keeps all below 'B' with lo = B.. : rows that are known to lie below a bound stay. -/
theorem Row.far {w w' : World} {lo B : Nat} {v : Value} {xs : List Int} (h : Row w lo v xs) (hb : Below B w w') (hB : ∀ k, v.ownBlock = some k → k < B) : Row w' lo v xs := by
  refine ⟨h.1, ?_⟩
  rcases h.2 with h2 | ⟨g, cap, cur, rfl, hg, hh, r⟩
  · exact .inl h2
  · exact .inr ⟨g, cap, cur, rfl, hg, by rw [hb.block g (hB g rfl)]; exact hh, r⟩
theorem Row.set_ {w : World} {lo g n c : Nat} {xs : List Int} (h : Row w lo (.slice (some ⟨g, 0, none⟩) n c) xs) (k : Nat) (x : Int) : Row (w.setCell ⟨g, k, none⟩ (iv x)) lo (.slice (some ⟨g, 0, none⟩) n c) (xs.set k x) := by
  have h1 := h
  unfold Row at h1 ⊢
  obtain ⟨A, c', e, h2, h3⟩ := h.form
  cases e
  have := World.ownsRow.stored h1 k (iv x)
  simpa [List.map_set] using this.1

/-- A block of three cells, known whole; its cells, and that none is frozen. -/
def Blk3 (w : World) (b : Nat) (x y z : Value) (t : TypeId) : Prop := w.heap[b]? = some (.cells #[x, y, z] t (0, 0))
theorem Blk3.cells {w : World} {b : Nat} {x y z : Value} {t : TypeId} (h : Blk3 w b x y z t) :
    w.cell? ⟨b, 0, none⟩ = some x ∧ w.cell? ⟨b, 1, none⟩ = some y ∧ w.cell? ⟨b, 2, none⟩ = some z ∧ w.frozen? ⟨b, 0, none⟩ = false ∧ w.frozen? ⟨b, 1, none⟩ = false ∧ w.frozen? ⟨b, 2, none⟩ = false := by
  unfold Blk3 at h
  simp [World.cell?, World.frozen?, h]
theorem Blk3.lt {w : World} {b : Nat} {x y z : Value} {t : TypeId} (h : Blk3 w b x y z t) : b < w.heap.size := (Array.getElem?_eq_some_iff.1 h).1
theorem Blk3.below {W w : World} {b : Nat} {x y z : Value} {t : TypeId} (h : Blk3 W b x y z t) (hb : Below W.heap.size W w) : Blk3 w b x y z t := (hb.block b h.lt).trans h
theorem Blk3.far {W w : World} {B b : Nat} {x y z : Value} {t : TypeId} (h : Blk3 W b x y z t) (hb : Below B W w) (hB : b < B) : Blk3 w b x y z t := (hb.block b hB).trans h
theorem Blk3.new (w : World) (x y z : Value) (t : TypeId) : Blk3 (w.alloc (.cells #[x, y, z] t)) w.heap.size x y z t := heap_alloc_new w _
theorem Blk3.new_at {w : World} {b : Nat} (hb : b = w.heap.size) (x y z : Value) (t : TypeId) : Blk3 (w.alloc (.cells #[x, y, z] t)) b x y z t := by subst hb; exact heap_alloc_new w _
theorem Blk3.alloc {w : World} {b : Nat} {x y z : Value} {t : TypeId} (h : Blk3 w b x y z t) (o : Obj) : Blk3 (w.alloc o) b x y z t := (Below.heap_alloc w o b h.lt).trans h
theorem Blk3.other {w : World} {b : Nat} {x y z : Value} {t : TypeId} (h : Blk3 w b x y z t) {p : Addr} (hp : b ≠ p.block) (u : Value) : Blk3 (w.setCell p u) b x y z t := (Below.heap_setCell w p u b hp).trans h

structure Hp where
  (l r t : List Int)

def Apart (u v : Value) : Prop := ∀ b, u.ownBlock = some b → v.ownBlock ≠ some b

/-- A heap by value: three rows, each in a block of its own. -/
def Hv (w : World) (lo : Nat) (v : Value) (h : Hp) : Prop :=
  ∃ v0 v1 v2, v = .agg #[v0, v1, v2] ∧ Row w lo v0 h.l ∧ Row w lo v1 h.r ∧ Row w lo v2 h.t ∧ Apart v0 v1 ∧ Apart v0 v2 ∧ Apart v1 v2

theorem Hv.form {w : World} {lo : Nat} {v : Value} {h : Hp} (hv : Hv w lo v h) : ∃ A0 c0 A1 c1 A2 c2, v = .agg #[.slice A0 h.l.length c0, .slice A1 h.r.length c1, .slice A2 h.t.length c2] ∧
    Row w lo (.slice A0 h.l.length c0) h.l ∧ Row w lo (.slice A1 h.r.length c1) h.r ∧ Row w lo (.slice A2 h.t.length c2) h.t ∧
    Apart (.slice A0 h.l.length c0) (.slice A1 h.r.length c1) ∧ Apart (.slice A0 h.l.length c0) (.slice A2 h.t.length c2) ∧ Apart (.slice A1 h.r.length c1) (.slice A2 h.t.length c2) := by
  obtain ⟨v0, v1, v2, rfl, h0, h1, h2, a⟩ := hv
  obtain ⟨A0, c0, rfl, _⟩ := h0.form
  obtain ⟨A1, c1, rfl, _⟩ := h1.form
  obtain ⟨A2, c2, rfl, _⟩ := h2.form
  exact ⟨A0, c0, A1, c1, A2, c2, rfl, h0, h1, h2, a⟩
/-- The same, the lengths under names of their own. -/
theorem Hv.open_ {w : World} {lo : Nat} {v : Value} {h : Hp} (hv : Hv w lo v h) : ∃ A0 n0 c0 A1 n1 c1 A2 n2 c2, v = .agg #[.slice A0 n0 c0, .slice A1 n1 c1, .slice A2 n2 c2] ∧
    (Row w lo (.slice A0 n0 c0) h.l ∧ Row w lo (.slice A1 n1 c1) h.r ∧ Row w lo (.slice A2 n2 c2) h.t) ∧
    (Hid (h.l.length = n0) ∧ Hid (h.r.length = n1) ∧ Hid (h.t.length = n2)) ∧ (n0 ≤ 9223372036854775807 ∧ n1 ≤ 9223372036854775807 ∧ n2 ≤ 9223372036854775807) ∧
    (n0 ≤ c0 ∧ n1 ≤ c1 ∧ n2 ≤ c2) ∧
    Apart (.slice A0 n0 c0) (.slice A1 n1 c1) ∧ Apart (.slice A0 n0 c0) (.slice A2 n2 c2) ∧ Apart (.slice A1 n1 c1) (.slice A2 n2 c2) := by
  obtain ⟨v0, v1, v2, rfl, h0, h1, h2, a⟩ := hv
  obtain ⟨A0, c0, rfl, b0, m0⟩ := h0.form
  obtain ⟨A1, c1, rfl, b1, m1⟩ := h1.form
  obtain ⟨A2, c2, rfl, b2, m2⟩ := h2.form
  unfold maxLen at m0 m1 m2
  exact ⟨A0, _, c0, A1, _, c1, A2, _, c2, rfl, ⟨h0, h1, h2⟩, ⟨rfl, rfl, rfl⟩, ⟨by omega, by omega, by omega⟩, ⟨b0, b1, b2⟩, a⟩
theorem Hv.below {w w' : World} {lo : Nat} {v : Value} {h : Hp} (hv : Hv w lo v h) (hb : Below w.heap.size w w') : Hv w' lo v h := by
  obtain ⟨v0, v1, v2, rfl, h0, h1, h2, a⟩ := hv
  exact ⟨v0, v1, v2, rfl, h0.below hb, h1.below hb, h2.below hb, a⟩
theorem Hv.alloc {w : World} {lo : Nat} {v : Value} {h : Hp} (hv : Hv w lo v h) (o : Obj) : Hv (w.alloc o) lo v h := by
  obtain ⟨v0, v1, v2, rfl, h0, h1, h2, a⟩ := hv
  exact ⟨v0, v1, v2, rfl, h0.alloc o, h1.alloc o, h2.alloc o, a⟩
theorem Hv.drew {w : World} {lo : Nat} {v : Value} {h : Hp} (hv : Hv w lo v h) : Hv w.drew lo v h := hv
theorem Hv.drewN {w : World} {lo : Nat} {v : Value} {h : Hp} (hv : Hv w lo v h) (n : Nat) : Hv (w.drewN n) lo v h := hv
theorem Hv.mono {w : World} {lo lo' : Nat} {v : Value} {h : Hp} (hv : Hv w lo v h) (hl : lo' ≤ lo) : Hv w lo' v h := by
  obtain ⟨v0, v1, v2, rfl, h0, h1, h2, a⟩ := hv
  exact ⟨v0, v1, v2, rfl, h0.mono hl, h1.mono hl, h2.mono hl, a⟩
def Hp.zero : Hp := ⟨[], [], []⟩
theorem Hv.zero (w : World) (lo : Nat) : Hv w lo (.agg #[.slice none 0 0, .slice none 0 0, .slice none 0 0]) Hp.zero :=
  ⟨_, _, _, rfl, Row.nil _ _, Row.nil _ _, Row.nil _ _, fun _ h => by simp [Value.ownBlock] at h, fun _ h => by simp [Value.ownBlock] at h, fun _ h => by simp [Value.ownBlock] at h⟩
end Go.Proofs.Ytapkhgpifpgleaa

