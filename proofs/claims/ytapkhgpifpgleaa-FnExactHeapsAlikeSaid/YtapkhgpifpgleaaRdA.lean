import Derived.Test.YtapkhgpifpgleaaHpA
import Derived.Laws.BitsAllLaws
import Derived.Laws.BitsLemmas
import Derived.IntWalk
import Derived.Test.YtapkhgpifpgleaaHpB
import Derived.Test.YtapkhgpifpgleaaMemos
/- The source of numbers that the draws read: l13Open, pick, num. What a pick gives is only known to lie below n; nothing but the reader's own block turns. -/
namespace Go.Proofs.Ytapkhgpifpgleaa
open Go.RowKit

/-- n bytes lie at A, below block B. -/
def Bytes (w : World) (B : Nat) (A : Option Addr) (n : Nat) : Prop :=
  n = 0 ∨ ∃ b off, A = some ⟨b, off, none⟩ ∧ b < B ∧ ∀ k, k < n → ∃ x : Int, 0 ≤ x ∧ x ≤ 255 ∧ w.cell? ⟨b, off + k, none⟩ = some (.int .u8 x)
theorem Bytes.below {w w' : World} {B : Nat} {A : Option Addr} {n : Nat} (h : Bytes w B A n) (hb : Below B w w') : Bytes w' B A n := by
  rcases h with h | ⟨b, off, e, hbb, h⟩
  · exact .inl h
  · refine .inr ⟨b, off, e, hbb, fun k hk => ?_⟩
    obtain ⟨x, h0, h1, hc⟩ := h k hk
    exact ⟨x, h0, h1, (hb.cell (p := ⟨b, off + k, none⟩) hbb).trans hc⟩
theorem Bytes.grown {w w' : World} {B g : Nat} {A : Option Addr} {n : Nat} (h : Bytes w B A n) (hg : w.grownBy w' (some g)) (hB : B ≤ g) (hs : B ≤ w.heap.size) : Bytes w' B A n :=
  h.below ⟨hg.os, hg.tape, hg.output, hg.size, fun k hk => hg.block k (by omega) (fun e => by cases e; omega)⟩

/-- The reader in block rb: n bytes at A, and p numbers taken. -/
def Rd (w : World) (B rb : Nat) (A : Option Addr) (n c p : Nat) : Prop :=
  w.heap[rb]? = some (.cells #[.slice A n c, .int .i64 p] 77 (0, 0)) ∧ Bytes w B A n ∧ B ≤ rb ∧ n ≤ 2000
theorem Rd.lt {w : World} {B rb : Nat} {A : Option Addr} {n c p : Nat} (h : Rd w B rb A n c p) : rb < w.heap.size := (Array.getElem?_eq_some_iff.1 h.1).1
theorem Rd.cells {w : World} {B rb : Nat} {A : Option Addr} {n c p : Nat} (h : Rd w B rb A n c p) :
    w.cell? ⟨rb, 0, none⟩ = some (.slice A n c) ∧ w.cell? ⟨rb, 1, none⟩ = some (.int .i64 p) ∧ w.frozen? ⟨rb, 1, none⟩ = false := by
  have h1 := h.1
  simp [World.cell?, World.frozen?, h1]
theorem Rd.alloc {w : World} {B rb : Nat} {A : Option Addr} {n c p : Nat} (h : Rd w B rb A n c p) (o : Obj) : Rd (w.alloc o) B rb A n c p :=
  ⟨(Below.heap_alloc w o rb h.lt).trans h.1, h.2.1.below ((Below.refl _ _).alloc (Nat.le_of_lt (Nat.lt_of_le_of_lt h.2.2.1 h.lt)) o), h.2.2⟩
theorem Rd.drewN {w : World} {B rb : Nat} {A : Option Addr} {n c p : Nat} (h : Rd w B rb A n c p) (k : Nat) : Rd (w.drewN k) B rb A n c p := h
theorem Rd.drew {w : World} {B rb : Nat} {A : Option Addr} {n c p : Nat} (h : Rd w B rb A n c p) : Rd w.drew B rb A n c p := h
theorem Rd.below {w w' : World} {B rb : Nat} {A : Option Addr} {n c p : Nat} (h : Rd w B rb A n c p) (hb : Below w.heap.size w w') : Rd w' B rb A n c p :=
  ⟨(hb.block rb h.lt).trans h.1, h.2.1.below (hb.mono (Nat.le_of_lt (Nat.lt_of_le_of_lt h.2.2.1 h.lt))), h.2.2⟩
theorem Rd.other {w : World} {B rb : Nat} {A : Option Addr} {n c p : Nat} (h : Rd w B rb A n c p) {a : Addr} (ha : rb ≠ a.block) (hB : B ≤ a.block) (u : Value) : Rd (w.setCell a u) B rb A n c p :=
  ⟨(Below.heap_setCell w a u rb ha).trans h.1, h.2.1.below ((Below.refl _ _).setCell hB u), h.2.2⟩

/-- Nothing but block rb has turned, and no block is new. -/
def Only (rb : Nat) (w w' : World) : Prop := w.grownBy w' (some rb) ∧ w'.heap.size = w.heap.size

/-- A number below n comes back; of what was there, only the reader has turned. -/
def Picked (w : World) (B rb : Nat) (A : Option Addr) (nb c p : Nat) (n : Int) (e : Ending) (w' : World) : Prop :=
  ∃ k : Nat, e = .returned (.int .i64 k) ∧ (k : Int) < n ∧ Rd w' B rb A nb c (p + 1) ∧ Only rb w w'

theorem ofInt_i64 (a : Nat) (ha : a < 9223372036854775808) : (BitVec.ofInt 64 (a : Int)).toNat = a := by
  rw [BitVec.ofInt_natCast, BitVec.toNat_ofNat]; exact Nat.mod_eq_of_lt (by omega)
theorem i64_xor_nat (a b : Nat) (ha : a < 9223372036854775808) (hb : b < 9223372036854775808) : bits .xor .i64 (a : Int) (b : Int) = ((a ^^^ b : Nat) : Int) := by
  have hx : a ^^^ b < 2 ^ 63 := Nat.xor_lt_two_pow (by omega) (by omega)
  show IntKind.i64.wrap ((BitVec.ofInt 64 (a : Int) ^^^ BitVec.ofInt 64 (b : Int)).toNat : Int) = _
  rw [BitVec.toNat_xor, ofInt_i64 a ha, ofInt_i64 b hb, IntKind.wrap_i64]
  omega

theorem only_set {w : World} {B rb : Nat} {A : Option Addr} {n c p : Nat} (h : Rd w B rb A n c p) : Rd (w.setCell ⟨rb, 1, none⟩ (.int .i64 ((p : Int) + 1))) B rb A n c (p + 1) ∧ Only rb w (w.setCell ⟨rb, 1, none⟩ (.int .i64 ((p : Int) + 1))) := by
  refine ⟨⟨?_, h.2.1.below ((Below.refl _ _).setCell h.2.2.1 _), h.2.2⟩, ⟨rfl, rfl, rfl, by simp [World.setCell], fun k _ hne => Below.heap_setCell _ _ _ _ (fun e => hne (by rw [e]))⟩, by simp [World.setCell]⟩
  have h1 := h.1
  simp only [World.setCell, Array.getElem?_modify, h1]
  simp
theorem only_drewN {rb : Nat} {w w' : World} (h : Only rb w w') (k : Nat) : Only rb w (w'.drewN k) := ⟨⟨h.1.os, h.1.tape, h.1.output, h.1.size, h.1.block⟩, h.2⟩

set_option maxRecDepth 100000 in
set_option maxHeartbeats 2000000 in
theorem pick_any (w : World) (B rb : Nat) (A : Option Addr) (nb c p : Nat) (h : Rd w B rb A nb c p) (n : Int) (hn : 1 ≤ n) (hn2 : n ≤ 1048576) (hp : p ≤ 1048576) :
    Calls Try.prog 62 #[.pointer (some ⟨rb, 0, none⟩), .int .i64 n] w (Picked w B rb A nb c p n) := by
  obtain ⟨q0, q1, f1⟩ := h.cells
  obtain ⟨hR, hO⟩ := only_set h
  by_cases hz : nb = 0
  · subst hz
    go_enter Try.func62, Try.ntmps62
    go_wp2_with fail
    go_ret
    exact ⟨0, rfl, by omega, hR, hO⟩
  have hB := h.2.1
  have hnb := h.2.2.2
  rcases hB with hB | ⟨b, off, rfl, hbB, hB⟩
  · exact absurd hB hz
  have hne : b ≠ rb := by have := h.2.2.1; omega
  have hnz : ((nb : Int) == 0) = false := by simp; omega
  clear h
  by_cases hlt : p < nb
  · obtain ⟨x, x0, x1, hx⟩ := hB p hlt
    clear hB
    have hm0 : 0 ≤ x % n := Int.emod_nonneg _ (by omega)
    have hm1 : x % n < n := Int.emod_lt_of_pos _ (by omega)
    obtain ⟨k, hk⟩ := Int.eq_ofNat_of_zero_le hm0
    have HK : Hid (x % n = k) := hk
    clear hk
    go_enter Try.func62, Try.ntmps62
    go_wp2_with fail
    go_ret
    exact ⟨k, ret_int HK.out, by rw [← HK.out]; exact hm1, hR, hO⟩
  · go_enter Try.func62, Try.ntmps62
    go_wp2_with fail
    have hB' := hR.2.1
    generalize w.setCell ⟨rb, 1, none⟩ (.int .i64 ((p : Int) + 1)) = W at hR hO hB' ⊢
    clear q0 q1 f1 hB
    obtain ⟨q0, q1, f1⟩ := hR.cells
    have hB2 : ∀ k, k < nb → ∃ x : Int, 0 ≤ x ∧ x ≤ 255 ∧ W.cell? ⟨b, off + k, none⟩ = some (.int .u8 x) := by
      rcases hB' with h | ⟨b', off', e, _, h⟩
      · exact absurd h hz
      · cases e; exact h
    clear hB'
    obtain ⟨i, hi⟩ : ∃ i : Nat, i = p % nb := ⟨_, rfl⟩
    obtain ⟨j, hj⟩ : ∃ j : Nat, j = (p * 7 + 3) % nb := ⟨_, rfl⟩
    obtain ⟨d, hd⟩ : ∃ d : Nat, d = p / nb := ⟨_, rfl⟩
    have hil : i < nb := by rw [hi]; exact Nat.mod_lt _ (by omega)
    have hjl : j < nb := by rw [hj]; exact Nat.mod_lt _ (by omega)
    have hdl : d ≤ 1048576 := by rw [hd]; exact Nat.le_trans (Nat.div_le_self _ _) hp
    obtain ⟨x, x0, x1, hx⟩ := hB2 i hil
    obtain ⟨y, y0, y1, hy⟩ := hB2 j hjl
    have t1 : ((p : Int)).tmod (nb : Int) = (i : Int) := by rw [Int.tmod_eq_emod_of_nonneg (by omega), hi]; rfl
    have t2 : ((p : Int) * 7 + 3).tmod (nb : Int) = (j : Int) := by rw [Int.tmod_eq_emod_of_nonneg (by omega), hj]; rfl
    have t3 : ((p : Int)).tdiv (nb : Int) = (d : Int) := by rw [Int.tdiv_eq_ediv_of_nonneg (by omega), hd]; rfl
    have s1 : IntKind.i64.wrap (x * 131) = x * 131 := IntWalk.i64_in _ (by omega)
    have s2 : IntKind.i64.wrap ((p : Int) * 7) = (p : Int) * 7 := IntWalk.i64_in _ (by omega)
    have s3 : IntKind.i64.wrap ((p : Int) * 7 + 3) = (p : Int) * 7 + 3 := IntWalk.i64_in _ (by omega)
    have s4 : IntKind.i64.wrap (y * 1117) = y * 1117 := IntWalk.i64_in _ (by omega)
    have s5 : IntKind.i64.wrap (x * 131 + y * 1117) = x * 131 + y * 1117 := IntWalk.i64_in _ (by omega)
    have s6 : IntKind.i64.wrap ((p : Int) * 29) = (p : Int) * 29 := IntWalk.i64_in _ (by omega)
    have s7 : IntKind.i64.wrap (x * 131 + y * 1117 + (p : Int) * 29) = x * 131 + y * 1117 + (p : Int) * 29 := IntWalk.i64_in _ (by omega)
    have s8 : IntKind.i64.wrap ((d : Int) * 53) = (d : Int) * 53 := IntWalk.i64_in _ (by omega)
    have s9 : IntKind.i64.wrap (x * 131 + y * 1117 + (p : Int) * 29 + (d : Int) * 53) = x * 131 + y * 1117 + (p : Int) * 29 + (d : Int) * 53 := IntWalk.i64_in _ (by omega)
    have b1 : (i : Int) < (nb : Int) := by omega
    have b2 : (j : Int) < (nb : Int) := by omega
    clear hi hj hd hB2
    go_quiet (fail)
    obtain ⟨E, hE⟩ := Int.eq_ofNat_of_zero_le (by omega : 0 ≤ x * 131 + y * 1117 + (p : Int) * 29 + (d : Int) * 53)
    have hE2 : E ≤ 1073741824 := by omega
    rw [hE]
    clear hE t1 t2 t3 s1 s2 s3 s4 s5 s6 s7 s8 s9 b1 b2 hx hy x0 x1 y0 y1
    obtain ⟨X, hX⟩ : ∃ X : Nat, X = E ^^^ E / 64 := ⟨_, rfl⟩
    have hxor : bits .xor .i64 (E : Int) ((E : Int) / 64) = (X : Int) := by
      rw [hX]; exact i64_xor_nat E (E / 64) (by omega) (by omega)
    have hm0 : 0 ≤ (X : Int) % n := Int.emod_nonneg _ (by omega)
    have hm1 : (X : Int) % n < n := Int.emod_lt_of_pos _ (by omega)
    obtain ⟨k, hk⟩ := Int.eq_ofNat_of_zero_le hm0
    have HK : Hid ((X : Int) % n = k) := hk
    have hX2 : X ≤ 9223372036854775807 := by
      rw [hX]; have : E ^^^ E / 64 < 2 ^ 63 := Nat.xor_lt_two_pow (by omega) (by omega); omega
    clear hk hX
    go_wp2_with fail
    go_ret
    exact ⟨k, ret_int HK.out, by rw [← HK.out]; exact hm1, hR.drewN _, only_drewN hO _⟩

/-- A number of a list comes back. -/
def Numbed (w : World) (B rb : Nat) (A : Option Addr) (nb c p : Nat) (xs : List Int) (e : Ending) (w' : World) : Prop :=
  ∃ x : Int, x ∈ xs ∧ e = .returned (.int .i64 x) ∧ Rd w' B rb A nb c (p + 1) ∧ Only rb w w'

set_option maxHeartbeats 400000 in
theorem num_any (w : World) (B rb : Nat) (A : Option Addr) (nb c p : Nat) (h : Rd w B rb A nb c p) (hp : p ≤ 1048576) (g n cap : Nat) (xs : List Int) (lo : Nat) (hr : Row w lo (.slice (some ⟨g, 0, none⟩) n cap) xs) (hn : xs.length = n) (h1 : 1 ≤ n) (h2 : n ≤ 1048576) (hg : g ≠ rb) :
    Calls Try.prog 63 #[.pointer (some ⟨rb, 0, none⟩), .slice (some ⟨g, 0, none⟩) n cap] w (Numbed w B rb A nb c p xs) := by
  have C := pick_any w B rb A nb c p h n (by omega) (by omega) hp
  go_enter Try.func63, Try.ntmps63
  go_wp2_with fail
  refine C.mono ?_; rintro e w1 ⟨k, rfl, hk, hR, hO⟩
  have hr1 : Row w1 lo (.slice (some ⟨g, 0, none⟩) n cap) xs := hr.kept hO.1 (.inr (by simp [Value.ownBlock]; exact hg))
  obtain ⟨g', x, e, _, _, hx, hcell, _⟩ := hr1.get (k := k) (by omega)
  cases e
  go_wp2_with fail
  go_ret
  exact ⟨x, List.mem_of_getElem? hx.out, rfl, hR, hO⟩
end Go.Proofs.Ytapkhgpifpgleaa

/- l13Open. -/
namespace Go.Proofs.Ytapkhgpifpgleaa
open Go.RowKit

theorem Only.below {rb B : Nat} {w w' : World} (h : Only rb w w') (hB : B ≤ rb) (hs : B ≤ w.heap.size) : Below B w w' :=
  ⟨h.1.os, h.1.tape, h.1.output, h.1.size, fun k hk => h.1.block k (by omega) (fun e => by cases e; omega)⟩

theorem Row.lit (w : World) (lo : Nat) (xs : List Int) (hlo : lo ≤ w.heap.size) (hn : xs.length ≤ 1048576) : Row (w.alloc (.cells (xs.map iv).toArray 3)) lo (.slice (some ⟨w.heap.size, 0, none⟩) xs.length xs.length) xs :=
  Row.of_own (World.ownsRow_lit w (xs.map iv).toArray xs.length hlo (by unfold maxLen; omega) (by simp)) (by simp) rfl

/-- A reader comes back, in a new block, at its beginning. -/
def Opened (w : World) (e : Ending) (w' : World) : Prop :=
  ∃ rb A n c, e = .returned (.pointer (some ⟨rb, 0, none⟩)) ∧ Rd w' w.heap.size rb A n c 0 ∧ Below w.heap.size w w'

/-- What is known of the input: its bytes lie where they lay. -/
def Inp (w : World) (A : Option Addr) (n c : Nat) : Prop := Bytes w w.heap.size A n ∧ n ≤ c ∧ c ≤ 9223372036854775807

set_option maxHeartbeats 400000 in
theorem l13Open_any (w : World) (A : Option Addr) (n c : Nat) (h : Inp w A n c) :
    Calls Try.prog 60 #[.slice A n c] w (Opened w) := by
  obtain ⟨hb, hnc, hc⟩ := h
  by_cases hn : 2000 < n
  · have hb2 : Bytes w w.heap.size A 2000 := by
      rcases hb with h | ⟨b, off, e, h1, h2⟩
      · omega
      · exact .inr ⟨b, off, e, h1, fun k hk => h2 k (by omega)⟩
    have hR : Rd (w.alloc (.cells #[.slice A 2000 c, .int .i64 0] 77)) w.heap.size w.heap.size A 2000 c 0 :=
      ⟨heap_alloc_new w _, hb2.below ((Below.refl _ _).alloc (Nat.le_refl _) _), Nat.le_refl _, by omega⟩
    rcases hb with h | ⟨b, off, rfl, _, _⟩
    · omega
    go_enter Try.func60, Try.ntmps60
    go_wp2_with fail
    go_ret
    exact ⟨_, _, _, _, rfl, hR, (Below.refl _ _).alloc (Nat.le_refl _) _⟩
  · have hR : Rd (w.alloc (.cells #[.slice A n c, .int .i64 0] 77)) w.heap.size w.heap.size A n c 0 :=
      ⟨heap_alloc_new w _, hb.below ((Below.refl _ _).alloc (Nat.le_refl _) _), Nat.le_refl _, by omega⟩
    go_enter Try.func60, Try.ntmps60
    go_wp2_with fail
    go_ret
    exact ⟨_, _, _, _, rfl, hR, (Below.refl _ _).alloc (Nat.le_refl _) _⟩

end Go.Proofs.Ytapkhgpifpgleaa

/- Blocks of three cells that are kept and stored into; worlds that have grown. -/
namespace Go.Proofs.Ytapkhgpifpgleaa
open Go.RowKit

theorem grown_trans {row : Option Nat} {a b c : World} (h : a.grownBy b row) (k : b.grownBy c row) : a.grownBy c row :=
  ⟨k.os.trans h.os, k.tape.trans h.tape, k.output.trans h.output, Nat.le_trans h.size k.size, fun i hi hne => (k.block i (Nat.lt_of_lt_of_le hi h.size) hne).trans (h.block i hi hne)⟩
theorem grown_of {row : Option Nat} {a b c : World} (h : a.grownBy b row) (k : Below b.heap.size b c) : a.grownBy c row :=
  grown_trans h ⟨k.os, k.tape, k.output, k.size, fun i hi _ => k.block i hi⟩
theorem grown_alloc {row : Option Nat} {a b : World} (h : a.grownBy b row) (o : Obj) : a.grownBy (b.alloc o) row := grown_of h ((Below.refl _ _).alloc (Nat.le_refl _) o)
theorem grown_set {row : Option Nat} {a b : World} (h : a.grownBy b row) {p : Addr} (hp : some p.block = row ∨ a.heap.size ≤ p.block) (u : Value) : a.grownBy (b.setCell p u) row :=
  ⟨h.os, h.tape, h.output, by simpa [World.setCell] using h.size, fun i hi hne => (Below.heap_setCell b p u i (by
    rintro rfl
    rcases hp with hp | hp
    · exact hne hp
    · omega)).trans (h.block i hi hne)⟩
theorem grown_drewN {row : Option Nat} {a b : World} (h : a.grownBy b row) (n : Nat) : a.grownBy (b.drewN n) row := ⟨h.os, h.tape, h.output, h.size, h.block⟩
theorem grown_drew {row : Option Nat} {a b : World} (h : a.grownBy b row) : a.grownBy b.drew row := ⟨h.os, h.tape, h.output, h.size, h.block⟩
theorem Blk3.kept {w w' : World} {rb b : Nat} {x y z : Value} {t : TypeId} (h : Blk3 w b x y z t) (hg : w.grownBy w' (some rb)) (hb : b ≠ rb) : Blk3 w' b x y z t :=
  (hg.block b h.lt (by simp; exact hb)).trans h
theorem Blk3.set0 {w : World} {b : Nat} {x y z : Value} {t : TypeId} (h : Blk3 w b x y z t) (u : Value) : Blk3 (w.setCell ⟨b, 0, none⟩ u) b u y z t := by
  unfold Blk3 at h ⊢; simp [World.setCell, Array.getElem?_modify, h]
theorem Blk3.set1 {w : World} {b : Nat} {x y z : Value} {t : TypeId} (h : Blk3 w b x y z t) (u : Value) : Blk3 (w.setCell ⟨b, 1, none⟩ u) b x u z t := by
  unfold Blk3 at h ⊢; simp [World.setCell, Array.getElem?_modify, h]
theorem Blk3.set2 {w : World} {b : Nat} {x y z : Value} {t : TypeId} (h : Blk3 w b x y z t) (u : Value) : Blk3 (w.setCell ⟨b, 2, none⟩ u) b x y u t := by
  unfold Blk3 at h ⊢; simp [World.setCell, Array.getElem?_modify, h]
end Go.Proofs.Ytapkhgpifpgleaa

