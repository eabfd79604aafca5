/- ParseHeap of spec. -/
import Derived.Test.YtpimndfafibgeaaCut
import Derived.Test.YtpimndfafibgeaaPhI
import Derived.Test.YtpimndfafibgeaaSFmt
import Derived.Test.YtpimndfafibgeaaCopy2
import Derived.Test.YtpimndfafibgeaaExactH
import Derived.Maps.AppendAt
namespace Go.Proofs.Ytpimndfafibgeaa
open Go.RowKit Go.Maps

def rdB (c : UInt8) : Int × Bool := if c = 45 then (-1, true) else ((c.toNat : Int) - 48, decide (48 ≤ c.toNat ∧ c.toNat ≤ 55))
theorem rdB_ltr {x : Int} (h1 : -1 ≤ x) (h2 : x ≤ 7) : rdB (ltr x) = (x, true) := by
  unfold rdB
  by_cases hx : x = -1
  · subst hx; rfl
  · have h9 := ltr_num (x := x) (by omega) (by omega)
    have hne : ltr x ≠ 45 := fun e => hx (ltr_inj h1 (by omega) (by omega) (by omega) (e.trans ltr_none.symm))
    rw [if_neg hne]
    refine Prod.ext (by simp only; omega) (by simp only [decide_eq_true_eq]; omega)
theorem rdB_bd (c : UInt8) : -48 ≤ (rdB c).1 ∧ (rdB c).1 ≤ 255 := by
  unfold rdB
  have := c.toNat_lt
  split <;> simp only <;> omega
theorem read_any (w : World) (c : UInt8) :
    Calls Try.prog 44 #[.int .u8 c.toNat] w fun e w' => e = .returned (.tuple #[.int .i64 (rdB c).1, .bool (rdB c).2]) ∧ w' = w := by
  have hc := c.toNat_lt
  by_cases h : c = 45
  · subst h
    go_enter Try.func44, Try.ntmps44
    go_wp2_with fail
    go_ret2
    exact ⟨rfl, rfl⟩
  · have e : rdB c = ((c.toNat : Int) - 48, decide (48 ≤ c.toNat ∧ c.toNat ≤ 55)) := by unfold rdB; rw [if_neg h]
    rw [e]
    have hn : ((c.toNat : Int) == 45) = false := by
      simp only [beq_eq_false_iff_ne, ne_eq]
      intro e2
      exact h (UInt8.toNat_inj.1 (by have h9 : (45 : UInt8).toNat = 45 := rfl; omega))
    generalize c.toNat = n at hc hn
    clear h e
    by_cases h48 : 48 ≤ n
    · have e2 : decide (48 ≤ n ∧ n ≤ 55) = decide ((n : Int) ≤ 55) := by
        rw [decide_eq_decide]; omega
      rw [e2]
      have h48' : (48 : Int) ≤ (n : Int) := by omega
      generalize hb : decide ((n : Int) ≤ 55) = bb
      have HB := Lib.hid hb
      clear hb e2
      go_enter Try.func44, Try.ntmps44
      go_wp2_with fail
      all_goals go_ret2
      all_goals exact ⟨by rw [← HB.out]; rfl, rfl⟩
    · have e2 : decide (48 ≤ n ∧ n ≤ 55) = false := by
        rw [decide_eq_false_iff_not]; omega
      rw [e2]
      have h48' : (n : Int) < 48 := by omega
      clear e2
      go_enter Try.func44, Try.ntmps44
      go_wp2_with fail
      go_ret2
      exact ⟨rfl, rfl⟩
theorem ext_get {s : ByteArray} {a b k : Nat} (hk : a + k < b) (hb : b ≤ s.size) : (s.extract a b).data[k]? = s.data[a + k]? := by
  have h9 : s.data.size = s.size := rfl
  simp only [ByteArray.data_extract]
  rw [Array.getElem?_extract_of_lt (by omega), Array.getElem?_eq_getElem (by omega)]
/-- The pieces of a heap's text. -/
theorem piece_cell {s : ByteArray} {h : Hp} (hi : IsText s h) {j : Nat} (hj : j < h.l.length) {p : ByteArray} (hp : p = s.extract (pStart h.l.length j) (pStop h.l.length j)) : p.size = 2 ∧ p.data[0]? = some (ltr (h.l.getD j 0)) ∧ p.data[1]? = some (ltr (h.r.getD j 0)) := by
  have t := istext_text hi
  have hsz := t.size
  obtain ⟨a, b, _⟩ := t.cell j hj
  subst hp
  unfold pStart pStop
  rw [if_pos (by omega), if_pos hj]
  refine ⟨by rw [ByteArray.size_extract]; omega, ?_, ?_⟩
  · rw [ext_get (by omega) (by omega)]; exact a
  · rw [ext_get (by omega) (by omega)]; exact b
theorem piece_slash {s : ByteArray} {h : Hp} (hi : IsText s h) {p : ByteArray} (hp : p = s.extract (pStart h.l.length h.l.length) (pStop h.l.length h.l.length)) : p.size = 1 ∧ p.data[0]? = some 47 := by
  have t := istext_text hi
  have hsz := t.size
  subst hp
  unfold pStart pStop
  rw [if_pos (Nat.le_refl _), if_neg (by omega)]
  refine ⟨by rw [ByteArray.size_extract]; omega, ?_⟩
  rw [ext_get (by omega) (by omega)]; exact t.slash
theorem piece_root {s : ByteArray} {h : Hp} (hi : IsText s h) {i : Nat} (h1 : h.l.length < i) (h2 : i < h.l.length + h.t.length + 1) {p : ByteArray} (hp : p = s.extract (pStart h.l.length i) (pStop h.l.length i)) : p.size = 1 ∧ p.data[0]? = some (ltr (h.t.getD (i - (h.l.length + 1)) 0)) := by
  have t := istext_text hi
  have hsz := t.size
  obtain ⟨_, b⟩ := t.root (i - (h.l.length + 1)) (by omega)
  subst hp
  unfold pStart pStop
  rw [if_neg (by omega), if_neg (by omega)]
  refine ⟨by rw [ByteArray.size_extract]; omega, ?_⟩
  rw [ext_get (by omega) (by omega), ← b]
  congr 1
  omega
theorem slash_iff (p : ByteArray) : p.toList = [47] ↔ p.size = 1 ∧ p.data[0]? = some 47 := by
  rw [ByteArray.toList_eq]
  constructor
  · intro e
    have h1 : p.data.toList.length = 1 := by rw [e]; rfl
    refine ⟨by simpa using h1, ?_⟩
    rw [← Array.getElem?_toList, e]; rfl
  · rintro ⟨h1, h2⟩
    have h3 : p.data.toList.length = 1 := by simpa using h1
    rw [← Array.getElem?_toList] at h2
    match hl : p.data.toList, h3, h2 with
    | [a], _, h2 => simpa using h2
/-- What is read of a heap's text when i parts are behind. -/
def Sync (g : Hp) (i : Nat) (l r t : List Int) (rt : Bool) : Prop :=
  (rt = false ∧ i ≤ g.l.length ∧ l = g.l.take i ∧ r = g.r.take i ∧ t = []) ∨ (rt = true ∧ g.l.length + 1 ≤ i ∧ l = g.l ∧ r = g.r ∧ t = g.t.take (i - (g.l.length + 1)))
theorem apart_comm {u v : Value} (h : Apart u v) : Apart v u := fun b e e2 => h b e2 e
theorem app_one {w w2 : World} {lo : Nat} {u v v' : Value} {xs : List Int} {o : Obj} (hu : Row w lo u xs) (ha : Apart u v) (hg : (w.alloc o).grownBy w2 v.ownBlock) (hat : v'.ownBlock = v.ownBlock ∨ v'.ownBlock = some (w.alloc o).heap.size) : Row w2 lo u xs ∧ Apart u v' := by
  refine ⟨(hu.alloc o).kept hg ?_, fun b e e2 => ?_⟩
  · rcases h9 : u.ownBlock with _ | b
    · exact .inl rfl
    · refine .inr fun e => ?_
      exact ha b h9 (e ▸ rfl)
  · rcases hat with h9 | h9
    · exact ha b e (h9 ▸ e2)
    · rw [h9] at e2
      have := (hu.lt b e).2
      simp at e2
      omega
/-- The heap that is being read, in block H, its rows above the parts. -/
structure PSt (w w1 : World) (H : Nat) (wr : World) (k : Nat) (v0 v1 v2 : Value) (l r t : List Int) : Prop where
  blk : Blk3 wr H v0 v1 v2 25
  r0 : Row wr w1.heap.size v0 l
  r1 : Row wr w1.heap.size v1 r
  r2 : Row wr w1.heap.size v2 t
  a01 : Apart v0 v1
  a02 : Apart v0 v2
  a12 : Apart v1 v2
  ll : l.length ≤ k
  rl : r.length ≤ k
  tl : t.length ≤ k
  kp : ∀ b, b < w1.heap.size → b ≠ H → wr.heap[b]? = w1.heap[b]?
  bel : Below w.heap.size w wr
  sz : w1.heap.size ≤ wr.heap.size
theorem PSt.grow {w w1 : World} {H : Nat} {wr w2 : World} {k : Nat} {v0 v1 v2 : Value} {l r t : List Int} (h : PSt w w1 H wr k v0 v1 v2 l r t) (hH : w.heap.size ≤ H) (hH1 : H < w1.heap.size) {v : Value} {lo : Nat} {xs : List Int} (hv : Row wr lo v xs) (hlo : lo = w1.heap.size) {o : Obj}
    (hg : (wr.alloc o).grownBy w2 v.ownBlock) : Blk3 w2 H v0 v1 v2 25 ∧ (∀ b, b < w1.heap.size → b ≠ H → w2.heap[b]? = w1.heap[b]?) ∧ Below w.heap.size w w2 ∧ w1.heap.size ≤ w2.heap.size := by
  subst hlo
  have hs := h.sz
  have hb := h.bel.size
  refine ⟨Blk3.keptR (h.blk.alloc o) hg (fun e => by have := (hv.lt _ e.symm).1; omega), fun b hb1 hb2 => ?_, (h.bel.alloc h.bel.size o).grown hg (by simp; omega) (fun j hj => by have := (hv.lt j hj).1; omega), by have := hg.size; simp at this; omega⟩
  rw [hg.block b (by simp; omega) (fun e => by have := (hv.lt b e.symm).1; omega), Below.heap_alloc wr o b (by omega)]
  exact h.kp b hb1 hb2
theorem PSt.fin {w w1 : World} {H : Nat} {w2 : World} {k : Nat} {u0 u1 u2 u : Value} {f : Nat} {l r t : List Int} (hH : w.heap.size ≤ H) (hH1 : H < w1.heap.size) (hblk : Blk3 (w2.setCell ⟨H, f, none⟩ u) H u0 u1 u2 25)
    (q0 : Row w2 w1.heap.size u0 l) (q1 : Row w2 w1.heap.size u1 r) (q2 : Row w2 w1.heap.size u2 t) (a01 : Apart u0 u1) (a02 : Apart u0 u2) (a12 : Apart u1 u2) (b0 : l.length ≤ k) (b1 : r.length ≤ k) (b2 : t.length ≤ k)
    (hk : (∀ b, b < w1.heap.size → b ≠ H → w2.heap[b]? = w1.heap[b]?)) (hb : Below w.heap.size w w2) (hs : w1.heap.size ≤ w2.heap.size) : PSt w w1 H (w2.setCell ⟨H, f, none⟩ u) k u0 u1 u2 l r t :=
  ⟨hblk, q0.other (fun e => by have := (q0.lt _ e).1; simp at this; omega) u, q1.other (fun e => by have := (q1.lt _ e).1; simp at this; omega) u, q2.other (fun e => by have := (q2.lt _ e).1; simp at this; omega) u, a01, a02, a12, b0, b1, b2,
    fun b hb1 hb2 => (Below.heap_setCell w2 ⟨H, f, none⟩ u b hb2).trans (hk b hb1 hb2), hb.setCell hH u, by simpa [World.setCell] using hs⟩
theorem PSt.app2 {w w1 : World} {H : Nat} {wr w2 : World} {k : Nat} {v0 v1 v2 v' : Value} {l r t : List Int} (h : PSt w w1 H wr k v0 v1 v2 l r t) (hH : w.heap.size ≤ H) (hH1 : H < w1.heap.size) {x : Int} {o : Obj}
    (hown : Row w2 w1.heap.size v' (t ++ [x])) (hg : (wr.alloc o).grownBy w2 v2.ownBlock) (hat : v'.ownBlock = v2.ownBlock ∨ v'.ownBlock = some (wr.alloc o).heap.size) : PSt w w1 H (w2.setCell ⟨H, 2, none⟩ v') (k + 1) v0 v1 v' l r (t ++ [x]) := by
  obtain ⟨g1, g2, g3, g4⟩ := h.grow hH hH1 h.r2 rfl hg
  obtain ⟨p0, p1⟩ := app_one h.r0 h.a02 hg hat
  obtain ⟨p2, p3⟩ := app_one h.r1 h.a12 hg hat
  exact PSt.fin hH hH1 (g1.set2 v') p0 p2 hown h.a01 p1 p3 (by have := h.ll; omega) (by have := h.rl; omega) (by have := h.tl; simp; omega) g2 g3 g4
theorem PSt.app0 {w w1 : World} {H : Nat} {wr w2 : World} {k : Nat} {v0 v1 v2 v' : Value} {l r t : List Int} (h : PSt w w1 H wr k v0 v1 v2 l r t) (hH : w.heap.size ≤ H) (hH1 : H < w1.heap.size) {x : Int} {o : Obj}
    (hown : Row w2 w1.heap.size v' (l ++ [x])) (hg : (wr.alloc o).grownBy w2 v0.ownBlock) (hat : v'.ownBlock = v0.ownBlock ∨ v'.ownBlock = some (wr.alloc o).heap.size) : PSt w w1 H (w2.setCell ⟨H, 0, none⟩ v') (k + 1) v' v1 v2 (l ++ [x]) r t := by
  obtain ⟨g1, g2, g3, g4⟩ := h.grow hH hH1 h.r0 rfl hg
  obtain ⟨p0, p1⟩ := app_one h.r1 (apart_comm h.a01) hg hat
  obtain ⟨p2, p3⟩ := app_one h.r2 (apart_comm h.a02) hg hat
  exact PSt.fin hH hH1 (g1.set0 v') hown p0 p2 (apart_comm p1) (apart_comm p3) h.a12 (by have := h.ll; simp; omega) (by have := h.rl; omega) (by have := h.tl; omega) g2 g3 g4
theorem PSt.app1 {w w1 : World} {H : Nat} {wr w2 : World} {k : Nat} {v0 v1 v2 v' : Value} {l r t : List Int} (h : PSt w w1 H wr (k + 1) v0 v1 v2 l r t) (hrk : r.length ≤ k) (hH : w.heap.size ≤ H) (hH1 : H < w1.heap.size) {x : Int} {o : Obj}
    (hown : Row w2 w1.heap.size v' (r ++ [x])) (hg : (wr.alloc o).grownBy w2 v1.ownBlock) (hat : v'.ownBlock = v1.ownBlock ∨ v'.ownBlock = some (wr.alloc o).heap.size) : PSt w w1 H (w2.setCell ⟨H, 1, none⟩ v') (k + 1) v0 v' v2 l (r ++ [x]) t := by
  obtain ⟨g1, g2, g3, g4⟩ := h.grow hH hH1 h.r1 rfl hg
  obtain ⟨p0, p1⟩ := app_one h.r0 h.a01 hg hat
  obtain ⟨p2, p3⟩ := app_one h.r2 (apart_comm h.a12) hg hat
  exact PSt.fin hH hH1 (g1.set1 v') p0 hown p2 p1 h.a02 (apart_comm p3) (by have := h.ll; omega) (by simp; omega) (by have := h.tl; omega) g2 g3 g4
theorem PSt.up {w w1 : World} {H : Nat} {wr : World} {k : Nat} {v0 v1 v2 : Value} {l r t : List Int} (h : PSt w w1 H wr k v0 v1 v2 l r t) : PSt w w1 H wr (k + 1) v0 v1 v2 l r t :=
  { h with ll := Nat.le_succ_of_le h.ll, rl := Nat.le_succ_of_le h.rl, tl := Nat.le_succ_of_le h.tl }
/-- The steps of the reading, told of a heap whose text it is. -/
theorem sync_slash {s : ByteArray} {g : Hp} (hi : IsText s g) {k : Nat} {l r t : List Int} (h : Sync g k l r t false) {p : ByteArray} (hp : p = s.extract (pStart g.l.length k) (pStop g.l.length k)) (hs : p.size = 1) : Sync g (k + 1) l r t true := by
  rcases h with ⟨_, h1, h2, h3, h4⟩ | ⟨h1, _⟩
  · have hr := (hv_bounds hi.1).1
    by_cases e : k < g.l.length
    · have := (piece_cell hi e hp).1; omega
    · have e2 : k = g.l.length := by omega
      refine .inr ⟨rfl, by omega, by rw [h2, List.take_of_length_le (by omega)], by rw [h3, List.take_of_length_le (by omega)], by rw [h4]; simp [e2]⟩
  · cases h1
theorem sync_cell {s : ByteArray} {g : Hp} (hi : IsText s g) {k : Nat} {l r t : List Int} (h : Sync g k l r t false) {p : ByteArray} (hp : p = s.extract (pStart g.l.length k) (pStop g.l.length k)) (hs : p.size = 2) {c d : UInt8} (hc : p.data[0]? = some c) (hd : p.data[1]? = some d) :
    ((rdB c).2 = true ∧ (rdB d).2 = true) ∧ Sync g (k + 1) (l ++ [(rdB c).1]) (r ++ [(rdB d).1]) t false := by
  rcases h with ⟨_, h1, h2, h3, h4⟩ | ⟨h1, _⟩
  · obtain ⟨hr, b0, b1, _⟩ := hv_bounds hi.1
    have h8 := hvB_len hi.1
    by_cases e : k < g.l.length
    · obtain ⟨_, p0, p1⟩ := piece_cell hi e hp
      have c0 : c = ltr (g.l.getD k 0) := by rw [p0] at hc; simpa using hc.symm
      have c1 : d = ltr (g.r.getD k 0) := by rw [p1] at hd; simpa using hd.symm
      have q0 := getD_get e
      have q1 := getD_get (l := g.r) (j := k) (by omega)
      have m0 := b0 _ (List.mem_of_getElem? q0)
      have m1 := b1 _ (List.mem_of_getElem? q1)
      have z0 := rdB_ltr (x := g.l.getD k 0) m0.1 (by omega)
      have z1 := rdB_ltr (x := g.r.getD k 0) m1.1 (by omega)
      rw [c0, c1, z0, z1]
      refine ⟨⟨rfl, rfl⟩, .inl ⟨rfl, by omega, ?_, ?_, h4⟩⟩
      · rw [h2, take_snoc q0]
      · rw [h3, take_snoc q1]
    · have e2 : k = g.l.length := by omega
      rw [e2] at hp
      have := (piece_slash hi hp).1; omega
  · cases h1
theorem sync_root {s : ByteArray} {g : Hp} (hi : IsText s g) {k : Nat} {l r t : List Int} (h : Sync g k l r t true) (hk : k < g.l.length + g.t.length + 1) {p : ByteArray} (hp : p = s.extract (pStart g.l.length k) (pStop g.l.length k)) {c : UInt8} (hc : p.data[0]? = some c) :
    (rdB c).2 = true ∧ Sync g (k + 1) l r (t ++ [(rdB c).1]) true := by
  rcases h with ⟨h1, _⟩ | ⟨_, h1, h2, h3, h4⟩
  · cases h1
  · obtain ⟨_, _, _, b2⟩ := hv_bounds hi.1
    have h8 := hvB_len hi.1
    obtain ⟨_, p0⟩ := piece_root hi (by omega) hk hp
    have c0 : c = ltr (g.t.getD (k - (g.l.length + 1)) 0) := by rw [p0] at hc; simpa using hc.symm
    have q0 := getD_get (l := g.t) (j := k - (g.l.length + 1)) (by omega)
    have m0 := b2 _ (List.mem_of_getElem? q0)
    have z0 := rdB_ltr (x := g.t.getD (k - (g.l.length + 1)) 0) m0.1 (by omega)
    rw [c0, z0]
    refine ⟨rfl, .inr ⟨rfl, by omega, h2, h3, ?_⟩⟩
    rw [h4, show k + 1 - (g.l.length + 1) = k - (g.l.length + 1) + 1 by omega, take_snoc q0]
theorem sync_bad {s : ByteArray} {g : Hp} (hi : IsText s g) {k : Nat} {l r t : List Int} {b : Bool} (h : Sync g k l r t b) (hk : k < g.l.length + g.t.length + 1) {p : ByteArray} (hp : p = s.extract (pStart g.l.length k) (pStop g.l.length k)) (h1 : b = true → p.size ≠ 1) (h2 : b = false → p.size ≠ 2 ∧ ¬ (p.size = 1 ∧ p.data[0]? = some 47)) : False := by
  rcases h with ⟨e, e1, _⟩ | ⟨e, e1, _⟩
  · obtain ⟨n2, ns⟩ := h2 e
    by_cases e3 : k < g.l.length
    · exact n2 (piece_cell hi e3 hp).1
    · have e4 : k = g.l.length := by omega
      rw [e4] at hp
      exact ns (piece_slash hi hp)
  · exact h1 e (piece_root hi (by omega) hk hp).1
theorem sync_end {s : ByteArray} {g : Hp} (hi : IsText s g) {l r t : List Int} {b : Bool} (h : Sync g (g.l.length + g.t.length + 1) l r t b) : (⟨l, r, t⟩ : Hp) = g := by
  have hz := (hvB_parts hi.1).1.2
  rcases h with ⟨_, e1, _⟩ | ⟨_, _, e2, e3, e4⟩
  · exfalso
    have : 1 ≤ g.t.length := by unfold szB at hz; simp only [decide_eq_true_eq] at hz; omega
    omega
  · rw [show g.l.length + g.t.length + 1 - (g.l.length + 1) = g.t.length by omega, List.take_of_length_le (Nat.le_refl _)] at e4
    rw [e2, e3, e4]

set_option maxRecDepth 100000 in
set_option maxHeartbeats 3000000 in
theorem specParse_any (w : World) (s : ByteArray) (hs : s.size ≤ 1048576) :
    Calls Try.prog 17 #[.string s] w (Parsed w s) := by
  obtain ⟨i0, hi, hz0, hz1, hz2⟩ := info_parts Try.infoInt
  have Y0 := (Blk3.new w (.slice none 0 0) (.slice none 0 0) (.slice none 0 0) 25).alloc (.cells #[.slice none 0 0, .slice none 0 0, .slice none 0 0] 25)
  have H0 : Blk3 ((w.alloc (.cells #[.slice none 0 0, .slice none 0 0, .slice none 0 0] 25)).alloc (.cells #[.slice none 0 0, .slice none 0 0, .slice none 0 0] 25)) (w.heap.size + 1) (.slice none 0 0) (.slice none 0 0) (.slice none 0 0) 25 := Blk3.new_at (by simp) _ _ _ _
  have C := cut_any ((w.alloc (.cells #[.slice none 0 0, .slice none 0 0, .slice none 0 0] 25)).alloc (.cells #[.slice none 0 0, .slice none 0 0, .slice none 0 0] 25)) s hs
  go_enter Try.func17, Try.ntmps17
  go_wp2_with fail
  refine C.mono ?_; rintro e w1 ⟨A, cc, ps, rfl, hP, hb1, hps⟩
  have hz1' := hb1.size
  simp at hz1'
  have hlow : w.heap.size + 1 < w1.heap.size := by omega
  have St0 : PSt w w1 (w.heap.size + 1) w1 0 (.slice none 0 0) (.slice none 0 0) (.slice none 0 0) [] [] [] :=
    ⟨H0.below hb1, Row.nil _ _, Row.nil _ _, Row.nil _ _, (fun _ e => by cases e), (fun _ e => by cases e), (fun _ e => by cases e), by simp, by simp, by simp, fun _ _ _ => rfl, (((Below.refl _ _).alloc (Nat.le_refl _) _).alloc (by simp) _).trans (hb1.mono (by simp; omega)), Nat.le_refl _⟩
  have Y1 := Y0.below hb1
  have fail_ : ∀ W, Below w.heap.size w W → (∀ g, ¬ IsText s g) →
      Parsed w s (.returned (.tuple #[.agg #[.slice none 0 0, .slice none 0 0, .slice none 0 0], .bool false])) (((W.setCell ⟨w.heap.size, 0, none⟩ (.slice none 0 0)).setCell ⟨w.heap.size, 1, none⟩ (.slice none 0 0)).setCell ⟨w.heap.size, 2, none⟩ (.slice none 0 0)) := fun W hB hno => by
    obtain ⟨hH, hBf⟩ := made_done (w3 := W) (b := w.heap.size) (h := Hp.zero) (Nat.le_refl _) (Row.nil _ _) (Row.nil _ _) (Row.nil _ _) (v0 := .slice none 0 0) (v1 := .slice none 0 0) (v2 := .slice none 0 0) (fun _ e => by cases e) (fun _ e => by cases e) (fun _ e => by cases e) hB
    exact ⟨_, _, false, rfl, hH, hBf, (fun e => by cases e), fun _ => ⟨hno, rfl⟩⟩
  have FAIL := Lib.hid fail_
  clear fail_
  have hpart : Hid (∀ W : World, (∀ b : Nat, b < w1.heap.size → b ≠ w.heap.size + 1 → W.heap[b]? = w1.heap[b]?) → ∀ (k : Nat) (p : ByteArray), ps[k]? = some p → ∃ g : Nat, A = some ⟨g, 0, none⟩ ∧ W.cell? ⟨g, k, none⟩ = some (.string p)) := by
    intro W hW k p hkp
    have hkl := (List.getElem?_eq_some_iff.1 hkp).1
    rcases hP.2 with ⟨_, e0⟩ | ⟨g, cap, cur, ev, hg1, hg2, _, _, _, htk⟩
    · omega
    · have hgl : g < w1.heap.size := (Array.getElem?_eq_some_iff.1 hg2).1
      simp at hg1
      have hWg := (hW g hgl (by omega)).trans hg2
      refine ⟨g, by injection ev, ?_⟩
      rw [Lib.cell_of_heap hWg]
      have h1 : (cur.toList.take (ps.length * 1))[k]? = some (.string p) := by rw [htk, List.getElem?_map, hkp]; rfl
      rw [List.getElem?_take_of_lt (by omega)] at h1
      simpa using h1
  have HPS := Lib.hid hps
  obtain ⟨np, hnp⟩ : ∃ np, Hid (ps.length = np) := ⟨_, rfl⟩
  rw [hnp.out]
  clear hps hP C H0 Y0
  go_wp2_with fail
  go_loopw [6, 7] (fun rt i wr => ∃ (k : Nat) (b : Bool) (v0 v1 v2 : Value) (l r t : List Int), k ≤ np ∧ k ≤ 16 ∧ i = .int .i64 k ∧ rt = .bool b ∧ PSt w w1 (w.heap.size + 1) wr k v0 v1 v2 l r t ∧ Hid (∀ g, IsText s g → Sync g k l r t b)) (fun _ i _ => 16 - (intOf i).toNat)
  case atStart => exact ⟨0, false, _, _, _, [], [], [], by omega, by omega, rfl, rfl, St0, fun g _ => .inl ⟨rfl, by omega, by simp, by simp, rfl⟩⟩
  case round =>
    clear St0
    obtain ⟨k, b, v0, v1, v2, l, r, t, hk, hk16, rfl, rfl, St, hS⟩ := hrel
    by_cases hlt : k < np ∧ k < 16
    · obtain ⟨hl1, hl2⟩ := hlt
      obtain ⟨p, hp⟩ : ∃ p, ps[k]? = some p := ⟨_, List.getElem?_eq_getElem (by rw [hnp.out]; exact hl1)⟩
      obtain ⟨g, rfl, hcell⟩ := hpart.out wr St.kp k p hp
      have hpe : Hid (∀ h, IsText s h → k < h.l.length + h.t.length + 1 ∧ p = s.extract (pStart h.l.length k) (pStop h.l.length k)) := fun h hi => by
        obtain ⟨e1, e2⟩ := HPS.out h hi
        have e3 := e2 k (by rw [hnp.out]; exact hl1)
        rw [hp] at e3
        exact ⟨by have := hnp.out; omega, by simpa using e3⟩
      clear hp
      have hl16 : (k : Int) < 16 := by omega
      obtain ⟨c0, c1, c2, f0, f1, f2⟩ := St.blk.cells
      have YW : Blk3 wr w.heap.size (.slice none 0 0) (.slice none 0 0) (.slice none 0 0) 25 := (St.kp _ (by omega) (by omega)).trans Y1
      obtain ⟨y0, y1, y2, z0, z1, z2⟩ := YW.cells
      rcases b
      · rcases hsl : (p.toList == [47])
        · by_cases hsz : p.size = 2
          · have hp0 : 0 < p.size := by omega
            have hp1 : 1 < p.size := by omega
            have RA := read_any wr p[0]
            have RB_ := read_any wr p[1]
            have hsy : Hid (∀ h, IsText s h → ((rdB p[0]).2 = true ∧ (rdB p[1]).2 = true) ∧ Sync h (k + 1) (l ++ [(rdB p[0]).1]) (r ++ [(rdB p[1]).1]) t false) := fun h hi =>
              sync_cell hi (hS.out h hi) (hpe.out h hi).2 hsz (Array.getElem?_eq_getElem hp0) (Array.getElem?_eq_getElem hp1)
            have hsz2 : ((p.size : Int) == 2) = true := by simp; omega
            generalize rdB p[0] = d0 at RA hsy
            generalize rdB p[1] = d1 at RB_ hsy
            obtain ⟨x0, ok0⟩ := d0
            obtain ⟨x1, ok1⟩ := d1
            simp only at RA RB_ hsy
            clear hS hpe
            by_cases hok : ok0 = true ∧ ok1 = true
            · obtain ⟨rfl, rfl⟩ := hok
              have hsy' : Hid (∀ h, IsText s h → Sync h (k + 1) (l ++ [x0]) (r ++ [x1]) t false) := fun h hi => (hsy.out h hi).2
              have hlH : w.heap.size ≤ w.heap.size + 1 := by omega
              have hrk : r.length ≤ k := St.rl
              clear hsy
              obtain ⟨A0, k0, hv0, _⟩ := St.r0.form
              subst hv0
              have own0 : ((wr).alloc (.cells #[.int .i64 x0] 3)).ownsRow w1.heap.size 3 1 (.slice A0 l.length k0) l.length (l.map iv) := St.r0.alloc _
              have len0 : l.length ≤ 17 := by have := St.ll; omega
              have szw0 := St.sz
              go_wp2_with fail
              refine RA.mono ?_; rintro e w2 ⟨rfl, rfl⟩
              go_wp2_with fail
              refine RB_.mono ?_; rintro e w3 ⟨rfl, rfl⟩
              go_wp2_with (at_builtin; refine wpList_append_own_at _ rfl _ _ 23 rfl w1.heap.size 3 i0 (.int .i64 0) 1 8 Try.underlying23 hi hz0 hz1 hz2 rfl (by decide) _ _ _ rfl own0 ⟨(w3).heap.size, 0, none⟩ 1 1 [.int .i64 x0] rfl rfl ?pa1 ?pa2 ?pa3 ?pa4 ?pa5 ?_)
              try case pa1 => exact one_new
              case pa2 => first | rfl | (intro u hu; simp at hu; subst hu; rfl)
              case pa3 => unfold maxLen; omega
              case pa4 => omega
              case pa5 => first | omega | (simp; omega)
              intro v0' w4 hown0 hgrow0 _ hat0
              have nrow0 : Row w4 w1.heap.size v0' (l ++ [x0]) := Row.of_own hown0 (by simp) (by simp)
              obtain ⟨B0, e0_, hw0, _⟩ := nrow0.form
              rw [List.length_append, List.length_singleton] at hw0
              subst hw0
              have sz4 := (St.grow hlH hlow St.r0 rfl hgrow0).2.2.2
              have S1 := St.app0 hlH hlow nrow0 hgrow0 (by simpa using hat0)
              obtain ⟨b0, b1, b2, e0, e1, e2⟩ := (St.grow hlH hlow St.r0 rfl hgrow0).1.cells
              clear own0 hown0 hgrow0 hat0 nrow0 c0 c1 c2 f0 f1 f2 hcell y0 y1 y2 z0 z1 z2 YW RA RB_
              obtain ⟨A1, k1, hv1, _⟩ := S1.r1.form
              subst hv1
              have own1 : ((w4.setCell ⟨w.heap.size + 1, 0, none⟩ (.slice B0 (l.length + 1) e0_)).alloc (.cells #[.int .i64 x1] 3)).ownsRow w1.heap.size 3 1 (.slice A1 r.length k1) r.length (r.map iv) := S1.r1.alloc _
              have len1 : r.length ≤ 17 := by have := S1.rl; omega
              have szw1 := S1.sz
              obtain ⟨m0, m1, m2, o0, o1, o2⟩ := S1.blk.cells
              have n1 : ∀ j u, [Value.int .i64 x1][j]? = some u → ((w4.setCell ⟨w.heap.size + 1, 0, none⟩ (.slice B0 (l.length + 1) e0_)).alloc (.cells #[.int .i64 x1] 3)).cell? ((⟨w4.heap.size, 0, none⟩ : Addr).add j) = some u := by
                have e : w4.heap.size = (w4.setCell ⟨w.heap.size + 1, 0, none⟩ (.slice B0 (l.length + 1) e0_)).heap.size := by simp [World.setCell]
                rw [e]; exact cell_one_new _ _ _
              clear St
              go_wp2_with (at_builtin; refine wpList_append_own_at _ rfl _ _ 23 rfl w1.heap.size 3 i0 (.int .i64 0) 1 8 Try.underlying23 hi hz0 hz1 hz2 rfl (by decide) _ _ _ rfl own1 ⟨w4.heap.size, 0, none⟩ 1 1 [.int .i64 x1] rfl rfl n1 ?pb2 ?pb3 ?pb4 ?pb5 ?_)
              case pb2 => first | rfl | (intro u hu; simp at hu; subst hu; rfl)
              case pb3 => unfold maxLen; omega
              case pb4 => omega
              case pb5 => first | omega | (simp; omega)
              intro v1' w5 hown1 hgrow1 _ hat1
              have nrow1 : Row w5 w1.heap.size v1' (r ++ [x1]) := Row.of_own hown1 (by simp) (by simp)
              obtain ⟨B1, e1_, hw1, _⟩ := nrow1.form
              rw [List.length_append, List.length_singleton] at hw1
              subst hw1
              have S2 := S1.app1 hrk hlH hlow nrow1 hgrow1 (by simpa using hat1)
              obtain ⟨b0, b1, b2, e0, e1, e2⟩ := (S1.grow hlH hlow S1.r1 rfl hgrow1).1.cells
              clear own1 hown1 hgrow1 hat1 nrow1 S1 m0 m1 m2 o0 o1 o2
              go_wp2
              go_roundw
              case rel => exact ⟨k + 1, false, _, _, _, _, _, _, by omega, by omega, by go_num, rfl, S2, hsy'⟩
              case measure => simp [intOf]; omega
            · have F := FAIL.out wr St.bel (fun h hi => hok (hsy.out h hi).1)
              clear hsy
              rcases ok0
              · go_wp2_with fail
                refine RA.mono ?_; rintro e w2 ⟨rfl, rfl⟩
                go_wp2_with fail
                refine RB_.mono ?_; rintro e w3 ⟨rfl, rfl⟩
                go_wp2_with fail
                refine bodyPost_ret (v := .tuple #[.agg #[.slice none 0 0, .slice none 0 0, .slice none 0 0], .bool false]) ?_ rfl F
                simp [results, Try.results17, go_sem, y0, y1, y2]
              · rcases ok1
                · go_wp2_with fail
                  refine RA.mono ?_; rintro e w2 ⟨rfl, rfl⟩
                  go_wp2_with fail
                  refine RB_.mono ?_; rintro e w3 ⟨rfl, rfl⟩
                  go_wp2_with fail
                  refine bodyPost_ret (v := .tuple #[.agg #[.slice none 0 0, .slice none 0 0, .slice none 0 0], .bool false]) ?_ rfl F
                  simp [results, Try.results17, go_sem, y0, y1, y2]
                · exact absurd ⟨rfl, rfl⟩ hok
          · have F := FAIL.out wr St.bel (fun h hi => sync_bad hi (hS.out h hi) (hpe.out h hi).1 (hpe.out h hi).2 (fun e => by cases e) (fun _ => ⟨hsz, fun e => by
              have h9 : p.toList = [47] := (slash_iff p).2 e
              rw [h9] at hsl; simp at hsl⟩))
            have hsz2 : ((p.size : Int) == 2) = false := by simp; omega
            clear hS hpe
            go_wp2_with fail
            refine bodyPost_ret (v := .tuple #[.agg #[.slice none 0 0, .slice none 0 0, .slice none 0 0], .bool false]) ?_ rfl F
            simp [results, Try.results17, go_sem, y0, y1, y2]
        · have hsl1 : p.size = 1 := ((slash_iff p).1 (by simpa using hsl)).1
          have hsy : Hid (∀ h, IsText s h → Sync h (k + 1) l r t true) := fun h hi => sync_slash hi (hS.out h hi) (hpe.out h hi).2 hsl1
          have St' := St.up
          clear hS hpe St
          go_wp2_with fail
          go_roundw
          case rel => exact ⟨k + 1, true, v0, v1, v2, l, r, t, by omega, by omega, by go_num, rfl, St', hsy⟩
          case measure => simp [intOf]; omega
      · by_cases hsz : p.size = 1
        · have hp0 : 0 < p.size := by omega
          have RA := read_any wr p[0]
          have hsy : Hid (∀ h, IsText s h → (rdB p[0]).2 = true ∧ Sync h (k + 1) l r (t ++ [(rdB p[0]).1]) true) := fun h hi =>
            sync_root hi (hS.out h hi) (hpe.out h hi).1 (hpe.out h hi).2 (Array.getElem?_eq_getElem hp0)
          have hsz2 : ((p.size : Int) == 1) = true := by simp; omega
          generalize rdB p[0] = d0 at RA hsy
          obtain ⟨x0, ok0⟩ := d0
          simp only at RA hsy
          clear hS hpe
          rcases hsl : (p.toList == [47])
          · rcases ok0
            · have F := FAIL.out wr St.bel (fun h hi => by have := (hsy.out h hi).1; cases this)
              clear hsy
              go_wp2_with fail
              refine RA.mono ?_; rintro e w2 ⟨rfl, rfl⟩
              go_wp2_with fail
              refine bodyPost_ret (v := .tuple #[.agg #[.slice none 0 0, .slice none 0 0, .slice none 0 0], .bool false]) ?_ rfl F
              simp [results, Try.results17, go_sem, y0, y1, y2]
            · have hsy' : Hid (∀ h, IsText s h → Sync h (k + 1) l r (t ++ [x0]) true) := fun h hi => (hsy.out h hi).2
              have hlH : w.heap.size ≤ w.heap.size + 1 := by omega
              clear hsy
              obtain ⟨A2, k2, hv2, _⟩ := St.r2.form
              subst hv2
              have own2 : (wr.alloc (.cells #[.int .i64 x0] 3)).ownsRow w1.heap.size 3 1 (.slice A2 t.length k2) t.length (t.map iv) := St.r2.alloc _
              have len2 : t.length ≤ 17 := by have := St.tl; omega
              have szw2 := St.sz
              go_wp2_with fail
              refine RA.mono ?_; rintro e w2 ⟨rfl, rfl⟩
              go_wp2_with (at_builtin; refine wpList_append_own_at _ rfl _ _ 23 rfl w1.heap.size 3 i0 (.int .i64 0) 1 8 Try.underlying23 hi hz0 hz1 hz2 rfl (by decide) _ _ _ rfl own2 ⟨w2.heap.size, 0, none⟩ 1 1 [.int .i64 x0] rfl rfl (cell_one_new _ _ _) ?qa2 ?qa3 ?qa4 ?qa5 ?_)
              case qa2 => first | rfl | (intro u hu; simp at hu; subst hu; rfl)
              case qa3 => unfold maxLen; omega
              case qa4 => omega
              case qa5 => first | omega | (simp; omega)
              intro v2' w4 hown2 hgrow2 _ hat2
              have nrow2 : Row w4 w1.heap.size v2' (t ++ [x0]) := Row.of_own hown2 (by simp) (by simp)
              obtain ⟨B2, e2_, hw2, _⟩ := nrow2.form
              rw [List.length_append, List.length_singleton] at hw2
              subst hw2
              have S2 := St.app2 hlH hlow nrow2 hgrow2 (by simpa using hat2)
              obtain ⟨b0, b1, b2, e0, e1, e2⟩ := (St.grow hlH hlow St.r2 rfl hgrow2).1.cells
              clear own2 hown2 hgrow2 hat2 nrow2 c0 c1 c2 f0 f1 f2 hcell y0 y1 y2 z0 z1 z2 YW RA St
              go_wp2
              go_roundw
              case rel => exact ⟨k + 1, true, _, _, _, _, _, _, by omega, by omega, by go_num, rfl, S2, hsy'⟩
              case measure => simp [intOf]; omega
          · rcases ok0
            · have F := FAIL.out wr St.bel (fun h hi => by have := (hsy.out h hi).1; cases this)
              clear hsy
              go_wp2_with fail
              refine RA.mono ?_; rintro e w2 ⟨rfl, rfl⟩
              go_wp2_with fail
              refine bodyPost_ret (v := .tuple #[.agg #[.slice none 0 0, .slice none 0 0, .slice none 0 0], .bool false]) ?_ rfl F
              simp [results, Try.results17, go_sem, y0, y1, y2]
            · have hsy' : Hid (∀ h, IsText s h → Sync h (k + 1) l r (t ++ [x0]) true) := fun h hi => (hsy.out h hi).2
              have hlH : w.heap.size ≤ w.heap.size + 1 := by omega
              clear hsy
              obtain ⟨A2, k2, hv2, _⟩ := St.r2.form
              subst hv2
              have own2 : (wr.alloc (.cells #[.int .i64 x0] 3)).ownsRow w1.heap.size 3 1 (.slice A2 t.length k2) t.length (t.map iv) := St.r2.alloc _
              have len2 : t.length ≤ 17 := by have := St.tl; omega
              have szw2 := St.sz
              go_wp2_with fail
              refine RA.mono ?_; rintro e w2 ⟨rfl, rfl⟩
              go_wp2_with (at_builtin; refine wpList_append_own_at _ rfl _ _ 23 rfl w1.heap.size 3 i0 (.int .i64 0) 1 8 Try.underlying23 hi hz0 hz1 hz2 rfl (by decide) _ _ _ rfl own2 ⟨w2.heap.size, 0, none⟩ 1 1 [.int .i64 x0] rfl rfl (cell_one_new _ _ _) ?qb2 ?qb3 ?qb4 ?qb5 ?_)
              case qb2 => first | rfl | (intro u hu; simp at hu; subst hu; rfl)
              case qb3 => unfold maxLen; omega
              case qb4 => omega
              case qb5 => first | omega | (simp; omega)
              intro v2' w4 hown2 hgrow2 _ hat2
              have nrow2 : Row w4 w1.heap.size v2' (t ++ [x0]) := Row.of_own hown2 (by simp) (by simp)
              obtain ⟨B2, e2_, hw2, _⟩ := nrow2.form
              rw [List.length_append, List.length_singleton] at hw2
              subst hw2
              have S2 := St.app2 hlH hlow nrow2 hgrow2 (by simpa using hat2)
              obtain ⟨b0, b1, b2, e0, e1, e2⟩ := (St.grow hlH hlow St.r2 rfl hgrow2).1.cells
              clear own2 hown2 hgrow2 hat2 nrow2 c0 c1 c2 f0 f1 f2 hcell y0 y1 y2 z0 z1 z2 YW RA St
              go_wp2
              go_roundw
              case rel => exact ⟨k + 1, true, _, _, _, _, _, _, by omega, by omega, by go_num, rfl, S2, hsy'⟩
              case measure => simp [intOf]; omega
        · have F := FAIL.out wr St.bel (fun h hi => sync_bad hi (hS.out h hi) (hpe.out h hi).1 (hpe.out h hi).2 (fun _ => hsz) (fun e => by cases e))
          have hsz2 : ((p.size : Int) == 1) = false := by simp; omega
          clear hS hpe
          rcases hsl : (p.toList == [47])
          all_goals
            go_wp2_with fail
            refine bodyPost_ret (v := .tuple #[.agg #[.slice none 0 0, .slice none 0 0, .slice none 0 0], .bool false]) ?_ rfl F
            simp [results, Try.results17, go_sem, y0, y1, y2]
    · have hend : Hid (∀ g, IsText s g → (⟨l, r, t⟩ : Hp) = g) := fun g hi => by
        obtain ⟨e1, _⟩ := HPS.out g hi
        have h8 := hvB_len hi.1
        have hz := (hvB_parts hi.1).1.2
        have hz2 : g.t.length ≤ 3 := by unfold szB at hz; simp only [decide_eq_true_eq] at hz; omega
        have ek : k = g.l.length + g.t.length + 1 := by have := hnp.out; omega
        have h9 := hS.out g hi
        rw [ek] at h9
        exact sync_end hi h9
      obtain ⟨A0, k0, hv0, _⟩ := St.r0.form
      subst hv0
      obtain ⟨A1, k1, hv1, _⟩ := St.r1.form
      subst hv1
      obtain ⟨A2, k2, hv2, _⟩ := St.r2.form
      subst hv2
      have hv : Hv wr w1.heap.size _ ⟨l, r, t⟩ := ⟨_, _, _, rfl, St.r0, St.r1, St.r2, St.a01, St.a02, St.a12⟩
      have YW : Blk3 wr w.heap.size (.slice none 0 0) (.slice none 0 0) (.slice none 0 0) 25 := (St.kp _ (by omega) (by omega)).trans Y1
      have V := specHeapValid_any wr w1.heap.size _ _ hv
      have X := St.blk
      have B0 := St.bel
      have a01 := St.a01
      have a02 := St.a02
      have a12 := St.a12
      obtain ⟨c0, c1, c2, f0, f1, f2⟩ := X.cells
      generalize l.length = nl at *
      generalize r.length = nr at *
      generalize t.length = nt at *
      clear hS St
      rcases hvb : hvB ⟨l, r, t⟩
      · rw [hvb] at V
        have hno : ∀ g, ¬ IsText s g := fun g hi => by
          have h9 := hend.out g hi
          have h8 := hi.1
          rw [← h9, hvb] at h8; cases h8
        clear hend hv a01 a02 a12
        by_cases hkn : k < np
        all_goals
          go_wp2_with fail
          refine V.mono ?_; rintro e w2 ⟨rfl, hb2⟩
          have F := FAIL.out w2 (B0.trans (hb2.mono B0.size)) hno
          obtain ⟨y0, y1, y2, z0, z1, z2⟩ := (YW.below hb2).cells
          go_wp2_with fail
          refine bodyPost_ret (v := .tuple #[.agg #[.slice none 0 0, .slice none 0 0, .slice none 0 0], .bool false]) ?_ rfl F
          simp [results, Try.results17, go_sem, y0, y1, y2]
      · rw [hvb] at V
        have FM := fun W (hb : Below wr.heap.size wr W) => specFmt_any W w1.heap.size _ _ (hv.below hb)
        have hfv : fmtL ⟨l, r, t⟩ = fmtV ⟨l, r, t⟩ := by unfold fmtL; rw [if_pos hvb]
        rw [hfv] at FM
        rcases hfs : (fmtV ⟨l, r, t⟩ == s.toList)
        · have hno : ∀ g, ¬ IsText s g := fun g hi => by
            have h9 := hend.out g hi
            rw [h9] at hfs
            have : s.toList = fmtV g := by rw [hi.2, ByteArray.toList_eq]
            rw [this] at hfs; simp at hfs
          have hfs2 : (fmtV ⟨l, r, t⟩ != s.toList) = true := by rw [bne, hfs]; rfl
          clear hend hv a01 a02 a12 hfv
          by_cases hkn : k < np
          all_goals
            go_wp2_with fail
            refine V.mono ?_; rintro e w2 ⟨rfl, hb2⟩
            have FW := FM w2 hb2
            have X2 := X.below hb2
            have YW2 := YW.below hb2
            obtain ⟨b0, b1, b2, e0, e1, e2⟩ := X2.cells
            go_wp2_with fail
            refine FW.mono ?_; rintro e w3 ⟨rfl, hb3⟩
            have B3 := (B0.trans (hb2.mono B0.size)).trans (hb3.mono (by have := B0.size; have := hb2.size; omega))
            have F := FAIL.out w3 B3 hno
            obtain ⟨y0, y1, y2, z0, z1, z2⟩ := (YW2.below hb3).cells
            go_wp2_with fail
            refine bodyPost_ret (v := .tuple #[.agg #[.slice none 0 0, .slice none 0 0, .slice none 0 0], .bool false]) ?_ rfl F
            simp [results, Try.results17, go_sem, y0, y1, y2]
        · have hit : IsText s ⟨l, r, t⟩ := ⟨hvb, by
            apply ByteArray.ext
            have h9 : fmtV ⟨l, r, t⟩ = s.toList := by simpa using hfs
            rw [ByteArray.toList_eq] at h9
            rw [h9]⟩
          have HIT := Lib.hid hit
          have hfs2 : (fmtV ⟨l, r, t⟩ != s.toList) = false := by rw [bne, hfs]; rfl
          clear hend hfv hit
          by_cases hkn : k < np
          all_goals
            go_wp2_with fail
            refine V.mono ?_; rintro e w2 ⟨rfl, hb2⟩
            have FW := FM w2 hb2
            have X2 := X.below hb2
            have YW2 := YW.below hb2
            have hv2 := hv.below hb2
            obtain ⟨b0, b1, b2, e0, e1, e2⟩ := X2.cells
            go_wp2_with fail
            refine FW.mono ?_; rintro e w3 ⟨rfl, hb3⟩
            have X3 := X2.below hb3
            have B3 := (B0.trans (hb2.mono B0.size)).trans (hb3.mono (by have := B0.size; have := hb2.size; omega))
            have hv3 := hv2.below hb3
            obtain ⟨u0, u1, u2, eu, q0, q1, q2, _⟩ := hv3
            cases eu
            obtain ⟨y0, y1, y2, z0, z1, z2⟩ := (YW2.below hb3).cells
            obtain ⟨m0, m1, m2, _⟩ := X3.cells
            obtain ⟨hH, hBf⟩ := made_done (h := ⟨l, r, t⟩) (Nat.le_refl _) (q0.mono (by omega)) (q1.mono (by omega)) (q2.mono (by omega)) a01 a02 a12 B3
            clear q0 q1 q2 hv hv2 X2 X3 YW2 FW
            go_wp2_with fail
            refine bodyPost_ret (v := .tuple #[.agg #[.slice A0 nl k0, .slice A1 nr k1, .slice A2 nt k2], .bool true]) ?_ rfl ⟨_, _, true, rfl, hH, hBf, (fun _ => HIT.out), (fun e => by cases e)⟩
            simp [results, Try.results17, go_sem, y0, y1, y2]
end Go.Proofs.Ytpimndfafibgeaa
