/- impl's copies: differentCells, CopyHeap, MoveCells, CopyStep. -/
import Derived.Test.YtapkhgpifpgleaaFwI
import Derived.Test.YtapkhgpifpgleaaOrdW
import Derived.Test.YtapkhgpifpgleaaCntA
namespace Go.Proofs.Ytapkhgpifpgleaa
open Go.RowKit Go.Maps

set_option maxRecDepth 100000 in
set_option maxHeartbeats 2000000 in
theorem differentCells_any (w : World) (lo lo' : Nat) (v : Value) (h : Hp) (hv : Hv w lo v h) (h8 : h.l.length ≤ 1048576) (A : Option Addr) (n c : Nat) (xs : List Int) (hx : Row w lo' (.slice A n c) xs) (l : Hid (xs.length = n)) (hm : n ≤ 9223372036854775807) :
    Calls Try.prog 52 #[v, .slice A n c] w (RetB w (difB h.l.length xs)) := by
  obtain ⟨i0, hi, hz0, hz1, hz2⟩ := info_parts Try.infoBool
  obtain ⟨A0, n0, c0, A1, n1, c1, A2, n2, c2, rfl, _, ⟨l0, _, _⟩, _⟩ := hv.open_
  rw [l0.out] at h8 ⊢
  have ne : (Value.slice A n c).ownBlock ≠ some (w.heap.size + 1) := fun e => by have := (hx.lt _ e).2; omega
  have hx1 := hx.alloc (.cells #[.slice A0 n0 c0, .slice A1 n1 c1, .slice A2 n2 c2] 27)
  have B1 : Below w.heap.size w (w.alloc (.cells #[.slice A0 n0 c0, .slice A1 n1 c1, .slice A2 n2 c2] 27)) := (Below.refl _ _).alloc (Nat.le_refl _) _
  have z1 : (w.alloc (.cells #[.slice A0 n0 c0, .slice A1 n1 c1, .slice A2 n2 c2] 27)).heap.size = w.heap.size + 1 := by simp
  clear hx hv
  go_enter Try.func52, Try.ntmps52
  go_wp2_with (at_make; refine wpList_make_full _ rfl _ _ 50 rfl (w.heap.size + 1) 4 i0 (.bool false) 1 Try.underlying50 hi hz0 hz1 _ _ _ _ n0 rfl rfl rfl rfl ?b2 ?b3 (by simp) ?_)
  case b2 => rw [hz2]; omega
  case b3 => unfold maxLen; omega
  intro w2 hown2 hgrow2
  rw [mc_bool] at hown2
  have hrow2 : RowB w2 (w.heap.size + 1) (.slice (some ⟨w.heap.size + 1, 0, none⟩) n0 n0) (List.replicate n0 false) := by unfold RowB; simpa using hown2
  have hb2 : Below (w.heap.size + 1) (w.alloc (.cells #[.slice A0 n0 c0, .slice A1 n1 c1, .slice A2 n2 c2] 27)) w2 := (Below.refl _ _).grown hgrow2 (by simp) (fun k h => by cases h)
  have hx2 := Row.far (by exact hx1) hb2 (fun b e => by have := (hx1.lt b e).2; simp at this; omega)
  have B2 := B1.trans (hb2.mono (by omega))
  have zz : w.heap.size + 1 ≤ w2.heap.size := by have := hb2.size; simp at this; omega
  rw [← markL_nil] at hrow2
  have MD := markDifferent_any w2 lo' (w.heap.size + 1) (w.heap.size + 1) A n c n0 n0 xs hrow2 hx2 l hm ne
  clear hown2 hgrow2 hb2 hz0 hz1 hz2 hrow2 hx1
  go_wp2_with fail
  refine MD.mono ?_; rintro e w3 ⟨rfl, _, G3, s3⟩
  have B3 : Below w.heap.size w w3 := ⟨G3.os.trans B2.os, G3.tape.trans B2.tape, G3.output.trans B2.output, Nat.le_trans B2.size G3.size, fun j hj => (G3.block j (Nat.lt_of_lt_of_le hj B2.size) (by simp; omega)).trans (B2.block j hj)⟩
  go_wp2_with fail
  go_ret
  exact ⟨rfl, B3⟩

theorem Hv.keptW {W w w' : World} {lo g : Nat} {v : Value} {h : Hp} (h0 : Hv W lo v h) (h1 : Hv w lo v h) (hg : w.grownBy w' (some g)) (hb : W.heap.size ≤ g) : Hv w' lo v h := by
  obtain ⟨v0, v1, v2, rfl, r0, r1, r2, a⟩ := h1
  obtain ⟨u0, u1, u2, e, s0, s1, s2, _⟩ := h0
  simp at e
  obtain ⟨rfl, rfl, rfl⟩ := e
  have key : ∀ (u : Value) (xs : List Int), Row W lo u xs → u.ownBlock ≠ some g := fun u xs r e => by have := (r.lt _ e).2; omega
  exact ⟨_, _, _, rfl, r0.kept hg (.inr (key _ _ s0)), r1.kept hg (.inr (key _ _ s1)), r2.kept hg (.inr (key _ _ s2)), a⟩
/-- The numbers of the cells that were met so far. -/
def whN (o : List Int) (n : Nat) : Nat → List Int
  | 0 => List.replicate n (-1)
  | k + 1 => match o[k]? with | some c => (whN o n k).set c.toNat (k : Int) | none => whN o n k
theorem whN_len (o : List Int) (n k : Nat) : (whN o n k).length = n := by
  induction k with
  | zero => simp [whN]
  | succ k ih => unfold whN; split <;> simp [ih]
theorem whN_put {o : List Int} {n k j : Nat} (h : o[k]? = some (j : Int)) : whN o n (k + 1) = (whN o n k).set j (k : Int) := by
  rw [whN, h]; simp
theorem at_snoc {s : List Int} {c x : Int} (hc : c ∉ s) : at_ (s ++ [c]) x = if x = c then (s.length : Int) else at_ s x := by
  by_cases hx : x = c
  · subst hx
    rw [if_pos rfl]
    unfold at_; rw [if_pos (by simp), List.idxOf_append, if_neg hc]
    simp
  · rw [if_neg hx]
    unfold at_
    by_cases hs : x ∈ s
    · rw [if_pos hs, if_pos (by simp [hs]), List.idxOf_append, if_pos hs]
    · rw [if_neg hs, if_neg (by simp [hs, hx])]
theorem whN_get {o : List Int} {n : Nat} (hd : o.Nodup) (ho : o.all (plB · n) = true) (k : Nat) (hk : k ≤ o.length) {j : Nat} (hj : j < n) : gd (whN o n k) (j : Int) = at_ (o.take k) (j : Int) := by
  induction k with
  | zero =>
    rw [List.take_zero, at_not (by simp)]
    exact gdx_some (by simp [whN, hj])
  | succ k ih =>
    have hk2 : k < o.length := by omega
    have hg : o[k]? = some o[k] := List.getElem?_eq_getElem hk2
    generalize o[k] = c at hg
    rw [List.all_eq_true] at ho
    have hc := ho c (List.mem_of_getElem? hg)
    simp only [plB, decide_eq_true_eq] at hc
    obtain ⟨i, rfl⟩ : ∃ i : Nat, c = i := ⟨c.toNat, by omega⟩
    have hni : (i : Int) ∉ o.take k := by
      intro hm
      obtain ⟨q, hq, he⟩ := List.getElem_of_mem hm
      have hq' : q < k := by rw [List.length_take] at hq; omega
      rw [List.getElem_take] at he
      obtain ⟨hk3, ek⟩ := List.getElem?_eq_some_iff.1 hg
      exact (List.pairwise_iff_getElem.1 hd) q k (by omega) hk3 hq' (he.trans ek.symm)
    rw [whN_put hg, take_next hg, at_snoc hni]
    by_cases e : i = j
    · subst e
      rw [if_pos rfl, List.length_take, Nat.min_eq_left (by omega)]
      exact gd_set_ge (by rw [whN_len]; exact hj)
    · rw [if_neg (by omega), gdx_other e]
      exact ih (by omega)
theorem whN_end {h : Hp} (hv : hvB h = true) : whN (order h) h.l.length (order h).length = whereL h := by
  apply gd_ext (by rw [whN_len, where_len])
  intro j hj
  rw [whN_len] at hj
  rw [whN_get (order_nodup hv) (order_cells hv) _ (Nat.le_refl _) hj, List.take_length, where_get hj]
theorem where_rng {h : Hp} (hv : hvB h = true) : ∀ x ∈ whereL h, -1 ≤ x ∧ x < h.l.length := by
  intro x hx
  obtain ⟨k, _, rfl⟩ := List.mem_map.1 hx
  have := at_bd (order h) k
  have := order_len hv
  omega

/-- A heap, a row and a Bool come back, and nothing that was there has turned. -/
def RetCp (w : World) (x : Hp) (ys : List Int) (ok : Bool) (e : Ending) (w' : World) : Prop :=
  ∃ v A c, e = .returned (.tuple #[v, .slice A ys.length c, .bool ok]) ∧ Hv w' w.heap.size v x ∧ Row w' w.heap.size (.slice A ys.length c) ys ∧ (∀ b, (Value.slice A ys.length c).ownBlock = some b → NotIn v b) ∧ Below w.heap.size w w'
def copyV (h : Hp) : Hp := if hvB h = true then copyH h else Hp.zero
def whereV (h : Hp) : List Int := if hvB h = true then whereL h else []

set_option maxRecDepth 100000 in
set_option maxHeartbeats 4000000 in
theorem implCopy_any (w : World) (lo : Nat) (v : Value) (h : Hp) (hv : Hv w lo v h) : Calls Try.prog 22 #[v] w (RetCp w (copyV h) (whereV h) (hvB h)) := by
  obtain ⟨A0, n0, c0, A1, n1, c1, A2, n2, c2, rfl, _, ⟨l0, _, _⟩, _⟩ := hv.open_
  have X0 := (Blk3.new w (.slice A0 n0 c0) (.slice A1 n1 c1) (.slice A2 n2 c2) 27).alloc (.cells #[.slice none 0 0, .slice none 0 0, .slice none 0 0] 27)
  have Y0 := Blk3.new_at (w := w.alloc (.cells #[.slice A0 n0 c0, .slice A1 n1 c1, .slice A2 n2 c2] 27)) (b := w.heap.size + 1) (by simp) (.slice none 0 0) (.slice none 0 0) (.slice none 0 0) 27
  have V := implHeapValid_any _ _ _ _ ((hv.alloc (.cells #[.slice A0 n0 c0, .slice A1 n1 c1, .slice A2 n2 c2] 27)).alloc (.cells #[.slice none 0 0, .slice none 0 0, .slice none 0 0] 27))
  have fin : Below w.heap.size w ((w.alloc (.cells #[.slice A0 n0 c0, .slice A1 n1 c1, .slice A2 n2 c2] 27)).alloc (.cells #[.slice none 0 0, .slice none 0 0, .slice none 0 0] 27)) := ((Below.refl _ _).alloc (Nat.le_refl _) _).alloc (by simp) _
  rcases ev : hvB h
  · rw [ev] at V
    have e1 : copyV h = Hp.zero := by unfold copyV; rw [ev]; simp
    have e2 : whereV h = [] := by unfold whereV; rw [ev]; simp
    rw [e1, e2]
    clear ev e1 e2
    go_enter Try.func22, Try.ntmps22
    go_wp2_with fail
    refine V.mono ?_; rintro e w1 ⟨rfl, hb1⟩
    have Y1 := Blk3.below (by exact Y0) hb1
    obtain ⟨q0, q1, q2, f0, f1, f2⟩ := Y1.cells
    have B1 : Below w.heap.size w w1 := fin.trans (hb1.mono (by simp; omega))
    go_wp2_with fail
    refine bodyPost_ret (v := .tuple #[.agg #[.slice none 0 0, .slice none 0 0, .slice none 0 0], .slice none 0 0, .bool false]) ?_ rfl ⟨_, none, 0, rfl, Hv.zero _ _, Row.nil _ _, fun b e => by simp [Value.ownBlock] at e, ((B1.setCell (by simp) _).setCell (by simp) _).setCell (by simp) _⟩
    simp [results, Try.results22, go_sem, q0, q1, q2]
  · rw [ev] at V
    have e1 : copyV h = ⟨fwL h.l (whereL h) (List.replicate h.l.length (-1)) h.l.length, fwL h.r (whereL h) (List.replicate h.l.length (-1)) h.l.length, h.t.map (ren (gd (whereL h)))⟩ := by
      unfold copyV; rw [if_pos ev]; obtain ⟨a1, a2, a3⟩ := fw_copy ev; rw [a1, a2, a3]
    have e2 : whereV h = whereL h := by unfold whereV; rw [if_pos ev]
    have hl := hvB_len ev
    have HWE := Lib.hid (whN_end ev)
    have HNR := Lib.hid (where_rng ev)
    have HOC := Lib.hid (order_cells ev)
    have hol := order_len ev
    have wl := where_len h
    rw [e1, e2]
    generalize hnw : whereL h = nw at HWE HNR wl ⊢
    clear hnw e1 e2
    have FH := fun W lo2 B d hW hR => forwardedHeap_any W lo lo2 (.agg #[.slice A0 n0 c0, .slice A1 n1 c1, .slice A2 n2 c2]) h hW ev B d nw hR wl HNR.out
    have NP := fun W => nonePointers_any W n0 (by have := l0.out; omega)
    have OO := fun W hW => implOrder_any W lo (.agg #[.slice A0 n0 c0, .slice A1 n1 c1, .slice A2 n2 c2]) h hW
    generalize order h = oo at OO HWE HOC hol
    rw [l0.out] at FH HWE HOC hol wl hl ⊢
    clear ev
    go_enter Try.func22, Try.ntmps22
    go_wp2_with fail
    refine V.mono ?_; rintro e w1 ⟨rfl, hb1⟩
    have X1 := Blk3.below (by exact X0) hb1
    have Y1 := Blk3.below (by exact Y0) hb1
    have H1 := Hv.below (by exact (hv.alloc (.cells #[.slice A0 n0 c0, .slice A1 n1 c1, .slice A2 n2 c2] 27)).alloc (.cells #[.slice none 0 0, .slice none 0 0, .slice none 0 0] 27)) hb1
    have B1 : Below w.heap.size w w1 := fin.trans (hb1.mono (by simp; omega))
    have z1 : w.heap.size + 2 ≤ w1.heap.size := by have := hb1.size; simp at this; omega
    obtain ⟨p0, p1, p2, _⟩ := X1.cells
    clear V fin X0 Y0
    go_wp2_with fail
    refine (NP _).mono ?_; rintro e w2 ⟨AN, cN, rfl, RN, hb2⟩
    simp only [List.length_replicate] at RN ⊢
    have X2 := Blk3.below (by exact X1) hb2
    have Y2 := Blk3.below (by exact Y1) hb2
    have H2 := Hv.below (by exact H1) hb2
    have B2 := B1.trans (hb2.mono B1.size)
    have z2 := hb2.size
    obtain ⟨p0, p1, p2, _⟩ := X2.cells
    clear X1 Y1 H1
    go_wp2_with fail
    refine (OO _ H2).mono ?_; rintro e w3 ⟨AO, cO, rfl, RO, hb3⟩
    have X3 := Blk3.below (by exact X2) hb3
    have Y3 := Blk3.below (by exact Y2) hb3
    have H3 := Hv.below (by exact H2) hb3
    have RN3 := Row.below (by exact RN) hb3
    have B3 := B2.trans (hb3.mono B2.size)
    obtain ⟨gN, rfl, hgN0, hgN, _⟩ := RN3.at_ (k := 0) (by simp; omega)
    have gN2 : gN < w2.heap.size := (RN.lt gN rfl).2
    have apO : (Value.slice AO oo.length cO).ownBlock = none ∨ (Value.slice AO oo.length cO).ownBlock ≠ some gN := by
      refine .inr (fun e => ?_)
      have := (RO.lt _ e).1; omega
    clear X2 Y2 H2 RN NP OO hb1 hb2 hb3 p0 p1 p2
    have w0 : whN oo n0 0 = List.replicate n0 (-1) := rfl
    rw [← w0] at RN3
    clear w0
    go_wp2_with fail
    go_loopw [19] (fun i wr => ∃ k : Nat, k ≤ oo.length ∧ i = .int .i64 k ∧ Row wr w1.heap.size (.slice (some ⟨gN, 0, none⟩) n0 cN) (whN oo n0 k) ∧ w3.grownBy wr (some gN)) (fun i _ => oo.length - (intOf i).toNat)
    case atStart => exact ⟨0, Nat.zero_le _, rfl, RN3, ⟨rfl, rfl, rfl, Nat.le_refl _, fun _ _ _ => rfl⟩⟩
    case round =>
      clear RN3
      obtain ⟨k, hk, rfl, RN, G⟩ := hrel
      by_cases hlt : k < oo.length
      · obtain ⟨go, x, rfl, _, _, hx, hcx, _⟩ := (RO.kept G apO).get hlt
        have hp := HOC.out
        rw [List.all_eq_true] at hp
        have hp := hp x (List.mem_of_getElem? hx.out)
        obtain ⟨j, rfl, hj⟩ := plB_nat hp
        obtain ⟨g', y, e, _, _, _, hcy, hfy⟩ := RN.get (k := j) (by rw [whN_len]; exact hj)
        obtain rfl : gN = g' := by simpa using e
        have RN' := RN.set_ j (k : Int)
        rw [← whN_put hx.out] at RN'
        have G' : w3.grownBy (wr.setCell ⟨gN, j, none⟩ (iv (k : Int))) (some gN) := grown_set G (p := ⟨gN, j, none⟩) (.inl rfl) _
        clear hx hp e
        go_wp2_with fail
        go_roundw
        case rel => exact ⟨k + 1, by omega, by go_num, RN', G'⟩
        case measure => simp [intOf]; omega
      · obtain rfl : k = oo.length := by omega
        have ew := HWE.out
        rw [ew] at RN
        have Xr := X3.keptR G (by simp; omega)
        have Yr := Y3.keptR G (by simp; omega)
        have Hr := Hv.keptW hv H3 G (by omega)
        have Br : Below w.heap.size w wr := ⟨G.os.trans B3.os, G.tape.trans B3.tape, G.output.trans B3.output, Nat.le_trans B3.size G.size, fun j hj => (G.block j (Nat.lt_of_lt_of_le hj B3.size) (by simp; omega)).trans (B3.block j hj)⟩
        have zr : w3.heap.size ≤ wr.heap.size := G.size
        have FR := FH wr _ (some ⟨gN, 0, none⟩) cN Hr RN
        obtain ⟨p0, p1, p2, _⟩ := Xr.cells
        clear FH hlt hk ew G X3 Y3 H3 RO apO
        go_wp2_with fail
        refine FR.mono ?_; rintro e w5 ⟨vc, rfl, HC, hb5⟩
        have Y5 := Yr.below hb5
        have R5 := RN.below hb5
        have B5 := Br.trans (hb5.mono Br.size)
        obtain ⟨E0, m0, k0, E1, m1, k1, E2, m2, k2, rfl, ⟨s0, s1, s2⟩, _, _, _, a01, a02, a12⟩ := HC.open_
        obtain ⟨Y0, Y1, Y2, f0, f1, f2⟩ := Y5.cells
        have lY := Y5.lt
        have zb := Br.size
        have key : ∀ (v : Value) (zs : List Int), Row w5 wr.heap.size v zs → v.ownBlock ≠ some (w.heap.size + 1) := fun v zs r e => by have := (r.lt _ e).1; omega
        have tk : ∀ (v : Value) (zs : List Int) (p q r : Value), Row w5 wr.heap.size v zs → Row (((w5.setCell ⟨w.heap.size + 1, 0, none⟩ p).setCell ⟨w.heap.size + 1, 1, none⟩ q).setCell ⟨w.heap.size + 1, 2, none⟩ r) w.heap.size v zs :=
          fun v zs p q r h9 => (((h9.other (key v zs h9) _).other (key v zs h9) _).other (key v zs h9) _).mono (by omega)
        have T0 := tk _ _ (.slice E0 m0 k0) (.slice E1 m1 k1) (.slice E2 m2 k2) s0
        have T1 := tk _ _ (.slice E0 m0 k0) (.slice E1 m1 k1) (.slice E2 m2 k2) s1
        have T2 := tk _ _ (.slice E0 m0 k0) (.slice E1 m1 k1) (.slice E2 m2 k2) s2
        have kn : (Value.slice (some ⟨gN, 0, none⟩) n0 cN).ownBlock ≠ some (w.heap.size + 1) := fun e => by simp [Value.ownBlock] at e; omega
        have TN : Row (((w5.setCell ⟨w.heap.size + 1, 0, none⟩ (.slice E0 m0 k0)).setCell ⟨w.heap.size + 1, 1, none⟩ (.slice E1 m1 k1)).setCell ⟨w.heap.size + 1, 2, none⟩ (.slice E2 m2 k2)) w.heap.size (.slice (some ⟨gN, 0, none⟩) n0 cN) nw := (((R5.other kn _).other kn _).other kn _).mono (by omega)
        have BF := ((B5.setCell (p := ⟨w.heap.size + 1, 0, none⟩) (by simp) (.slice E0 m0 k0)).setCell (p := ⟨w.heap.size + 1, 1, none⟩) (by simp) (.slice E1 m1 k1)).setCell (p := ⟨w.heap.size + 1, 2, none⟩) (by simp) (.slice E2 m2 k2)
        have gNr : gN < wr.heap.size := by omega
        have NI : ∀ b, (Value.slice (some ⟨gN, 0, none⟩) n0 cN).ownBlock = some b → NotIn (.agg #[(.slice E0 m0 k0), (.slice E1 m1 k1), (.slice E2 m2 k2)]) b := by
          intro b hb a0 a1 a2 ea
          simp at ea
          obtain ⟨rfl, rfl, rfl⟩ := ea
          simp [Value.ownBlock] at hb
          subst hb
          exact ⟨fun e => by have := (s0.lt _ e.symm).1; omega, fun e => by have := (s1.lt _ e.symm).1; omega, fun e => by have := (s2.lt _ e.symm).1; omega⟩
        clear key tk s0 s1 s2 R5 RN FR Yr Xr Hr
        go_wp2_with fail
        refine bodyPost_ret (v := .tuple #[.agg #[(.slice E0 m0 k0), (.slice E1 m1 k1), (.slice E2 m2 k2)], .slice (some ⟨gN, 0, none⟩) n0 cN, .bool true]) ?_ rfl ⟨.agg #[(.slice E0 m0 k0), (.slice E1 m1 k1), (.slice E2 m2 k2)], some ⟨gN, 0, none⟩, cN, by rw [wl], ⟨_, _, _, rfl, T0, T1, T2, a01, a02, a12⟩, by rw [wl]; exact TN, by rw [wl]; exact NI, BF⟩
        simp [results, Try.results22, go_sem, Y0, Y1, Y2]
end Go.Proofs.Ytapkhgpifpgleaa
