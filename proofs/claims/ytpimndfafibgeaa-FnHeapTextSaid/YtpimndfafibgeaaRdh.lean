/- impl.heapReader: the heap that has been read. -/
import Derived.Test.YtpimndfafibgeaaRdf
import Derived.Test.YtpimndfafibgeaaNew
import Derived.Test.YtpimndfafibgeaaDHeapSame
import Derived.Deep.OwnRows
import Derived.Deep.Cut
namespace Go.Proofs.Ytpimndfafibgeaa
open Go.RowKit

theorem number_any (w : World) (b : Nat) (s : ByteArray) (σ : RdS) (h : RB w b 8 s σ) (x : Int) (h1 : -1 ≤ x) (h2 : x < 8) :
    Calls Try.prog 56 #[ptrV b x] w fun e w' => e = .returned (.int .i64 x) ∧ w' = w := by
  by_cases hx : x = -1
  · subst hx
    rw [show ptrV b (-1) = .pointer none from rfl]
    go_enter Try.func56, Try.ntmps56
    go_wp2_with fail
    go_ret
    exact ⟨rfl, rfl⟩
  · obtain ⟨k, rfl⟩ : ∃ k : Nat, x = k := ⟨x.toNat, by omega⟩
    have hk : k < 8 := by omega
    obtain ⟨q, _⟩ := h.get (o := 2 + k * 3) (by omega) (slot_num k hk)
    simp only [slotV, if_pos hk] at q
    rw [show ptrV b (k : Int) = .pointer (some ⟨b, 2 + k * 3, none⟩) by unfold ptrV; rw [if_neg hx]; rfl]
    go_enter Try.func56, Try.ntmps56
    go_wp2_with fail
    go_ret
    exact ⟨rfl, rfl⟩
theorem row_made {w : World} {g lo n : Nat} (hn : n ≤ 1048576) (hg : w.heap[g]? = some (.cells (madeCells #[.int .i64 0] n) 3 (0, 0))) (hlo : lo ≤ g) : Row w lo (.slice (some ⟨g, 0, none⟩) n n) (List.replicate n 0) := by
  refine ⟨by simp, .inr ⟨g, n, madeCells #[.int .i64 0] n, by simp, hlo, hg, by simp, by unfold maxLen; omega, by simp [size_madeCells], ?_⟩⟩
  rw [mc_int, List.take_of_length_le (by simp)]
theorem heapD {W : World} {g : Nat} {o : Option Obj} (h : W.heap[g]? = o) : W.drew.heap[g]? = o := h
theorem heapA {W : World} {g : Nat} {o o' : Obj} (h : W.heap[g]? = some o) : (W.alloc o').heap[g]? = some o := (Below.heap_alloc W o' g (Array.getElem?_eq_some_iff.1 h).1).trans h
theorem heapN {W : World} {g : Nat} {o : Obj} (hg : g = W.heap.size) : (W.alloc o).heap[g]? = some o := by subst hg; exact heap_alloc_new W o
theorem belowA {w W : World} (h : Below w.heap.size w W) (o : Obj) : Below w.heap.size w (W.alloc o) := h.alloc h.size o
theorem set_takes {xs : List Int} {k n : Nat} {x : Int} (hk : k < n) (hx : xs[k]? = some x) : (xs.take k ++ List.replicate (n - k) (0 : Int)).set k x = xs.take (k + 1) ++ List.replicate (n - (k + 1)) 0 := by
  obtain ⟨hl, rfl⟩ := List.getElem?_eq_some_iff.1 hx
  have h1 : (xs.take k).length = k := by rw [List.length_take]; omega
  rw [List.set_append, if_neg (by rw [h1]; omega), h1, Nat.sub_self, show n - k = (n - (k + 1)) + 1 from by omega, List.replicate_succ, List.set_cons_zero, List.take_succ_eq_append_getElem hl, List.append_assoc]
  rfl
/-- What the making of a heap's rows leaves, whatever the order. -/
def MadeAll (w : World) (n m : Nat) (p v0 v1 v2 : Value) (w' : World) : Prop :=
  ∃ hB g0 g1 g2 : Nat, p = .pointer (some ⟨hB, 0, none⟩) ∧ v0 = .slice (some ⟨g0, 0, none⟩) n n ∧ v1 = .slice (some ⟨g1, 0, none⟩) n n ∧ v2 = .slice (some ⟨g2, 0, none⟩) m m ∧
    (w.heap.size < hB ∧ w.heap.size < g0 ∧ w.heap.size < g1 ∧ w.heap.size < g2 ∧ hB ≠ g0 ∧ hB ≠ g1 ∧ hB ≠ g2 ∧ g0 ≠ g1 ∧ g0 ≠ g2 ∧ g1 ≠ g2) ∧
    w'.heap[w.heap.size]? = some (.cells #[.slice none 0 0, .slice none 0 0, .slice none 0 0] 25 (0, 0)) ∧
    w'.heap[hB]? = some (.cells #[v0, v1, v2] 25 (0, 0)) ∧
    w'.heap[g0]? = some (.cells (madeCells #[.int .i64 0] n) 3 (0, 0)) ∧ w'.heap[g1]? = some (.cells (madeCells #[.int .i64 0] n) 3 (0, 0)) ∧ w'.heap[g2]? = some (.cells (madeCells #[.int .i64 0] m) 3 (0, 0)) ∧ Below w.heap.size w w'

set_option maxRecDepth 100000 in
set_option maxHeartbeats 2000000 in
theorem rdHeap_any (w : World) (b : Nat) (s : ByteArray) (σ : RdS) (h : RB w b 8 s σ) (n m : Nat) (hn : σ.n = n) (hm : σ.m = m) (hn8 : n ≤ 8) (hm3 : m ≤ 3) (hl : σ.ls.length = n) (hr : σ.rs.length = n) (ht : σ.ts.length = m)
    (bl : ∀ x ∈ σ.ls, -1 ≤ x ∧ x < 8) (br : ∀ x ∈ σ.rs, -1 ≤ x ∧ x < 8) (bt : ∀ x ∈ σ.ts, -1 ≤ x ∧ x < 8) :
    Calls Try.prog 33 #[.pointer (some ⟨b, 0, none⟩)] w fun e w' => ∃ v, e = .returned v ∧ Hv w' w.heap.size v ⟨σ.ls, σ.rs, σ.ts⟩ ∧ Below w.heap.size w w' := by
  obtain ⟨q0, _⟩ := h.get (o := 34) (t := .cells) (by omega) rfl
  obtain ⟨q1, _⟩ := h.get (o := 38) (t := .rooted) (by omega) rfl
  simp only [slotV, hn, hm] at q0 q1
  have lb := h.lt
  have hbb : b ≠ w.heap.size := by omega
  have Mk := fun (k : Nat) (hk : k ≤ 1048576) => run_make_row' (P := Try.prog) 23 3 (.int .i64 0) 8 Try.underlying23 Try.infoInt rfl .i64 .i64 k (by omega) (by omega)
  have mk0 := Mk n (by omega)
  have mk1 := Mk m (by omega)
  clear Mk
  go_enter Try.func33, Try.ntmps33
  go_wp2_with fail
  go_cut [3, 10, 15, 20] from 21 (fun p v0 v1 v2 w' => MadeAll w n m p v0 v1 v2 w')
  case first =>
    go_region_held3 (fun w' => w'.cell? ⟨b, 34, none⟩ = some (.int .i64 (n : Int)) ∧ w'.cell? ⟨b, 38, none⟩ = some (.int .i64 (m : Int))) (((try dsimp only); (repeat' apply And.intro) <;> (repeat (with_reducible (first | exact q0 | exact q1 | refine cellD ?_ | refine cellA ?_ _ | refine cellS ?_ hbb))))) (fail)
    all_goals
      go_wp2_with fail
      go_meet
      case rel =>
        refine ⟨_, _, _, _, rfl, rfl, rfl, rfl, by omega, ?_, ?_, ?_, ?_, ?_, ?_⟩
        all_goals first
          | (refine heapD ?_; repeat (first | (with_reducible refine heapN ?_; simp; done) | (with_reducible refine heapA ?_)))
          | (refine Below.drew ?_; repeat (with_reducible (first | exact Below.refl _ _ | refine belowA ?_ _)))
  case rest =>
    obtain ⟨hB, g0, g1, g2, rfl, rfl, rfl, rfl, ⟨d0, d1, d2, d3, d4, d5, d6, d7, d8, d9⟩, y0, x0, r0, r1, r2, hb⟩ := hcut
    have X : Blk3 wc hB (.slice (some ⟨g0, 0, none⟩) n n) (.slice (some ⟨g1, 0, none⟩) n n) (.slice (some ⟨g2, 0, none⟩) m m) 25 := x0
    have Y : Blk3 wc w.heap.size (.slice none 0 0) (.slice none 0 0) (.slice none 0 0) 25 := y0
    have R0 : Row wc (w.heap.size + 1) _ _ := row_made (by omega) r0 (by omega)
    have R1 : Row wc (w.heap.size + 1) _ _ := row_made (by omega) r1 (by omega)
    have R2 : Row wc (w.heap.size + 1) _ _ := row_made (by omega) r2 (by omega)
    have RBB : ∀ W, Below w.heap.size w W → RB W b 8 s σ := fun W hW => h.far (hW.block b lb)
    obtain ⟨c0, c1, c2, _⟩ := X.cells
    have hbg0 : b ≠ g0 := by omega
    have hbg1 : b ≠ g1 := by omega
    have hbg2 : b ≠ g2 := by omega
    have HL := Lib.hid hl
    have HR := Lib.hid hr
    have HT := Lib.hid ht
    have BL := Lib.hid bl
    have BR := Lib.hid br
    have BT := Lib.hid bt
    clear x0 y0 r0 r1 r2 q0 q1 mk0 mk1 h hn hm hl hr ht bl br bt
    go_wp2_with fail
    go_loopw [4, 25] (fun _ i wr => ∃ k : Nat, k ≤ n ∧ i = .int .i64 k ∧ Row wr (w.heap.size + 1) (.slice (some ⟨g0, 0, none⟩) n n) (σ.ls.take k ++ List.replicate (n - k) 0) ∧ Row wr (w.heap.size + 1) (.slice (some ⟨g1, 0, none⟩) n n) (σ.rs.take k ++ List.replicate (n - k) 0) ∧
      Row wr (w.heap.size + 1) (.slice (some ⟨g2, 0, none⟩) m m) (List.replicate m 0) ∧ Blk3 wr hB (.slice (some ⟨g0, 0, none⟩) n n) (.slice (some ⟨g1, 0, none⟩) n n) (.slice (some ⟨g2, 0, none⟩) m m) 25 ∧
      Blk3 wr w.heap.size (.slice none 0 0) (.slice none 0 0) (.slice none 0 0) 25 ∧ Below w.heap.size w wr) (fun _ i _ => n - (intOf i).toNat)
    case atStart => exact ⟨0, Nat.zero_le _, rfl, by simpa using R0, by simpa using R1, R2, X, Y, hb⟩
    case round =>
      clear R0 R1 R2 X Y hb c0 c1 c2
      obtain ⟨k, hk, rfl, R0, R1, R2, X, Y, hb⟩ := hrel
      by_cases hlt : k < n
      · obtain ⟨x, hx⟩ : ∃ x, σ.ls[k]? = some x := ⟨_, List.getElem?_eq_getElem (by rw [HL.out]; exact hlt)⟩
        obtain ⟨y, hy⟩ : ∃ y, σ.rs[k]? = some y := ⟨_, List.getElem?_eq_getElem (by rw [HR.out]; exact hlt)⟩
        obtain ⟨x1, x2⟩ := BL.out x (List.mem_of_getElem? hx)
        obtain ⟨y1, y2⟩ := BR.out y (List.mem_of_getElem? hy)
        obtain ⟨px, hpx⟩ := ptrV_form b x
        obtain ⟨py, hpy⟩ := ptrV_form b y
        obtain ⟨e0, _⟩ := (RBB wr hb).get (o := 2 + k * 3 + 1) (by omega) (slot_left k (by omega))
        simp only [slotV, List.getD_eq_getElem?_getD, hx, Option.getD_some, hpx] at e0
        obtain ⟨c0, c1, c2, _⟩ := X.cells
        obtain ⟨g0', _, eg, _, _, _, hc0, hf0⟩ := R0.get (k := k) (by simp [HL.out]; omega)
        cases eg
        have N1 := number_any wr.drew b s σ (RBB wr hb) x x1 x2
        rw [hpx] at N1
        have S0 := R0.set_ k x
        rw [set_takes hlt hx] at S0
        have S1 := R1.other (a := ⟨g0, k, none⟩) (fun e => by simp [Value.ownBlock] at e; omega) (iv x)
        have S2 := R2.other (a := ⟨g0, k, none⟩) (fun e => by simp [Value.ownBlock] at e; omega) (iv x)
        have SX := X.other (p := ⟨g0, k, none⟩) (by simp; omega) (iv x)
        have SY := Y.other (p := ⟨g0, k, none⟩) (by simp; omega) (iv x)
        have sb := hb.setCell (p := ⟨g0, k, none⟩) (by simp; omega) (iv x)
        have hk0 : (k : Int) < 8 := by omega
        clear R0 R1 R2 X Y
        go_wp2_with fail
        go_region_held3 (fun w' => w'.cell? ⟨hB, 0, none⟩ = some (.slice (some ⟨g0, 0, none⟩) n n) ∧ w'.cell? ⟨b, 2 + k * 3 + 1, none⟩ = some (.pointer px))
          (((try dsimp only); (repeat' apply And.intro) <;> (repeat (with_reducible (first | exact c0 | exact e0 | refine cellD ?_ | refine cellS ?_ d4 | refine cellS ?_ hbg0)))))
          ((go_at_call 56; (with_reducible refine N1.mono ?_); rintro e w3 ⟨rfl, rfl⟩))
        rename_i hHeld
        clear hHeld
        clear c0 c1 c2 e0 hc0 hf0
        have T0 := S0.drew
        have T1 := S1.drew
        have T2 := S2.drew
        have TX := SX.drew
        have TY := SY.drew
        have tb := sb.drew
        clear S0 S1 S2 SX SY sb N1
        generalize (wr.setCell ⟨g0, k, none⟩ (.int .i64 x)).drew = W1 at T0 T1 T2 TX TY tb ⊢
        obtain ⟨e1, _⟩ := (RBB W1 tb).get (o := 2 + k * 3 + 2) (by omega) (slot_right k (by omega))
        simp only [slotV, List.getD_eq_getElem?_getD, hy, Option.getD_some, hpy] at e1
        obtain ⟨c0, c1, c2, _⟩ := TX.cells
        obtain ⟨g1', _, eg, _, _, _, hc1, hf1⟩ := T1.get (k := k) (by simp [HR.out]; omega)
        cases eg
        have N2 := number_any W1.drew b s σ (RBB W1 tb) y y1 y2
        rw [hpy] at N2
        have U1 := T1.set_ k y
        rw [set_takes hlt hy] at U1
        have U0 := T0.other (a := ⟨g1, k, none⟩) (fun e => by simp [Value.ownBlock] at e; omega) (iv y)
        have U2 := T2.other (a := ⟨g1, k, none⟩) (fun e => by simp [Value.ownBlock] at e; omega) (iv y)
        have UX := TX.other (p := ⟨g1, k, none⟩) (by simp; omega) (iv y)
        have UY := TY.other (p := ⟨g1, k, none⟩) (by simp; omega) (iv y)
        have ub := tb.setCell (p := ⟨g1, k, none⟩) (by simp; omega) (iv y)
        clear T0 T1 T2 TX TY hx hy hpx hpy
        go_wp2_with fail
        go_region_held3 (fun w' => w'.cell? ⟨hB, 1, none⟩ = some (.slice (some ⟨g1, 0, none⟩) n n) ∧ w'.cell? ⟨b, 2 + k * 3 + 2, none⟩ = some (.pointer py))
          (((try dsimp only); (repeat' apply And.intro) <;> (repeat (with_reducible (first | exact c1 | exact e1 | refine cellD ?_ | refine cellS ?_ d5 | refine cellS ?_ hbg1)))))
          ((go_at_call 56; (with_reducible refine N2.mono ?_); rintro e w4 ⟨rfl, rfl⟩))
        rename_i hHeld
        clear hHeld
        go_wp2_with fail
        go_roundw
        case rel => exact ⟨k + 1, by omega, by go_num, U0, U1, U2, UX, UY, ub.drew⟩
        case measure => simp [intOf]; omega
      · obtain rfl : k = n := by omega
        have hR0 : Row wr (w.heap.size + 1) (.slice (some ⟨g0, 0, none⟩) k k) σ.ls := by rw [List.take_of_length_le (by rw [HL.out]; exact Nat.le_refl _), Nat.sub_self, List.replicate_zero, List.append_nil] at R0; exact R0
        have hR1 : Row wr (w.heap.size + 1) (.slice (some ⟨g1, 0, none⟩) k k) σ.rs := by rw [List.take_of_length_le (by rw [HR.out]; exact Nat.le_refl _), Nat.sub_self, List.replicate_zero, List.append_nil] at R1; exact R1
        obtain ⟨c0, c1, c2, _⟩ := X.cells
        clear R0 R1
        go_wp2_with fail
        go_loopw [5, 56] (fun _ i wr => ∃ j : Nat, j ≤ m ∧ i = .int .i64 j ∧ Row wr (w.heap.size + 1) (.slice (some ⟨g0, 0, none⟩) k k) σ.ls ∧ Row wr (w.heap.size + 1) (.slice (some ⟨g1, 0, none⟩) k k) σ.rs ∧
          Row wr (w.heap.size + 1) (.slice (some ⟨g2, 0, none⟩) m m) (σ.ts.take j ++ List.replicate (m - j) 0) ∧ Blk3 wr hB (.slice (some ⟨g0, 0, none⟩) k k) (.slice (some ⟨g1, 0, none⟩) k k) (.slice (some ⟨g2, 0, none⟩) m m) 25 ∧
          Blk3 wr w.heap.size (.slice none 0 0) (.slice none 0 0) (.slice none 0 0) 25 ∧ Below w.heap.size w wr) (fun _ i _ => m - (intOf i).toNat)
        case atStart => exact ⟨0, Nat.zero_le _, rfl, hR0, hR1, by simpa using R2, X, Y, hb⟩
        case round =>
          clear hR0 hR1 R2 X Y hb c0 c1 c2
          obtain ⟨j, hj, rfl, R0, R1, R2, X, Y, hb⟩ := hrel
          by_cases hlt : j < m
          · obtain ⟨x, hx⟩ : ∃ x, σ.ts[j]? = some x := ⟨_, List.getElem?_eq_getElem (by rw [HT.out]; exact hlt)⟩
            obtain ⟨x1, x2⟩ := BT.out x (List.mem_of_getElem? hx)
            obtain ⟨px, hpx⟩ := ptrV_form b x
            obtain ⟨e0, _⟩ := (RBB wr hb).get (o := 35 + j) (by omega) (slot_root j (by omega))
            simp only [slotV, List.getD_eq_getElem?_getD, hx, Option.getD_some, hpx] at e0
            obtain ⟨c0, c1, c2, _⟩ := X.cells
            obtain ⟨g2', _, eg, _, _, _, hc0, hf0⟩ := R2.get (k := j) (by simp [HT.out]; omega)
            cases eg
            have N1 := number_any wr.drew b s σ (RBB wr hb) x x1 x2
            rw [hpx] at N1
            have S2 := R2.set_ j x
            rw [set_takes hlt hx] at S2
            have S0 := R0.other (a := ⟨g2, j, none⟩) (fun e => by simp [Value.ownBlock] at e; omega) (iv x)
            have S1 := R1.other (a := ⟨g2, j, none⟩) (fun e => by simp [Value.ownBlock] at e; omega) (iv x)
            have SX := X.other (p := ⟨g2, j, none⟩) (by simp; omega) (iv x)
            have SY := Y.other (p := ⟨g2, j, none⟩) (by simp; omega) (iv x)
            have sb := hb.setCell (p := ⟨g2, j, none⟩) (by simp; omega) (iv x)
            have hj0 : (j : Int) < 3 := by omega
            clear R0 R1 R2 X Y hx hpx
            go_wp2_with fail
            go_region_held3 (fun w' => w'.cell? ⟨hB, 2, none⟩ = some (.slice (some ⟨g2, 0, none⟩) m m) ∧ w'.cell? ⟨b, 35 + j, none⟩ = some (.pointer px))
              (((try dsimp only); (repeat' apply And.intro) <;> (repeat (with_reducible (first | exact c2 | exact e0 | refine cellD ?_ | refine cellS ?_ d6 | refine cellS ?_ hbg2)))))
              ((go_at_call 56; (with_reducible refine N1.mono ?_); rintro e w3 ⟨rfl, rfl⟩))
            rename_i hHeld
            clear hHeld
            go_wp2_with fail
            go_roundw
            case rel => exact ⟨j + 1, by omega, by go_num, S0, S1, S2, SX, SY, sb.drew⟩
            case measure => simp [intOf]; omega
          · obtain rfl : j = m := by omega
            have hR2 : Row wr (w.heap.size + 1) (.slice (some ⟨g2, 0, none⟩) j j) σ.ts := by rw [List.take_of_length_le (by rw [HT.out]; exact Nat.le_refl _), Nat.sub_self, List.replicate_zero, List.append_nil] at R2; exact R2
            obtain ⟨c0, c1, c2, _⟩ := X.cells
            obtain ⟨y0, y1, y2, f0, f1, f2⟩ := Y.cells
            have ap : ∀ {g g' n n' : Nat}, g ≠ g' → Apart (.slice (some ⟨g, 0, none⟩) n n) (.slice (some ⟨g', 0, none⟩) n' n') := fun hne e he h2 => by
              simp only [Value.ownBlock, Option.some.injEq] at he h2
              omega
            obtain ⟨hH, hBf⟩ := made_done (h := ⟨σ.ls, σ.rs, σ.ts⟩) (Nat.le_refl _) R0 R1 hR2 (ap d7) (ap d8) (ap d9) hb
            clear R0 R1 R2 hR2 X Y hb
            go_wp2_with fail
            refine bodyPost_ret (v := .agg #[.slice (some ⟨g0, 0, none⟩) k k, .slice (some ⟨g1, 0, none⟩) k k, .slice (some ⟨g2, 0, none⟩) j j]) ?_ rfl ⟨_, rfl, hH, hBf⟩
            simp [results, Try.results33, go_sem, y0, y1, y2]
end Go.Proofs.Ytpimndfafibgeaa
