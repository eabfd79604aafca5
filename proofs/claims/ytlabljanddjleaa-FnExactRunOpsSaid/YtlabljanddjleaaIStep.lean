/- What the nodes of operations do to a store behind a pointer. -/
import Derived.Test.YtlabljanddjleaaIOp
import Derived.Test.YtlabljanddjleaaSDoH
import Derived.Test.YtlabljanddjleaaBlk1
import Derived.Test.YtlabljanddjleaaIAlloc
import Derived.BigRegion
import Derived.StillTailTactics
namespace Go.Proofs.Ytlabljanddjleaa
open Go.RowKit

/-- A variable that holds a store, apart from the store's rows. -/
def StoAt (w : World) (lo b : Nat) (C : Cp) : Prop := ∃ v0 v1 v2 v3, Blk4 w b v0 v1 v2 v3 36 ∧ Cv w lo (.agg #[v0, v1, v2, v3]) C ∧ v0.ownBlock ≠ some b ∧ v1.ownBlock ≠ some b ∧ v2.ownBlock ≠ some b ∧ v3.ownBlock ≠ some b
theorem StoAt.below {w w' : World} {lo b : Nat} {C : Cp} (h : StoAt w lo b C) (hb : Below w.heap.size w w') : StoAt w' lo b C := by
  obtain ⟨v0, v1, v2, v3, X, hv, o⟩ := h
  exact ⟨v0, v1, v2, v3, X.below hb, hv.below hb, o⟩
theorem StoAt.lt {w : World} {lo b : Nat} {C : Cp} (h : StoAt w lo b C) : b < w.heap.size := by
  obtain ⟨v0, v1, v2, v3, X, _⟩ := h
  exact X.lt
/-- A step's end. -/
def StepPost (w : World) (lo b : Nat) (C : Cp) (o : Opv) (e : Ending) (w' : World) : Prop := e = .returned (.int .i64 (runE C o)) ∧ StoAt w' lo b (runC C o) ∧ Below lo w w'
theorem Below.lower {w w' : World} {lo : Nat} (h : Below w.heap.size w w') (hl : lo ≤ w.heap.size) : Below lo w w' := h.mono hl
/-- The parts of a store's variable whose roots are not empty. -/
theorem StoAt.open_ {w : World} {lo b : Nat} {C : Cp} (h : StoAt w lo b C) : ∃ A0 n0 c0 A1 n1 c1 A2 n2 c2 A3 n3 c3, Blk4 w b (.slice A0 n0 c0) (.slice A1 n1 c1) (.slice A2 n2 c2) (.slice A3 n3 c3) 36 ∧ Cv w lo (.agg #[.slice A0 n0 c0, .slice A1 n1 c1, .slice A2 n2 c2, .slice A3 n3 c3]) C ∧
    ((.slice A0 n0 c0 : Value).ownBlock ≠ some b ∧ (.slice A1 n1 c1 : Value).ownBlock ≠ some b ∧ (.slice A2 n2 c2 : Value).ownBlock ≠ some b ∧ (.slice A3 n3 c3 : Value).ownBlock ≠ some b) ∧
    (Row w lo (.slice A0 n0 c0) C.h.l ∧ Row w lo (.slice A1 n1 c1) C.h.r ∧ Row w lo (.slice A2 n2 c2) C.h.t) ∧ (C.h.l.length = n0 ∧ C.h.r.length = n1 ∧ C.h.t.length = n2) := by
  obtain ⟨v0, v1, v2, v3, X, hv, o⟩ := h
  have hvo := hv
  obtain ⟨A0, n0, c0, A1, n1, c1, A2, n2, c2, A3, n3, c3, ev, _, ⟨r0, r1, r2, _⟩, ⟨l0, l1, l2, _⟩, _, _⟩ := hvo.open_
  cases ev
  exact ⟨A0, n0, c0, A1, n1, c1, A2, n2, c2, A3, n3, c3, X, hv, o, ⟨r0, r1, r2⟩, l0.out, l1.out, l2.out⟩

set_option maxHeartbeats 1000000 in
theorem sideOf_any (w : World) (x y z : Value) (r : Bool) : Calls Try.prog 84 #[.agg #[x, y, z], .bool r] w fun e w' => e = .returned (if r = true then y else x) ∧ Below w.heap.size w w' := by
  cases r
  all_goals
    go_enter Try.func84, Try.ntmps84
    go_wp2_with fail
    go_ret
    exact ⟨rfl, (Below.refl _ _).alloc (Nat.le_refl _) _⟩

set_option maxRecDepth 100000 in
set_option maxHeartbeats 2000000 in
theorem clearStep_any (w : World) (lo b : Nat) (C : Cp) (hs : StoAt w lo b C) (hlo : lo ≤ b) (a : Int) (hr : runB C ⟨7, a, 0⟩ = true) :
    Calls Try.prog 89 #[.agg #[.int .i64 a], .pointer (some ⟨b, 0, none⟩)] w (StepPost w lo b C ⟨7, a, 0⟩) := by
  have hE : Hid (runE C ⟨7, a, 0⟩ = 0) := by unfold Hid runE doE; rw [if_pos hr]; simp
  obtain ⟨A0, n0, c0, A1, n1, c1, A2, n2, c2, A3, n3, c3, X, hv, ⟨o0, o1, o2, o3⟩, ⟨r0, r1, r2⟩, e0, e1, e2⟩ := hs.open_
  obtain ⟨hC, ho⟩ := runB_iff.1 hr
  obtain ⟨hvh, _⟩ := stoB_parts hC
  have h8 := hvB_len hvh
  obtain ⟨_, ⟨a0, a1, _⟩, ⟨b0, _⟩, hb7, hbn⟩ := opB_iff.1 ho
  simp only at a0 a1 b0 hb7 hbn
  obtain ⟨ja, rfl⟩ := Int.eq_ofNat_of_zero_le a0
  have na : ja < n2 := by omega
  have nai : (ja : Int) < (n2 : Int) := by omega
  have TA := rootA_at a0 a1
  simp only [Int.toNat_natCast] at TA
  obtain ⟨g2, xa, rfl, hlo2, hg2, hxa, hca, hza⟩ := r2.get (k := ja) (by omega)
  have hxa9 := hxa.out
  rw [TA, Option.some.injEq] at hxa9
  have nb2 : b ≠ g2 := fun e => o2 (by rw [e]; rfl)
  have hR : Hid (runC C ⟨7, (ja : Int), 0⟩ = ⟨⟨C.h.l, C.h.r, C.h.t.set ja (-1)⟩, C.c⟩) := by unfold Hid runC doC; rw [if_pos hr]; simp
  have Y1 := Blk1.new w (.int .i64 (ja : Int)) 91
  have X1 := X.alloc (.cells #[.int .i64 (ja : Int)] 91)
  have V1 := hv.alloc (.cells #[.int .i64 (ja : Int)] 91)
  have B1 : Below lo w (w.alloc (.cells #[.int .i64 (ja : Int)] 91)) := (Below.refl lo w).alloc (by have := X.lt; omega) _
  have hWs : b < w.heap.size := X.lt
  have z1 : w.heap.size + 1 ≤ (w.alloc (.cells #[.int .i64 (ja : Int)] 91)).heap.size := by simp
  have ca1 := cellA hca (.cells #[.int .i64 (ja : Int)] 91)
  go_enter Try.func89, Try.ntmps89
  go_wp2_with fail
  generalize (w.alloc (.cells #[.int .i64 (ja : Int)] 91)) = W at Y1 X1 V1 B1 z1 ca1 ⊢
  obtain ⟨y0, _⟩ := Y1.cells
  obtain ⟨x0, x1, x2, x3, _⟩ := X1.cells
  obtain ⟨_, _, e9, _, _, _, _, za1⟩ := V1.rowsO.2.2.get (k := ja) (by omega)
  cases e9
  clear ho hs X hv r0 r1 r2 hca hza TA hxa
  go_region
  have X2 : Blk4 W.drew b _ _ _ _ _ := X1
  have V2 : Cv W.drew _ _ _ := V1
  have B2 := B1.drew
  go_wp2_with fail
  go_ret
  unfold StepPost; rw [hE.out]
  refine ⟨rfl, ?_, B2.setCell (by simpa using hlo2) _⟩
  rw [hR.out]
  exact ⟨_, _, _, _, X2.other (by simpa using nb2) _, V2.putTO ja (-1), o0, o1, o2, o3⟩

set_option maxRecDepth 100000 in
set_option maxHeartbeats 4000000 in
theorem copyStep_any (w : World) (lo b : Nat) (C : Cp) (hs : StoAt w lo b C) (hlo : lo ≤ b) (a q : Int) (hr : runB C ⟨2, a, q⟩ = true) :
    Calls Try.prog 90 #[.agg #[.int .i64 a, .int .i64 q], .pointer (some ⟨b, 0, none⟩)] w (StepPost w lo b C ⟨2, a, q⟩) := by
  have hE : Hid (runE C ⟨2, a, q⟩ = 0) := by unfold Hid runE doE; rw [if_pos hr]; simp
  obtain ⟨A0, n0, c0, A1, n1, c1, A2, n2, c2, A3, n3, c3, X, hv, ⟨o0, o1, o2, o3⟩, ⟨r0, r1, r2⟩, e0, e1, e2⟩ := hs.open_
  obtain ⟨hC, ho⟩ := runB_iff.1 hr
  obtain ⟨hvh, _⟩ := stoB_parts hC
  have h8 := hvB_len hvh
  obtain ⟨_, ⟨a0, a1, _⟩, ⟨b0, _⟩, hb7, hbn⟩ := opB_iff.1 ho
  simp only at a0 a1 b0 hb7 hbn
  obtain ⟨ja, rfl⟩ := Int.eq_ofNat_of_zero_le a0
  have na : ja < n2 := by omega
  have nai : (ja : Int) < (n2 : Int) := by omega
  have TA := rootA_at a0 a1
  simp only [Int.toNat_natCast] at TA
  obtain ⟨g2, xa, rfl, hlo2, hg2, hxa, hca, hza⟩ := r2.get (k := ja) (by omega)
  have hxa9 := hxa.out
  rw [TA, Option.some.injEq] at hxa9
  have nb2 : b ≠ g2 := fun e => o2 (by rw [e]; rfl)
  obtain ⟨jb, rfl⟩ := Int.eq_ofNat_of_zero_le b0
  have hbt : (jb : Int) < C.h.t.length := hbn (by omega)
  have nb : jb < n2 := by omega
  have nbi : (jb : Int) < (n2 : Int) := by omega
  have TB := rootA_at b0 hbt
  simp only [Int.toNat_natCast] at TB
  obtain ⟨_, xb, eb, _, _, hxb, hcb, _⟩ := r2.get (k := jb) (by omega)
  cases eb
  have hxb9 := hxb.out
  rw [TB, Option.some.injEq] at hxb9
  have hR : Hid (runC C ⟨2, (ja : Int), (jb : Int)⟩ = ⟨⟨C.h.l, C.h.r, C.h.t.set ja xb⟩, C.c⟩) := by unfold Hid runC doC; rw [if_pos hr]; simp [hxb9]
  have Y1 := Blk2.new w (.int .i64 (ja : Int)) (.int .i64 (jb : Int)) 93
  have X1 := X.alloc (.cells #[.int .i64 (ja : Int), .int .i64 (jb : Int)] 93)
  have V1 := hv.alloc (.cells #[.int .i64 (ja : Int), .int .i64 (jb : Int)] 93)
  have B1 : Below lo w (w.alloc (.cells #[.int .i64 (ja : Int), .int .i64 (jb : Int)] 93)) := (Below.refl lo w).alloc (by have := X.lt; omega) _
  have hWs : b < w.heap.size := X.lt
  have z1 : w.heap.size + 1 ≤ (w.alloc (.cells #[.int .i64 (ja : Int), .int .i64 (jb : Int)] 93)).heap.size := by simp
  have cb1 := cellA hcb (.cells #[.int .i64 (ja : Int), .int .i64 (jb : Int)] 93)
  have ca1 := cellA hca (.cells #[.int .i64 (ja : Int), .int .i64 (jb : Int)] 93)
  go_enter Try.func90, Try.ntmps90
  go_wp2_with fail
  generalize (w.alloc (.cells #[.int .i64 (ja : Int), .int .i64 (jb : Int)] 93)) = W at Y1 X1 V1 B1 z1 cb1 ca1 ⊢
  obtain ⟨y0, y1, _⟩ := Y1.cells
  obtain ⟨x0, x1, x2, x3, _⟩ := X1.cells
  obtain ⟨_, _, e9, _, _, _, _, za1⟩ := V1.rowsO.2.2.get (k := ja) (by omega)
  cases e9
  clear ho hs X hv r0 r1 r2 hca hza hcb TA hxa TB hxb hxa9 hxb9
  go_still_tail 17, (by kernel_rfl)
  change wpList _ _ _ _ _ W.drew
  have X2 : Blk4 W.drew b _ _ _ _ _ := X1
  have V2 : Cv W.drew _ _ _ := V1
  have B2 := B1.drew
  have ca2 := cellD ca1
  have za2 : W.drew.frozen? ⟨g2, ja, none⟩ = false := za1
  generalize W.drew = W2 at X2 V2 B2 ca2 za2 ⊢
  go_wp2_with fail
  go_ret
  unfold StepPost; rw [hE.out]
  refine ⟨rfl, ?_, B2.setCell (by simpa using hlo2) _⟩
  rw [hR.out]
  exact ⟨_, _, _, _, X2.other (by simpa using nb2) _, V2.putTO ja xb, o0, o1, o2, o3⟩

set_option maxRecDepth 100000 in
set_option maxHeartbeats 4000000 in
theorem readStep3_any (w : World) (lo b : Nat) (C : Cp) (hs : StoAt w lo b C) (hlo : lo ≤ b) (a q : Int) (hr : runB C ⟨3, a, q⟩ = true) :
    Calls Try.prog 91 #[.agg #[.int .i64 a, .int .i64 q, .bool false], .pointer (some ⟨b, 0, none⟩)] w (StepPost w lo b C ⟨3, a, q⟩) := by
  obtain ⟨A0, n0, c0, A1, n1, c1, A2, n2, c2, A3, n3, c3, X, hv, ⟨o0, o1, o2, o3⟩, ⟨r0, r1, r2⟩, e0, e1, e2⟩ := hs.open_
  obtain ⟨hC, ho⟩ := runB_iff.1 hr
  obtain ⟨hvh, _⟩ := stoB_parts hC
  have h8 := hvB_len hvh
  obtain ⟨_, ⟨a0, a1, _⟩, ⟨b0, _⟩, hb7, hbn⟩ := opB_iff.1 ho
  simp only at a0 a1 b0 hb7 hbn
  obtain ⟨ja, rfl⟩ := Int.eq_ofNat_of_zero_le a0
  have na : ja < n2 := by omega
  have nai : (ja : Int) < (n2 : Int) := by omega
  have TA := rootA_at a0 a1
  simp only [Int.toNat_natCast] at TA
  obtain ⟨g2, xa, rfl, hlo2, hg2, hxa, hca, hza⟩ := r2.get (k := ja) (by omega)
  have hxa9 := hxa.out
  rw [TA, Option.some.injEq] at hxa9
  have nb2 : b ≠ g2 := fun e => o2 (by rw [e]; rfl)
  obtain ⟨jb, rfl⟩ := Int.eq_ofNat_of_zero_le b0
  have hbt : (jb : Int) < C.h.t.length := hbn (by omega)
  have nb : jb < n2 := by omega
  have nbi : (jb : Int) < (n2 : Int) := by omega
  have TB := rootA_at b0 hbt
  simp only [Int.toNat_natCast] at TB
  obtain ⟨_, xb, eb, _, _, hxb, hcb, _⟩ := r2.get (k := jb) (by omega)
  cases eb
  have hxb9 := hxb.out
  rw [TB, Option.some.injEq] at hxb9
  have RG := rootA_range hvh b0 hbt
  rcases RG with e9 | ⟨kk, e9, hkk⟩
  · obtain rfl : xb = -1 := hxb9.symm.trans e9
    have hE : Hid (runE C ⟨3, (ja : Int), (jb : Int)⟩ = 2) := by unfold Hid runE doE; rw [if_pos hr]; simp [e9]
    have hR : Hid (runC C ⟨3, (ja : Int), (jb : Int)⟩ = C) := by unfold Hid runC doC; rw [if_pos hr]; simp [e9]
    clear e9 hxb9
    have Y1 := Blk3.new w (.int .i64 (ja : Int)) (.int .i64 (jb : Int)) (.bool false) 95
    have X1 := X.alloc (.cells #[.int .i64 (ja : Int), .int .i64 (jb : Int), .bool false] 95)
    have V1 := hv.alloc (.cells #[.int .i64 (ja : Int), .int .i64 (jb : Int), .bool false] 95)
    have B1 : Below lo w (w.alloc (.cells #[.int .i64 (ja : Int), .int .i64 (jb : Int), .bool false] 95)) := (Below.refl lo w).alloc (by have := X.lt; omega) _
    have hWs : b < w.heap.size := X.lt
    have z1 : w.heap.size + 1 ≤ (w.alloc (.cells #[.int .i64 (ja : Int), .int .i64 (jb : Int), .bool false] 95)).heap.size := by simp
    have cb1 := cellA hcb (.cells #[.int .i64 (ja : Int), .int .i64 (jb : Int), .bool false] 95)
    have ca1 := cellA hca (.cells #[.int .i64 (ja : Int), .int .i64 (jb : Int), .bool false] 95)
    go_enter Try.func91, Try.ntmps91
    go_wp2_with fail
    generalize (w.alloc (.cells #[.int .i64 (ja : Int), .int .i64 (jb : Int), .bool false] 95)) = W at Y1 X1 V1 B1 z1 cb1 ca1 ⊢
    obtain ⟨y0, y1, y2, _⟩ := Y1.cells
    obtain ⟨x0, x1, x2, x3, _⟩ := X1.cells
    go_quiet (fail)
    have X2 : Blk4 (W.drewN nq) _ _ _ _ _ _ := X1
    have V2 : Cv (W.drewN nq) _ _ _ := V1
    have B2 := below_drewN B1 nq
    go_wp2_with fail
    go_ret
    unfold StepPost; rw [hE.out]
    exact ⟨rfl, by rw [hR.out]; exact ⟨_, _, _, _, X2, V2, o0, o1, o2, o3⟩, B2⟩
  · have hkn : kk < n0 := by omega
    have hk1 : ¬ ((kk : Int) = -1) := by omega
    have hkb : ((kk : Int) == -1) = false := by rw [beq_eq_false_iff_ne]; omega
    obtain rfl : xb = (kk : Int) := hxb9.symm.trans e9
    obtain ⟨g0, xl, rfl, hlo3, hg3, hxl, hcl, _⟩ := r0.get (k := kk) (by omega)
    have hxl9 : C.h.l.getD kk (-1) = xl := by rw [List.getD_eq_getElem?_getD, hxl.out]; rfl
    have hE : Hid (runE C ⟨3, (ja : Int), (jb : Int)⟩ = 0) := by unfold Hid runE doE; rw [if_pos hr]; simp [e9, hk1]
    have hR : Hid (runC C ⟨3, (ja : Int), (jb : Int)⟩ = ⟨⟨C.h.l, C.h.r, C.h.t.set ja xl⟩, C.c⟩) := by rw [← hxl9]; unfold Hid runC doC; rw [if_pos hr]; simp [e9, hk1]
    have nb3 : b ≠ g0 := fun e => o0 (by rw [e]; rfl)
    have ng : g0 ≠ g2 := by obtain ⟨_, _, _, _, ee, ⟨_, _, _, ee2, _, _, _, _, a02, a12⟩, _⟩ := hv; cases ee; cases ee2; exact fun h => a02 g0 rfl (by rw [h]; rfl)
    have nw : w.heap.size ≠ g2 := by omega
    have hki : (kk : Int) < (n0 : Int) := by omega
    clear e9 hxb9 hxl9 hk1
    have Y1 := Blk3.new w (.int .i64 (ja : Int)) (.int .i64 (jb : Int)) (.bool false) 95
    have X1 := X.alloc (.cells #[.int .i64 (ja : Int), .int .i64 (jb : Int), .bool false] 95)
    have V1 := hv.alloc (.cells #[.int .i64 (ja : Int), .int .i64 (jb : Int), .bool false] 95)
    have B1 : Below lo w (w.alloc (.cells #[.int .i64 (ja : Int), .int .i64 (jb : Int), .bool false] 95)) := (Below.refl lo w).alloc (by have := X.lt; omega) _
    have hWs : b < w.heap.size := X.lt
    have z1 : w.heap.size + 1 ≤ (w.alloc (.cells #[.int .i64 (ja : Int), .int .i64 (jb : Int), .bool false] 95)).heap.size := by simp
    have cb1 := cellA hcb (.cells #[.int .i64 (ja : Int), .int .i64 (jb : Int), .bool false] 95)
    have ca1 := cellA hca (.cells #[.int .i64 (ja : Int), .int .i64 (jb : Int), .bool false] 95)
    have cl1 := cellA hcl (.cells #[.int .i64 (ja : Int), .int .i64 (jb : Int), .bool false] 95)
    go_enter Try.func91, Try.ntmps91
    go_wp2_with fail
    generalize (w.alloc (.cells #[.int .i64 (ja : Int), .int .i64 (jb : Int), .bool false] 95)) = W at Y1 X1 V1 B1 z1 cb1 ca1 cl1 ⊢
    obtain ⟨y0, y1, y2, _⟩ := Y1.cells
    obtain ⟨x0, x1, x2, x3, _⟩ := X1.cells
    clear ho hs X hv r0 r1 r2 hca hza hcb TA hxa TB hcl hxb
    go_quiet (fail)
    have X2 : Blk4 (W.drewN nq) _ _ _ _ _ _ := X1
    have Y2 : Blk3 (W.drewN nq) _ _ _ _ _ := Y1
    have V2 : Cv (W.drewN nq) _ _ _ := V1
    have B2 := below_drewN B1 nq
    have z2 : w.heap.size + 1 ≤ (W.drewN nq).heap.size := z1
    clear X1 Y1 V1 B1 z1 x0 x1 x2 x3 y0 y1 y2
    go_wp2_with fail
    generalize W.drewN nq = W2 at X2 Y2 V2 B2 z2 ⊢
    obtain ⟨y0, y1, y2, _⟩ := Y2.cells
    obtain ⟨x0, x1, x2, x3, _⟩ := X2.cells
    obtain ⟨_, vl2, e8, _, gl2, hl2, cl2, _⟩ := V2.rowsO.1.get (k := kk) (by omega)
    cases e8
    obtain rfl : vl2 = xl := by have h9 := hl2.out; rw [hxl.out] at h9; simpa using h9.symm
    clear hl2 hxl
    go_region_held3 (fun w' => w'.cell? ⟨w.heap.size, 0, none⟩ = some (.int .i64 (ja : Int)) ∧ w'.cell? ⟨w.heap.size, 1, none⟩ = some (.int .i64 (jb : Int)) ∧ w'.cell? ⟨w.heap.size, 2, none⟩ = some (.bool false) ∧ w'.cell? ⟨b, 0, none⟩ = some (.slice (some ⟨g0, 0, none⟩) n0 c0) ∧ w'.cell? ⟨b, 1, none⟩ = some (.slice A1 n1 c1) ∧ w'.cell? ⟨b, 2, none⟩ = some (.slice (some ⟨g2, 0, none⟩) n2 c2) ∧ w'.cell? ⟨b, 3, none⟩ = some (.slice A3 n3 c3) ∧ w'.cell? ⟨g0, kk, none⟩ = some (.int .i64 vl2))
      (((try dsimp only); (repeat' apply And.intro) <;> (with_reducible (first | exact cellSo p0 nw | exact cellSo p1 nw | exact cellSo p2 nw | exact cellSo q0 nb2 | exact cellSo q1 nb2 | exact cellSo q2 nb2 | exact cellSo q3 nb2 | exact cellSo cl3 ng | exact p0 | exact p1 | exact p2 | exact q0 | exact q1 | exact q2 | exact q3 | exact cl3 | exact cellD y0 | exact cellD y1 | exact cellD y2 | exact cellD x0 | exact cellD x1 | exact cellD x2 | exact cellD x3 | exact cellD cl2 | exact y0 | exact y1 | exact y2 | exact x0 | exact x1 | exact x2 | exact x3 | exact cl2))))
      ((go_at_call 84; (with_reducible refine (sideOf_any W2.drew _ _ _ _).mono ?_); rintro e w3 ⟨rfl, hb30⟩; (have hb3 : Below W2.heap.size W2 w3 := (Below.refl W2.heap.size W2).drew.trans hb30); (have X3 := X2.below hb3); (have Y3 := Y2.below hb3); (have V3 := V2.below hb3); (obtain ⟨p0, p1, p2, _⟩ := Y3.cells); (obtain ⟨q0, q1, q2, q3, _⟩ := X3.cells); (have cl3 := (hb3.cell (p := ⟨g0, kk, none⟩) gl2).trans cl2); (obtain ⟨_, vs3, e7, _, _, _, cs3, fs3⟩ := V3.rowsO.2.2.get (k := ja) (by omega)); cases e7))
    rename_i hHeld
    clear hHeld
    have B3 : Below lo w w3 := B2.trans (hb3.mono (by omega))
    go_wp2_with fail
    go_ret
    unfold StepPost; rw [hE.out]
    refine ⟨rfl, ?_, B3.setCell (by simpa using hlo2) _⟩
    rw [hR.out]
    exact ⟨_, _, _, _, X3.other (by simpa using nb2) _, V3.putTO ja _, o0, o1, o2, o3⟩

set_option maxRecDepth 100000 in
set_option maxHeartbeats 4000000 in
theorem readStep4_any (w : World) (lo b : Nat) (C : Cp) (hs : StoAt w lo b C) (hlo : lo ≤ b) (a q : Int) (hr : runB C ⟨4, a, q⟩ = true) :
    Calls Try.prog 91 #[.agg #[.int .i64 a, .int .i64 q, .bool true], .pointer (some ⟨b, 0, none⟩)] w (StepPost w lo b C ⟨4, a, q⟩) := by
  obtain ⟨A0, n0, c0, A1, n1, c1, A2, n2, c2, A3, n3, c3, X, hv, ⟨o0, o1, o2, o3⟩, ⟨r0, r1, r2⟩, e0, e1, e2⟩ := hs.open_
  obtain ⟨hC, ho⟩ := runB_iff.1 hr
  obtain ⟨hvh, _⟩ := stoB_parts hC
  have h8 := hvB_len hvh
  obtain ⟨_, ⟨a0, a1, _⟩, ⟨b0, _⟩, hb7, hbn⟩ := opB_iff.1 ho
  simp only at a0 a1 b0 hb7 hbn
  obtain ⟨ja, rfl⟩ := Int.eq_ofNat_of_zero_le a0
  have na : ja < n2 := by omega
  have nai : (ja : Int) < (n2 : Int) := by omega
  have TA := rootA_at a0 a1
  simp only [Int.toNat_natCast] at TA
  obtain ⟨g2, xa, rfl, hlo2, hg2, hxa, hca, hza⟩ := r2.get (k := ja) (by omega)
  have hxa9 := hxa.out
  rw [TA, Option.some.injEq] at hxa9
  have nb2 : b ≠ g2 := fun e => o2 (by rw [e]; rfl)
  obtain ⟨jb, rfl⟩ := Int.eq_ofNat_of_zero_le b0
  have hbt : (jb : Int) < C.h.t.length := hbn (by omega)
  have nb : jb < n2 := by omega
  have nbi : (jb : Int) < (n2 : Int) := by omega
  have TB := rootA_at b0 hbt
  simp only [Int.toNat_natCast] at TB
  obtain ⟨_, xb, eb, _, _, hxb, hcb, _⟩ := r2.get (k := jb) (by omega)
  cases eb
  have hxb9 := hxb.out
  rw [TB, Option.some.injEq] at hxb9
  have RG := rootA_range hvh b0 hbt
  rcases RG with e9 | ⟨kk, e9, hkk⟩
  · obtain rfl : xb = -1 := hxb9.symm.trans e9
    have hE : Hid (runE C ⟨4, (ja : Int), (jb : Int)⟩ = 2) := by unfold Hid runE doE; rw [if_pos hr]; simp [e9]
    have hR : Hid (runC C ⟨4, (ja : Int), (jb : Int)⟩ = C) := by unfold Hid runC doC; rw [if_pos hr]; simp [e9]
    clear e9 hxb9
    have Y1 := Blk3.new w (.int .i64 (ja : Int)) (.int .i64 (jb : Int)) (.bool true) 95
    have X1 := X.alloc (.cells #[.int .i64 (ja : Int), .int .i64 (jb : Int), .bool true] 95)
    have V1 := hv.alloc (.cells #[.int .i64 (ja : Int), .int .i64 (jb : Int), .bool true] 95)
    have B1 : Below lo w (w.alloc (.cells #[.int .i64 (ja : Int), .int .i64 (jb : Int), .bool true] 95)) := (Below.refl lo w).alloc (by have := X.lt; omega) _
    have hWs : b < w.heap.size := X.lt
    have z1 : w.heap.size + 1 ≤ (w.alloc (.cells #[.int .i64 (ja : Int), .int .i64 (jb : Int), .bool true] 95)).heap.size := by simp
    have cb1 := cellA hcb (.cells #[.int .i64 (ja : Int), .int .i64 (jb : Int), .bool true] 95)
    have ca1 := cellA hca (.cells #[.int .i64 (ja : Int), .int .i64 (jb : Int), .bool true] 95)
    go_enter Try.func91, Try.ntmps91
    go_wp2_with fail
    generalize (w.alloc (.cells #[.int .i64 (ja : Int), .int .i64 (jb : Int), .bool true] 95)) = W at Y1 X1 V1 B1 z1 cb1 ca1 ⊢
    obtain ⟨y0, y1, y2, _⟩ := Y1.cells
    obtain ⟨x0, x1, x2, x3, _⟩ := X1.cells
    go_quiet (fail)
    have X2 : Blk4 (W.drewN nq) _ _ _ _ _ _ := X1
    have V2 : Cv (W.drewN nq) _ _ _ := V1
    have B2 := below_drewN B1 nq
    go_wp2_with fail
    go_ret
    unfold StepPost; rw [hE.out]
    exact ⟨rfl, by rw [hR.out]; exact ⟨_, _, _, _, X2, V2, o0, o1, o2, o3⟩, B2⟩
  · have hkn : kk < n1 := by omega
    have hk1 : ¬ ((kk : Int) = -1) := by omega
    have hkb : ((kk : Int) == -1) = false := by rw [beq_eq_false_iff_ne]; omega
    obtain rfl : xb = (kk : Int) := hxb9.symm.trans e9
    obtain ⟨g1, xl, rfl, hlo3, hg3, hxl, hcl, _⟩ := r1.get (k := kk) (by omega)
    have hxl9 : C.h.r.getD kk (-1) = xl := by rw [List.getD_eq_getElem?_getD, hxl.out]; rfl
    have hE : Hid (runE C ⟨4, (ja : Int), (jb : Int)⟩ = 0) := by unfold Hid runE doE; rw [if_pos hr]; simp [e9, hk1]
    have hR : Hid (runC C ⟨4, (ja : Int), (jb : Int)⟩ = ⟨⟨C.h.l, C.h.r, C.h.t.set ja xl⟩, C.c⟩) := by rw [← hxl9]; unfold Hid runC doC; rw [if_pos hr]; simp [e9, hk1]
    have nb3 : b ≠ g1 := fun e => o1 (by rw [e]; rfl)
    have ng : g1 ≠ g2 := by obtain ⟨_, _, _, _, ee, ⟨_, _, _, ee2, _, _, _, _, a02, a12⟩, _⟩ := hv; cases ee; cases ee2; exact fun h => a12 g1 rfl (by rw [h]; rfl)
    have nw : w.heap.size ≠ g2 := by omega
    have hki : (kk : Int) < (n1 : Int) := by omega
    clear e9 hxb9 hxl9 hk1
    have Y1 := Blk3.new w (.int .i64 (ja : Int)) (.int .i64 (jb : Int)) (.bool true) 95
    have X1 := X.alloc (.cells #[.int .i64 (ja : Int), .int .i64 (jb : Int), .bool true] 95)
    have V1 := hv.alloc (.cells #[.int .i64 (ja : Int), .int .i64 (jb : Int), .bool true] 95)
    have B1 : Below lo w (w.alloc (.cells #[.int .i64 (ja : Int), .int .i64 (jb : Int), .bool true] 95)) := (Below.refl lo w).alloc (by have := X.lt; omega) _
    have hWs : b < w.heap.size := X.lt
    have z1 : w.heap.size + 1 ≤ (w.alloc (.cells #[.int .i64 (ja : Int), .int .i64 (jb : Int), .bool true] 95)).heap.size := by simp
    have cb1 := cellA hcb (.cells #[.int .i64 (ja : Int), .int .i64 (jb : Int), .bool true] 95)
    have ca1 := cellA hca (.cells #[.int .i64 (ja : Int), .int .i64 (jb : Int), .bool true] 95)
    have cl1 := cellA hcl (.cells #[.int .i64 (ja : Int), .int .i64 (jb : Int), .bool true] 95)
    go_enter Try.func91, Try.ntmps91
    go_wp2_with fail
    generalize (w.alloc (.cells #[.int .i64 (ja : Int), .int .i64 (jb : Int), .bool true] 95)) = W at Y1 X1 V1 B1 z1 cb1 ca1 cl1 ⊢
    obtain ⟨y0, y1, y2, _⟩ := Y1.cells
    obtain ⟨x0, x1, x2, x3, _⟩ := X1.cells
    clear ho hs X hv r0 r1 r2 hca hza hcb TA hxa TB hcl hxb
    go_quiet (fail)
    have X2 : Blk4 (W.drewN nq) _ _ _ _ _ _ := X1
    have Y2 : Blk3 (W.drewN nq) _ _ _ _ _ := Y1
    have V2 : Cv (W.drewN nq) _ _ _ := V1
    have B2 := below_drewN B1 nq
    have z2 : w.heap.size + 1 ≤ (W.drewN nq).heap.size := z1
    clear X1 Y1 V1 B1 z1 x0 x1 x2 x3 y0 y1 y2
    go_wp2_with fail
    generalize W.drewN nq = W2 at X2 Y2 V2 B2 z2 ⊢
    obtain ⟨y0, y1, y2, _⟩ := Y2.cells
    obtain ⟨x0, x1, x2, x3, _⟩ := X2.cells
    obtain ⟨_, vl2, e8, _, gl2, hl2, cl2, _⟩ := V2.rowsO.2.1.get (k := kk) (by omega)
    cases e8
    obtain rfl : vl2 = xl := by have h9 := hl2.out; rw [hxl.out] at h9; simpa using h9.symm
    clear hl2 hxl
    go_region_held3 (fun w' => w'.cell? ⟨w.heap.size, 0, none⟩ = some (.int .i64 (ja : Int)) ∧ w'.cell? ⟨w.heap.size, 1, none⟩ = some (.int .i64 (jb : Int)) ∧ w'.cell? ⟨w.heap.size, 2, none⟩ = some (.bool true) ∧ w'.cell? ⟨b, 0, none⟩ = some (.slice A0 n0 c0) ∧ w'.cell? ⟨b, 1, none⟩ = some (.slice (some ⟨g1, 0, none⟩) n1 c1) ∧ w'.cell? ⟨b, 2, none⟩ = some (.slice (some ⟨g2, 0, none⟩) n2 c2) ∧ w'.cell? ⟨b, 3, none⟩ = some (.slice A3 n3 c3) ∧ w'.cell? ⟨g1, kk, none⟩ = some (.int .i64 vl2))
      (((try dsimp only); (repeat' apply And.intro) <;> (with_reducible (first | exact cellSo p0 nw | exact cellSo p1 nw | exact cellSo p2 nw | exact cellSo q0 nb2 | exact cellSo q1 nb2 | exact cellSo q2 nb2 | exact cellSo q3 nb2 | exact cellSo cl3 ng | exact p0 | exact p1 | exact p2 | exact q0 | exact q1 | exact q2 | exact q3 | exact cl3 | exact cellD y0 | exact cellD y1 | exact cellD y2 | exact cellD x0 | exact cellD x1 | exact cellD x2 | exact cellD x3 | exact cellD cl2 | exact y0 | exact y1 | exact y2 | exact x0 | exact x1 | exact x2 | exact x3 | exact cl2))))
      ((go_at_call 84; (with_reducible refine (sideOf_any W2.drew _ _ _ _).mono ?_); rintro e w3 ⟨rfl, hb30⟩; (have hb3 : Below W2.heap.size W2 w3 := (Below.refl W2.heap.size W2).drew.trans hb30); (have X3 := X2.below hb3); (have Y3 := Y2.below hb3); (have V3 := V2.below hb3); (obtain ⟨p0, p1, p2, _⟩ := Y3.cells); (obtain ⟨q0, q1, q2, q3, _⟩ := X3.cells); (have cl3 := (hb3.cell (p := ⟨g1, kk, none⟩) gl2).trans cl2); (obtain ⟨_, vs3, e7, _, _, _, cs3, fs3⟩ := V3.rowsO.2.2.get (k := ja) (by omega)); cases e7))
    rename_i hHeld
    clear hHeld
    have B3 : Below lo w w3 := B2.trans (hb3.mono (by omega))
    go_wp2_with fail
    go_ret
    unfold StepPost; rw [hE.out]
    refine ⟨rfl, ?_, B3.setCell (by simpa using hlo2) _⟩
    rw [hR.out]
    exact ⟨_, _, _, _, X3.other (by simpa using nb2) _, V3.putTO ja _, o0, o1, o2, o3⟩

set_option maxRecDepth 100000 in
set_option maxHeartbeats 4000000 in
theorem putStep5_any (w : World) (lo b : Nat) (C : Cp) (hs : StoAt w lo b C) (hlo : lo ≤ b) (a q : Int) (hr : runB C ⟨5, a, q⟩ = true) :
    Calls Try.prog 83 #[.agg #[.int .i64 a, .int .i64 q, .bool false], .pointer (some ⟨b, 0, none⟩)] w (StepPost w lo b C ⟨5, a, q⟩) := by
  obtain ⟨A0, n0, c0, A1, n1, c1, A2, n2, c2, A3, n3, c3, X, hv, ⟨o0, o1, o2, o3⟩, ⟨r0, r1, r2⟩, e0, e1, e2⟩ := hs.open_
  obtain ⟨hC, ho⟩ := runB_iff.1 hr
  obtain ⟨hvh, _⟩ := stoB_parts hC
  have h8 := hvB_len hvh
  obtain ⟨_, ⟨a0, a1, _⟩, ⟨b0, _⟩, hb7, hbn⟩ := opB_iff.1 ho
  simp only at a0 a1 b0 hb7 hbn
  obtain ⟨ja, rfl⟩ := Int.eq_ofNat_of_zero_le a0
  have na : ja < n2 := by omega
  have nai : (ja : Int) < (n2 : Int) := by omega
  have TA := rootA_at a0 a1
  simp only [Int.toNat_natCast] at TA
  obtain ⟨g2, xa, rfl, hlo2, hg2, hxa, hca, hza⟩ := r2.get (k := ja) (by omega)
  have hxa9 := hxa.out
  rw [TA, Option.some.injEq] at hxa9
  have nb2 : b ≠ g2 := fun e => o2 (by rw [e]; rfl)
  obtain ⟨jb, rfl⟩ := Int.eq_ofNat_of_zero_le b0
  have hbt : (jb : Int) < C.h.t.length := hbn (by omega)
  have nb : jb < n2 := by omega
  have nbi : (jb : Int) < (n2 : Int) := by omega
  have TB := rootA_at b0 hbt
  simp only [Int.toNat_natCast] at TB
  obtain ⟨_, xb, eb, _, _, hxb, hcb, _⟩ := r2.get (k := jb) (by omega)
  cases eb
  have hxb9 := hxb.out
  rw [TB, Option.some.injEq] at hxb9
  have RG := rootA_range hvh a0 a1
  rcases RG with e9 | ⟨kk, e9, hkk⟩
  · obtain rfl : xa = -1 := hxa9.symm.trans e9
    have hE : Hid (runE C ⟨5, (ja : Int), (jb : Int)⟩ = 2) := by unfold Hid runE doE; rw [if_pos hr]; simp [e9]
    have hR : Hid (runC C ⟨5, (ja : Int), (jb : Int)⟩ = C) := by unfold Hid runC doC; rw [if_pos hr]; simp [e9]
    clear e9 hxa9
    have Y1 := Blk3.new w (.int .i64 (ja : Int)) (.int .i64 (jb : Int)) (.bool false) 81
    have X1 := X.alloc (.cells #[.int .i64 (ja : Int), .int .i64 (jb : Int), .bool false] 81)
    have V1 := hv.alloc (.cells #[.int .i64 (ja : Int), .int .i64 (jb : Int), .bool false] 81)
    have B1 : Below lo w (w.alloc (.cells #[.int .i64 (ja : Int), .int .i64 (jb : Int), .bool false] 81)) := (Below.refl lo w).alloc (by have := X.lt; omega) _
    have hWs : b < w.heap.size := X.lt
    have z1 : w.heap.size + 1 ≤ (w.alloc (.cells #[.int .i64 (ja : Int), .int .i64 (jb : Int), .bool false] 81)).heap.size := by simp
    have cb1 := cellA hcb (.cells #[.int .i64 (ja : Int), .int .i64 (jb : Int), .bool false] 81)
    have ca1 := cellA hca (.cells #[.int .i64 (ja : Int), .int .i64 (jb : Int), .bool false] 81)
    go_enter Try.func83, Try.ntmps83
    go_wp2_with fail
    generalize (w.alloc (.cells #[.int .i64 (ja : Int), .int .i64 (jb : Int), .bool false] 81)) = W at Y1 X1 V1 B1 z1 cb1 ca1 ⊢
    obtain ⟨y0, y1, y2, _⟩ := Y1.cells
    obtain ⟨x0, x1, x2, x3, _⟩ := X1.cells
    go_quiet (fail)
    have X2 : Blk4 (W.drewN nq) _ _ _ _ _ _ := X1
    have V2 : Cv (W.drewN nq) _ _ _ := V1
    have B2 := below_drewN B1 nq
    go_wp2_with fail
    go_ret
    unfold StepPost; rw [hE.out]
    exact ⟨rfl, by rw [hR.out]; exact ⟨_, _, _, _, X2, V2, o0, o1, o2, o3⟩, B2⟩
  · have hkn : kk < n0 := by omega
    have hk1 : ¬ ((kk : Int) = -1) := by omega
    have hkb : ((kk : Int) == -1) = false := by rw [beq_eq_false_iff_ne]; omega
    obtain rfl : xa = (kk : Int) := hxa9.symm.trans e9
    obtain ⟨g0, xl, rfl, hlo3, hg3, hxl, hcl, _⟩ := r0.get (k := kk) (by omega)
    have hxl9 : C.h.l.getD kk (-1) = xl := by rw [List.getD_eq_getElem?_getD, hxl.out]; rfl
    have hE : Hid (runE C ⟨5, (ja : Int), (jb : Int)⟩ = 0) := by unfold Hid runE doE; rw [if_pos hr]; simp [e9, hk1]
    have hR : Hid (runC C ⟨5, (ja : Int), (jb : Int)⟩ = ⟨⟨C.h.l.set kk xb, C.h.r, C.h.t⟩, C.c⟩) := by unfold Hid runC doC; rw [if_pos hr]; simp [e9, hk1, hxb9]
    have nb3 : b ≠ g0 := fun e => o0 (by rw [e]; rfl)
    have ng : g0 ≠ g2 := by obtain ⟨_, _, _, _, ee, ⟨_, _, _, ee2, _, _, _, _, a02, a12⟩, _⟩ := hv; cases ee; cases ee2; exact fun h => a02 g0 rfl (by rw [h]; rfl)
    have nw : w.heap.size ≠ g0 := by omega
    have ng2 := ng.symm
    have hki : (kk : Int) < (n0 : Int) := by omega
    clear e9 hxa9 hxl9 hk1
    have Y1 := Blk3.new w (.int .i64 (ja : Int)) (.int .i64 (jb : Int)) (.bool false) 81
    have X1 := X.alloc (.cells #[.int .i64 (ja : Int), .int .i64 (jb : Int), .bool false] 81)
    have V1 := hv.alloc (.cells #[.int .i64 (ja : Int), .int .i64 (jb : Int), .bool false] 81)
    have B1 : Below lo w (w.alloc (.cells #[.int .i64 (ja : Int), .int .i64 (jb : Int), .bool false] 81)) := (Below.refl lo w).alloc (by have := X.lt; omega) _
    have hWs : b < w.heap.size := X.lt
    have z1 : w.heap.size + 1 ≤ (w.alloc (.cells #[.int .i64 (ja : Int), .int .i64 (jb : Int), .bool false] 81)).heap.size := by simp
    have cb1 := cellA hcb (.cells #[.int .i64 (ja : Int), .int .i64 (jb : Int), .bool false] 81)
    have ca1 := cellA hca (.cells #[.int .i64 (ja : Int), .int .i64 (jb : Int), .bool false] 81)
    have cl1 := cellA hcl (.cells #[.int .i64 (ja : Int), .int .i64 (jb : Int), .bool false] 81)
    go_enter Try.func83, Try.ntmps83
    go_wp2_with fail
    generalize (w.alloc (.cells #[.int .i64 (ja : Int), .int .i64 (jb : Int), .bool false] 81)) = W at Y1 X1 V1 B1 z1 cb1 ca1 cl1 ⊢
    obtain ⟨y0, y1, y2, _⟩ := Y1.cells
    obtain ⟨x0, x1, x2, x3, _⟩ := X1.cells
    clear ho hs X hv r0 r1 r2 hca hza hcb TA hxa TB hcl hxl
    go_quiet (fail)
    have X2 : Blk4 (W.drewN nq) _ _ _ _ _ _ := X1
    have Y2 : Blk3 (W.drewN nq) _ _ _ _ _ := Y1
    have V2 : Cv (W.drewN nq) _ _ _ := V1
    have B2 := below_drewN B1 nq
    have z2 : w.heap.size + 1 ≤ (W.drewN nq).heap.size := z1
    clear X1 Y1 V1 B1 z1 x0 x1 x2 x3 y0 y1 y2
    go_wp2_with fail
    generalize W.drewN nq = W2 at X2 Y2 V2 B2 z2 ⊢
    obtain ⟨y0, y1, y2, _⟩ := Y2.cells
    obtain ⟨x0, x1, x2, x3, _⟩ := X2.cells
    obtain ⟨_, vl2, e8, _, gl2, hl2, cl2, _⟩ := V2.rowsO.2.2.get (k := jb) (by omega)
    cases e8
    obtain rfl : vl2 = xb := by have h9 := hl2.out; rw [hxb.out] at h9; simpa using h9.symm
    clear hl2 hxb
    go_region_held3 (fun w' => w'.cell? ⟨w.heap.size, 0, none⟩ = some (.int .i64 (ja : Int)) ∧ w'.cell? ⟨w.heap.size, 1, none⟩ = some (.int .i64 (jb : Int)) ∧ w'.cell? ⟨w.heap.size, 2, none⟩ = some (.bool false) ∧ w'.cell? ⟨b, 0, none⟩ = some (.slice (some ⟨g0, 0, none⟩) n0 c0) ∧ w'.cell? ⟨b, 1, none⟩ = some (.slice A1 n1 c1) ∧ w'.cell? ⟨b, 2, none⟩ = some (.slice (some ⟨g2, 0, none⟩) n2 c2) ∧ w'.cell? ⟨b, 3, none⟩ = some (.slice A3 n3 c3) ∧ w'.cell? ⟨g2, jb, none⟩ = some (.int .i64 vl2))
      (((try dsimp only); (repeat' apply And.intro) <;> (with_reducible (first | exact cellSo p0 nw | exact cellSo p1 nw | exact cellSo p2 nw | exact cellSo q0 nb3 | exact cellSo q1 nb3 | exact cellSo q2 nb3 | exact cellSo q3 nb3 | exact cellSo cl3 ng2 | exact p0 | exact p1 | exact p2 | exact q0 | exact q1 | exact q2 | exact q3 | exact cl3 | exact cellD y0 | exact cellD y1 | exact cellD y2 | exact cellD x0 | exact cellD x1 | exact cellD x2 | exact cellD x3 | exact cellD cl2 | exact y0 | exact y1 | exact y2 | exact x0 | exact x1 | exact x2 | exact x3 | exact cl2))))
      ((go_at_call 84; (with_reducible refine (sideOf_any W2.drew _ _ _ _).mono ?_); rintro e w3 ⟨rfl, hb30⟩; (have hb3 : Below W2.heap.size W2 w3 := (Below.refl W2.heap.size W2).drew.trans hb30); (have X3 := X2.below hb3); (have Y3 := Y2.below hb3); (have V3 := V2.below hb3); (obtain ⟨p0, p1, p2, _⟩ := Y3.cells); (obtain ⟨q0, q1, q2, q3, _⟩ := X3.cells); (have cl3 := (hb3.cell (p := ⟨g2, jb, none⟩) gl2).trans cl2); (obtain ⟨_, vs3, e7, _, _, _, cs3, fs3⟩ := V3.rowsO.1.get (k := kk) (by omega)); cases e7))
    rename_i hHeld
    clear hHeld
    have B3 : Below lo w w3 := B2.trans (hb3.mono (by omega))
    go_wp2_with fail
    go_ret
    unfold StepPost; rw [hE.out]
    refine ⟨rfl, ?_, B3.setCell (by simpa using hlo3) _⟩
    rw [hR.out]
    exact ⟨_, _, _, _, X3.other (by simpa using nb3) _, V3.putLO kk _, o0, o1, o2, o3⟩

set_option maxRecDepth 100000 in
set_option maxHeartbeats 4000000 in
theorem putStep6_any (w : World) (lo b : Nat) (C : Cp) (hs : StoAt w lo b C) (hlo : lo ≤ b) (a q : Int) (hr : runB C ⟨6, a, q⟩ = true) :
    Calls Try.prog 83 #[.agg #[.int .i64 a, .int .i64 q, .bool true], .pointer (some ⟨b, 0, none⟩)] w (StepPost w lo b C ⟨6, a, q⟩) := by
  obtain ⟨A0, n0, c0, A1, n1, c1, A2, n2, c2, A3, n3, c3, X, hv, ⟨o0, o1, o2, o3⟩, ⟨r0, r1, r2⟩, e0, e1, e2⟩ := hs.open_
  obtain ⟨hC, ho⟩ := runB_iff.1 hr
  obtain ⟨hvh, _⟩ := stoB_parts hC
  have h8 := hvB_len hvh
  obtain ⟨_, ⟨a0, a1, _⟩, ⟨b0, _⟩, hb7, hbn⟩ := opB_iff.1 ho
  simp only at a0 a1 b0 hb7 hbn
  obtain ⟨ja, rfl⟩ := Int.eq_ofNat_of_zero_le a0
  have na : ja < n2 := by omega
  have nai : (ja : Int) < (n2 : Int) := by omega
  have TA := rootA_at a0 a1
  simp only [Int.toNat_natCast] at TA
  obtain ⟨g2, xa, rfl, hlo2, hg2, hxa, hca, hza⟩ := r2.get (k := ja) (by omega)
  have hxa9 := hxa.out
  rw [TA, Option.some.injEq] at hxa9
  have nb2 : b ≠ g2 := fun e => o2 (by rw [e]; rfl)
  obtain ⟨jb, rfl⟩ := Int.eq_ofNat_of_zero_le b0
  have hbt : (jb : Int) < C.h.t.length := hbn (by omega)
  have nb : jb < n2 := by omega
  have nbi : (jb : Int) < (n2 : Int) := by omega
  have TB := rootA_at b0 hbt
  simp only [Int.toNat_natCast] at TB
  obtain ⟨_, xb, eb, _, _, hxb, hcb, _⟩ := r2.get (k := jb) (by omega)
  cases eb
  have hxb9 := hxb.out
  rw [TB, Option.some.injEq] at hxb9
  have RG := rootA_range hvh a0 a1
  rcases RG with e9 | ⟨kk, e9, hkk⟩
  · obtain rfl : xa = -1 := hxa9.symm.trans e9
    have hE : Hid (runE C ⟨6, (ja : Int), (jb : Int)⟩ = 2) := by unfold Hid runE doE; rw [if_pos hr]; simp [e9]
    have hR : Hid (runC C ⟨6, (ja : Int), (jb : Int)⟩ = C) := by unfold Hid runC doC; rw [if_pos hr]; simp [e9]
    clear e9 hxa9
    have Y1 := Blk3.new w (.int .i64 (ja : Int)) (.int .i64 (jb : Int)) (.bool true) 81
    have X1 := X.alloc (.cells #[.int .i64 (ja : Int), .int .i64 (jb : Int), .bool true] 81)
    have V1 := hv.alloc (.cells #[.int .i64 (ja : Int), .int .i64 (jb : Int), .bool true] 81)
    have B1 : Below lo w (w.alloc (.cells #[.int .i64 (ja : Int), .int .i64 (jb : Int), .bool true] 81)) := (Below.refl lo w).alloc (by have := X.lt; omega) _
    have hWs : b < w.heap.size := X.lt
    have z1 : w.heap.size + 1 ≤ (w.alloc (.cells #[.int .i64 (ja : Int), .int .i64 (jb : Int), .bool true] 81)).heap.size := by simp
    have cb1 := cellA hcb (.cells #[.int .i64 (ja : Int), .int .i64 (jb : Int), .bool true] 81)
    have ca1 := cellA hca (.cells #[.int .i64 (ja : Int), .int .i64 (jb : Int), .bool true] 81)
    go_enter Try.func83, Try.ntmps83
    go_wp2_with fail
    generalize (w.alloc (.cells #[.int .i64 (ja : Int), .int .i64 (jb : Int), .bool true] 81)) = W at Y1 X1 V1 B1 z1 cb1 ca1 ⊢
    obtain ⟨y0, y1, y2, _⟩ := Y1.cells
    obtain ⟨x0, x1, x2, x3, _⟩ := X1.cells
    go_quiet (fail)
    have X2 : Blk4 (W.drewN nq) _ _ _ _ _ _ := X1
    have V2 : Cv (W.drewN nq) _ _ _ := V1
    have B2 := below_drewN B1 nq
    go_wp2_with fail
    go_ret
    unfold StepPost; rw [hE.out]
    exact ⟨rfl, by rw [hR.out]; exact ⟨_, _, _, _, X2, V2, o0, o1, o2, o3⟩, B2⟩
  · have hkn : kk < n1 := by omega
    have hk1 : ¬ ((kk : Int) = -1) := by omega
    have hkb : ((kk : Int) == -1) = false := by rw [beq_eq_false_iff_ne]; omega
    obtain rfl : xa = (kk : Int) := hxa9.symm.trans e9
    obtain ⟨g1, xl, rfl, hlo3, hg3, hxl, hcl, _⟩ := r1.get (k := kk) (by omega)
    have hxl9 : C.h.r.getD kk (-1) = xl := by rw [List.getD_eq_getElem?_getD, hxl.out]; rfl
    have hE : Hid (runE C ⟨6, (ja : Int), (jb : Int)⟩ = 0) := by unfold Hid runE doE; rw [if_pos hr]; simp [e9, hk1]
    have hR : Hid (runC C ⟨6, (ja : Int), (jb : Int)⟩ = ⟨⟨C.h.l, C.h.r.set kk xb, C.h.t⟩, C.c⟩) := by unfold Hid runC doC; rw [if_pos hr]; simp [e9, hk1, hxb9]
    have nb3 : b ≠ g1 := fun e => o1 (by rw [e]; rfl)
    have ng : g1 ≠ g2 := by obtain ⟨_, _, _, _, ee, ⟨_, _, _, ee2, _, _, _, _, a02, a12⟩, _⟩ := hv; cases ee; cases ee2; exact fun h => a12 g1 rfl (by rw [h]; rfl)
    have nw : w.heap.size ≠ g1 := by omega
    have ng2 := ng.symm
    have hki : (kk : Int) < (n1 : Int) := by omega
    clear e9 hxa9 hxl9 hk1
    have Y1 := Blk3.new w (.int .i64 (ja : Int)) (.int .i64 (jb : Int)) (.bool true) 81
    have X1 := X.alloc (.cells #[.int .i64 (ja : Int), .int .i64 (jb : Int), .bool true] 81)
    have V1 := hv.alloc (.cells #[.int .i64 (ja : Int), .int .i64 (jb : Int), .bool true] 81)
    have B1 : Below lo w (w.alloc (.cells #[.int .i64 (ja : Int), .int .i64 (jb : Int), .bool true] 81)) := (Below.refl lo w).alloc (by have := X.lt; omega) _
    have hWs : b < w.heap.size := X.lt
    have z1 : w.heap.size + 1 ≤ (w.alloc (.cells #[.int .i64 (ja : Int), .int .i64 (jb : Int), .bool true] 81)).heap.size := by simp
    have cb1 := cellA hcb (.cells #[.int .i64 (ja : Int), .int .i64 (jb : Int), .bool true] 81)
    have ca1 := cellA hca (.cells #[.int .i64 (ja : Int), .int .i64 (jb : Int), .bool true] 81)
    have cl1 := cellA hcl (.cells #[.int .i64 (ja : Int), .int .i64 (jb : Int), .bool true] 81)
    go_enter Try.func83, Try.ntmps83
    go_wp2_with fail
    generalize (w.alloc (.cells #[.int .i64 (ja : Int), .int .i64 (jb : Int), .bool true] 81)) = W at Y1 X1 V1 B1 z1 cb1 ca1 cl1 ⊢
    obtain ⟨y0, y1, y2, _⟩ := Y1.cells
    obtain ⟨x0, x1, x2, x3, _⟩ := X1.cells
    clear ho hs X hv r0 r1 r2 hca hza hcb TA hxa TB hcl hxl
    go_quiet (fail)
    have X2 : Blk4 (W.drewN nq) _ _ _ _ _ _ := X1
    have Y2 : Blk3 (W.drewN nq) _ _ _ _ _ := Y1
    have V2 : Cv (W.drewN nq) _ _ _ := V1
    have B2 := below_drewN B1 nq
    have z2 : w.heap.size + 1 ≤ (W.drewN nq).heap.size := z1
    clear X1 Y1 V1 B1 z1 x0 x1 x2 x3 y0 y1 y2
    go_wp2_with fail
    generalize W.drewN nq = W2 at X2 Y2 V2 B2 z2 ⊢
    obtain ⟨y0, y1, y2, _⟩ := Y2.cells
    obtain ⟨x0, x1, x2, x3, _⟩ := X2.cells
    obtain ⟨_, vl2, e8, _, gl2, hl2, cl2, _⟩ := V2.rowsO.2.2.get (k := jb) (by omega)
    cases e8
    obtain rfl : vl2 = xb := by have h9 := hl2.out; rw [hxb.out] at h9; simpa using h9.symm
    clear hl2 hxb
    go_region_held3 (fun w' => w'.cell? ⟨w.heap.size, 0, none⟩ = some (.int .i64 (ja : Int)) ∧ w'.cell? ⟨w.heap.size, 1, none⟩ = some (.int .i64 (jb : Int)) ∧ w'.cell? ⟨w.heap.size, 2, none⟩ = some (.bool true) ∧ w'.cell? ⟨b, 0, none⟩ = some (.slice A0 n0 c0) ∧ w'.cell? ⟨b, 1, none⟩ = some (.slice (some ⟨g1, 0, none⟩) n1 c1) ∧ w'.cell? ⟨b, 2, none⟩ = some (.slice (some ⟨g2, 0, none⟩) n2 c2) ∧ w'.cell? ⟨b, 3, none⟩ = some (.slice A3 n3 c3) ∧ w'.cell? ⟨g2, jb, none⟩ = some (.int .i64 vl2))
      (((try dsimp only); (repeat' apply And.intro) <;> (with_reducible (first | exact cellSo p0 nw | exact cellSo p1 nw | exact cellSo p2 nw | exact cellSo q0 nb3 | exact cellSo q1 nb3 | exact cellSo q2 nb3 | exact cellSo q3 nb3 | exact cellSo cl3 ng2 | exact p0 | exact p1 | exact p2 | exact q0 | exact q1 | exact q2 | exact q3 | exact cl3 | exact cellD y0 | exact cellD y1 | exact cellD y2 | exact cellD x0 | exact cellD x1 | exact cellD x2 | exact cellD x3 | exact cellD cl2 | exact y0 | exact y1 | exact y2 | exact x0 | exact x1 | exact x2 | exact x3 | exact cl2))))
      ((go_at_call 84; (with_reducible refine (sideOf_any W2.drew _ _ _ _).mono ?_); rintro e w3 ⟨rfl, hb30⟩; (have hb3 : Below W2.heap.size W2 w3 := (Below.refl W2.heap.size W2).drew.trans hb30); (have X3 := X2.below hb3); (have Y3 := Y2.below hb3); (have V3 := V2.below hb3); (obtain ⟨p0, p1, p2, _⟩ := Y3.cells); (obtain ⟨q0, q1, q2, q3, _⟩ := X3.cells); (have cl3 := (hb3.cell (p := ⟨g2, jb, none⟩) gl2).trans cl2); (obtain ⟨_, vs3, e7, _, _, _, cs3, fs3⟩ := V3.rowsO.2.1.get (k := kk) (by omega)); cases e7))
    rename_i hHeld
    clear hHeld
    have B3 : Below lo w w3 := B2.trans (hb3.mono (by omega))
    go_wp2_with fail
    go_ret
    unfold StepPost; rw [hE.out]
    refine ⟨rfl, ?_, B3.setCell (by simpa using hlo3) _⟩
    rw [hR.out]
    exact ⟨_, _, _, _, X3.other (by simpa using nb3) _, V3.putRO kk _, o0, o1, o2, o3⟩

set_option maxRecDepth 100000 in
set_option maxHeartbeats 4000000 in
theorem newStep_any (w : World) (lo b : Nat) (C : Cp) (hs : StoAt w lo b C) (hlo : lo ≤ b) (a : Int) (hr : runB C ⟨1, a, 0⟩ = true) :
    Calls Try.prog 86 #[.agg #[.int .i64 a], .pointer (some ⟨b, 0, none⟩)] w (StepPost w lo b C ⟨1, a, 0⟩) := by
  obtain ⟨A0, n0, c0, A1, n1, c1, A2, n2, c2, A3, n3, c3, X, hv, ⟨o0, o1, o2, o3⟩, _, _, _, _⟩ := hs.open_
  have A := fun W' lo' v hv => implAllocCell_any W' lo' v C hv a
  have hRE : runC C ⟨1, a, 0⟩ = (if allocB C a = true then allocC C a else C) ∧ runE C ⟨1, a, 0⟩ = (if allocB C a = true then 0 else 1) := by unfold runC runE; rw [if_pos hr, if_pos hr]; exact ⟨rfl, rfl⟩
  obtain ⟨hR0, hE0⟩ := hRE
  generalize allocX C a = xx at A
  rcases ha : allocB C a
  · rw [ha] at A hR0 hE0
    have hE : Hid (runE C ⟨1, a, 0⟩ = 1) := by unfold Hid; rw [hE0]; rfl
    have hR : Hid (runC C ⟨1, a, 0⟩ = C) := by unfold Hid; rw [hR0]; rfl
    clear ha hR0 hE0 hr
    generalize allocC C a = D at A
    have Y1 := Blk1.new w (.int .i64 a) 90
    have X1 := X.alloc (.cells #[.int .i64 a] 90)
    have V1 := hv.alloc (.cells #[.int .i64 a] 90)
    have B1 : Below lo w (w.alloc (.cells #[.int .i64 a] 90)) := (Below.refl lo w).alloc (by have := X.lt; omega) _
    have hWs : b < w.heap.size := X.lt
    have z1 : w.heap.size + 1 ≤ (w.alloc (.cells #[.int .i64 a] 90)).heap.size := by simp
    go_enter Try.func86, Try.ntmps86
    go_wp2_with fail
    generalize (w.alloc (.cells #[.int .i64 a] 90)) = W at Y1 X1 V1 B1 z1 ⊢
    obtain ⟨y0, _⟩ := Y1.cells
    obtain ⟨x0, x1, x2, x3, _⟩ := X1.cells
    clear hs X hv
    have nZb : W.heap.size ≠ b := by omega
    have nZw : W.heap.size ≠ w.heap.size := by omega
    go_region_held3 (fun w' => w'.cell? ⟨w.heap.size, 0, none⟩ = some (.int .i64 a) ∧ w'.cell? ⟨b, 0, none⟩ = some (.slice A0 n0 c0) ∧ w'.cell? ⟨b, 1, none⟩ = some (.slice A1 n1 c1) ∧ w'.cell? ⟨b, 2, none⟩ = some (.slice A2 n2 c2) ∧ w'.cell? ⟨b, 3, none⟩ = some (.slice A3 n3 c3))
      (((try dsimp only); (repeat' apply And.intro) <;> (with_reducible (first | exact cellF4 q0 nZb _ _ _ _ | exact cellF4 q1 nZb _ _ _ _ | exact cellF4 q2 nZb _ _ _ _ | exact cellF4 q3 nZb _ _ _ _ | exact cellF4 p0 nZw _ _ _ _ | exact cellA (cellD y0) _ | exact cellA (cellD x0) _ | exact cellA (cellD x1) _ | exact cellA (cellD x2) _ | exact cellA (cellD x3) _ | exact cellA p0 _ | exact cellA q0 _ | exact cellA q1 _ | exact cellA q2 _ | exact cellA q3 _ | exact cellA y0 _ | exact cellA x0 _ | exact cellA x1 _ | exact cellA x2 _ | exact cellA x3 _ | exact p0 | exact q0 | exact q1 | exact q2 | exact q3 | exact cellD (cellA y0 _) | exact cellD (cellA x0 _) | exact cellD (cellA x1 _) | exact cellD (cellA x2 _) | exact cellD (cellA x3 _) | exact cellD y0 | exact cellD x0 | exact cellD x1 | exact cellD x2 | exact cellD x3 | exact y0 | exact x0 | exact x1 | exact x2 | exact x3))))
      (first
        | (go_at_call 87; (with_reducible refine (A W.drew lo _ V1.drew).mono ?_); rintro e w3 ⟨vv, rfl, HN0, hb30⟩; (have HN : Cv w3 W.heap.size vv D := HN0); (have hb3 : Below W.heap.size W w3 := (Below.refl W.heap.size W).drew.trans hb30); (have X3 := X1.below hb3); (have Y3 := Y1.below hb3); (obtain ⟨p0, _⟩ := Y3.cells); (obtain ⟨q0, q1, q2, q3, _⟩ := X3.cells); (have s3 := hb3.size); (have HNo := HN); (obtain ⟨D0, m0, d0, D1, m1, d1, D2, m2, d2, D3, m3, d3, rfl, _⟩ := HNo.open_))
        | (go_at_call 87; (with_reducible refine (A (W.alloc (.cells #[.slice none 0 0, .slice none 0 0, .slice none 0 0, .slice none 0 0] 36)).drew lo _ (V1.alloc (.cells #[.slice none 0 0, .slice none 0 0, .slice none 0 0, .slice none 0 0] 36)).drew).mono ?_); rintro e w3 ⟨vv, rfl, HN0, hb30⟩; (have hA : (W.alloc (.cells #[.slice none 0 0, .slice none 0 0, .slice none 0 0, .slice none 0 0] 36)).drew.heap.size = W.heap.size + 1 := by show (W.alloc _).heap.size = _; simp); (rw [hA] at HN0 hb30); (have HN : Cv w3 (W.heap.size + 1) vv D := HN0); (have hb3 : Below W.heap.size W w3 := (((Below.refl W.heap.size W).alloc (Nat.le_refl _) (.cells #[.slice none 0 0, .slice none 0 0, .slice none 0 0, .slice none 0 0] 36)).drew).trans (hb30.mono (by omega))); (have Z3 : Blk4 w3 W.heap.size (.slice none 0 0) (.slice none 0 0) (.slice none 0 0) (.slice none 0 0) 36 := Blk4.belowAt (w := (W.alloc (.cells #[.slice none 0 0, .slice none 0 0, .slice none 0 0, .slice none 0 0] 36)).drew) (Blk4.new W _ _ _ _ _) hb30 (by omega)); (obtain ⟨zz0, zz1, zz2, zz3, zf0, zf1, zf2, zf3⟩ := Z3.cells); (have s30 := hb30.size); (have X3 := X1.below hb3); (have Y3 := Y1.below hb3); (obtain ⟨p0, _⟩ := Y3.cells); (obtain ⟨q0, q1, q2, q3, _⟩ := X3.cells); (have s3 := hb3.size); (have HNo := HN); (obtain ⟨D0, m0, d0, D1, m1, d1, D2, m2, d2, D3, m3, d3, rfl, _⟩ := HNo.open_)))
    · rename_i hHeld
      clear hHeld
      have T5 : Blk4 (w3.alloc (.cells #[.slice D0 m0 d0, .slice D1 m1 d1, .slice D2 m2 d2, .slice D3 m3 d3] 36)) w3.heap.size (.slice D0 m0 d0) (.slice D1 m1 d1) (.slice D2 m2 d2) (.slice D3 m3 d3) 36 := Blk4.new w3 (.slice D0 m0 d0) (.slice D1 m1 d1) (.slice D2 m2 d2) (.slice D3 m3 d3) 36
      have X5 := X3.alloc (.cells #[.slice D0 m0 d0, .slice D1 m1 d1, .slice D2 m2 d2, .slice D3 m3 d3] 36)
      have V5 := (V1.below hb3).alloc (.cells #[.slice D0 m0 d0, .slice D1 m1 d1, .slice D2 m2 d2, .slice D3 m3 d3] 36)
      have N5 : Cv (w3.alloc (.cells #[.slice D0 m0 d0, .slice D1 m1 d1, .slice D2 m2 d2, .slice D3 m3 d3] 36)) W.heap.size (.agg #[.slice D0 m0 d0, .slice D1 m1 d1, .slice D2 m2 d2, .slice D3 m3 d3]) D := HN.alloc _
      have B5 : Below lo w (w3.alloc (.cells #[.slice D0 m0 d0, .slice D1 m1 d1, .slice D2 m2 d2, .slice D3 m3 d3] 36)) := (B1.trans (hb3.mono (by omega))).alloc (by omega) _
      have hvb : b < w3.heap.size := by omega
      have ow := N5.ownLt b (.inl (by omega))
      clear x0 x1 x2 x3 y0 p0 q0 q1 q2 q3 HN X3 Y3
      generalize (w3.alloc (.cells #[.slice D0 m0 d0, .slice D1 m1 d1, .slice D2 m2 d2, .slice D3 m3 d3] 36)) = W5 at T5 X5 V5 N5 B5 ⊢
      generalize w3.heap.size = vb at T5 hvb ⊢
      obtain ⟨t0, t1, t2, t3, _⟩ := T5.cells
      obtain ⟨q0, q1, q2, q3, f0, f1, f2, f3⟩ := X5.cells
      go_wp2_with fail
      go_ret
      unfold StepPost; rw [hE.out]
      exact ⟨rfl, by rw [hR.out]; exact ⟨_, _, _, _, X5, V5, o0, o1, o2, o3⟩, B5⟩
    · rename_i hHeld
      clear hHeld
      have T5 : Blk4 ((((w3.setCell ⟨W.heap.size, 0, none⟩ (.slice D0 m0 d0)).setCell ⟨W.heap.size, 1, none⟩ (.slice D1 m1 d1)).setCell ⟨W.heap.size, 2, none⟩ (.slice D2 m2 d2)).setCell ⟨W.heap.size, 3, none⟩ (.slice D3 m3 d3)) W.heap.size (.slice D0 m0 d0) (.slice D1 m1 d1) (.slice D2 m2 d2) (.slice D3 m3 d3) 36 := Z3.set4R _ _ _ _
      have X5 : Blk4 ((((w3.setCell ⟨W.heap.size, 0, none⟩ (.slice D0 m0 d0)).setCell ⟨W.heap.size, 1, none⟩ (.slice D1 m1 d1)).setCell ⟨W.heap.size, 2, none⟩ (.slice D2 m2 d2)).setCell ⟨W.heap.size, 3, none⟩ (.slice D3 m3 d3)) b _ _ _ _ _ := X3.far4 (by omega) _ _ _ _
      have V5 : Cv ((((w3.setCell ⟨W.heap.size, 0, none⟩ (.slice D0 m0 d0)).setCell ⟨W.heap.size, 1, none⟩ (.slice D1 m1 d1)).setCell ⟨W.heap.size, 2, none⟩ (.slice D2 m2 d2)).setCell ⟨W.heap.size, 3, none⟩ (.slice D3 m3 d3)) _ _ _ := (V1.below hb3).set4O (V1.ownLt W.heap.size (.inr (Nat.le_refl _))) _ _ _ _
      have N5 : Cv ((((w3.setCell ⟨W.heap.size, 0, none⟩ (.slice D0 m0 d0)).setCell ⟨W.heap.size, 1, none⟩ (.slice D1 m1 d1)).setCell ⟨W.heap.size, 2, none⟩ (.slice D2 m2 d2)).setCell ⟨W.heap.size, 3, none⟩ (.slice D3 m3 d3)) W.heap.size (.agg #[.slice D0 m0 d0, .slice D1 m1 d1, .slice D2 m2 d2, .slice D3 m3 d3]) D := (HN.set4O (HN.ownLt W.heap.size (.inl (by omega))) _ _ _ _).mono (by omega)
      have B5 : Below lo w ((((w3.setCell ⟨W.heap.size, 0, none⟩ (.slice D0 m0 d0)).setCell ⟨W.heap.size, 1, none⟩ (.slice D1 m1 d1)).setCell ⟨W.heap.size, 2, none⟩ (.slice D2 m2 d2)).setCell ⟨W.heap.size, 3, none⟩ (.slice D3 m3 d3)) := below_set4 (B1.trans (hb3.mono (by omega))) (by omega) _ _ _ _
      have hvb : b < W.heap.size := by omega
      have ow := N5.ownLt b (.inl (by omega))
      clear x0 x1 x2 x3 y0 p0 q0 q1 q2 q3 zz0 zz1 zz2 zz3 zf0 zf1 zf2 zf3 Z3 HN X3 Y3
      generalize ((((w3.setCell ⟨W.heap.size, 0, none⟩ (.slice D0 m0 d0)).setCell ⟨W.heap.size, 1, none⟩ (.slice D1 m1 d1)).setCell ⟨W.heap.size, 2, none⟩ (.slice D2 m2 d2)).setCell ⟨W.heap.size, 3, none⟩ (.slice D3 m3 d3)) = W5 at T5 X5 V5 N5 B5 ⊢
      obtain ⟨t0, t1, t2, t3, _⟩ := T5.cells
      obtain ⟨q0, q1, q2, q3, f0, f1, f2, f3⟩ := X5.cells
      go_wp2_with fail
      go_ret
      unfold StepPost; rw [hE.out]
      exact ⟨rfl, by rw [hR.out]; exact ⟨_, _, _, _, X5, V5, o0, o1, o2, o3⟩, B5⟩
  · rw [ha] at A hR0 hE0
    have hE : Hid (runE C ⟨1, a, 0⟩ = 0) := by unfold Hid; rw [hE0]; rfl
    have hR : Hid (runC C ⟨1, a, 0⟩ = allocC C a) := by unfold Hid; rw [hR0]; rfl
    clear ha hR0 hE0 hr
    generalize allocC C a = D at A hR
    have Y1 := Blk1.new w (.int .i64 a) 90
    have X1 := X.alloc (.cells #[.int .i64 a] 90)
    have V1 := hv.alloc (.cells #[.int .i64 a] 90)
    have B1 : Below lo w (w.alloc (.cells #[.int .i64 a] 90)) := (Below.refl lo w).alloc (by have := X.lt; omega) _
    have hWs : b < w.heap.size := X.lt
    have z1 : w.heap.size + 1 ≤ (w.alloc (.cells #[.int .i64 a] 90)).heap.size := by simp
    go_enter Try.func86, Try.ntmps86
    go_wp2_with fail
    generalize (w.alloc (.cells #[.int .i64 a] 90)) = W at Y1 X1 V1 B1 z1 ⊢
    obtain ⟨y0, _⟩ := Y1.cells
    obtain ⟨x0, x1, x2, x3, _⟩ := X1.cells
    clear hs X hv
    have nZb : W.heap.size ≠ b := by omega
    have nZw : W.heap.size ≠ w.heap.size := by omega
    go_region_held3 (fun w' => w'.cell? ⟨w.heap.size, 0, none⟩ = some (.int .i64 a) ∧ w'.cell? ⟨b, 0, none⟩ = some (.slice A0 n0 c0) ∧ w'.cell? ⟨b, 1, none⟩ = some (.slice A1 n1 c1) ∧ w'.cell? ⟨b, 2, none⟩ = some (.slice A2 n2 c2) ∧ w'.cell? ⟨b, 3, none⟩ = some (.slice A3 n3 c3))
      (((try dsimp only); (repeat' apply And.intro) <;> (with_reducible (first | exact cellF4 q0 nZb _ _ _ _ | exact cellF4 q1 nZb _ _ _ _ | exact cellF4 q2 nZb _ _ _ _ | exact cellF4 q3 nZb _ _ _ _ | exact cellF4 p0 nZw _ _ _ _ | exact cellA (cellD y0) _ | exact cellA (cellD x0) _ | exact cellA (cellD x1) _ | exact cellA (cellD x2) _ | exact cellA (cellD x3) _ | exact cellA p0 _ | exact cellA q0 _ | exact cellA q1 _ | exact cellA q2 _ | exact cellA q3 _ | exact cellA y0 _ | exact cellA x0 _ | exact cellA x1 _ | exact cellA x2 _ | exact cellA x3 _ | exact p0 | exact q0 | exact q1 | exact q2 | exact q3 | exact cellD (cellA y0 _) | exact cellD (cellA x0 _) | exact cellD (cellA x1 _) | exact cellD (cellA x2 _) | exact cellD (cellA x3 _) | exact cellD y0 | exact cellD x0 | exact cellD x1 | exact cellD x2 | exact cellD x3 | exact y0 | exact x0 | exact x1 | exact x2 | exact x3))))
      (first
        | (go_at_call 87; (with_reducible refine (A W.drew lo _ V1.drew).mono ?_); rintro e w3 ⟨vv, rfl, HN0, hb30⟩; (have HN : Cv w3 W.heap.size vv D := HN0); (have hb3 : Below W.heap.size W w3 := (Below.refl W.heap.size W).drew.trans hb30); (have X3 := X1.below hb3); (have Y3 := Y1.below hb3); (obtain ⟨p0, _⟩ := Y3.cells); (obtain ⟨q0, q1, q2, q3, _⟩ := X3.cells); (have s3 := hb3.size); (have HNo := HN); (obtain ⟨D0, m0, d0, D1, m1, d1, D2, m2, d2, D3, m3, d3, rfl, _⟩ := HNo.open_))
        | (go_at_call 87; (with_reducible refine (A (W.alloc (.cells #[.slice none 0 0, .slice none 0 0, .slice none 0 0, .slice none 0 0] 36)).drew lo _ (V1.alloc (.cells #[.slice none 0 0, .slice none 0 0, .slice none 0 0, .slice none 0 0] 36)).drew).mono ?_); rintro e w3 ⟨vv, rfl, HN0, hb30⟩; (have hA : (W.alloc (.cells #[.slice none 0 0, .slice none 0 0, .slice none 0 0, .slice none 0 0] 36)).drew.heap.size = W.heap.size + 1 := by show (W.alloc _).heap.size = _; simp); (rw [hA] at HN0 hb30); (have HN : Cv w3 (W.heap.size + 1) vv D := HN0); (have hb3 : Below W.heap.size W w3 := (((Below.refl W.heap.size W).alloc (Nat.le_refl _) (.cells #[.slice none 0 0, .slice none 0 0, .slice none 0 0, .slice none 0 0] 36)).drew).trans (hb30.mono (by omega))); (have Z3 : Blk4 w3 W.heap.size (.slice none 0 0) (.slice none 0 0) (.slice none 0 0) (.slice none 0 0) 36 := Blk4.belowAt (w := (W.alloc (.cells #[.slice none 0 0, .slice none 0 0, .slice none 0 0, .slice none 0 0] 36)).drew) (Blk4.new W _ _ _ _ _) hb30 (by omega)); (obtain ⟨zz0, zz1, zz2, zz3, zf0, zf1, zf2, zf3⟩ := Z3.cells); (have s30 := hb30.size); (have X3 := X1.below hb3); (have Y3 := Y1.below hb3); (obtain ⟨p0, _⟩ := Y3.cells); (obtain ⟨q0, q1, q2, q3, _⟩ := X3.cells); (have s3 := hb3.size); (have HNo := HN); (obtain ⟨D0, m0, d0, D1, m1, d1, D2, m2, d2, D3, m3, d3, rfl, _⟩ := HNo.open_)))
    · rename_i hHeld
      clear hHeld
      have T5 : Blk4 (w3.alloc (.cells #[.slice D0 m0 d0, .slice D1 m1 d1, .slice D2 m2 d2, .slice D3 m3 d3] 36)) w3.heap.size (.slice D0 m0 d0) (.slice D1 m1 d1) (.slice D2 m2 d2) (.slice D3 m3 d3) 36 := Blk4.new w3 (.slice D0 m0 d0) (.slice D1 m1 d1) (.slice D2 m2 d2) (.slice D3 m3 d3) 36
      have X5 := X3.alloc (.cells #[.slice D0 m0 d0, .slice D1 m1 d1, .slice D2 m2 d2, .slice D3 m3 d3] 36)
      have V5 := (V1.below hb3).alloc (.cells #[.slice D0 m0 d0, .slice D1 m1 d1, .slice D2 m2 d2, .slice D3 m3 d3] 36)
      have N5 : Cv (w3.alloc (.cells #[.slice D0 m0 d0, .slice D1 m1 d1, .slice D2 m2 d2, .slice D3 m3 d3] 36)) W.heap.size (.agg #[.slice D0 m0 d0, .slice D1 m1 d1, .slice D2 m2 d2, .slice D3 m3 d3]) D := HN.alloc _
      have B5 : Below lo w (w3.alloc (.cells #[.slice D0 m0 d0, .slice D1 m1 d1, .slice D2 m2 d2, .slice D3 m3 d3] 36)) := (B1.trans (hb3.mono (by omega))).alloc (by omega) _
      have hvb : b < w3.heap.size := by omega
      have ow := N5.ownLt b (.inl (by omega))
      clear x0 x1 x2 x3 y0 p0 q0 q1 q2 q3 HN X3 Y3
      generalize (w3.alloc (.cells #[.slice D0 m0 d0, .slice D1 m1 d1, .slice D2 m2 d2, .slice D3 m3 d3] 36)) = W5 at T5 X5 V5 N5 B5 ⊢
      generalize w3.heap.size = vb at T5 hvb ⊢
      obtain ⟨t0, t1, t2, t3, _⟩ := T5.cells
      obtain ⟨q0, q1, q2, q3, f0, f1, f2, f3⟩ := X5.cells
      go_wp2_with fail
      go_ret
      unfold StepPost; rw [hE.out]
      exact ⟨rfl, by rw [hR.out]; exact ⟨_, _, _, _, X5.set4R _ _ _ _, (N5.set4O ow _ _ _ _).mono (by omega), ow⟩, below_set4 B5 hlo _ _ _ _⟩
    · rename_i hHeld
      clear hHeld
      have T5 : Blk4 ((((w3.setCell ⟨W.heap.size, 0, none⟩ (.slice D0 m0 d0)).setCell ⟨W.heap.size, 1, none⟩ (.slice D1 m1 d1)).setCell ⟨W.heap.size, 2, none⟩ (.slice D2 m2 d2)).setCell ⟨W.heap.size, 3, none⟩ (.slice D3 m3 d3)) W.heap.size (.slice D0 m0 d0) (.slice D1 m1 d1) (.slice D2 m2 d2) (.slice D3 m3 d3) 36 := Z3.set4R _ _ _ _
      have X5 : Blk4 ((((w3.setCell ⟨W.heap.size, 0, none⟩ (.slice D0 m0 d0)).setCell ⟨W.heap.size, 1, none⟩ (.slice D1 m1 d1)).setCell ⟨W.heap.size, 2, none⟩ (.slice D2 m2 d2)).setCell ⟨W.heap.size, 3, none⟩ (.slice D3 m3 d3)) b _ _ _ _ _ := X3.far4 (by omega) _ _ _ _
      have V5 : Cv ((((w3.setCell ⟨W.heap.size, 0, none⟩ (.slice D0 m0 d0)).setCell ⟨W.heap.size, 1, none⟩ (.slice D1 m1 d1)).setCell ⟨W.heap.size, 2, none⟩ (.slice D2 m2 d2)).setCell ⟨W.heap.size, 3, none⟩ (.slice D3 m3 d3)) _ _ _ := (V1.below hb3).set4O (V1.ownLt W.heap.size (.inr (Nat.le_refl _))) _ _ _ _
      have N5 : Cv ((((w3.setCell ⟨W.heap.size, 0, none⟩ (.slice D0 m0 d0)).setCell ⟨W.heap.size, 1, none⟩ (.slice D1 m1 d1)).setCell ⟨W.heap.size, 2, none⟩ (.slice D2 m2 d2)).setCell ⟨W.heap.size, 3, none⟩ (.slice D3 m3 d3)) W.heap.size (.agg #[.slice D0 m0 d0, .slice D1 m1 d1, .slice D2 m2 d2, .slice D3 m3 d3]) D := (HN.set4O (HN.ownLt W.heap.size (.inl (by omega))) _ _ _ _).mono (by omega)
      have B5 : Below lo w ((((w3.setCell ⟨W.heap.size, 0, none⟩ (.slice D0 m0 d0)).setCell ⟨W.heap.size, 1, none⟩ (.slice D1 m1 d1)).setCell ⟨W.heap.size, 2, none⟩ (.slice D2 m2 d2)).setCell ⟨W.heap.size, 3, none⟩ (.slice D3 m3 d3)) := below_set4 (B1.trans (hb3.mono (by omega))) (by omega) _ _ _ _
      have hvb : b < W.heap.size := by omega
      have ow := N5.ownLt b (.inl (by omega))
      clear x0 x1 x2 x3 y0 p0 q0 q1 q2 q3 zz0 zz1 zz2 zz3 zf0 zf1 zf2 zf3 Z3 HN X3 Y3
      generalize ((((w3.setCell ⟨W.heap.size, 0, none⟩ (.slice D0 m0 d0)).setCell ⟨W.heap.size, 1, none⟩ (.slice D1 m1 d1)).setCell ⟨W.heap.size, 2, none⟩ (.slice D2 m2 d2)).setCell ⟨W.heap.size, 3, none⟩ (.slice D3 m3 d3)) = W5 at T5 X5 V5 N5 B5 ⊢
      obtain ⟨t0, t1, t2, t3, _⟩ := T5.cells
      obtain ⟨q0, q1, q2, q3, f0, f1, f2, f3⟩ := X5.cells
      go_wp2_with fail
      go_ret
      unfold StepPost; rw [hE.out]
      exact ⟨rfl, by rw [hR.out]; exact ⟨_, _, _, _, X5.set4R _ _ _ _, (N5.set4O ow _ _ _ _).mono (by omega), ow⟩, below_set4 B5 hlo _ _ _ _⟩

end Go.Proofs.Ytlabljanddjleaa
