/- RunOp of impl. -/
import Derived.Test.YtlabljanddjleaaIStep
import Derived.Test.YtlabljanddjleaaIStos
import Derived.Test.YtlabljanddjleaaICopyS
import Derived.Test.YtlabljanddjleaaShades
namespace Go.Proofs.Ytlabljanddjleaa
open Go.RowKit

/-- The node that an operation becomes: its type, its value, its method. -/
def StepOk (o : Opv) (T : TypeId) (v0 : Value) (f : FuncId) : Prop := stepV o = .iface T v0 ∧ (∀ (n : Nat) (w : World), (nilAhead (n + 1) T v0 "loop.example/cellcollector/impl.run").run Try.prog w = .ok (some false) w) ∧ (∀ (n : Nat) (w : World), (method (n + 1) T v0 "loop.example/cellcollector/impl.run").run Try.prog w = .ok (f, v0) w) ∧ (∀ (args : Array Value) (w : World), (callFunc f args).run Try.prog w = .ok (.enter f args) w) ∧ ∀ (w : World) (lo b : Nat) (C : Cp), StoAt w lo b C → lo ≤ b → runB C o = true → Calls Try.prog f #[v0, .pointer (some ⟨b, 0, none⟩)] w (StepPost w lo b C o)
theorem nil_newStep (a : Int) (n : Nat) (w : World) : (nilAhead (n + 1) 90 (.agg #[.int .i64 a]) "loop.example/cellcollector/impl.run").run Try.prog w = .ok (some false) w := by kernel_rfl
theorem meth_newStep (a : Int) (n : Nat) (w : World) : (method (n + 1) 90 (.agg #[.int .i64 a]) "loop.example/cellcollector/impl.run").run Try.prog w = .ok (86, .agg #[.int .i64 a]) w := by kernel_rfl
theorem nil_clearStep (a : Int) (n : Nat) (w : World) : (nilAhead (n + 1) 91 (.agg #[.int .i64 a]) "loop.example/cellcollector/impl.run").run Try.prog w = .ok (some false) w := by kernel_rfl
theorem meth_clearStep (a : Int) (n : Nat) (w : World) : (method (n + 1) 91 (.agg #[.int .i64 a]) "loop.example/cellcollector/impl.run").run Try.prog w = .ok (89, .agg #[.int .i64 a]) w := by kernel_rfl
theorem nil_copyStep (a q : Int) (n : Nat) (w : World) : (nilAhead (n + 1) 93 (.agg #[.int .i64 a, .int .i64 q]) "loop.example/cellcollector/impl.run").run Try.prog w = .ok (some false) w := by kernel_rfl
theorem meth_copyStep (a q : Int) (n : Nat) (w : World) : (method (n + 1) 93 (.agg #[.int .i64 a, .int .i64 q]) "loop.example/cellcollector/impl.run").run Try.prog w = .ok (90, .agg #[.int .i64 a, .int .i64 q]) w := by kernel_rfl
theorem nil_readStep (a q : Int) (r : Bool) (n : Nat) (w : World) : (nilAhead (n + 1) 95 (.agg #[.int .i64 a, .int .i64 q, .bool r]) "loop.example/cellcollector/impl.run").run Try.prog w = .ok (some false) w := by kernel_rfl
theorem meth_readStep (a q : Int) (r : Bool) (n : Nat) (w : World) : (method (n + 1) 95 (.agg #[.int .i64 a, .int .i64 q, .bool r]) "loop.example/cellcollector/impl.run").run Try.prog w = .ok (91, .agg #[.int .i64 a, .int .i64 q, .bool r]) w := by kernel_rfl
theorem nil_putStep (a q : Int) (r : Bool) (n : Nat) (w : World) : (nilAhead (n + 1) 81 (.agg #[.int .i64 a, .int .i64 q, .bool r]) "loop.example/cellcollector/impl.run").run Try.prog w = .ok (some false) w := by kernel_rfl
theorem meth_putStep (a q : Int) (r : Bool) (n : Nat) (w : World) : (method (n + 1) 81 (.agg #[.int .i64 a, .int .i64 q, .bool r]) "loop.example/cellcollector/impl.run").run Try.prog w = .ok (83, .agg #[.int .i64 a, .int .i64 q, .bool r]) w := by kernel_rfl
theorem call_newStep (args : Array Value) (w : World) : (callFunc 86 args).run Try.prog w = .ok (.enter 86 args) w := by kernel_rfl
theorem call_clearStep (args : Array Value) (w : World) : (callFunc 89 args).run Try.prog w = .ok (.enter 89 args) w := by kernel_rfl
theorem call_copyStep (args : Array Value) (w : World) : (callFunc 90 args).run Try.prog w = .ok (.enter 90 args) w := by kernel_rfl
theorem call_readStep (args : Array Value) (w : World) : (callFunc 91 args).run Try.prog w = .ok (.enter 91 args) w := by kernel_rfl
theorem call_putStep (args : Array Value) (w : World) : (callFunc 83 args).run Try.prog w = .ok (.enter 83 args) w := by kernel_rfl
theorem run_one {C : Cp} {k a q : Int} (h : runB C ⟨k, a, q⟩ = true) (hk : k = 1 ∨ k = 7) : q = 0 := (opB_iff.1 (runB_iff.1 h).2).2.2.2.1 hk
theorem step_any {o : Opv} (h : 1 ≤ o.k ∧ o.k ≤ 7) : ∃ T v0 f, StepOk o T v0 f := by
  obtain ⟨k, a, q⟩ := o
  have hk : k = 1 ∨ k = 2 ∨ k = 3 ∨ k = 4 ∨ k = 5 ∨ k = 6 ∨ k = 7 := by simp only at h; omega
  rcases hk with rfl | rfl | rfl | rfl | rfl | rfl | rfl
  · exact ⟨_, _, _, rfl, nil_newStep a, meth_newStep a, call_newStep, fun w lo b C hs hlo hr => by obtain rfl := run_one hr (by omega); exact newStep_any w lo b C hs hlo a hr⟩
  · exact ⟨_, _, _, rfl, nil_copyStep a q, meth_copyStep a q, call_copyStep, fun w lo b C hs hlo hr => copyStep_any w lo b C hs hlo a q hr⟩
  · exact ⟨_, _, _, rfl, nil_readStep a q false, meth_readStep a q false, call_readStep, fun w lo b C hs hlo hr => readStep3_any w lo b C hs hlo a q hr⟩
  · exact ⟨_, _, _, rfl, nil_readStep a q true, meth_readStep a q true, call_readStep, fun w lo b C hs hlo hr => readStep4_any w lo b C hs hlo a q hr⟩
  · exact ⟨_, _, _, rfl, nil_putStep a q false, meth_putStep a q false, call_putStep, fun w lo b C hs hlo hr => putStep5_any w lo b C hs hlo a q hr⟩
  · exact ⟨_, _, _, rfl, nil_putStep a q true, meth_putStep a q true, call_putStep, fun w lo b C hs hlo hr => putStep6_any w lo b C hs hlo a q hr⟩
  · exact ⟨_, _, _, rfl, nil_clearStep a, meth_clearStep a, call_clearStep, fun w lo b C hs hlo hr => by obtain rfl := run_one hr (by omega); exact clearStep_any w lo b C hs hlo a hr⟩

set_option maxRecDepth 100000 in
set_option maxHeartbeats 2000000 in
theorem canRun_any (w : World) (lo : Nat) (v : Value) (C : Cp) (hv : Cv w lo v C) (o : Opv) : Calls Try.prog 39 #[v, opV o] w (RetB w (runB C o)) := by
  have hvo := hv
  obtain ⟨A0, n0, c0, A1, n1, c1, A2, n2, c2, A3, n3, c3, rfl, _, _, ⟨_, _, l2, _⟩, ⟨_, _, b2, _⟩, _⟩ := hvo.open_
  obtain ⟨k, a, q⟩ := o
  show Calls Try.prog 39 #[.agg #[.slice A0 n0 c0, .slice A1 n1 c1, .slice A2 n2 c2, .slice A3 n3 c3], .agg #[.int .i64 k, .int .i64 a, .int .i64 q]] w _
  have X := (Blk4.new w (.slice A0 n0 c0) (.slice A1 n1 c1) (.slice A2 n2 c2) (.slice A3 n3 c3) 36).alloc (.cells #[.int .i64 k, .int .i64 a, .int .i64 q] 25)
  have Y := Blk3.new_at (w := w.alloc (.cells #[.slice A0 n0 c0, .slice A1 n1 c1, .slice A2 n2 c2, .slice A3 n3 c3] 36)) (b := w.heap.size + 1) (by simp) (.int .i64 k) (.int .i64 a) (.int .i64 q) 25
  have VV := (hv.alloc (.cells #[.slice A0 n0 c0, .slice A1 n1 c1, .slice A2 n2 c2, .slice A3 n3 c3] 36)).alloc (.cells #[.int .i64 k, .int .i64 a, .int .i64 q] 25)
  have BB : Below w.heap.size w ((w.alloc (.cells #[.slice A0 n0 c0, .slice A1 n1 c1, .slice A2 n2 c2, .slice A3 n3 c3] 36)).alloc (.cells #[.int .i64 k, .int .i64 a, .int .i64 q] 25)) := ((Below.refl _ w).alloc (Nat.le_refl _) _).alloc (by simp) _
  have V := implStoreValid_any _ _ _ _ VV
  have OV := fun W => implOpValid_any W ⟨k, a, q⟩ (n2 : Int)
  have hB : Hid (runB C ⟨k, a, q⟩ = (stoB C && opB ⟨k, a, q⟩ (n2 : Int))) := by unfold Hid runB; rw [l2.out]
  clear hv hvo
  rcases ev : stoB C
  · rw [ev] at V
    have hf : Hid (runB C ⟨k, a, q⟩ = false) := by unfold Hid; rw [hB.out, ev]; rfl
    clear ev hB
    go_enter Try.func39, Try.ntmps39
    go_wp2_with fail
    refine V.mono ?_; rintro e w1 ⟨rfl, hb1⟩
    have B1 := BB.trans (hb1.mono BB.size)
    go_wp2_with fail
    go_ret
    exact ⟨ret_bool hf.out.symm, B1⟩
  · rw [ev] at V
    have hf : Hid (runB C ⟨k, a, q⟩ = opB ⟨k, a, q⟩ (n2 : Int)) := by unfold Hid; rw [hB.out, ev]; rfl
    clear ev hB
    go_enter Try.func39, Try.ntmps39
    go_wp2_with fail
    refine V.mono ?_; rintro e w1 ⟨rfl, hb1⟩
    have B1 := BB.trans (hb1.mono BB.size)
    obtain ⟨x0, x1, x2, x3, _⟩ := (Blk4.below (by exact X) hb1).cells
    obtain ⟨y0, y1, y2, _⟩ := (Blk3.below (by exact Y) hb1).cells
    go_wp2_with fail
    refine (OV _).mono ?_; rintro e w2 ⟨rfl, hb2⟩
    go_wp2_with fail
    go_ret
    exact ⟨ret_bool hf.out.symm, B1.trans (hb2.mono B1.size)⟩

set_option maxRecDepth 100000 in
set_option maxHeartbeats 4000000 in
theorem implRunOp_any (w : World) (lo : Nat) (v : Value) (C : Cp) (hv : Cv w lo v C) (o : Opv) : Calls Try.prog 14 #[v, opV o] w (OptCI w (runC C o) (runE C o) (runB C o)) := by
  have hvo := hv
  obtain ⟨A0, n0, c0, A1, n1, c1, A2, n2, c2, A3, n3, c3, rfl, _, _, _, _, _⟩ := hvo.open_
  obtain ⟨k, a, q⟩ := o
  show Calls Try.prog 14 #[.agg #[.slice A0 n0 c0, .slice A1 n1 c1, .slice A2 n2 c2, .slice A3 n3 c3], .agg #[.int .i64 k, .int .i64 a, .int .i64 q]] w _
  have X := ((Blk4.new w (.slice A0 n0 c0) (.slice A1 n1 c1) (.slice A2 n2 c2) (.slice A3 n3 c3) 36).alloc (.cells #[.int .i64 k, .int .i64 a, .int .i64 q] 25)).alloc (.cells #[.slice none 0 0, .slice none 0 0, .slice none 0 0, .slice none 0 0] 36)
  have Y := (Blk3.new_at (w := w.alloc (.cells #[.slice A0 n0 c0, .slice A1 n1 c1, .slice A2 n2 c2, .slice A3 n3 c3] 36)) (b := w.heap.size + 1) (by simp) (.int .i64 k) (.int .i64 a) (.int .i64 q) 25).alloc (.cells #[.slice none 0 0, .slice none 0 0, .slice none 0 0, .slice none 0 0] 36)
  have Q := Blk4.new_at (w := (w.alloc (.cells #[.slice A0 n0 c0, .slice A1 n1 c1, .slice A2 n2 c2, .slice A3 n3 c3] 36)).alloc (.cells #[.int .i64 k, .int .i64 a, .int .i64 q] 25)) (b := w.heap.size + 2) (by simp) (.slice none 0 0) (.slice none 0 0) (.slice none 0 0) (.slice none 0 0) 36
  have VV := ((hv.alloc (.cells #[.slice A0 n0 c0, .slice A1 n1 c1, .slice A2 n2 c2, .slice A3 n3 c3] 36)).alloc (.cells #[.int .i64 k, .int .i64 a, .int .i64 q] 25)).alloc (.cells #[.slice none 0 0, .slice none 0 0, .slice none 0 0, .slice none 0 0] 36)
  have BB : Below w.heap.size w (((w.alloc (.cells #[.slice A0 n0 c0, .slice A1 n1 c1, .slice A2 n2 c2, .slice A3 n3 c3] 36)).alloc (.cells #[.int .i64 k, .int .i64 a, .int .i64 q] 25)).alloc (.cells #[.slice none 0 0, .slice none 0 0, .slice none 0 0, .slice none 0 0] 36)) := (((Below.refl _ w).alloc (Nat.le_refl _) _).alloc (by simp) _).alloc (by simp; omega) _
  have sz : (((w.alloc (.cells #[.slice A0 n0 c0, .slice A1 n1 c1, .slice A2 n2 c2, .slice A3 n3 c3] 36)).alloc (.cells #[.int .i64 k, .int .i64 a, .int .i64 q] 25)).alloc (.cells #[.slice none 0 0, .slice none 0 0, .slice none 0 0, .slice none 0 0] 36)).heap.size = w.heap.size + 3 := by simp
  have CR := fun W (hW : Cv W lo (.agg #[.slice A0 n0 c0, .slice A1 n1 c1, .slice A2 n2 c2, .slice A3 n3 c3]) C) => canRun_any W lo _ C hW ⟨k, a, q⟩
  clear hv hvo
  rcases er : runB C ⟨k, a, q⟩
  · rw [er] at CR
    have hc : Hid (runC C ⟨k, a, q⟩ = Cp.zero) := Lib.hid (runC_not er)
    have hx : Hid (runE C ⟨k, a, q⟩ = 0) := Lib.hid (runE_not er)
    clear er
    go_enter Try.func14, Try.ntmps14
    go_wp2_with fail
    generalize (((w.alloc (.cells #[.slice A0 n0 c0, .slice A1 n1 c1, .slice A2 n2 c2, .slice A3 n3 c3] 36)).alloc (.cells #[.int .i64 k, .int .i64 a, .int .i64 q] 25)).alloc (.cells #[.slice none 0 0, .slice none 0 0, .slice none 0 0, .slice none 0 0] 36)) = W at X Y Q VV BB sz ⊢
    obtain ⟨x0, x1, x2, x3, _⟩ := X.cells
    obtain ⟨y0, y1, y2, _⟩ := Y.cells
    go_wp2_with fail
    refine (CR _ VV).mono ?_; rintro e w1 ⟨rfl, hb1⟩
    have Q1 := Q.below hb1
    have B1 := BB.trans (hb1.mono BB.size)
    clear X Y Q VV BB x0 x1 x2 x3 y0 y1 y2
    obtain ⟨q0, q1, q2, q3, f0, f1, f2, f3⟩ := Q1.cells
    obtain ⟨hZ, hB⟩ := zero_done (w := w) (b := w.heap.size + 2) (by omega) B1
    go_wp2_with fail
    rw [hc.out, hx.out]
    refine bodyPost_ret (v := .tuple #[.agg #[.slice none 0 0, .slice none 0 0, .slice none 0 0, .slice none 0 0], .int .i64 0, .bool false]) ?_ rfl ⟨_, rfl, hZ, hB⟩
    simp [results, Try.results14, go_sem, q0, q1, q2, q3]
  · rw [er] at CR
    obtain ⟨hC, ho⟩ := runB_iff.1 er
    obtain ⟨hk17, _⟩ := opB_iff.1 ho
    obtain ⟨T, v0, f, hsv, hn, hm, hcf, hs⟩ := step_any (o := ⟨k, a, q⟩) hk17
    have HS := fun w lo b hw hl => hs w lo b C hw hl er
    have SO := fun W => stepOf_any W ⟨k, a, q⟩
    rw [hsv] at SO
    have CS := fun W (hW : Cv W lo (.agg #[.slice A0 n0 c0, .slice A1 n1 c1, .slice A2 n2 c2, .slice A3 n3 c3]) C) => copyS_valid W lo _ C hW hC
    clear er hC ho hk17 hs hsv
    go_enter Try.func14, Try.ntmps14
    go_wp2_with fail
    generalize (((w.alloc (.cells #[.slice A0 n0 c0, .slice A1 n1 c1, .slice A2 n2 c2, .slice A3 n3 c3] 36)).alloc (.cells #[.int .i64 k, .int .i64 a, .int .i64 q] 25)).alloc (.cells #[.slice none 0 0, .slice none 0 0, .slice none 0 0, .slice none 0 0] 36)) = W at X Y Q VV BB sz ⊢
    obtain ⟨x0, x1, x2, x3, _⟩ := X.cells
    obtain ⟨y0, y1, y2, _⟩ := Y.cells
    go_wp2_with fail
    refine (CR _ VV).mono ?_; rintro e w1 ⟨rfl, hb1⟩
    have X1 := X.below hb1
    have Y1 := Y.below hb1
    have Q1 := Q.below hb1
    have V1 := VV.below hb1
    have B1 := BB.trans (hb1.mono BB.size)
    have z1 := hb1.size
    rw [sz] at z1
    clear X Y Q VV BB x0 x1 x2 x3 y0 y1 y2 hb1 CR
    obtain ⟨x0, x1, x2, x3, _⟩ := X1.cells
    go_wp2_with fail
    refine (CS _ V1).mono ?_; rintro e w2 ⟨vv, rfl, HN, hb2⟩
    have HNo := HN
    obtain ⟨D0, m0, d0, D1, m1, d1, D2, m2, d2, D3, m3, d3, rfl, _⟩ := HNo.open_
    have s2 := hb2.size
    have ow := HN.ownLt w2.heap.size (.inr (Nat.le_refl _))
    have Y2 := (Y1.below hb2).alloc (.cells #[.slice D0 m0 d0, .slice D1 m1 d1, .slice D2 m2 d2, .slice D3 m3 d3] 36)
    have Q2 := (Q1.below hb2).alloc (.cells #[.slice D0 m0 d0, .slice D1 m1 d1, .slice D2 m2 d2, .slice D3 m3 d3] 36)
    have B2 : Below w.heap.size w (w2.alloc (.cells #[.slice D0 m0 d0, .slice D1 m1 d1, .slice D2 m2 d2, .slice D3 m3 d3] 36)) := (B1.trans (hb2.mono (by omega))).alloc (by omega) _
    have S2 : StoAt (w2.alloc (.cells #[.slice D0 m0 d0, .slice D1 m1 d1, .slice D2 m2 d2, .slice D3 m3 d3] 36)) (w.heap.size + 3) w2.heap.size C := ⟨_, _, _, _, Blk4.new w2 _ _ _ _ _, (HN.alloc _).mono (by omega), ow⟩
    have z2 : w2.heap.size + 1 ≤ (w2.alloc (.cells #[.slice D0 m0 d0, .slice D1 m1 d1, .slice D2 m2 d2, .slice D3 m3 d3] 36)).heap.size := by simp
    have hb7 : w.heap.size + 3 ≤ w2.heap.size := by omega
    clear x0 x1 x2 x3 X1 Y1 Q1 V1 B1 HN hb2 z1 CS
    obtain ⟨y0, y1, y2, _⟩ := Y2.cells
    go_wp2_with fail
    generalize w2.alloc (.cells #[.slice D0 m0 d0, .slice D1 m1 d1, .slice D2 m2 d2, .slice D3 m3 d3] 36) = W2 at Y2 Q2 B2 S2 z2 y0 y1 y2 ⊢
    generalize w2.heap.size = b7 at S2 z2 hb7 ⊢
    refine (SO _).mono ?_; rintro e w3 ⟨rfl, hb3⟩
    have Q3 := Q2.below hb3
    have S3 := S2.below hb3
    have B3 := B2.trans (hb3.mono B2.size)
    have z3 := hb3.size
    clear Y2 Q2 S2 B2 hb3 y0 y1 y2 SO
    go_wp2_with fail
    refine (HS _ _ _ S3 hb7).mono ?_; rintro e w4 ⟨rfl, S4, hb4⟩
    have Q4 := Q3.belowAt hb4 (by omega)
    have B4 := B3.trans (hb4.mono (by omega))
    obtain ⟨v0', v1', v2', v3', T4, N4, _⟩ := S4
    have HNo := N4
    obtain ⟨E0, i0, h0, E1, i1, h1, E2, i2, h2, E3, i3, h3, ev, _⟩ := HNo.open_
    cases ev
    obtain ⟨t0, t1, t2, t3, _⟩ := T4.cells
    obtain ⟨q0, q1, q2, q3, f0, f1, f2, f3⟩ := Q4.cells
    obtain ⟨hF, hFB⟩ := fin_run (b := w.heap.size + 2) (by omega) N4 B4
    obtain ⟨e0, e1, e2, e3⟩ := cells4 (.slice E0 i0 h0) (.slice E1 i1 h1) (.slice E2 i2 h2) (.slice E3 i3 h3) q0 q1 q2 q3
    go_wp2_with fail
    refine bodyPost_ret (v := .tuple #[.agg #[.slice E0 i0 h0, .slice E1 i1 h1, .slice E2 i2 h2, .slice E3 i3 h3], .int .i64 (runE C ⟨k, a, q⟩), .bool true]) ?_ rfl ⟨_, rfl, hF, hFB⟩
    simp [results, Try.results14, go_sem, e0, e1, e2, e3]
end Go.Proofs.Ytlabljanddjleaa
