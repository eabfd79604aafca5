/- spec.DrawCopyStep: a valid heap, a list and a number. -/
import Derived.Test.YtapkhgpifpgleaaMixT
import Derived.Test.YtapkhgpifpgleaaStoV
import Derived.Test.YtapkhgpifpgleaaDrawV
namespace Go.Proofs.Ytapkhgpifpgleaa
open Go.RowKit

/-- A valid heap, a row of at most nine numbers and a number come back, and nothing that was there has turned. -/
def DrawnCS (w : World) (e : Ending) (w' : World) : Prop :=
  ∃ v h A' n' c' xs x, e = .returned (.tuple #[v, .slice A' n' c', .int .i64 x]) ∧ Hv w' w.heap.size v h ∧ hvB h = true ∧ Hid (List.length (α := Int) xs = n') ∧ n' ≤ 9 ∧ Row w' w.heap.size (.slice A' n' c') xs ∧ (-1 ≤ x ∧ x ≤ 2) ∧ Below w.heap.size w w'
theorem made_rowC {w3 : World} {lo b : Nat} (hb : lo ≤ b) {v0 v1 v2 u : Value} {xs : List Int} (r : Row w3 (b + 1) u xs) : Row (((w3.setCell ⟨b, 0, none⟩ v0).setCell ⟨b, 1, none⟩ v1).setCell ⟨b, 2, none⟩ v2) lo u xs := by
  have k : u.ownBlock ≠ some b := fun e => by have := (r.lt _ e).1; omega
  exact (((r.other k _).other k _).other k _).mono (by omega)
theorem Blk3.keptC {w w' : World} {rb b : Nat} {x y z : Value} {t : TypeId} (h : Blk3 w b x y z t) (hg : w.grownBy w' (some rb)) (hb : b ≠ rb) : Blk3 w' b x y z t := h.kept hg hb
theorem lit5C (w : World) : Row (w.alloc (.cells #[.int .i64 0, .int .i64 0, .int .i64 1, .int .i64 2, .int .i64 (-1)] 3)) 0 (.slice (some ⟨w.heap.size, 0, none⟩) 5 5) [0, 0, 1, 2, -1] := Row.lit_at rfl [0, 0, 1, 2, -1] (by decide)
theorem len5C (a b c d e : Int) : ([a, b, c, d, e] : List Int).length = 5 := rfl
theorem memC {x : Int} (h : x ∈ [(0 : Int), 0, 1, 2, -1]) : -1 ≤ x ∧ x ≤ 2 := by simp at h; omega
/-- What is carried through the draw. -/
structure CsSt (w w2 wr : World) (B rb bx : Nat) (A : Option Addr) (nb c p : Nat) (s0 s1 s2 v : Value) (n : Nat) (xs : List Int) : Prop where
  y : Blk3 wr w.heap.size (.slice none 0 0) (.slice none 0 0) (.slice none 0 0) 27
  x : Blk3 wr bx s0 s1 s2 27
  rd : Rd wr B rb A nb c p
  row : Row wr (bx + 1) v xs
  gw : w.grownBy wr (some rb)
  g2 : w2.grownBy wr (some rb)
  rbw : w.heap.size < rb
  rbx : rb < bx
  le : xs.length = n
section
variable {w w2 wr w' : World} {B rb bx : Nat} {A : Option Addr} {nb c p p' : Nat} {s0 s1 s2 v : Value} {n : Nat} {xs : List Int}
theorem CsSt.only (h : CsSt w w2 wr B rb bx A nb c p s0 s1 s2 v n xs) (hR : Rd w' B rb A nb c p') (hO : Only rb wr w') : CsSt w w2 w' B rb bx A nb c p' s0 s1 s2 v n xs :=
  ⟨h.y.kept hO.1 (by have := h.rbw; omega), h.x.kept hO.1 (by have := h.rbx; omega), hR, Row.keptRd h.row hO.1 (by have := h.rbx; omega), grown_trans h.gw hO.1, grown_trans h.g2 hO.1, h.rbw, h.rbx, h.le⟩
theorem CsSt.alloc (h : CsSt w w2 wr B rb bx A nb c p s0 s1 s2 v n xs) (o : Obj) : CsSt w w2 (wr.alloc o) B rb bx A nb c p s0 s1 s2 v n xs :=
  ⟨h.y.alloc o, h.x.alloc o, h.rd.alloc o, h.row.alloc o, grown_alloc h.gw o, grown_alloc h.g2 o, h.rbw, h.rbx, h.le⟩
theorem CsSt.drew (h : CsSt w w2 wr B rb bx A nb c p s0 s1 s2 v n xs) : CsSt w w2 wr.drew B rb bx A nb c p s0 s1 s2 v n xs :=
  ⟨h.y, h.x, h.rd.drew, h.row.drew, grown_drew h.gw, grown_drew h.g2, h.rbw, h.rbx, h.le⟩
theorem CsSt.cut {g m k : Nat} {cc : Nat} (h : CsSt w w2 wr B rb bx A nb c p s0 s1 s2 (.slice (some ⟨g, 0, none⟩) m cc) n xs) (hk : k ≤ n) : CsSt w w2 wr B rb bx A nb c p s0 s1 s2 (.slice (some ⟨g, 0, none⟩) k cc) k (xs.take k) :=
  ⟨h.y, h.x, h.rd, h.row.cut (by rw [h.le]; exact hk), h.gw, h.g2, h.rbw, h.rbx, by rw [List.length_take, h.le]; omega⟩
theorem CsSt.app {v' : Value} {y : Int} (h : CsSt w w2 wr B rb bx A nb c p s0 s1 s2 v n xs) (hr : Row w' (bx + 1) v' (xs ++ [y])) (hb : Below (bx + 1) wr w') (_hlt : bx < wr.heap.size) (hB : B ≤ bx + 1) (hw : w.heap.size ≤ bx + 1) (hw2 : w2.heap.size ≤ bx + 1) : CsSt w w2 w' B rb bx A nb c p s0 s1 s2 v' (n + 1) (xs ++ [y]) :=
  ⟨(hb.block _ (by have := h.rbw; have := h.rbx; omega)).trans h.y, (hb.block _ (by omega)).trans h.x, ⟨(hb.block _ (by have := h.rbx; omega)).trans h.rd.1, h.rd.2.1.below (hb.mono hB), h.rd.2.2⟩, hr,
    ⟨hb.os.trans h.gw.os, hb.tape.trans h.gw.tape, hb.output.trans h.gw.output, Nat.le_trans h.gw.size hb.size, fun i hi hne => (hb.block i (by omega)).trans (h.gw.block i hi hne)⟩,
    ⟨hb.os.trans h.g2.os, hb.tape.trans h.g2.tape, hb.output.trans h.g2.output, Nat.le_trans h.g2.size hb.size, fun i hi hne => (hb.block i (by omega)).trans (h.g2.block i hi hne)⟩, h.rbw, h.rbx, by rw [List.length_append, h.le]; rfl⟩
end

set_option maxRecDepth 100000 in
set_option maxHeartbeats 2000000 in
theorem drawCopyStep_any (w : World) (A : Option Addr) (n c : Nat) (h : Inp w A n c) :
    Calls Try.prog 34 #[.slice A n c] w (DrawnCS w) := by
  obtain ⟨i0, hi, hz0, hz1, hz2⟩ := info_parts Try.infoInt
  have h0 := inp_alloc h (.cells #[.slice none 0 0, .slice none 0 0, .slice none 0 0] 27)
  have Y0 := Blk3.new w (.slice none 0 0) (.slice none 0 0) (.slice none 0 0) 27
  go_enter Try.func34, Try.ntmps34
  go_wp2_with fail
  refine (l13Open_any _ _ _ _ h0).mono ?_; rintro e w1 ⟨rb, A1, n1, c1, rfl, hR1, hb1⟩
  have hB := hR1.2.2.1
  simp at hB
  have Y1 := Y0.below hb1
  have z1 := hb1.size
  simp at z1
  have B1 : Below w.heap.size w w1 := ((Below.refl _ _).alloc (Nat.le_refl _) _).trans (hb1.mono (by simp))
  clear h0 Y0 hb1
  go_wp2_with fail
  refine (l1DrawV_any _ _ _ _ _ _ _ hR1 (by omega)).mono ?_; rintro e w2 ⟨v2, hp, p2, rfl, hv2, hva, hR2, hp2, hg2⟩
  obtain ⟨A0, n0, c0, A3, m1, c3, A2, m2, c2, rfl, ⟨r0, r1, r2⟩, ⟨l0, l1, l2⟩, _, _, a01, a02, a12⟩ := hv2.open_
  have hrb2 := hR2.lt
  have hrb1 := hR1.lt
  have z2 := hg2.size
  have Y2 := (Blk3.keptC Y1 hg2 (by omega)).alloc (.cells #[.slice A0 n0 c0, .slice A3 m1 c3, .slice A2 m2 c2] 27)
  have X2 := Blk3.new w2 (.slice A0 n0 c0) (.slice A3 m1 c3) (.slice A2 m2 c2) 27
  have R0 := hR2.alloc (.cells #[.slice A0 n0 c0, .slice A3 m1 c3, .slice A2 m2 c2] 27)
  have G2 := grown_alloc hg2 (.cells #[.slice A0 n0 c0, .slice A3 m1 c3, .slice A2 m2 c2] 27)
  have G1 : w.grownBy w1 (some rb) := ⟨B1.os, B1.tape, B1.output, B1.size, fun i hi _ => B1.block i hi⟩
  have G0 : w2.grownBy (w2.alloc (.cells #[.slice A0 n0 c0, .slice A3 m1 c3, .slice A2 m2 c2] 27)) (some rb) := grown_alloc (World.grownBy.refl w2 _) _
  have O := l10Order_any _ _ _ _ (hv2.alloc (.cells #[.slice A0 n0 c0, .slice A3 m1 c3, .slice A2 m2 c2] 27)) hva
  have hol := order_len hva
  have h8 := hvB_len hva
  have HVA := Lib.hid hva
  generalize order hp = gs at O hol
  obtain ⟨x0, x1, x2, _⟩ := X2.cells
  clear hv2 Y1 hR1 hR2 hg2
  go_wp2_with fail
  refine O.mono ?_; rintro e w3 ⟨AO, cO, rfl, RO, hb3⟩
  have z3 := hb3.size
  simp at z3 RO hb3
  have st : CsSt w w2 w3 _ rb w2.heap.size _ _ _ p2 (.slice A0 n0 c0) (.slice A3 m1 c3) (.slice A2 m2 c2) (.slice AO gs.length cO) gs.length gs :=
    ⟨Y2.below (by simpa using hb3), X2.below (by simpa using hb3), R0.below (by simpa using hb3), RO, grown_trans G1 (grown_of G2 (by simpa using hb3)), grown_of G0 (by simpa using hb3), by omega, by omega, rfl⟩
  obtain ⟨m, hm⟩ : ∃ m, m = gs.length := ⟨_, rfl⟩
  rw [← hm] at st ⊢
  have hm8 : m ≤ 8 := by omega
  have hBle := st.rd.2.2.1
  have hwx : w.heap.size ≤ w2.heap.size := by omega
  generalize hbx : w2.heap.size = bx at *
  have p16 : p2 ≤ 40 := by omega
  clear RO hb3 Y2 X2 R0 G2 G0 G1 O x0 x1 x2 hm hol hva
  by_cases hm1 : 1 < m
  · obtain ⟨gO, _, rfl, _⟩ := st.row.get (k := 0) (by rw [st.le]; omega)
    have hmi : (1 : Int) < (m : Int) := by omega
    go_wp2_with fail
    refine (pick_any _ _ _ _ _ _ _ st.rd 2 (by omega) (by omega) (by omega)).mono ?_; rintro e w4 ⟨xv, rfl, hxv, hR4, hO4⟩
    have s4 := st.only hR4 hO4
    by_cases xz : xv = 0
    · subst xz
      have sm : IntKind.i64.wrap ((m : Int) - 1) = (m : Int) - 1 := IntWalk.i64_in _ (by omega)
      go_wp2_with fail
      refine (pick_any _ _ _ _ _ _ _ s4.rd ((m : Int) - 1) (by omega) (by omega) (by omega)).mono ?_; rintro e w8 ⟨kv, rfl, hkv, hR8, hO8⟩
      have hk1 : 1 + kv ≤ m := by omega
      have s8 := (s4.only hR8 hO8).cut hk1
      have hcp := s8.row.form
      have sk : IntKind.i64.wrap (1 + (kv : Int)) = ((1 + kv : Nat) : Int) := by rw [show (1 + (kv : Int)) = ((1 + kv : Nat) : Int) by omega]; exact IntWalk.i64_in _ (by omega)
      have hmc : m ≤ cO := by obtain ⟨_, _, e9, _, h9⟩ := st.row.form; cases e9; omega
      clear hcp s4 hR4 hO4 hR8 hO8 st
      go_wp2_with fail
      refine (pick_any _ _ _ _ _ _ _ s8.rd 16 (by omega) (by omega) (by omega)).mono ?_; rintro e w5 ⟨u, rfl, hu, hR5, hO5⟩
      have s5 := s8.only hR5 hO5
      by_cases u0 : u = 0
      · subst u0
        go_wp2_with fail
        refine (num_any _ _ _ _ _ _ _ (s5.alloc (.cells #[.int .i64 0, .int .i64 8, .int .i64 (-1)] 3)).rd (by omega) _ 3 3 [0, 8, -1] 0 (Row.lit_at rfl [0, 8, -1] (by decide)) rfl (by decide) (by decide) (Nat.ne_of_gt s5.rd.lt)).mono ?_; rintro e w6 ⟨yv, _, rfl, hR6, hO6⟩
        have s6 := (s5.alloc (.cells #[.int .i64 0, .int .i64 8, .int .i64 (-1)] 3)).only hR6 hO6
        have hl6 := s6.le
        have hrow6 := s6.row
        have lx6 := s6.x.lt
        have hown : w6.ownsRow (bx + 1) 3 1 (.slice (some ⟨gO, 0, none⟩) (1 + kv) cO) (1 + kv) (((gs.take (1 + kv))).map iv) := by have := hrow6; unfold Row at this; rw [hl6] at this; exact this
        go_wp2_with (at_builtin; refine wpList_append_own_at _ rfl _ _ 22 rfl (bx + 1) 3 i0 (.int .i64 0) 1 8 Try.underlying22 hi hz0 hz1 hz2 rfl (by decide) _ _ _ rfl (hown.alloc _) ⟨w6.heap.size, 0, none⟩ 1 1 [.int .i64 yv] rfl rfl ?ap1 ?ap2 ?ap3 ?ap4 ?ap5 ?_)
        try case ap1 => exact one_new
        try case ap2 => first | rfl | (intro u hu; simp at hu; subst hu; rfl)
        try case ap3 => unfold maxLen; omega
        try case ap4 => omega
        try case ap5 => first | omega | (simp; omega)
        intro v' w7 hown' hgrow hnil hloc
        have R7 := Row.of_own (xs := (gs.take (1 + kv)) ++ [yv]) hown' (by rw [List.map_append]; first | rfl | (rw [List.map_take]; rfl)) (by rw [List.length_append, hl6]; rfl)
        have B7 : Below (bx + 1) w6 w7 := ((Below.refl _ _).alloc (by omega) _).grown hgrow (by simp; omega) (fun j hj => by have := (hown.lt j hj).1; omega)
        have s7 := s6.app R7 B7 lx6 (by omega) (by omega) (by omega)
        obtain ⟨A7, c7, hv', _⟩ := R7.form
        rw [show ((gs.take (1 + kv)) ++ [yv]).length = (1 + kv) + 1 by rw [List.length_append, hl6]; rfl] at hv'
        subst hv'
        clear hown hown' hgrow hloc hnil R7 B7 s6 hR6 hO6 s5 hR5 hO5 hrow6
        have nbx : w.heap.size ≠ bx := by have := s7.rbw; have := s7.rbx; omega
        obtain ⟨x0, x1, x2, _⟩ := s7.x.cells
        have v9 : p2 + 1 + 1 + 1 + 1 ≤ 1048576 := by omega
        have ne9 := Nat.ne_of_gt s7.rd.lt
        go_wp2_with fail
        go_region_held3 (fun w' => w'.cell? ⟨bx, 0, none⟩ = some (.slice A0 n0 c0) ∧ w'.cell? ⟨bx, 1, none⟩ = some (.slice A3 m1 c3) ∧ w'.cell? ⟨bx, 2, none⟩ = some (.slice A2 m2 c2))
          (((try dsimp only); (repeat' apply And.intro) <;> (first | (with_reducible (first | exact u0 | exact u1 | exact u2 | exact x0 | exact cellD x0 | exact cellA x0 _ | exact cellD (cellA x0 _) | exact cellA (cellD x0) _ | exact x1 | exact cellD x1 | exact cellA x1 _ | exact cellD (cellA x1 _) | exact cellA (cellD x1) _ | exact x2 | exact cellD x2 | exact cellA x2 _ | exact cellD (cellA x2 _) | exact cellA (cellD x2) _)) | (rw [World.cell?_setCell_far _ _ _ _ (by exact nbx), World.cell?_setCell_far _ _ _ _ (by exact nbx), World.cell?_setCell_far _ _ _ _ (by exact nbx)]; first | exact u0 | exact u1 | exact u2))))
          (first
            | (go_at_call 63; (with_reducible refine (num_any _ _ _ _ _ _ _ (s7.alloc (.cells #[.int .i64 0, .int .i64 0, .int .i64 1, .int .i64 2, .int .i64 (-1)] 3)).drew.rd v9 w7.heap.size 5 5 [0, 0, 1, 2, -1] 0 (lit5C w7).drew (len5C _ _ _ _ _) (by decide) (by decide) ne9).mono ?_); rintro e w9 ⟨x, hx, rfl, hR9, hO9⟩; (have s9 := (s7.alloc (.cells #[.int .i64 0, .int .i64 0, .int .i64 1, .int .i64 2, .int .i64 (-1)] 3)).drew.only hR9 hO9); (have hxb := memC hx); obtain ⟨y0, y1, y2, f0, f1, f2⟩ := s9.y.cells; obtain ⟨u0, u1, u2, _⟩ := s9.x.cells)
            | (go_at_call 63; (with_reducible refine (num_any _ _ _ _ _ _ _ ((s7.drew).alloc (.cells #[.int .i64 0, .int .i64 0, .int .i64 1, .int .i64 2, .int .i64 (-1)] 3)).rd v9 w7.heap.size 5 5 [0, 0, 1, 2, -1] 0 (lit5C _) (len5C _ _ _ _ _) (by decide) (by decide) ne9).mono ?_); rintro e w9 ⟨x, hx, rfl, hR9, hO9⟩; (have s9 := ((s7.drew).alloc (.cells #[.int .i64 0, .int .i64 0, .int .i64 1, .int .i64 2, .int .i64 (-1)] 3)).only hR9 hO9); (have hxb := memC hx); obtain ⟨y0, y1, y2, f0, f1, f2⟩ := s9.y.cells; obtain ⟨u0, u1, u2, _⟩ := s9.x.cells)
            | (go_at_call 63; (with_reducible refine (num_any _ _ _ _ _ _ _ (s7.alloc (.cells #[.int .i64 0, .int .i64 0, .int .i64 1, .int .i64 2, .int .i64 (-1)] 3)).rd v9 w7.heap.size 5 5 [0, 0, 1, 2, -1] 0 (lit5C _) (len5C _ _ _ _ _) (by decide) (by decide) ne9).mono ?_); rintro e w9 ⟨x, hx, rfl, hR9, hO9⟩; (have s9 := (s7.alloc (.cells #[.int .i64 0, .int .i64 0, .int .i64 1, .int .i64 2, .int .i64 (-1)] 3)).only hR9 hO9); (have hxb := memC hx); obtain ⟨y0, y1, y2, f0, f1, f2⟩ := s9.y.cells; obtain ⟨u0, u1, u2, _⟩ := s9.x.cells))
        rename_i hHeld
        clear hHeld
        have q0' := Row.keptRd r0 s9.g2 (by omega)
        have q1' := Row.keptRd r1 s9.g2 (by omega)
        have q2' := Row.keptRd r2 s9.g2 (by omega)
        have z9 := s9.g2.size
        have B3 : Below w.heap.size w w9 := below_row s9.gw (by omega) (by omega)
        have RW := s9.row
        have hl9 := Lib.hid s9.le
        obtain ⟨hH, hBf⟩ := made_done (h := hp) (b := w.heap.size) (Nat.le_refl _) (q0'.mono (by omega)) (q1'.mono (by omega)) (q2'.mono (by omega)) a01 a02 a12 B3
        have HR := made_rowC (lo := w.heap.size) (b := w.heap.size) (v0 := .slice A0 n0 c0) (v1 := .slice A3 m1 c3) (v2 := .slice A2 m2 c2) (Nat.le_refl _) (RW.mono (by omega))
        clear r0 r1 r2 q0' q1' q2' RW s9 hR9 hO9
        go_wp2_with fail
        refine bodyPost_ret (v := .tuple #[.agg #[.slice A0 n0 c0, .slice A3 m1 c3, .slice A2 m2 c2], .slice A7 ((1 + kv) + 1) c7, .int .i64 x]) ?_ rfl ⟨_, hp, _, _, _, _, x, rfl, hH, HVA.out, hl9, by omega, HR, hxb, hBf⟩
        simp [results, Try.results34, go_sem, y0, y1, y2]
      · have u1 : ((u : Int) == 0) = false := by simp; omega
        have nbx : w.heap.size ≠ bx := by have := s5.rbw; have := s5.rbx; omega
        obtain ⟨x0, x1, x2, _⟩ := s5.x.cells
        have v9 : p2 + 1 + 1 + 1 ≤ 1048576 := by omega
        have ne9 := Nat.ne_of_gt s5.rd.lt
        go_wp2_with fail
        go_region_held3 (fun w' => w'.cell? ⟨bx, 0, none⟩ = some (.slice A0 n0 c0) ∧ w'.cell? ⟨bx, 1, none⟩ = some (.slice A3 m1 c3) ∧ w'.cell? ⟨bx, 2, none⟩ = some (.slice A2 m2 c2))
          (((try dsimp only); (repeat' apply And.intro) <;> (first | (with_reducible (first | exact u0 | exact u1 | exact u2 | exact x0 | exact cellD x0 | exact cellA x0 _ | exact cellD (cellA x0 _) | exact cellA (cellD x0) _ | exact x1 | exact cellD x1 | exact cellA x1 _ | exact cellD (cellA x1 _) | exact cellA (cellD x1) _ | exact x2 | exact cellD x2 | exact cellA x2 _ | exact cellD (cellA x2 _) | exact cellA (cellD x2) _)) | (rw [World.cell?_setCell_far _ _ _ _ (by exact nbx), World.cell?_setCell_far _ _ _ _ (by exact nbx), World.cell?_setCell_far _ _ _ _ (by exact nbx)]; first | exact u0 | exact u1 | exact u2))))
          (first
            | (go_at_call 63; (with_reducible refine (num_any _ _ _ _ _ _ _ (s5.alloc (.cells #[.int .i64 0, .int .i64 0, .int .i64 1, .int .i64 2, .int .i64 (-1)] 3)).drew.rd v9 w5.heap.size 5 5 [0, 0, 1, 2, -1] 0 (lit5C w5).drew (len5C _ _ _ _ _) (by decide) (by decide) ne9).mono ?_); rintro e w9 ⟨x, hx, rfl, hR9, hO9⟩; (have s9 := (s5.alloc (.cells #[.int .i64 0, .int .i64 0, .int .i64 1, .int .i64 2, .int .i64 (-1)] 3)).drew.only hR9 hO9); (have hxb := memC hx); obtain ⟨y0, y1, y2, f0, f1, f2⟩ := s9.y.cells; obtain ⟨u0, u1, u2, _⟩ := s9.x.cells)
            | (go_at_call 63; (with_reducible refine (num_any _ _ _ _ _ _ _ ((s5.drew).alloc (.cells #[.int .i64 0, .int .i64 0, .int .i64 1, .int .i64 2, .int .i64 (-1)] 3)).rd v9 w5.heap.size 5 5 [0, 0, 1, 2, -1] 0 (lit5C _) (len5C _ _ _ _ _) (by decide) (by decide) ne9).mono ?_); rintro e w9 ⟨x, hx, rfl, hR9, hO9⟩; (have s9 := ((s5.drew).alloc (.cells #[.int .i64 0, .int .i64 0, .int .i64 1, .int .i64 2, .int .i64 (-1)] 3)).only hR9 hO9); (have hxb := memC hx); obtain ⟨y0, y1, y2, f0, f1, f2⟩ := s9.y.cells; obtain ⟨u0, u1, u2, _⟩ := s9.x.cells)
            | (go_at_call 63; (with_reducible refine (num_any _ _ _ _ _ _ _ (s5.alloc (.cells #[.int .i64 0, .int .i64 0, .int .i64 1, .int .i64 2, .int .i64 (-1)] 3)).rd v9 w5.heap.size 5 5 [0, 0, 1, 2, -1] 0 (lit5C _) (len5C _ _ _ _ _) (by decide) (by decide) ne9).mono ?_); rintro e w9 ⟨x, hx, rfl, hR9, hO9⟩; (have s9 := (s5.alloc (.cells #[.int .i64 0, .int .i64 0, .int .i64 1, .int .i64 2, .int .i64 (-1)] 3)).only hR9 hO9); (have hxb := memC hx); obtain ⟨y0, y1, y2, f0, f1, f2⟩ := s9.y.cells; obtain ⟨u0, u1, u2, _⟩ := s9.x.cells))
        rename_i hHeld
        clear hHeld
        have q0' := Row.keptRd r0 s9.g2 (by omega)
        have q1' := Row.keptRd r1 s9.g2 (by omega)
        have q2' := Row.keptRd r2 s9.g2 (by omega)
        have z9 := s9.g2.size
        have B3 : Below w.heap.size w w9 := below_row s9.gw (by omega) (by omega)
        have RW := s9.row
        have hl9 := Lib.hid s9.le
        obtain ⟨hH, hBf⟩ := made_done (h := hp) (b := w.heap.size) (Nat.le_refl _) (q0'.mono (by omega)) (q1'.mono (by omega)) (q2'.mono (by omega)) a01 a02 a12 B3
        have HR := made_rowC (lo := w.heap.size) (b := w.heap.size) (v0 := .slice A0 n0 c0) (v1 := .slice A3 m1 c3) (v2 := .slice A2 m2 c2) (Nat.le_refl _) (RW.mono (by omega))
        clear r0 r1 r2 q0' q1' q2' RW s9 hR9 hO9
        go_wp2_with fail
        refine bodyPost_ret (v := .tuple #[.agg #[.slice A0 n0 c0, .slice A3 m1 c3, .slice A2 m2 c2], .slice (some ⟨gO, 0, none⟩) (1 + kv) cO, .int .i64 x]) ?_ rfl ⟨_, hp, _, _, _, _, x, rfl, hH, HVA.out, hl9, by omega, HR, hxb, hBf⟩
        simp [results, Try.results34, go_sem, y0, y1, y2]
    · have xz1 : ((xv : Int) == 0) = false := by simp; omega
      clear st
      go_wp2_with fail
      refine (pick_any _ _ _ _ _ _ _ s4.rd 16 (by omega) (by omega) (by omega)).mono ?_; rintro e w5 ⟨u, rfl, hu, hR5, hO5⟩
      have s5 := s4.only hR5 hO5
      by_cases u0 : u = 0
      · subst u0
        go_wp2_with fail
        refine (num_any _ _ _ _ _ _ _ (s5.alloc (.cells #[.int .i64 0, .int .i64 8, .int .i64 (-1)] 3)).rd (by omega) _ 3 3 [0, 8, -1] 0 (Row.lit_at rfl [0, 8, -1] (by decide)) rfl (by decide) (by decide) (Nat.ne_of_gt s5.rd.lt)).mono ?_; rintro e w6 ⟨yv, _, rfl, hR6, hO6⟩
        have s6 := (s5.alloc (.cells #[.int .i64 0, .int .i64 8, .int .i64 (-1)] 3)).only hR6 hO6
        have hl6 := s6.le
        have hrow6 := s6.row
        have lx6 := s6.x.lt
        have hown : w6.ownsRow (bx + 1) 3 1 (.slice (some ⟨gO, 0, none⟩) m cO) m ((gs).map iv) := by have := hrow6; unfold Row at this; rw [hl6] at this; exact this
        go_wp2_with (at_builtin; refine wpList_append_own_at _ rfl _ _ 22 rfl (bx + 1) 3 i0 (.int .i64 0) 1 8 Try.underlying22 hi hz0 hz1 hz2 rfl (by decide) _ _ _ rfl (hown.alloc _) ⟨w6.heap.size, 0, none⟩ 1 1 [.int .i64 yv] rfl rfl ?ap1 ?ap2 ?ap3 ?ap4 ?ap5 ?_)
        try case ap1 => exact one_new
        try case ap2 => first | rfl | (intro u hu; simp at hu; subst hu; rfl)
        try case ap3 => unfold maxLen; omega
        try case ap4 => omega
        try case ap5 => first | omega | (simp; omega)
        intro v' w7 hown' hgrow hnil hloc
        have R7 := Row.of_own (xs := gs ++ [yv]) hown' (by rw [List.map_append]; first | rfl | (rw [List.map_take]; rfl)) (by rw [List.length_append, hl6]; rfl)
        have B7 : Below (bx + 1) w6 w7 := ((Below.refl _ _).alloc (by omega) _).grown hgrow (by simp; omega) (fun j hj => by have := (hown.lt j hj).1; omega)
        have s7 := s6.app R7 B7 lx6 (by omega) (by omega) (by omega)
        obtain ⟨A7, c7, hv', _⟩ := R7.form
        rw [show (gs ++ [yv]).length = m + 1 by rw [List.length_append, hl6]; rfl] at hv'
        subst hv'
        clear hown hown' hgrow hloc hnil R7 B7 s6 hR6 hO6 s5 hR5 hO5 hrow6
        have nbx : w.heap.size ≠ bx := by have := s7.rbw; have := s7.rbx; omega
        obtain ⟨x0, x1, x2, _⟩ := s7.x.cells
        have v9 : p2 + 1 + 1 + 1 ≤ 1048576 := by omega
        have ne9 := Nat.ne_of_gt s7.rd.lt
        go_wp2_with fail
        go_region_held3 (fun w' => w'.cell? ⟨bx, 0, none⟩ = some (.slice A0 n0 c0) ∧ w'.cell? ⟨bx, 1, none⟩ = some (.slice A3 m1 c3) ∧ w'.cell? ⟨bx, 2, none⟩ = some (.slice A2 m2 c2))
          (((try dsimp only); (repeat' apply And.intro) <;> (first | (with_reducible (first | exact u0 | exact u1 | exact u2 | exact x0 | exact cellD x0 | exact cellA x0 _ | exact cellD (cellA x0 _) | exact cellA (cellD x0) _ | exact x1 | exact cellD x1 | exact cellA x1 _ | exact cellD (cellA x1 _) | exact cellA (cellD x1) _ | exact x2 | exact cellD x2 | exact cellA x2 _ | exact cellD (cellA x2 _) | exact cellA (cellD x2) _)) | (rw [World.cell?_setCell_far _ _ _ _ (by exact nbx), World.cell?_setCell_far _ _ _ _ (by exact nbx), World.cell?_setCell_far _ _ _ _ (by exact nbx)]; first | exact u0 | exact u1 | exact u2))))
          (first
            | (go_at_call 63; (with_reducible refine (num_any _ _ _ _ _ _ _ (s7.alloc (.cells #[.int .i64 0, .int .i64 0, .int .i64 1, .int .i64 2, .int .i64 (-1)] 3)).drew.rd v9 w7.heap.size 5 5 [0, 0, 1, 2, -1] 0 (lit5C w7).drew (len5C _ _ _ _ _) (by decide) (by decide) ne9).mono ?_); rintro e w9 ⟨x, hx, rfl, hR9, hO9⟩; (have s9 := (s7.alloc (.cells #[.int .i64 0, .int .i64 0, .int .i64 1, .int .i64 2, .int .i64 (-1)] 3)).drew.only hR9 hO9); (have hxb := memC hx); obtain ⟨y0, y1, y2, f0, f1, f2⟩ := s9.y.cells; obtain ⟨u0, u1, u2, _⟩ := s9.x.cells)
            | (go_at_call 63; (with_reducible refine (num_any _ _ _ _ _ _ _ ((s7.drew).alloc (.cells #[.int .i64 0, .int .i64 0, .int .i64 1, .int .i64 2, .int .i64 (-1)] 3)).rd v9 w7.heap.size 5 5 [0, 0, 1, 2, -1] 0 (lit5C _) (len5C _ _ _ _ _) (by decide) (by decide) ne9).mono ?_); rintro e w9 ⟨x, hx, rfl, hR9, hO9⟩; (have s9 := ((s7.drew).alloc (.cells #[.int .i64 0, .int .i64 0, .int .i64 1, .int .i64 2, .int .i64 (-1)] 3)).only hR9 hO9); (have hxb := memC hx); obtain ⟨y0, y1, y2, f0, f1, f2⟩ := s9.y.cells; obtain ⟨u0, u1, u2, _⟩ := s9.x.cells)
            | (go_at_call 63; (with_reducible refine (num_any _ _ _ _ _ _ _ (s7.alloc (.cells #[.int .i64 0, .int .i64 0, .int .i64 1, .int .i64 2, .int .i64 (-1)] 3)).rd v9 w7.heap.size 5 5 [0, 0, 1, 2, -1] 0 (lit5C _) (len5C _ _ _ _ _) (by decide) (by decide) ne9).mono ?_); rintro e w9 ⟨x, hx, rfl, hR9, hO9⟩; (have s9 := (s7.alloc (.cells #[.int .i64 0, .int .i64 0, .int .i64 1, .int .i64 2, .int .i64 (-1)] 3)).only hR9 hO9); (have hxb := memC hx); obtain ⟨y0, y1, y2, f0, f1, f2⟩ := s9.y.cells; obtain ⟨u0, u1, u2, _⟩ := s9.x.cells))
        rename_i hHeld
        clear hHeld
        have q0' := Row.keptRd r0 s9.g2 (by omega)
        have q1' := Row.keptRd r1 s9.g2 (by omega)
        have q2' := Row.keptRd r2 s9.g2 (by omega)
        have z9 := s9.g2.size
        have B3 : Below w.heap.size w w9 := below_row s9.gw (by omega) (by omega)
        have RW := s9.row
        have hl9 := Lib.hid s9.le
        obtain ⟨hH, hBf⟩ := made_done (h := hp) (b := w.heap.size) (Nat.le_refl _) (q0'.mono (by omega)) (q1'.mono (by omega)) (q2'.mono (by omega)) a01 a02 a12 B3
        have HR := made_rowC (lo := w.heap.size) (b := w.heap.size) (v0 := .slice A0 n0 c0) (v1 := .slice A3 m1 c3) (v2 := .slice A2 m2 c2) (Nat.le_refl _) (RW.mono (by omega))
        clear r0 r1 r2 q0' q1' q2' RW s9 hR9 hO9
        go_wp2_with fail
        refine bodyPost_ret (v := .tuple #[.agg #[.slice A0 n0 c0, .slice A3 m1 c3, .slice A2 m2 c2], .slice A7 (m + 1) c7, .int .i64 x]) ?_ rfl ⟨_, hp, _, _, _, _, x, rfl, hH, HVA.out, hl9, by omega, HR, hxb, hBf⟩
        simp [results, Try.results34, go_sem, y0, y1, y2]
      · have u1 : ((u : Int) == 0) = false := by simp; omega
        have nbx : w.heap.size ≠ bx := by have := s5.rbw; have := s5.rbx; omega
        obtain ⟨x0, x1, x2, _⟩ := s5.x.cells
        have v9 : p2 + 1 + 1 ≤ 1048576 := by omega
        have ne9 := Nat.ne_of_gt s5.rd.lt
        go_wp2_with fail
        go_region_held3 (fun w' => w'.cell? ⟨bx, 0, none⟩ = some (.slice A0 n0 c0) ∧ w'.cell? ⟨bx, 1, none⟩ = some (.slice A3 m1 c3) ∧ w'.cell? ⟨bx, 2, none⟩ = some (.slice A2 m2 c2))
          (((try dsimp only); (repeat' apply And.intro) <;> (first | (with_reducible (first | exact u0 | exact u1 | exact u2 | exact x0 | exact cellD x0 | exact cellA x0 _ | exact cellD (cellA x0 _) | exact cellA (cellD x0) _ | exact x1 | exact cellD x1 | exact cellA x1 _ | exact cellD (cellA x1 _) | exact cellA (cellD x1) _ | exact x2 | exact cellD x2 | exact cellA x2 _ | exact cellD (cellA x2 _) | exact cellA (cellD x2) _)) | (rw [World.cell?_setCell_far _ _ _ _ (by exact nbx), World.cell?_setCell_far _ _ _ _ (by exact nbx), World.cell?_setCell_far _ _ _ _ (by exact nbx)]; first | exact u0 | exact u1 | exact u2))))
          (first
            | (go_at_call 63; (with_reducible refine (num_any _ _ _ _ _ _ _ (s5.alloc (.cells #[.int .i64 0, .int .i64 0, .int .i64 1, .int .i64 2, .int .i64 (-1)] 3)).drew.rd v9 w5.heap.size 5 5 [0, 0, 1, 2, -1] 0 (lit5C w5).drew (len5C _ _ _ _ _) (by decide) (by decide) ne9).mono ?_); rintro e w9 ⟨x, hx, rfl, hR9, hO9⟩; (have s9 := (s5.alloc (.cells #[.int .i64 0, .int .i64 0, .int .i64 1, .int .i64 2, .int .i64 (-1)] 3)).drew.only hR9 hO9); (have hxb := memC hx); obtain ⟨y0, y1, y2, f0, f1, f2⟩ := s9.y.cells; obtain ⟨u0, u1, u2, _⟩ := s9.x.cells)
            | (go_at_call 63; (with_reducible refine (num_any _ _ _ _ _ _ _ ((s5.drew).alloc (.cells #[.int .i64 0, .int .i64 0, .int .i64 1, .int .i64 2, .int .i64 (-1)] 3)).rd v9 w5.heap.size 5 5 [0, 0, 1, 2, -1] 0 (lit5C _) (len5C _ _ _ _ _) (by decide) (by decide) ne9).mono ?_); rintro e w9 ⟨x, hx, rfl, hR9, hO9⟩; (have s9 := ((s5.drew).alloc (.cells #[.int .i64 0, .int .i64 0, .int .i64 1, .int .i64 2, .int .i64 (-1)] 3)).only hR9 hO9); (have hxb := memC hx); obtain ⟨y0, y1, y2, f0, f1, f2⟩ := s9.y.cells; obtain ⟨u0, u1, u2, _⟩ := s9.x.cells)
            | (go_at_call 63; (with_reducible refine (num_any _ _ _ _ _ _ _ (s5.alloc (.cells #[.int .i64 0, .int .i64 0, .int .i64 1, .int .i64 2, .int .i64 (-1)] 3)).rd v9 w5.heap.size 5 5 [0, 0, 1, 2, -1] 0 (lit5C _) (len5C _ _ _ _ _) (by decide) (by decide) ne9).mono ?_); rintro e w9 ⟨x, hx, rfl, hR9, hO9⟩; (have s9 := (s5.alloc (.cells #[.int .i64 0, .int .i64 0, .int .i64 1, .int .i64 2, .int .i64 (-1)] 3)).only hR9 hO9); (have hxb := memC hx); obtain ⟨y0, y1, y2, f0, f1, f2⟩ := s9.y.cells; obtain ⟨u0, u1, u2, _⟩ := s9.x.cells))
        rename_i hHeld
        clear hHeld
        have q0' := Row.keptRd r0 s9.g2 (by omega)
        have q1' := Row.keptRd r1 s9.g2 (by omega)
        have q2' := Row.keptRd r2 s9.g2 (by omega)
        have z9 := s9.g2.size
        have B3 : Below w.heap.size w w9 := below_row s9.gw (by omega) (by omega)
        have RW := s9.row
        have hl9 := Lib.hid s9.le
        obtain ⟨hH, hBf⟩ := made_done (h := hp) (b := w.heap.size) (Nat.le_refl _) (q0'.mono (by omega)) (q1'.mono (by omega)) (q2'.mono (by omega)) a01 a02 a12 B3
        have HR := made_rowC (lo := w.heap.size) (b := w.heap.size) (v0 := .slice A0 n0 c0) (v1 := .slice A3 m1 c3) (v2 := .slice A2 m2 c2) (Nat.le_refl _) (RW.mono (by omega))
        clear r0 r1 r2 q0' q1' q2' RW s9 hR9 hO9
        go_wp2_with fail
        refine bodyPost_ret (v := .tuple #[.agg #[.slice A0 n0 c0, .slice A3 m1 c3, .slice A2 m2 c2], .slice (some ⟨gO, 0, none⟩) m cO, .int .i64 x]) ?_ rfl ⟨_, hp, _, _, _, _, x, rfl, hH, HVA.out, hl9, by omega, HR, hxb, hBf⟩
        simp [results, Try.results34, go_sem, y0, y1, y2]
  · have hmi : ¬ ((1 : Int) < (m : Int)) := by omega
    go_wp2_with fail
    refine (pick_any _ _ _ _ _ _ _ st.rd 16 (by omega) (by omega) (by omega)).mono ?_; rintro e w5 ⟨u, rfl, hu, hR5, hO5⟩
    have s5 := st.only hR5 hO5
    by_cases u0 : u = 0
    · subst u0
      go_wp2_with fail
      refine (num_any _ _ _ _ _ _ _ (s5.alloc (.cells #[.int .i64 0, .int .i64 8, .int .i64 (-1)] 3)).rd (by omega) _ 3 3 [0, 8, -1] 0 (Row.lit_at rfl [0, 8, -1] (by decide)) rfl (by decide) (by decide) (Nat.ne_of_gt s5.rd.lt)).mono ?_; rintro e w6 ⟨yv, _, rfl, hR6, hO6⟩
      have s6 := (s5.alloc (.cells #[.int .i64 0, .int .i64 8, .int .i64 (-1)] 3)).only hR6 hO6
      have hl6 := s6.le
      have hrow6 := s6.row
      have lx6 := s6.x.lt
      have hown : w6.ownsRow (bx + 1) 3 1 (.slice AO m cO) m ((gs).map iv) := by have := hrow6; unfold Row at this; rw [hl6] at this; exact this
      go_wp2_with (at_builtin; refine wpList_append_own_at _ rfl _ _ 22 rfl (bx + 1) 3 i0 (.int .i64 0) 1 8 Try.underlying22 hi hz0 hz1 hz2 rfl (by decide) _ _ _ rfl (hown.alloc _) ⟨w6.heap.size, 0, none⟩ 1 1 [.int .i64 yv] rfl rfl ?ap1 ?ap2 ?ap3 ?ap4 ?ap5 ?_)
      try case ap1 => exact one_new
      try case ap2 => first | rfl | (intro u hu; simp at hu; subst hu; rfl)
      try case ap3 => unfold maxLen; omega
      try case ap4 => omega
      try case ap5 => first | omega | (simp; omega)
      intro v' w7 hown' hgrow hnil hloc
      have R7 := Row.of_own (xs := gs ++ [yv]) hown' (by rw [List.map_append]; first | rfl | (rw [List.map_take]; rfl)) (by rw [List.length_append, hl6]; rfl)
      have B7 : Below (bx + 1) w6 w7 := ((Below.refl _ _).alloc (by omega) _).grown hgrow (by simp; omega) (fun j hj => by have := (hown.lt j hj).1; omega)
      have s7 := s6.app R7 B7 lx6 (by omega) (by omega) (by omega)
      obtain ⟨A7, c7, hv', _⟩ := R7.form
      rw [show (gs ++ [yv]).length = m + 1 by rw [List.length_append, hl6]; rfl] at hv'
      subst hv'
      clear hown hown' hgrow hloc hnil R7 B7 s6 hR6 hO6 s5 hR5 hO5 hrow6
      have nbx : w.heap.size ≠ bx := by have := s7.rbw; have := s7.rbx; omega
      obtain ⟨x0, x1, x2, _⟩ := s7.x.cells
      have v9 : p2 + 1 + 1 ≤ 1048576 := by omega
      have ne9 := Nat.ne_of_gt s7.rd.lt
      go_wp2_with fail
      go_region_held3 (fun w' => w'.cell? ⟨bx, 0, none⟩ = some (.slice A0 n0 c0) ∧ w'.cell? ⟨bx, 1, none⟩ = some (.slice A3 m1 c3) ∧ w'.cell? ⟨bx, 2, none⟩ = some (.slice A2 m2 c2))
        (((try dsimp only); (repeat' apply And.intro) <;> (first | (with_reducible (first | exact u0 | exact u1 | exact u2 | exact x0 | exact cellD x0 | exact cellA x0 _ | exact cellD (cellA x0 _) | exact cellA (cellD x0) _ | exact x1 | exact cellD x1 | exact cellA x1 _ | exact cellD (cellA x1 _) | exact cellA (cellD x1) _ | exact x2 | exact cellD x2 | exact cellA x2 _ | exact cellD (cellA x2 _) | exact cellA (cellD x2) _)) | (rw [World.cell?_setCell_far _ _ _ _ (by exact nbx), World.cell?_setCell_far _ _ _ _ (by exact nbx), World.cell?_setCell_far _ _ _ _ (by exact nbx)]; first | exact u0 | exact u1 | exact u2))))
        (first
          | (go_at_call 63; (with_reducible refine (num_any _ _ _ _ _ _ _ (s7.alloc (.cells #[.int .i64 0, .int .i64 0, .int .i64 1, .int .i64 2, .int .i64 (-1)] 3)).drew.rd v9 w7.heap.size 5 5 [0, 0, 1, 2, -1] 0 (lit5C w7).drew (len5C _ _ _ _ _) (by decide) (by decide) ne9).mono ?_); rintro e w9 ⟨x, hx, rfl, hR9, hO9⟩; (have s9 := (s7.alloc (.cells #[.int .i64 0, .int .i64 0, .int .i64 1, .int .i64 2, .int .i64 (-1)] 3)).drew.only hR9 hO9); (have hxb := memC hx); obtain ⟨y0, y1, y2, f0, f1, f2⟩ := s9.y.cells; obtain ⟨u0, u1, u2, _⟩ := s9.x.cells)
          | (go_at_call 63; (with_reducible refine (num_any _ _ _ _ _ _ _ ((s7.drew).alloc (.cells #[.int .i64 0, .int .i64 0, .int .i64 1, .int .i64 2, .int .i64 (-1)] 3)).rd v9 w7.heap.size 5 5 [0, 0, 1, 2, -1] 0 (lit5C _) (len5C _ _ _ _ _) (by decide) (by decide) ne9).mono ?_); rintro e w9 ⟨x, hx, rfl, hR9, hO9⟩; (have s9 := ((s7.drew).alloc (.cells #[.int .i64 0, .int .i64 0, .int .i64 1, .int .i64 2, .int .i64 (-1)] 3)).only hR9 hO9); (have hxb := memC hx); obtain ⟨y0, y1, y2, f0, f1, f2⟩ := s9.y.cells; obtain ⟨u0, u1, u2, _⟩ := s9.x.cells)
          | (go_at_call 63; (with_reducible refine (num_any _ _ _ _ _ _ _ (s7.alloc (.cells #[.int .i64 0, .int .i64 0, .int .i64 1, .int .i64 2, .int .i64 (-1)] 3)).rd v9 w7.heap.size 5 5 [0, 0, 1, 2, -1] 0 (lit5C _) (len5C _ _ _ _ _) (by decide) (by decide) ne9).mono ?_); rintro e w9 ⟨x, hx, rfl, hR9, hO9⟩; (have s9 := (s7.alloc (.cells #[.int .i64 0, .int .i64 0, .int .i64 1, .int .i64 2, .int .i64 (-1)] 3)).only hR9 hO9); (have hxb := memC hx); obtain ⟨y0, y1, y2, f0, f1, f2⟩ := s9.y.cells; obtain ⟨u0, u1, u2, _⟩ := s9.x.cells))
      rename_i hHeld
      clear hHeld
      have q0' := Row.keptRd r0 s9.g2 (by omega)
      have q1' := Row.keptRd r1 s9.g2 (by omega)
      have q2' := Row.keptRd r2 s9.g2 (by omega)
      have z9 := s9.g2.size
      have B3 : Below w.heap.size w w9 := below_row s9.gw (by omega) (by omega)
      have RW := s9.row
      have hl9 := Lib.hid s9.le
      obtain ⟨hH, hBf⟩ := made_done (h := hp) (b := w.heap.size) (Nat.le_refl _) (q0'.mono (by omega)) (q1'.mono (by omega)) (q2'.mono (by omega)) a01 a02 a12 B3
      have HR := made_rowC (lo := w.heap.size) (b := w.heap.size) (v0 := .slice A0 n0 c0) (v1 := .slice A3 m1 c3) (v2 := .slice A2 m2 c2) (Nat.le_refl _) (RW.mono (by omega))
      clear r0 r1 r2 q0' q1' q2' RW s9 hR9 hO9
      go_wp2_with fail
      refine bodyPost_ret (v := .tuple #[.agg #[.slice A0 n0 c0, .slice A3 m1 c3, .slice A2 m2 c2], .slice A7 (m + 1) c7, .int .i64 x]) ?_ rfl ⟨_, hp, _, _, _, _, x, rfl, hH, HVA.out, hl9, by omega, HR, hxb, hBf⟩
      simp [results, Try.results34, go_sem, y0, y1, y2]
    · have u1 : ((u : Int) == 0) = false := by simp; omega
      have nbx : w.heap.size ≠ bx := by have := s5.rbw; have := s5.rbx; omega
      obtain ⟨x0, x1, x2, _⟩ := s5.x.cells
      have v9 : p2 + 1 ≤ 1048576 := by omega
      have ne9 := Nat.ne_of_gt s5.rd.lt
      go_wp2_with fail
      go_region_held3 (fun w' => w'.cell? ⟨bx, 0, none⟩ = some (.slice A0 n0 c0) ∧ w'.cell? ⟨bx, 1, none⟩ = some (.slice A3 m1 c3) ∧ w'.cell? ⟨bx, 2, none⟩ = some (.slice A2 m2 c2))
        (((try dsimp only); (repeat' apply And.intro) <;> (first | (with_reducible (first | exact u0 | exact u1 | exact u2 | exact x0 | exact cellD x0 | exact cellA x0 _ | exact cellD (cellA x0 _) | exact cellA (cellD x0) _ | exact x1 | exact cellD x1 | exact cellA x1 _ | exact cellD (cellA x1 _) | exact cellA (cellD x1) _ | exact x2 | exact cellD x2 | exact cellA x2 _ | exact cellD (cellA x2 _) | exact cellA (cellD x2) _)) | (rw [World.cell?_setCell_far _ _ _ _ (by exact nbx), World.cell?_setCell_far _ _ _ _ (by exact nbx), World.cell?_setCell_far _ _ _ _ (by exact nbx)]; first | exact u0 | exact u1 | exact u2))))
        (first
          | (go_at_call 63; (with_reducible refine (num_any _ _ _ _ _ _ _ (s5.alloc (.cells #[.int .i64 0, .int .i64 0, .int .i64 1, .int .i64 2, .int .i64 (-1)] 3)).drew.rd v9 w5.heap.size 5 5 [0, 0, 1, 2, -1] 0 (lit5C w5).drew (len5C _ _ _ _ _) (by decide) (by decide) ne9).mono ?_); rintro e w9 ⟨x, hx, rfl, hR9, hO9⟩; (have s9 := (s5.alloc (.cells #[.int .i64 0, .int .i64 0, .int .i64 1, .int .i64 2, .int .i64 (-1)] 3)).drew.only hR9 hO9); (have hxb := memC hx); obtain ⟨y0, y1, y2, f0, f1, f2⟩ := s9.y.cells; obtain ⟨u0, u1, u2, _⟩ := s9.x.cells)
          | (go_at_call 63; (with_reducible refine (num_any _ _ _ _ _ _ _ ((s5.drew).alloc (.cells #[.int .i64 0, .int .i64 0, .int .i64 1, .int .i64 2, .int .i64 (-1)] 3)).rd v9 w5.heap.size 5 5 [0, 0, 1, 2, -1] 0 (lit5C _) (len5C _ _ _ _ _) (by decide) (by decide) ne9).mono ?_); rintro e w9 ⟨x, hx, rfl, hR9, hO9⟩; (have s9 := ((s5.drew).alloc (.cells #[.int .i64 0, .int .i64 0, .int .i64 1, .int .i64 2, .int .i64 (-1)] 3)).only hR9 hO9); (have hxb := memC hx); obtain ⟨y0, y1, y2, f0, f1, f2⟩ := s9.y.cells; obtain ⟨u0, u1, u2, _⟩ := s9.x.cells)
          | (go_at_call 63; (with_reducible refine (num_any _ _ _ _ _ _ _ (s5.alloc (.cells #[.int .i64 0, .int .i64 0, .int .i64 1, .int .i64 2, .int .i64 (-1)] 3)).rd v9 w5.heap.size 5 5 [0, 0, 1, 2, -1] 0 (lit5C _) (len5C _ _ _ _ _) (by decide) (by decide) ne9).mono ?_); rintro e w9 ⟨x, hx, rfl, hR9, hO9⟩; (have s9 := (s5.alloc (.cells #[.int .i64 0, .int .i64 0, .int .i64 1, .int .i64 2, .int .i64 (-1)] 3)).only hR9 hO9); (have hxb := memC hx); obtain ⟨y0, y1, y2, f0, f1, f2⟩ := s9.y.cells; obtain ⟨u0, u1, u2, _⟩ := s9.x.cells))
      rename_i hHeld
      clear hHeld
      have q0' := Row.keptRd r0 s9.g2 (by omega)
      have q1' := Row.keptRd r1 s9.g2 (by omega)
      have q2' := Row.keptRd r2 s9.g2 (by omega)
      have z9 := s9.g2.size
      have B3 : Below w.heap.size w w9 := below_row s9.gw (by omega) (by omega)
      have RW := s9.row
      have hl9 := Lib.hid s9.le
      obtain ⟨hH, hBf⟩ := made_done (h := hp) (b := w.heap.size) (Nat.le_refl _) (q0'.mono (by omega)) (q1'.mono (by omega)) (q2'.mono (by omega)) a01 a02 a12 B3
      have HR := made_rowC (lo := w.heap.size) (b := w.heap.size) (v0 := .slice A0 n0 c0) (v1 := .slice A3 m1 c3) (v2 := .slice A2 m2 c2) (Nat.le_refl _) (RW.mono (by omega))
      clear r0 r1 r2 q0' q1' q2' RW s9 hR9 hO9
      go_wp2_with fail
      refine bodyPost_ret (v := .tuple #[.agg #[.slice A0 n0 c0, .slice A3 m1 c3, .slice A2 m2 c2], .slice AO m cO, .int .i64 x]) ?_ rfl ⟨_, hp, _, _, _, _, x, rfl, hH, HVA.out, hl9, by omega, HR, hxb, hBf⟩
      simp [results, Try.results34, go_sem, y0, y1, y2]
end Go.Proofs.Ytapkhgpifpgleaa
