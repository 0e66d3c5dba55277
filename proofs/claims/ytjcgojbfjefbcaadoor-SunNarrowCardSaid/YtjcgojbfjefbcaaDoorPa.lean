/- SunParts: the walk. -/
import Derived.Test.YtjcgojbfjefbcaaDoorSu
import Derived.Test.YtjcgojbfjefbcaaDoorAw
namespace Go.Proofs.YtjcgojbfjefbcaaDoor
set_option linter.unusedSimpArgs false
set_option linter.unusedVariables false
open Go.RowKit SineNear
attribute [local go_sem ↓] Go.wp_at_zero Go.wp_at_succ

/-- a part of an enclosure, by 255ths -/
theorem part_small {y0 y1 u v : Int} (h : y0 ≤ y1) (hb : y1 - y0 ≤ 7200000000) (u0 : 0 ≤ u) (u1 : u ≤ 255) (v0 : 0 ≤ v) (v1 : v ≤ 255) :
    0 ≤ (y1 - y0) * min u v ∧ (y1 - y0) * max u v ≤ 1836000000000 ∧ 0 ≤ (y1 - y0) * max u v ∧ (y1 - y0) * min u v ≤ 1836000000000 ∧
    y0 ≤ y0 + (y1 - y0) * min u v / 255 ∧ y0 + (y1 - y0) * min u v / 255 ≤ y0 + (y1 - y0) * max u v / 255 ∧ y0 + (y1 - y0) * max u v / 255 ≤ y1 := by
  have m0 := Int.mul_nonneg (show 0 ≤ y1 - y0 by omega) (show 0 ≤ min u v by omega)
  have m1 := Int.mul_le_mul_of_nonneg_left (show min u v ≤ max u v by omega) (show 0 ≤ y1 - y0 by omega)
  have m2 := Int.mul_le_mul_of_nonneg_left (show max u v ≤ 255 by omega) (show 0 ≤ y1 - y0 by omega)
  generalize (y1 - y0) * min u v = a at *
  generalize (y1 - y0) * max u v = b at *
  omega
theorem min2_is (k : IntKind) (x y : Int) : Builtin.min2 (.int k x) (.int k y) = pure (.int k (min x y)) := by
  show (pure (.int k (if y < x then y else x)) : Sem Value) = _
  congr 2
  by_cases h : y < x
  · rw [if_pos h]; omega
  · rw [if_neg h]; omega
theorem max2_is (k : IntKind) (x y : Int) : Builtin.max2 (.int k x) (.int k y) = pure (.int k (max x y)) := by
  show (pure (.int k (if y > x then y else x)) : Sem Value) = _
  congr 2
  by_cases h : y > x
  · rw [if_pos h]; omega
  · rw [if_neg h]; omega
@[go_sem ↓] theorem min_four (ats : Array TypeId) (ty : TypeId) (k : IntKind) (p q r s : Int) : Builtin.min_ ats ty #[.int k p, .int k q, .int k r, .int k s] = pure (.int k (min (min (min p q) r) s)) := by
  show (Builtin.min2 (.int k p) (.int k q) >>= fun a => Builtin.min2 a (.int k r) >>= fun a => Builtin.min2 a (.int k s) >>= fun a => pure a) = _
  rw [min2_is]
  show (Builtin.min2 (.int k (min p q)) (.int k r) >>= fun a => Builtin.min2 a (.int k s) >>= fun a => pure a) = _
  rw [min2_is]
  show (Builtin.min2 (.int k (min (min p q) r)) (.int k s) >>= fun a => pure a) = _
  rw [min2_is]
  rfl
@[go_sem ↓] theorem max_four (ats : Array TypeId) (ty : TypeId) (k : IntKind) (p q r s : Int) : Builtin.max_ ats ty #[.int k p, .int k q, .int k r, .int k s] = pure (.int k (max (max (max p q) r) s)) := by
  show (Builtin.max2 (.int k p) (.int k q) >>= fun a => Builtin.max2 a (.int k r) >>= fun a => Builtin.max2 a (.int k s) >>= fun a => pure a) = _
  rw [max2_is]
  show (Builtin.max2 (.int k (max p q)) (.int k r) >>= fun a => Builtin.max2 a (.int k s) >>= fun a => pure a) = _
  rw [max2_is]
  show (Builtin.max2 (.int k (max (max p q) r)) (.int k s) >>= fun a => pure a) = _
  rw [max2_is]
  rfl
@[go_sem ↓] theorem min_two (ats : Array TypeId) (ty : TypeId) (k : IntKind) (p q : Int) : Builtin.min_ ats ty #[.int k p, .int k q] = pure (.int k (min p q)) := by
  show (Builtin.min2 (.int k p) (.int k q) >>= fun a => pure a) = _
  rw [min2_is]
  rfl
@[go_sem ↓] theorem max_two (ats : Array TypeId) (ty : TypeId) (k : IntKind) (p q : Int) : Builtin.max_ ats ty #[.int k p, .int k q] = pure (.int k (max p q)) := by
  show (Builtin.max2 (.int k p) (.int k q) >>= fun a => pure a) = _
  rw [max2_is]
  rfl


set_option maxHeartbeats 1000000 in
theorem win_T (p a : P2) (h0 : a.1 ≤ p.1) (h1 : p.2 ≤ a.2) : RetT 41 #[en p, en a] (.bool true) := by
  intro w
  obtain ⟨p0, p1⟩ := p
  obtain ⟨a0, a1⟩ := a
  simp only at h0 h1
  go_enter Tryd.func41, Tryd.ntmps41
  go_wp2
  go_ret
  exact ⟨rfl, ((Below.refl _ _).alloc (Nat.le_refl _) _).alloc (by simp) _⟩

set_option maxHeartbeats 4000000 in
theorem parts_no (ea : Addr) (lo hi u v : Int) (w : World) (td : TabD ea w) (te : TabE w) (C1 : Hid (RetT 40 #[.int .i64 lo, .int .i64 hi] (.tuple #[en (0, 0), en (0, 0), .int .i64 7]))) :
    Calls Tryd.prog 10 #[.int .i64 lo, .int .i64 hi, .agg #[.int .u8 u, .int .u8 v]] w fun e w' => e = .returned (.bool true) ∧ Below w.heap.size w w' := by
  have c0 : Cel w.heap.size 0 (.int .u8 u) (w.alloc (.cells #[.int .u8 u, .int .u8 v] 71)) := ⟨by simp [go_sem], by simp⟩
  have c1 : Cel w.heap.size 1 (.int .u8 v) (w.alloc (.cells #[.int .u8 u, .int .u8 v] 71)) := ⟨by simp [go_sem], by simp⟩
  have td := td.below ((Below.refl w.heap.size w).alloc (Nat.le_refl _) (.cells #[.int .u8 u, .int .u8 v] 71))
  have te := te.below ((Below.refl w.heap.size w).alloc (Nat.le_refl _) (.cells #[.int .u8 u, .int .u8 v] 71))
  have hb := (Below.refl w.heap.size w).alloc (Nat.le_refl _) (.cells #[.int .u8 u, .int .u8 v] 71)
  go_enter Tryd.func10, Tryd.ntmps10
  go_wp2_with fail
  clear c0 c1
  refine (C1.out _).mono ?_
  rintro e v1 ⟨rfl, hq⟩
  have td := td.below hq
  have te := te.below hq
  have hb := hb.trans (hq.mono hb.size)
  clear hq
  go_wp2_with fail
  refine fresh_call (fun W => TabD ea W ∧ TabE W ∧ Below w.heap.size w W) ⟨td.below (((Below.refl _ _).alloc (Nat.le_refl _) _).alloc (by simp) _), te.below (((Below.refl _ _).alloc (Nat.le_refl _) _).alloc (by simp) _), hb.trans ((((Below.refl _ _).alloc (Nat.le_refl _) _).alloc (by simp) _).mono hb.size)⟩ ?_
  clear td te hb
  rintro W2 ⟨td, te, hb⟩
  refine (awake_any ea _ td te).mono ?_
  rintro e v3 ⟨rfl, hq⟩
  have hb := hb.trans (hq.mono hb.size)
  clear hq td te
  go_wp2_with fail
  go_ret
  exact ⟨rfl, hb⟩

set_option maxRecDepth 100000 in
set_option maxHeartbeats 8000000 in
theorem parts_yes (ea : Addr) (lo hi u v : Int) (w : World) (td : TabD ea w) (te : TabE w) (u0 : 0 ≤ u) (u1 : u ≤ 255) (v0 : 0 ≤ v) (v1 : v ≤ 255) (h : inB lo hi (-172800) 3456172800 = true) (hl : hi - lo ≤ 172800) :
    Calls Tryd.prog 10 #[.int .i64 lo, .int .i64 hi, .agg #[.int .u8 u, .int .u8 v]] w fun e w' => e = .returned (.bool true) ∧ Below w.heap.size w w' := by
  obtain ⟨b0, b1, b2⟩ := inB_bd h
  obtain ⟨m0, m1, m2, m3, m4, m5, m6⟩ := part_small b1 (show hi - lo ≤ 7200000000 by omega) u0 u1 v0 v1
  have C1 := Lib.hid (sun_yes lo hi h hl)
  obtain ⟨lp, hlp⟩ : ∃ x, x = lo + (hi - lo) * min u v / 255 := ⟨_, rfl⟩
  obtain ⟨hp, hhp⟩ : ∃ x, x = lo + (hi - lo) * max u v / 255 := ⟨_, rfl⟩
  have wp : Wi (lp, hp) (lo, hi) := by unfold Wi; simp only; omega
  have sn : Spn (lo, hi) := by unfold Spn; simp only; omega
  have C2 := sun_yes lp hp (decide_eq_true (by omega)) (by omega)
  have sw := s_wi wp sn
  have ew := e_wi wp sn
  have C3 := Lib.hid (win_T (sM (lp, hp)) (sM (lo, hi)) sw.1 sw.2.2)
  have C4 := Lib.hid (win_T (eM (lp, hp)) (eM (lo, hi)) ew.1 ew.2.2)
  clear wp sn sw ew
  obtain ⟨sa, hsa⟩ : ∃ x, x = sM (lo, hi) := ⟨_, rfl⟩
  obtain ⟨sb, hsb⟩ : ∃ x, x = eM (lo, hi) := ⟨_, rfl⟩
  obtain ⟨pa, hpa⟩ : ∃ x, x = sM (lp, hp) := ⟨_, rfl⟩
  obtain ⟨pb, hpb⟩ : ∃ x, x = eM (lp, hp) := ⟨_, rfl⟩
  rw [← hsa, ← hsb] at C1
  rw [← hpa, ← hpb] at C2
  rw [← hpa, ← hsa] at C3
  rw [← hpb, ← hsb] at C4
  clear hsa hsb hpa hpb
  rw [hlp, hhp] at C2
  have C2 := Lib.hid C2
  clear hlp hhp h
  obtain ⟨sa0, sa1⟩ := sa
  obtain ⟨sb0, sb1⟩ := sb
  obtain ⟨pa0, pa1⟩ := pa
  obtain ⟨pb0, pb1⟩ := pb
  have c0 : Cel w.heap.size 0 (.int .u8 u) (w.alloc (.cells #[.int .u8 u, .int .u8 v] 71)) := ⟨by simp [go_sem], by simp⟩
  have c1 : Cel w.heap.size 1 (.int .u8 v) (w.alloc (.cells #[.int .u8 u, .int .u8 v] 71)) := ⟨by simp [go_sem], by simp⟩
  have td := td.below ((Below.refl w.heap.size w).alloc (Nat.le_refl _) (.cells #[.int .u8 u, .int .u8 v] 71))
  have te := te.below ((Below.refl w.heap.size w).alloc (Nat.le_refl _) (.cells #[.int .u8 u, .int .u8 v] 71))
  have hb := (Below.refl w.heap.size w).alloc (Nat.le_refl _) (.cells #[.int .u8 u, .int .u8 v] 71)
  go_enter Tryd.func10, Tryd.ntmps10
  go_wp2_with fail
  refine (C1.out _).mono ?_
  rintro e w1 ⟨rfl, hq⟩
  have c0 := c0.below hq
  have c1 := c1.below hq
  have td := td.below hq
  have te := te.below hq
  have hb := hb.trans (hq.mono hb.size)
  clear hq
  clear C1
  go_wp2_with fail
  have hn : Below w1.heap.size w1 ((w1.alloc (.cells #[.int .i64 sa0, .int .i64 sa1] 51)).alloc (.cells #[.int .i64 sb0, .int .i64 sb1] 51)) := ((Below.refl _ _).alloc (Nat.le_refl _) _).alloc (by simp) _
  refine fresh_world (fun W => Cel w.heap.size 0 (.int .u8 u) W ∧ Cel w.heap.size 1 (.int .u8 v) W ∧ Box w1.heap.size sa0 sa1 W ∧ Box (w1.heap.size + 1) sb0 sb1 W ∧ TabD ea W ∧ TabE W ∧ Below w.heap.size w W) ⟨c0.below hn, c1.below hn, (Box.fresh _ _ _ _).alloc _, Box.freshAt (by simp) _ _ _, td.below hn, te.below hn, hb.trans (hn.mono hb.size)⟩ ?_
  clear hn td te c0 c1 hb
  rintro W2 ⟨c0, c1, x0, x1, td, te, hb⟩
  have hR : ∀ w', Below W2.heap.size W2 w' → Cel w.heap.size 0 (.int .u8 u) w' ∧ Cel w.heap.size 1 (.int .u8 v) w' := fun w' hq0 => ⟨c0.below hq0, c1.below hq0⟩
  have hG := good_below hR
  have y0 : IntKind.i64.wrap 0 = 0 := by decide
  have y1 : IntKind.i64.wrap 1 = 1 := by decide
  refine wp_region_G (R := fun w' => Cel w.heap.size 0 (.int .u8 u) w' ∧ Cel w.heap.size 1 (.int .u8 v) w') (fun w' => Below W2.heap.size W2 w') (by kernel_rfl) (Below.refl _ _).drew ?_
  refine wpAnyG_take (i := 0) (v := ?_) rfl (by kernel_rfl) (by kernel_rfl) (by kernel_rfl) hG rfl ?_ ?_
  rotate_left
  (focus (intro ww hSw; obtain ⟨⟨q0, q1⟩, ⟨s0, s1⟩⟩ := hSw; go_simp; (try with_reducible rfl)))
  (try simp only [Act.put, List.setIfInBounds_toArray, List.set_cons_zero, List.set_cons_succ, List.getElem_toArray, List.getElem_cons_zero, List.getElem_cons_succ])
  refine wpAnyG_take (i := 1) (v := ?_) rfl (by kernel_rfl) (by kernel_rfl) (by kernel_rfl) hG rfl ?_ ?_
  rotate_left
  (focus (intro ww hSw; obtain ⟨⟨q0, q1⟩, ⟨s0, s1⟩⟩ := hSw; go_simp; (try with_reducible rfl)))
  (try simp only [Act.put, List.setIfInBounds_toArray, List.set_cons_zero, List.set_cons_succ, List.getElem_toArray, List.getElem_cons_zero, List.getElem_cons_succ])
  refine wpAnyG_take (i := 2) (v := ?_) rfl (by kernel_rfl) (by kernel_rfl) (by kernel_rfl) hG rfl ?_ ?_
  rotate_left
  (focus (intro ww hSw; obtain ⟨⟨q0, q1⟩, ⟨s0, s1⟩⟩ := hSw; go_simp; (try with_reducible rfl)))
  (try simp only [Act.put, List.setIfInBounds_toArray, List.set_cons_zero, List.set_cons_succ, List.getElem_toArray, List.getElem_cons_zero, List.getElem_cons_succ])
  refine wpAnyG_take (i := 3) (v := ?_) rfl (by kernel_rfl) (by kernel_rfl) (by kernel_rfl) hG rfl ?_ ?_
  rotate_left
  (focus (intro ww hSw; obtain ⟨⟨q0, q1⟩, ⟨s0, s1⟩⟩ := hSw; go_simp; (try with_reducible rfl)))
  (try simp only [Act.put, List.setIfInBounds_toArray, List.set_cons_zero, List.set_cons_succ, List.getElem_toArray, List.getElem_cons_zero, List.getElem_cons_succ])
  refine wpAnyG_take (i := 4) (v := ?_) rfl (by kernel_rfl) (by kernel_rfl) (by kernel_rfl) hG rfl ?_ ?_
  rotate_left
  (focus (intro ww hSw; obtain ⟨⟨q0, q1⟩, ⟨s0, s1⟩⟩ := hSw; go_simp; (try with_reducible rfl)))
  (try simp only [Act.put, List.setIfInBounds_toArray, List.set_cons_zero, List.set_cons_succ, List.getElem_toArray, List.getElem_cons_zero, List.getElem_cons_succ])
  refine wpAnyG_take (i := 5) (v := ?_) rfl (by kernel_rfl) (by kernel_rfl) (by kernel_rfl) hG rfl ?_ ?_
  rotate_left
  (focus (intro ww hSw; obtain ⟨⟨q0, q1⟩, ⟨s0, s1⟩⟩ := hSw; go_simp; (try with_reducible rfl)))
  (try simp only [Act.put, List.setIfInBounds_toArray, List.set_cons_zero, List.set_cons_succ, List.getElem_toArray, List.getElem_cons_zero, List.getElem_cons_succ])
  refine wpAnyG_take (i := 6) (v := ?_) rfl (by kernel_rfl) (by kernel_rfl) (by kernel_rfl) hG rfl ?_ ?_
  rotate_left
  (focus (intro ww hSw; obtain ⟨⟨q0, q1⟩, ⟨s0, s1⟩⟩ := hSw; go_simp; (try with_reducible rfl)))
  (try simp only [Act.put, List.setIfInBounds_toArray, List.set_cons_zero, List.set_cons_succ, List.getElem_toArray, List.getElem_cons_zero, List.getElem_cons_succ])
  refine wpAnyG_take (i := 7) (v := ?_) rfl (by kernel_rfl) (by kernel_rfl) (by kernel_rfl) hG rfl ?_ ?_
  rotate_left
  (focus (intro ww hSw; obtain ⟨⟨q0, q1⟩, ⟨s0, s1⟩⟩ := hSw; go_simp; (try with_reducible rfl)))
  (try simp only [Act.put, List.setIfInBounds_toArray, List.set_cons_zero, List.set_cons_succ, List.getElem_toArray, List.getElem_cons_zero, List.getElem_cons_succ])
  refine wpAnyG_take (i := 8) (v := ?_) rfl (by kernel_rfl) (by kernel_rfl) (by kernel_rfl) hG rfl ?_ ?_
  rotate_left
  (focus (intro ww hSw; obtain ⟨⟨q0, q1⟩, ⟨s0, s1⟩⟩ := hSw; go_simp; (try with_reducible rfl)))
  (try simp only [Act.put, List.setIfInBounds_toArray, List.set_cons_zero, List.set_cons_succ, List.getElem_toArray, List.getElem_cons_zero, List.getElem_cons_succ])
  refine wpAnyG_take (i := 9) (v := ?_) rfl (by kernel_rfl) (by kernel_rfl) (by kernel_rfl) hG rfl ?_ ?_
  rotate_left
  (focus (intro ww hSw; obtain ⟨⟨q0, q1⟩, ⟨s0, s1⟩⟩ := hSw; go_simp; (try with_reducible rfl)))
  (try simp only [Act.put, List.setIfInBounds_toArray, List.set_cons_zero, List.set_cons_succ, List.getElem_toArray, List.getElem_cons_zero, List.getElem_cons_succ])
  refine wpAnyG_take (i := 10) (v := ?_) rfl (by kernel_rfl) (by kernel_rfl) (by kernel_rfl) hG rfl ?_ ?_
  rotate_left
  (focus (intro ww hSw; obtain ⟨⟨q0, q1⟩, ⟨s0, s1⟩⟩ := hSw; go_simp; (try with_reducible rfl)))
  (try simp only [Act.put, List.setIfInBounds_toArray, List.set_cons_zero, List.set_cons_succ, List.getElem_toArray, List.getElem_cons_zero, List.getElem_cons_succ])
  refine wpAnyG_take (i := 11) (v := ?_) rfl (by kernel_rfl) (by kernel_rfl) (by kernel_rfl) hG rfl ?_ ?_
  rotate_left
  (focus (intro ww hSw; obtain ⟨⟨q0, q1⟩, ⟨s0, s1⟩⟩ := hSw; go_simp; (try with_reducible rfl)))
  (try simp only [Act.put, List.setIfInBounds_toArray, List.set_cons_zero, List.set_cons_succ, List.getElem_toArray, List.getElem_cons_zero, List.getElem_cons_succ])
  refine wpAnyG_done (by kernel_rfl) ?_ _
  intro W3 hB
  clear hR hG y0 y1 c0 c1
  have x0 := x0.below hB
  have x1 := x1.below hB
  have td := td.below hB
  have te := te.below hB
  have hb := hb.trans (hB.mono hb.size)
  clear hB
  go_wp2_with fail
  refine (C2.out _).mono ?_
  rintro e w4 ⟨rfl, hq⟩
  have x0 := x0.below hq
  have x1 := x1.below hq
  have td := td.below hq
  have te := te.below hq
  have hb := hb.trans (hq.mono hb.size)
  clear hq
  clear C2
  have X0 := x0
  have X1 := x1
  obtain ⟨a0, a1, a2, a3, a4⟩ := x0
  obtain ⟨e0, e1, e2, e3, e4⟩ := x1
  have n0 : w1.heap.size ≠ w4.heap.size := by omega
  have n1 : w1.heap.size ≠ w4.heap.size + 1 := by omega
  have n2 : w1.heap.size + 1 ≠ w4.heap.size := by omega
  have n3 : w1.heap.size + 1 ≠ w4.heap.size + 1 := by omega
  have n4 : w1.heap.size < w4.heap.size + 1 := by omega
  have n5 : w1.heap.size + 1 < w4.heap.size + 1 := by omega
  go_wp2_with fail
  have hn : Below w4.heap.size w4 ((w4.alloc (.cells #[.int .i64 pa0, .int .i64 pa1] 51)).alloc (.cells #[.int .i64 pb0, .int .i64 pb1] 51)) := ((Below.refl _ _).alloc (Nat.le_refl _) _).alloc (by simp) _
  refine fresh_call (fun W => Box w4.heap.size pa0 pa1 W ∧ Box (w4.heap.size + 1) pb0 pb1 W ∧ Box w1.heap.size sa0 sa1 W ∧ Box (w1.heap.size + 1) sb0 sb1 W ∧ TabD ea W ∧ TabE W ∧ Below w.heap.size w W) ⟨(Box.fresh _ _ _ _).alloc _, Box.freshAt (by simp) _ _ _, X0.below hn, X1.below hn, td.below hn, te.below hn, hb.trans (hn.mono hb.size)⟩ ?_
  clear hn td te hb X0 X1 a0 a1 a2 a3 a4 e0 e1 e2 e3 e4 n0 n1 n2 n3 n4 n5
  rintro W5 ⟨p0, p1, x0, x1, td, te, hb⟩
  refine (C3.out _).mono ?_
  rintro e w6 ⟨rfl, hq⟩
  have p1 := p1.below hq
  have x1 := x1.below hq
  have td := td.below hq
  have te := te.below hq
  have hb := hb.trans (hq.mono hb.size)
  clear hq C3 p0 x0
  obtain ⟨a0, a1, a2, a3, a4⟩ := p1
  obtain ⟨e0, e1, e2, e3, e4⟩ := x1
  go_wp2_with fail
  refine (C4.out _).mono ?_
  rintro e w7 ⟨rfl, hq⟩
  have td := td.below hq
  have te := te.below hq
  have hb := hb.trans (hq.mono hb.size)
  clear hq C4 a0 a1 a2 a3 a4 e0 e1 e2 e3 e4
  go_wp2_with fail
  refine (awake_any ea _ td te).mono ?_
  rintro e w8 ⟨rfl, hq⟩
  have hb := hb.trans (hq.mono hb.size)
  clear hq td te
  go_wp2_with fail
  go_ret
  exact ⟨rfl, hb⟩
theorem parts_any (ea : Addr) (lo hi u v : Int) (w : World) (td : TabD ea w) (te : TabE w) (u0 : 0 ≤ u) (u1 : u ≤ 255) (v0 : 0 ≤ v) (v1 : v ≤ 255) :
    Calls Tryd.prog 10 #[.int .i64 lo, .int .i64 hi, .agg #[.int .u8 u, .int .u8 v]] w fun e w' => e = .returned (.bool true) ∧ Below w.heap.size w w' := by
  cases h : inB lo hi (-172800) 3456172800
  · exact parts_no ea lo hi u v w td te (Lib.hid (sun_out lo hi h))
  · by_cases hl : hi - lo ≤ 172800
    · exact parts_yes ea lo hi u v w td te u0 u1 v0 v1 h hl
    · exact parts_no ea lo hi u v w td te (Lib.hid (sun_long lo hi h (by omega)))
end Go.Proofs.YtjcgojbfjefbcaaDoor
