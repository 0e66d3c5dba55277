/- The walk of AngleRoots. -/
import Derived.Test.YtdikelijnachjaaDoorRooA
import Derived.Test.YtdikelijnachjaaDoorBox
import Derived.Test.YtdikelijnachjaaDoorWawk
import Derived.Deep.QuietTactic
namespace Go.Proofs.YtdikelijnachjaaDoor
set_option linter.unusedSimpArgs false
set_option linter.unusedVariables false
open Go.RowKit SineNear

theorem below_dN {B : Nat} {a w : World} (h : Below B a w) (n : Nat) : Below B a (w.drewN n) := ⟨h.os, h.tape, h.output, h.size, h.block⟩

set_option maxRecDepth 100000 in
set_option maxHeartbeats 1000000 in
theorem roots_no (y0 y1 : Int) (w : World) (t : Tabs w) (C : Ret1 28 #[encl y0 y1] (enclE 0 0 7)) :
    Calls Tryd.prog 11 #[encl y0 y1] w fun e w' => e = .returned (.bool true) ∧ Below w.heap.size w w' := by
  have C' := Lib.hid C
  clear C
  go_enter Tryd.func11, Tryd.ntmps11
  go_wp2_with fail
  refine (C'.out _).mono ?_
  rintro e' w1 ⟨rfl, hb1⟩
  have o1 : Below w.heap.size w (w1.alloc (.cells #[.int .i64 0, .int .i64 0] 23)) := (((Below.refl _ _).alloc (Nat.le_refl _) _).trans (hb1.below.mono (by simp))).alloc (by have := hb1.below.size; simp at this; omega) _
  have tt := t.below o1
  go_wp2_with fail
  refine (awake_any _ tt).mono ?_
  rintro e w4 ⟨rfl, hb4⟩
  go_wp2_with fail
  go_ret
  exact ⟨rfl, o1.trans (hb4.mono o1.size)⟩

set_option maxRecDepth 100000 in
set_option maxHeartbeats 2000000 in
theorem roots_yes (y0 y1 r0 r1 : Int) (w : World) (t : Tabs w) (C : Ret1 28 #[encl y0 y1] (enclE r0 r1 0))
    (hy0 : 0 ≤ y0) (hy1 : y1 ≤ 3000000000) (hy2 : y0 ≤ y1) (hr0 : 0 ≤ r0) (hr1 : r0 ≤ r1) (hr2 : r1 ≤ 3000000000) (q1 : r0 * r0 ≤ y0 * 100000000) (q2 : y0 * 100000000 < (r0 + 1) * (r0 + 1)) (q3 : y1 * 100000000 ≤ r1 * r1) (q4 : r1 = 0 ∨ (0 < r1 ∧ (r1 - 1) * (r1 - 1) < y1 * 100000000)) :
    Calls Tryd.prog 11 #[encl y0 y1] w fun e w' => e = .returned (.bool true) ∧ Below w.heap.size w w' := by
  have C' := Lib.hid C
  clear C
  have b1 := sq_bd hr0 (show r0 ≤ 3000000000 by omega)
  have b2 := sq_bd (show 0 ≤ r0 + 1 by omega) (show r0 + 1 ≤ 3000000001 by omega)
  have b3 := sq_bd (show 0 ≤ r1 by omega) hr2
  have H1 := Lib.hid q1
  have H2 := Lib.hid q2
  have H3 := Lib.hid q3
  have H4 := Lib.hid q4
  have B1 := Lib.hid b1
  have B2 := Lib.hid b2
  have B3 := Lib.hid b3
  clear q1 q2 q3 q4 b1 b2 b3
  go_enter Tryd.func11, Tryd.ntmps11
  go_wp2_with fail
  refine (C'.out _).mono ?_
  rintro e' w1 ⟨rfl, hb1⟩
  have by' := ((Box.fresh w y0 y1 23).below hb1.below).alloc (.cells #[.int .i64 r0, .int .i64 r1] 23)
  have br := Box.fresh w1 r0 r1 23
  have o1 : Below w.heap.size w (w1.alloc (.cells #[.int .i64 r0, .int .i64 r1] 23)) := (((Below.refl _ _).alloc (Nat.le_refl _) _).trans (hb1.below.mono (by simp))).alloc (by have := hb1.below.size; simp at this; omega) _
  have tt := t.below o1
  obtain ⟨y00, y01, _, _, yz⟩ := by'
  obtain ⟨r00, r01, _, _, rz⟩ := br
  clear hb1
  go_upto_region 6 with (fail)
  obtain ⟨W, hW⟩ : ∃ W, W = w1.alloc (.cells #[.int .i64 r0, .int .i64 r1] 23) := ⟨_, rfl⟩
  rw [← hW] at y00 y01 yz r00 r01 rz o1 tt ⊢
  clear hW
  have x1 : IntKind.i64.wrap (y0 * 100000000) = y0 * 100000000 := IntWalk.i64_in _ (by omega)
  have x2 : IntKind.i64.wrap (y1 * 100000000) = y1 * 100000000 := IntWalk.i64_in _ (by omega)
  go_quiet (fail)
  clear x1 x2
  have q1 := H1.out
  have q2 := H2.out
  have q3 := H3.out
  have b1 := B1.out
  have b2 := B2.out
  have b3 := B3.out
  rcases H4.out with q4 | ⟨q5, q4⟩
  · have hz : (r1 == 0) = true := by simp [q4]
    have HQ := Lib.hid q4
    clear q4
    go_wp2_with fail
    refine (awake_any _ (tt.below (below_dN (Below.refl _ _) _))).mono ?_
    rintro e w4 ⟨rfl, hb4⟩
    go_wp2_with fail
    go_ret
    exact ⟨rfl, (below_dN o1 _).trans (hb4.mono o1.size)⟩
  · have hz : (r1 == 0) = false := beq_no (by omega)
    have b4 := sq_bd (show 0 ≤ r1 - 1 by omega) (show r1 - 1 ≤ 3000000000 by omega)
    go_wp2_with fail
    refine (awake_any _ (tt.below (below_dN (Below.refl _ _) _))).mono ?_
    rintro e w4 ⟨rfl, hb4⟩
    go_wp2_with fail
    go_ret
    exact ⟨rfl, (below_dN o1 _).trans (hb4.mono o1.size)⟩

theorem roots_any (y0 y1 : Int) (w : World) (t : Tabs w) :
    Calls Tryd.prog 11 #[encl y0 y1] w fun e w' => e = .returned (.bool true) ∧ Below w.heap.size w w' := by
  have C := rootA_any y0 y1
  unfold roLo roHi roE at C
  cases h : inB y0 y1 0 3000000000
  · rw [h] at C
    exact roots_no y0 y1 w t C
  · rw [h] at C
    simp only [if_true] at C
    obtain ⟨i1, i2, i3⟩ := inB_bd h
    obtain ⟨a0, a1, a2⟩ := rt_is (show 0 ≤ y0 * 100000000 by omega)
    obtain ⟨c0, c1, c2, c3⟩ := rtU_is (show 0 ≤ y1 * 100000000 by omega)
    have m := rtU_mono (show 0 ≤ y0 * 100000000 by omega) (show y0 * 100000000 ≤ y1 * 100000000 by omega)
    have c4 := (rtU_is (show 0 ≤ y0 * 100000000 by omega)).1
    have c5 : rtU (y1 * 100000000) ≤ 3000000000 := by
      have h1 := (rt_is (show 0 ≤ y1 * 100000000 by omega))
      have := root_lt h1.1 h1.2.1 (show y1 * 100000000 ≤ 300000000000000000 by omega)
      omega
    exact roots_yes y0 y1 _ _ w t C i1 i3 i2 a0 (by omega) c5 a1 a2 c2 (by
      rcases c3 with h1 | h1
      · exact .inl h1
      · by_cases z : rtU (y1 * 100000000) = 0
        · exact .inl z
        · exact .inr ⟨by omega, h1⟩)
end Go.Proofs.YtdikelijnachjaaDoor
