/- The walk of AngleEncloses. -/
import Derived.Test.YtdikelijnachjaaDoorEncl
namespace Go.Proofs.YtdikelijnachjaaDoor
set_option linter.unusedSimpArgs false
set_option linter.unusedVariables false
open Go.RowKit SineNear

set_option maxRecDepth 100000 in
set_option maxHeartbeats 8000000 in
theorem encl_s2 (l h u c0 c1 p0 p1 q0 q1 e0 e1 g0 g1 : Int) (w : World) (t : Tabs w) (h0 : -3600000000 ≤ l) (h1 : l ≤ h) (h2 : h ≤ 3600000000) (u0 : 0 ≤ u) (u1 : u ≤ 255)
    (y0 : 0 ≤ (h - l) * u) (y1 : (h - l) * u ≤ 1836000000000)
    (C1 : RetE 19 #[encl l h] (-100000000) (max e1 g1)) (C2 : RetE 21 #[encl l h] c0 c1) (C3 : RetE 15 #[.int .i64 (l + (h - l) * u / 255)] p0 p1) (C4 : RetE 17 #[.int .i64 (l + (h - l) * u / 255)] q0 q1)
    (C5 : RetE 15 #[.int .i64 l] e0 e1) (C6 : RetE 15 #[.int .i64 h] g0 g1)
    (i1 : (-100000000) ≤ p0) (i2 : p1 ≤ (max e1 g1)) (i3 : c0 ≤ q0) (i4 : q1 ≤ c1) (hn0 : ((-100000000 : Int) == min e0 g0) = false) (ht : h - l < 360000000) :
    Calls Tryd.prog 8 #[encl l h, .int .u8 u] w fun e w' => e = .returned (.bool true) ∧ Below w.heap.size w w' := by
  go_enter Tryd.func8, Tryd.ntmps8
  go_wp2_with fail
  refine (C1 _).mono ?_
  rintro e w1 ⟨rfl, hb1⟩
  have k2 := (Box.fresh w l h 23).below hb1.below
  have d1 : Below w.heap.size w w1 := ((Below.refl _ _).alloc (Nat.le_refl _) _).trans (hb1.below.mono (by simp))
  obtain ⟨k20, k21, k22, k23, k24⟩ := k2
  go_wp2_with fail
  refine (C2 _).mono ?_
  rintro e w2 ⟨rfl, hb2⟩
  have k2 := (Box.alloc (show Box w.heap.size l h w1 from ⟨k20, k21, k22, k23, k24⟩) (.cells #[.int .i64 (-100000000), .int .i64 (max e1 g1)] 23)).below hb2.below
  have k5 := (Box.fresh w1 (-100000000) (max e1 g1) 23).below hb2.below
  have d2 : Below w.heap.size w w2 := (d1.alloc d1.size _).trans (hb2.below.mono (by have := d1.size; simp; omega))
  clear k20 k21 k22 k23 k24
  obtain ⟨k20, k21, k22, k23, k24⟩ := k2
  obtain ⟨k50, k51, k52, k53, k54⟩ := k5
  go_wp2_with fail
  refine (C3 _).mono ?_
  rintro e w3 ⟨rfl, hb3⟩
  have k2 := (Box.alloc (show Box w.heap.size l h w2 from ⟨k20, k21, k22, k23, k24⟩) (.cells #[.int .i64 c0, .int .i64 c1] 23)).below hb3.below
  have k5 := (Box.alloc (show Box w1.heap.size (-100000000) (max e1 g1) w2 from ⟨k50, k51, k52, k53, k54⟩) (.cells #[.int .i64 c0, .int .i64 c1] 23)).below hb3.below
  have k7 := (Box.fresh w2 c0 c1 23).below hb3.below
  have d3 : Below w.heap.size w w3 := (d2.alloc d2.size _).trans (hb3.below.mono (by have := d2.size; simp; omega))
  clear k20 k21 k22 k23 k24 k50 k51 k52 k53 k54
  go_wp2_with fail
  refine (C4 _).mono ?_
  rintro e w4 ⟨rfl, hb4⟩
  have k2 := (k2.alloc (.cells #[.int .i64 p0, .int .i64 p1] 23)).below hb4.below
  have k5 := (k5.alloc (.cells #[.int .i64 p0, .int .i64 p1] 23)).below hb4.below
  have k7 := (k7.alloc (.cells #[.int .i64 p0, .int .i64 p1] 23)).below hb4.below
  have k10 := (Box.fresh w3 p0 p1 23).below hb4.below
  have d4 : Below w.heap.size w w4 := (d3.alloc d3.size _).trans (hb4.below.mono (by have := d3.size; simp; omega))
  have k10s := k10.alloc (.cells #[.int .i64 q0, .int .i64 q1] 23)
  have k5s := k5.alloc (.cells #[.int .i64 q0, .int .i64 q1] 23)
  have k7s := k7.alloc (.cells #[.int .i64 q0, .int .i64 q1] 23)
  have k2s := k2.alloc (.cells #[.int .i64 q0, .int .i64 q1] 23)
  have k11s := Box.fresh w4 q0 q1 23
  have d4s : Below w.heap.size w (w4.alloc (.cells #[.int .i64 q0, .int .i64 q1] 23)) := d4.alloc d4.size _
  obtain ⟨a0, a1, _, _, a4⟩ := k10
  obtain ⟨b0, b1, _, _, b4⟩ := k5
  obtain ⟨x0, x1, _, _, x4⟩ := k7
  go_wp2_with fail
  refine (within_yes _ _ _ _ i1 i2 _).mono ?_
  rintro e w5 ⟨rfl, hb5⟩
  have k10 := k10s.below hb5.below
  have k5 := k5s.below hb5.below
  have k7 := k7s.below hb5.below
  have k2 := k2s.below hb5.below
  have k11 := k11s.below hb5.below
  have d5 : Below w.heap.size w w5 := d4s.trans (hb5.below.mono d4s.size)
  clear a0 a1 a4 b0 b1 b4 x0 x1 x4 k10s k5s k7s k2s k11s d4s k10
  have k5c := k5
  have k2c := k2
  obtain ⟨x0, x1, _, _, x4⟩ := k7
  obtain ⟨b0, b1, _, _, b4⟩ := k11
  go_wp2_with fail
  refine (within_yes _ _ _ _ i3 i4 _).mono ?_
  rintro e w6 ⟨rfl, hb6⟩
  have k5 := k5c.below hb6.below
  have k2 := k2c.below hb6.below
  have d6 : Below w.heap.size w w6 := d5.trans (hb6.below.mono d5.size)
  clear x0 x1 x4 b0 b1 b4 k5c k2c
  have k2c := k2
  obtain ⟨b0, b1, _, _, b4⟩ := k2
  go_wp2_with fail
  refine (C5 _).mono ?_
  rintro e w7 ⟨rfl, hb7⟩
  have k5 := k5.below hb7.below
  have k2 := k2c.below hb7.below
  have d7 : Below w.heap.size w w7 := d6.trans (hb7.below.mono d6.size)
  clear b0 b1 b4 k2c
  have k2c := k2.alloc (.cells #[.int .i64 e0, .int .i64 e1] 23)
  obtain ⟨b0, b1, _, _, b4⟩ := k2
  go_wp2_with fail
  refine (C6 _).mono ?_
  rintro e w8 ⟨rfl, hb8⟩
  have k5 := (k5.alloc (.cells #[.int .i64 e0, .int .i64 e1] 23)).below hb8.below
  have k2 := k2c.below hb8.below
  have k12 := (Box.fresh w7 e0 e1 23).below hb8.below
  have d8 : Below w.heap.size w w8 := (d7.alloc d7.size _).trans (hb8.below.mono (by have := d7.size; simp; omega))
  clear b0 b1 b4 k2c
  have k2c := k2
  have k5c := k5
  obtain ⟨b0, b1, _, _, b4⟩ := k2
  obtain ⟨a0, a1, _, _, a4⟩ := k5
  obtain ⟨x0, x1, _, _, x4⟩ := k12
  have d9 : Below w.heap.size w (w8.alloc (.cells #[.int .i64 g0, .int .i64 g1] 23)) := d8.alloc d8.size _
  have hS' : KpE w w.heap.size w1.heap.size l h (-100000000) (max e1 g1) (w8.alloc (.cells #[.int .i64 g0, .int .i64 g1] 23)) := by
    have m2 := k2c.alloc (.cells #[.int .i64 g0, .int .i64 g1] 23)
    have m5 := k5c.alloc (.cells #[.int .i64 g0, .int .i64 g1] 23)
    exact ⟨m2.1, m2.2.1, m5.1, m5.2.1, ⟨m2.2.2.2.2, m5.2.2.2.2⟩, t.below d9, d9⟩
  go_wp2_with fail
  all_goals
    obtain ⟨W, hW⟩ : ∃ W, W = w8.alloc (.cells #[.int .i64 g0, .int .i64 g1] 23) := ⟨_, rfl⟩
    rw [← hW] at hS' ⊢
    have hw : IntKind.i64.wrap (h - l) = h - l := IntWalk.i64_in _ (by omega)
    have hd : decide (h - l < 360000000) = true := decide_eq_true (by omega)
    clear hW b0 b1 b4 a0 a1 a4 x0 x1 x4 k2c k5c
    obtain ⟨j0, j1, j2, jt, jb⟩ := hS'.one
    clear hS'
    go_region_with (go_at_call 23; refine (awake_any _ ?_).mono ?_; exact jt.below (Below.refl _ _).drew; rintro e wq ⟨rfl, hbq⟩)
    all_goals
      go_wp2
      go_ret
      exact ⟨rfl, jb.drew.trans (hbq.mono jb.size)⟩
end Go.Proofs.YtdikelijnachjaaDoor
