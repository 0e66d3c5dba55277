/- The walk of AngleBack. -/
import Derived.Test.YtdikelijnachjaaDoorBox
import Derived.Test.YtdikelijnachjaaDoorWawk
import Derived.Test.YtdikelijnachjaaDoorBackM
import Derived.IntWalk
namespace Go.Proofs.YtdikelijnachjaaDoor
set_option linter.unusedSimpArgs false
set_option linter.unusedVariables false
open Go.RowKit SineNear

/-- a call that returns an enclosure, and no error -/
def RetE (f : FuncId) (args : Array Value) (lo hi : Int) : Prop := ∀ w : World, Calls Tryd.prog f args w fun e w' => e = .returned (enclE lo hi 0) ∧ Own w.heap.size w w'

set_option maxRecDepth 100000 in
set_option maxHeartbeats 2000000 in
theorem back_walk (a v c0 c1 b0 b1 s0 s1 g0 g1 v0 v1 l0 l1 n0 n1 : Int) (w : World) (t : Tabs w) (h0 : 0 ≤ a) (h1 : a ≤ 180000000) (h2 : -100000000 ≤ v) (h3 : v ≤ 100000000)
    (C1 : RetE 17 #[.int .i64 a] c0 c1) (C2 : RetE 24 #[encl c0 c1] b0 b1) (C3 : RetE 15 #[.int .i64 (a - 90000000)] s0 s1) (C4 : RetE 26 #[encl s0 s1] g0 g1)
    (C5 : RetE 24 #[encl v v] v0 v1) (C6 : RetE 26 #[encl v v] (90000000 - v1) (90000000 - v0)) (C7 : RetE 17 #[.int .i64 v0] l0 l1) (C8 : RetE 17 #[.int .i64 v1] n0 n1)
    (i1 : b0 ≤ a) (i2 : a ≤ b1) (i3 : g0 ≤ a - 90000000) (i4 : a - 90000000 ≤ g1) (i5 : v1 - v0 ≤ 1) (i6 : v ≤ l1) (i7 : n0 ≤ v) (i8 : 0 ≤ v0) (i9 : v0 ≤ 180000000) (i10 : 0 ≤ v1) (i11 : v1 ≤ 180000000) :
    Calls Tryd.prog 10 #[.int .i64 a, .int .i64 v] w fun e w' => e = .returned (.bool true) ∧ Below w.heap.size w w' := by
  go_enter Tryd.func10, Tryd.ntmps10
  go_wp2_with fail
  refine (C1 _).mono ?_
  rintro e w1 ⟨rfl, hb1⟩
  have d1 : Below w.heap.size w w1 := hb1.below
  have z1 := hb1.size
  go_wp2_with fail
  refine (C2 _).mono ?_
  rintro e w2 ⟨rfl, hb2⟩
  have k5 := (Box.fresh w1 c0 c1 23).below hb2.below
  obtain ⟨k50, k51, k52, k53, k54⟩ := k5
  have d2 : Below w.heap.size w w2 := (d1.alloc z1 _).trans (hb2.below.mono (by simp; omega))
  go_wp2_with fail
  refine (C3 _).mono ?_
  rintro e w3 ⟨rfl, hb3⟩
  have k7 := (Box.fresh w2 b0 b1 23).below hb3.below
  obtain ⟨k70, k71, k72, k73, k74⟩ := k7
  have d3 : Below w.heap.size w w3 := (d2.alloc d2.size _).trans (hb3.below.mono (by have := d2.size; simp; omega))
  clear k50 k51 k52 k53 k54
  go_wp2_with fail
  refine (C4 _).mono ?_
  rintro e w4 ⟨rfl, hb4⟩
  have k7 := ((Box.alloc (show Box w2.heap.size b0 b1 w3 from ⟨k70, k71, k72, k73, k74⟩) (.cells #[.int .i64 s0, .int .i64 s1] 23)).below hb4.below)
  clear k70 k71 k72 k73 k74
  obtain ⟨k70, k71, k72, k73, k74⟩ := k7
  have d4 : Below w.heap.size w w4 := (d3.alloc d3.size _).trans (hb4.below.mono (by have := d3.size; simp; omega))
  go_wp2_with fail
  have d4s : Below w.heap.size w ((w4.setCell ⟨w2.heap.size, 0, none⟩ (.int .i64 g0)).setCell ⟨w2.heap.size, 1, none⟩ (.int .i64 g1)) := (d4.setCell d2.size _).setCell d2.size _
  have k7s := Box.set (show Box w2.heap.size b0 b1 w4 from ⟨k70, k71, k72, k73, k74⟩) g0 g1
  refine (x_any v v _).mono ?_
  rintro e w5 ⟨rfl, hb5⟩
  have k7 := k7s.below hb5.below
  have d5 : Below w.heap.size w w5 := d4s.trans (hb5.below.mono d4s.size)
  clear k7s d4s k70 k71 k72 k73 k74
  obtain ⟨k70, k71, k72, k73, k74⟩ := k7
  go_wp2_with fail
  refine (C5 _).mono ?_
  rintro e w6 ⟨rfl, hb6⟩
  have k7 := Box.below (show Box w2.heap.size g0 g1 w5 from ⟨k70, k71, k72, k73, k74⟩) hb6.below
  have d6 : Below w.heap.size w w6 := d5.trans (hb6.below.mono d5.size)
  clear k70 k71 k72 k73 k74
  obtain ⟨k70, k71, k72, k73, k74⟩ := k7
  go_wp2_with fail
  have d6s : Below w.heap.size w ((w6.setCell ⟨w2.heap.size, 0, none⟩ (.int .i64 v0)).setCell ⟨w2.heap.size, 1, none⟩ (.int .i64 v1)) := (d6.setCell d2.size _).setCell d2.size _
  have k7s := Box.set (show Box w2.heap.size g0 g1 w6 from ⟨k70, k71, k72, k73, k74⟩) v0 v1
  refine (x_any v v _).mono ?_
  rintro e w7 ⟨rfl, hb7⟩
  have k7 := k7s.below hb7.below
  have d7 : Below w.heap.size w w7 := d6s.trans (hb7.below.mono d6s.size)
  clear k7s d6s k70 k71 k72 k73 k74
  obtain ⟨k70, k71, k72, k73, k74⟩ := k7
  go_wp2_with fail
  refine (C6 _).mono ?_
  rintro e w8 ⟨rfl, hb8⟩
  have k7 := Box.below (show Box w2.heap.size v0 v1 w7 from ⟨k70, k71, k72, k73, k74⟩) hb8.below
  have d8 : Below w.heap.size w w8 := d7.trans (hb8.below.mono d7.size)
  clear k70 k71 k72 k73 k74
  obtain ⟨k70, k71, k72, k73, k74⟩ := k7
  go_wp2_with fail
  obtain ⟨W, hW⟩ : ∃ W, W = w8.alloc (.cells #[.int .i64 (90000000 - v1), .int .i64 (90000000 - v0)] 23) := ⟨_, rfl⟩
  rw [← hW]
  have f10 := Box.fresh w8 (90000000 - v1) (90000000 - v0) 23
  have f7 := Box.alloc (show Box w2.heap.size v0 v1 w8 from ⟨k70, k71, k72, k73, k74⟩) (.cells #[.int .i64 (90000000 - v1), .int .i64 (90000000 - v0)] 23)
  rw [← hW] at f10 f7
  have d9 : Below w.heap.size w W := by rw [hW]; exact d8.alloc d8.size _
  have hS : KpA w w2.heap.size w8.heap.size v0 v1 (90000000 - v1) (90000000 - v0) W := ⟨f7.1, f7.2.1, f10.1, f10.2.1, ⟨f7.2.2.2.2, f10.2.2.2.2⟩, d9⟩
  have hw1 : IntKind.i64.wrap (v1 - v0) = v1 - v0 := IntWalk.i64_in _ (by omega)
  have hw2 : IntKind.i64.wrap (90000000 - v1) = 90000000 - v1 := IntWalk.i64_in _ (by omega)
  have hw3 : IntKind.i64.wrap (90000000 - v0) = 90000000 - v0 := IntWalk.i64_in _ (by omega)
  have hd1 : decide (1 < v1 - v0) = false := decide_eq_false (by omega)
  clear hW k70 k71 k72 k73 k74 f10 f7
  go_region_held3 (fun w' => w'.cell? ⟨w2.heap.size, 0, none⟩ = some (.int .i64 v0) ∧ w'.cell? ⟨w2.heap.size, 1, none⟩ = some (.int .i64 v1) ∧ w'.cell? ⟨w8.heap.size, 0, none⟩ = some (.int .i64 (90000000 - v1)) ∧ w'.cell? ⟨w8.heap.size, 1, none⟩ = some (.int .i64 (90000000 - v0)) ∧ (w2.heap.size < w'.heap.size ∧ w8.heap.size < w'.heap.size) ∧ Below w.heap.size w w')
    (first | exact KpA.call hS (Below.refl _ _).drew | exact KpA.call (by assumption) hbq.below)
    (first | (go_at_call 47; with_reducible refine (x_any _ _ _).mono ?_; rintro e wq ⟨rfl, hbq⟩))
  have kq : KpA w w2.heap.size w8.heap.size v0 v1 (90000000 - v1) (90000000 - v0) wq := by assumption
  obtain ⟨k70, k71, k100, k101, ⟨k74, k104⟩, dq⟩ := kq
  clear hw1 hw2 hw3 hd1
  go_wp2_with fail
  refine (C7 _).mono ?_
  rintro e w10 ⟨rfl, hb10⟩
  have k70' : w10.cell? ⟨w2.heap.size, 0, none⟩ = some (.int .i64 v0) := by rw [hb10.cell (p := ⟨w2.heap.size, 0, none⟩) k74]; exact k70
  have k71' : w10.cell? ⟨w2.heap.size, 1, none⟩ = some (.int .i64 v1) := by rw [hb10.cell (p := ⟨w2.heap.size, 1, none⟩) k74]; exact k71
  have k74' : w2.heap.size < w10.heap.size := Nat.lt_of_lt_of_le k74 hb10.size
  have d10 : Below w.heap.size w w10 := dq.trans (hb10.below.mono dq.size)
  clear k70 k71 k74 k100 k101 k104
  go_wp2_with fail
  refine (C8 _).mono ?_
  rintro e w11 ⟨rfl, hb11⟩
  have k11 := (Box.fresh w10 l0 l1 23).below hb11.below
  have d11 : Below w.heap.size w w11 := (d10.alloc d10.size _).trans (hb11.below.mono (by have := d10.size; simp; omega))
  obtain ⟨k110, k111, k112, k113, k114⟩ := k11
  clear k70' k71' k74'
  go_wp2_with fail
  have d12 : Below w.heap.size w (w11.alloc (.cells #[.int .i64 n0, .int .i64 n1] 23)) := d11.alloc d11.size _
  refine (awake_any _ (t.below d12)).mono ?_
  rintro e w12 ⟨rfl, hb12⟩
  go_wp2_with fail
  go_ret
  exact ⟨rfl, d12.trans (hb12.mono d12.size)⟩

set_option maxRecDepth 100000 in
set_option maxHeartbeats 1000000 in
theorem back_out (a v : Int) (w : World) (t : Tabs w) (h : a < 0 ∨ 180000000 < a ∨ v < -100000000 ∨ 100000000 < v) :
    Calls Tryd.prog 10 #[.int .i64 a, .int .i64 v] w fun e w' => e = .returned (.bool true) ∧ Below w.heap.size w w' := by
  by_cases c1 : a < 0
  · go_enter Tryd.func10, Tryd.ntmps10
    go_wp2_with fail
    refine (awake_any _ t).mono ?_
    rintro e w1 ⟨rfl, hb1⟩
    go_wp2_with fail
    go_ret
    exact ⟨rfl, hb1⟩
  · by_cases c2 : 180000000 < a
    · go_enter Tryd.func10, Tryd.ntmps10
      go_wp2_with fail
      refine (awake_any _ t).mono ?_
      rintro e w1 ⟨rfl, hb1⟩
      go_wp2_with fail
      go_ret
      exact ⟨rfl, hb1⟩
    · by_cases c3 : v < -100000000
      · go_enter Tryd.func10, Tryd.ntmps10
        go_wp2_with fail
        refine (awake_any _ t).mono ?_
        rintro e w1 ⟨rfl, hb1⟩
        go_wp2_with fail
        go_ret
        exact ⟨rfl, hb1⟩
      · have c4 : 100000000 < v := by omega
        go_enter Tryd.func10, Tryd.ntmps10
        go_wp2_with fail
        refine (awake_any _ t).mono ?_
        rintro e w1 ⟨rfl, hb1⟩
        go_wp2_with fail
        go_ret
        exact ⟨rfl, hb1⟩

theorem back_any (a v : Int) (w : World) (t : Tabs w) :
    Calls Tryd.prog 10 #[.int .i64 a, .int .i64 v] w fun e w' => e = .returned (.bool true) ∧ Below w.heap.size w w' := by
  by_cases h : a < 0 ∨ 180000000 < a ∨ v < -100000000 ∨ 100000000 < v
  · exact back_out a v w t h
  · have m1 := back_cos a (by omega) (by omega)
    have m2 := back_sin (a - 90000000) (by omega) (by omega)
    have m3 := back_value v (by omega) (by omega)
    have m4 := arcA_one v (by omega) (by omega)
    have r5 := arcA_bd v
    have r6 := arcA_bd (-v)
    have iv := inB_yes (show -100000000 ≤ v by omega) (Int.le_refl v) (show v ≤ 100000000 by omega)
    refine back_walk a v _ _ _ _ _ _ _ _ (90000000 - arcA v) (90000000 - - arcA (-v)) _ _ _ _ w t (by omega) (by omega) (by omega) (by omega)
      (cos_val a (by omega) (by omega)) (arccos_yes _ _ · (sin_ok _)) (sin_val (a - 90000000) (by omega) (by omega)) (arcsin_yes _ _ · (sin_ok _)) (arccos_yes v v · iv) ?_ (cos_val _ (by omega) (by omega)) (cos_val _ (by omega) (by omega))
      m1.1 m1.2 m2.1 m2.2 (by omega) m3.1 m3.2 (by omega) (by omega) (by omega) (by omega)
    intro w'
    rw [show 90000000 - (90000000 - - arcA (-v)) = - arcA (-v) by omega, show 90000000 - (90000000 - arcA v) = arcA v by omega]
    exact arcsin_yes v v w' iv
end Go.Proofs.YtdikelijnachjaaDoor
