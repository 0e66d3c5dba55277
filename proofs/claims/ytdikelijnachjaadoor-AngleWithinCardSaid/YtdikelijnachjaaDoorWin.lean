/- AngleWithin: all of its cases. -/
import Derived.Test.YtdikelijnachjaaDoorWit
namespace Go.Proofs.YtdikelijnachjaaDoor
set_option linter.unusedSimpArgs false
set_option linter.unusedVariables false
open Go.RowKit SineNear

theorem own_ret {f : FuncId} {args : Array Value} {v : Value} (h : ∀ w : World, Calls Tryd.prog f args w fun e w' => e = .returned v ∧ Own w.heap.size w w') : RetT f args v := fun w => (h w).mono fun _ _ ⟨e, o⟩ => ⟨e, o.below⟩

theorem pairs_one (y0 y1 s0 s1 : Int) (h0 : y0 ≤ s0) (h : s0 ≤ s1) (h1 : s1 ≤ y1) (i : Nat) (hi : i < 5) : Pair1 (fo1 i) #[encl s0 s1] #[encl y0 y1] := by
  rcases (by omega : i = 0 ∨ i = 1 ∨ i = 2 ∨ i = 3 ∨ i = 4) with rfl | rfl | rfl | rfl | rfl
  · exact ⟨_, _, _, _, _, _, own_ret (fun w => sinOf_any s0 s1 w), own_ret (fun w => sinOf_any y0 y1 w), sinOf_small h0 h h1⟩
  · exact ⟨_, _, _, _, _, _, own_ret (fun w => cosOf_any s0 s1 w), own_ret (fun w => cosOf_any y0 y1 w), cosOf_small h0 h h1⟩
  · exact ⟨_, _, _, _, _, _, own_ret (fun w => arccos_any s0 s1 w), own_ret (fun w => arccos_any y0 y1 w), arccos_small h0 h h1⟩
  · exact ⟨_, _, _, _, _, _, own_ret (fun w => arcsin_any s0 s1 w), own_ret (fun w => arcsin_any y0 y1 w), arcsin_small h0 h h1⟩
  · exact ⟨_, _, _, _, _, _, own_ret (fun w => rootA_any s0 s1 w), own_ret (fun w => rootA_any y0 y1 w), root_small h0 h h1⟩
theorem pair_v {op : FuncId} {a b : Array Value} {v u : Value} (h : SubV v u) (A : RetT op a v) (B : RetT op b u) : Pair1 op a b := by
  obtain ⟨p0, p1, pe, q0, q1, qe, rfl, rfl, hs⟩ := h
  exact ⟨p0, p1, pe, q0, q1, qe, A, B, hs⟩
theorem val_no {z0 z1 : Int} (h : z1 < z0) : valB z0 z1 = false := decide_eq_false (by omega)
theorem plus_left (y0 y1 s0 s1 z0 z1 : Int) (h0 : y0 ≤ s0) (h : s0 ≤ s1) (h1 : s1 ≤ y1) : SubV (plusV s0 s1 z0 z1) (plusV y0 y1 z0 z1) := by
  by_cases k : z0 ≤ z1
  · exact plus_small h0 h h1 (Int.le_refl z0) k (Int.le_refl z1)
  · have e := val_no (z0 := z0) (z1 := z1) (by omega)
    unfold plusV
    simp only [e, Bool.and_false, Bool.false_and]
    exact subV_bad (isE _ _ _) _ _ _ (by decide)
theorem plus_right (y0 y1 s0 s1 z0 z1 : Int) (h0 : y0 ≤ s0) (h : s0 ≤ s1) (h1 : s1 ≤ y1) : SubV (plusV z0 z1 s0 s1) (plusV z0 z1 y0 y1) := by
  by_cases k : z0 ≤ z1
  · exact plus_small (Int.le_refl z0) k (Int.le_refl z1) h0 h h1
  · have e := val_no (z0 := z0) (z1 := z1) (by omega)
    unfold plusV
    simp only [e, Bool.and_false, Bool.false_and]
    exact subV_bad (isE _ _ _) _ _ _ (by decide)
theorem minus_left (y0 y1 s0 s1 z0 z1 : Int) (h0 : y0 ≤ s0) (h : s0 ≤ s1) (h1 : s1 ≤ y1) : SubV (minusV s0 s1 z0 z1) (minusV y0 y1 z0 z1) := by
  by_cases k : z0 ≤ z1
  · exact minus_small h0 h h1 (Int.le_refl z0) k (Int.le_refl z1)
  · have e := val_no (z0 := z0) (z1 := z1) (by omega)
    unfold minusV
    simp only [e, Bool.and_false, Bool.false_and]
    exact subV_bad (isE _ _ _) _ _ _ (by decide)
theorem minus_right (y0 y1 s0 s1 z0 z1 : Int) (h0 : y0 ≤ s0) (h : s0 ≤ s1) (h1 : s1 ≤ y1) : SubV (minusV z0 z1 s0 s1) (minusV z0 z1 y0 y1) := by
  by_cases k : z0 ≤ z1
  · exact minus_small (Int.le_refl z0) k (Int.le_refl z1) h0 h h1
  · have e := val_no (z0 := z0) (z1 := z1) (by omega)
    unfold minusV
    simp only [e, Bool.and_false, Bool.false_and]
    exact subV_bad (isE _ _ _) _ _ _ (by decide)
theorem times_left (y0 y1 s0 s1 z0 z1 : Int) (h0 : y0 ≤ s0) (h : s0 ≤ s1) (h1 : s1 ≤ y1) : SubV (timesV s0 s1 z0 z1) (timesV y0 y1 z0 z1) := by
  by_cases k : z0 ≤ z1
  · exact times_small h0 h h1 (Int.le_refl z0) k (Int.le_refl z1)
  · have e := val_no (z0 := z0) (z1 := z1) (by omega)
    unfold timesV
    simp only [e, Bool.and_false, Bool.false_and]
    exact subV_bad (isE _ _ _) _ _ _ (by decide)
theorem times_right (y0 y1 s0 s1 z0 z1 : Int) (h0 : y0 ≤ s0) (h : s0 ≤ s1) (h1 : s1 ≤ y1) : SubV (timesV z0 z1 s0 s1) (timesV z0 z1 y0 y1) := by
  by_cases k : z0 ≤ z1
  · exact times_small (Int.le_refl z0) k (Int.le_refl z1) h0 h h1
  · have e := val_no (z0 := z0) (z1 := z1) (by omega)
    unfold timesV
    simp only [e, Bool.and_false, Bool.false_and]
    exact subV_bad (isE _ _ _) _ _ _ (by decide)
theorem over_left (y0 y1 s0 s1 z0 z1 : Int) (h0 : y0 ≤ s0) (h : s0 ≤ s1) (h1 : s1 ≤ y1) : SubV (overV s0 s1 z0 z1) (overV y0 y1 z0 z1) := by
  by_cases k : z0 ≤ z1
  · exact over_small h0 h h1 (Int.le_refl z0) k (Int.le_refl z1)
  · have e := val_no (z0 := z0) (z1 := z1) (by omega)
    unfold overV
    simp only [e, Bool.and_false, Bool.false_and]
    exact subV_bad (isE _ _ _) _ _ _ (by decide)
theorem over_right (y0 y1 s0 s1 z0 z1 : Int) (h0 : y0 ≤ s0) (h : s0 ≤ s1) (h1 : s1 ≤ y1) : SubV (overV z0 z1 s0 s1) (overV z0 z1 y0 y1) := by
  by_cases k : z0 ≤ z1
  · exact over_small (Int.le_refl z0) k (Int.le_refl z1) h0 h h1
  · have e := val_no (z0 := z0) (z1 := z1) (by omega)
    unfold overV
    simp only [e, Bool.and_false, Bool.false_and]
    exact subV_bad (isE _ _ _) _ _ _ (by decide)
theorem pairs_left (y0 y1 s0 s1 z0 z1 : Int) (h0 : y0 ≤ s0) (h : s0 ≤ s1) (h1 : s1 ≤ y1) (i : Nat) (hi : i < 4) : Pair1 (fo2 i) #[encl s0 s1, encl z0 z1] #[encl y0 y1, encl z0 z1] := by
  rcases (by omega : i = 0 ∨ i = 1 ∨ i = 2 ∨ i = 3) with rfl | rfl | rfl | rfl
  · exact pair_v (plus_left y0 y1 s0 s1 z0 z1 h0 h h1) (plus_any s0 s1 z0 z1) (plus_any y0 y1 z0 z1)
  · exact pair_v (minus_left y0 y1 s0 s1 z0 z1 h0 h h1) (minus_any s0 s1 z0 z1) (minus_any y0 y1 z0 z1)
  · exact pair_v (times_left y0 y1 s0 s1 z0 z1 h0 h h1) (times_any s0 s1 z0 z1) (times_any y0 y1 z0 z1)
  · exact pair_v (over_left y0 y1 s0 s1 z0 z1 h0 h h1) (over_any s0 s1 z0 z1) (over_any y0 y1 z0 z1)
theorem pairs_right (y0 y1 s0 s1 z0 z1 : Int) (h0 : y0 ≤ s0) (h : s0 ≤ s1) (h1 : s1 ≤ y1) (i : Nat) (hi : i < 4) : Pair1 (fo2 i) #[encl z0 z1, encl s0 s1] #[encl z0 z1, encl y0 y1] := by
  rcases (by omega : i = 0 ∨ i = 1 ∨ i = 2 ∨ i = 3) with rfl | rfl | rfl | rfl
  · exact pair_v (plus_right y0 y1 s0 s1 z0 z1 h0 h h1) (plus_any z0 z1 s0 s1) (plus_any z0 z1 y0 y1)
  · exact pair_v (minus_right y0 y1 s0 s1 z0 z1 h0 h h1) (minus_any z0 z1 s0 s1) (minus_any z0 z1 y0 y1)
  · exact pair_v (times_right y0 y1 s0 s1 z0 z1 h0 h h1) (times_any z0 z1 s0 s1) (times_any z0 z1 y0 y1)
  · exact pair_v (over_right y0 y1 s0 s1 z0 z1 h0 h h1) (over_any z0 z1 s0 s1) (over_any z0 z1 y0 y1)

set_option maxRecDepth 100000 in
set_option maxHeartbeats 4000000 in
theorem wit_out (y0 y1 z0 z1 u v : Int) (w : World) (t : Tabs w) (h : y1 < y0 ∨ (¬ y1 < y0 ∧ y0 < -3600000000) ∨ (¬ y1 < y0 ∧ ¬ y0 < -3600000000 ∧ 3600000000 < y1)) :
    Calls Tryd.prog 12 #[encl y0 y1, encl z0 z1, .agg #[.int .u8 u, .int .u8 v]] w fun e w' => e = .returned (.bool true) ∧ Below w.heap.size w w' := by
  have T0 := Lib.hid t
  clear t
  rcases h with h1 | ⟨h1, h2⟩ | ⟨h1, h2, h3⟩
  all_goals
    go_enter Tryd.func12, Tryd.ntmps12
    go_wp2_with fail
    obtain ⟨W, hW⟩ : ∃ W, W = ((w.alloc (.cells #[.int .i64 y0, .int .i64 y1] 23)).alloc (.cells #[.int .i64 z0, .int .i64 z1] 23)).alloc (.cells #[.int .u8 u, .int .u8 v] 46) := ⟨_, rfl⟩
    have by' : Box w.heap.size y0 y1 W := by rw [hW]; exact ((Box.fresh w y0 y1 _).alloc _).alloc _
    have c0 : W.cell? ⟨w.heap.size + 1 + 1, 0, none⟩ = some (.int .u8 u) := by rw [hW]; simp [go_sem]
    have c1 : W.cell? ⟨w.heap.size + 1 + 1, 1, none⟩ = some (.int .u8 v) := by rw [hW]; simp [go_sem]
    have oW : Below w.heap.size w W := by rw [hW]; exact (((Below.refl _ _).alloc (Nat.le_refl _) _).alloc (by simp) _).alloc (by simp; omega) _
    rw [← hW]
    clear hW
    go_quiet (fail)
    clear c0 c1
    obtain ⟨y00, y01, yz⟩ := box_at by'
    go_wp2_with fail
    refine (awake_any _ (T0.out.below (below_drewN oW _))).mono ?_
    rintro e w4 ⟨rfl, hb4⟩
    go_wp2_with fail
    go_ret
    exact ⟨rfl, (below_drewN oW _).trans (hb4.mono oW.size)⟩

theorem withinLaw_any (y0 y1 z0 z1 u v : Int) (w : World) (t : Tabs w) (u0 : 0 ≤ u) (u1 : u ≤ 255) (v0 : 0 ≤ v) (v1 : v ≤ 255) :
    Calls Tryd.prog 12 #[encl y0 y1, encl z0 z1, .agg #[.int .u8 u, .int .u8 v]] w fun e w' => e = .returned (.bool true) ∧ Below w.heap.size w w' := by
  by_cases c : y1 < y0 ∨ (¬ y1 < y0 ∧ y0 < -3600000000) ∨ (¬ y1 < y0 ∧ ¬ y0 < -3600000000 ∧ 3600000000 < y1)
  · exact wit_out y0 y1 z0 z1 u v w t c
  · obtain ⟨a1, a2, a3, a4, i0, i1, i2⟩ := @part_small y0 y1 u v (by omega) (by omega) u0 u1 v0 v1
    exact wit_walk y0 y1 z0 z1 u v _ _ _ _ w t (by omega) (by omega) (by omega) rfl rfl (by omega) (by omega) (by omega) (by omega) rfl rfl ⟨a1, a4⟩ ⟨a3, a2⟩ i0 i1 i2
      (pairs_one y0 y1 _ _ i0 i1 i2) (pairs_left y0 y1 _ _ z0 z1 i0 i1 i2) (pairs_right y0 y1 _ _ z0 z1 i0 i1 i2)
end Go.Proofs.YtdikelijnachjaaDoor
