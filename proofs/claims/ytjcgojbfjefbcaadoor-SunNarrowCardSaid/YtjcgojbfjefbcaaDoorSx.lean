/- The code's model of the sun: its small functions with regions. -/
import Derived.Test.YtjcgojbfjefbcaaDoorSw
namespace Go.Proofs.YtjcgojbfjefbcaaDoor
set_option linter.unusedSimpArgs false
set_option linter.unusedVariables false
open Go.RowKit SineNear
attribute [local go_sem ↓] Go.wp_at_zero Go.wp_at_succ

set_option maxHeartbeats 1000000 in
theorem reduced_T (x : P2) (hx : Bd 1000000000000000 x) : RetT 93 #[en x] (en (rdP x)) := by
  intro w
  have q := hx.all
  have C1 := Lib.hid (down_T x.1 360000000 (by omega) (by omega) (by omega) (by omega))
  have C2 := Lib.hid (only_T (-360000000 * (x.1 / 360000000)))
  have C3 := Lib.hid (add_T x (onP (-360000000 * (x.1 / 360000000))) (hx.mono (by omega)) (onP_bd (by omega) (by omega)))
  have hw : IntKind.i64.wrap (-360000000 * (x.1 / 360000000)) = -360000000 * (x.1 / 360000000) := IntWalk.i64_in _ (by omega)
  have hv := Lib.hid (show adP x (onP (-360000000 * (x.1 / 360000000))) = rdP x by unfold adP onP rdP; simp only [Prod.mk.injEq]; omega)
  clear hx q
  go_enter Tryd.func93, Tryd.ntmps93
  go_wp2_with fail
  refine fresh_world (fun W => Box (w.heap.size) (x.1) (x.2) W ∧ Box (w.heap.size + 1) (0) (0) W ∧ Below w.heap.size w W) ⟨((Box.fresh _ _ _ _)).alloc _, (Box.freshAt (by simp) _ _ _), (((Below.refl _ _).alloc (Nat.le_refl _) _).alloc (by simp) _)⟩ ?_
  rintro W1 ⟨b1, r, hb⟩
  have hR : ∀ w', Below W1.heap.size W1 w' → Box (w.heap.size) (x.1) (x.2) w' := fun w' hq0 => b1.below hq0
  have hG := good_below hR
  refine wp_region_G (R := fun w' => Box (w.heap.size) (x.1) (x.2) w') (fun w' => Below W1.heap.size W1 w') (by kernel_rfl) (Below.refl _ _).drew ?_
  refine wpAnyG_take (i := 0) (v := ?_) rfl (by kernel_rfl) (by kernel_rfl) (by kernel_rfl) hG rfl ?_ ?_
  rotate_left
  (focus (intro ww hSw; obtain ⟨r0_0, r0_1, r0_2, r0_3, r0_4⟩ := hSw; go_simp; (try with_reducible rfl)))
  (try simp only [Act.put, List.setIfInBounds_toArray, List.set_cons_zero, List.set_cons_succ, List.getElem_toArray, List.getElem_cons_zero, List.getElem_cons_succ])
  refine wpAnyG_take (i := 1) (v := ?_) rfl (by kernel_rfl) (by kernel_rfl) (by kernel_rfl) hG rfl ?_ ?_
  rotate_left
  (focus (intro ww hSw; obtain ⟨r0_0, r0_1, r0_2, r0_3, r0_4⟩ := hSw; go_simp; (try with_reducible rfl)))
  (try simp only [Act.put, List.setIfInBounds_toArray, List.set_cons_zero, List.set_cons_succ, List.getElem_toArray, List.getElem_cons_zero, List.getElem_cons_succ])
  refine wpAnyG_take (i := 2) (v := ?_) rfl (by kernel_rfl) (by kernel_rfl) (by kernel_rfl) hG rfl ?_ ?_
  rotate_left
  (focus (intro ww hSw; obtain ⟨r0_0, r0_1, r0_2, r0_3, r0_4⟩ := hSw; go_simp; (try with_reducible rfl)))
  (try simp only [Act.put, List.setIfInBounds_toArray, List.set_cons_zero, List.set_cons_succ, List.getElem_toArray, List.getElem_cons_zero, List.getElem_cons_succ])
  refine wpAnyG_call (i := 3) _ _ _ rfl (by kernel_rfl) (by kernel_rfl) (by kernel_rfl) hG rfl (by intro ww; go_simp; all_goals (first | rfl | exact ⟨rfl, rfl⟩)) (fun ww => C1.out ww) ?_
  (try simp only [Act.put, List.setIfInBounds_toArray, List.set_cons_zero, List.set_cons_succ, List.getElem_toArray, List.getElem_cons_zero, List.getElem_cons_succ])
  refine wpAnyG_take (i := 4) (v := ?_) rfl (by kernel_rfl) (by kernel_rfl) (by kernel_rfl) hG rfl ?_ ?_
  rotate_left
  (focus (intro ww hSw; obtain ⟨r0_0, r0_1, r0_2, r0_3, r0_4⟩ := hSw; go_simp; (try with_reducible rfl)))
  (try simp only [Act.put, List.setIfInBounds_toArray, List.set_cons_zero, List.set_cons_succ, List.getElem_toArray, List.getElem_cons_zero, List.getElem_cons_succ])
  refine wpAnyG_call (i := 5) _ _ _ rfl (by kernel_rfl) (by kernel_rfl) (by kernel_rfl) hG rfl (by intro ww; go_simp; all_goals (first | rfl | exact ⟨rfl, rfl⟩)) (fun ww => C2.out ww) ?_
  (try simp only [Act.put, List.setIfInBounds_toArray, List.set_cons_zero, List.set_cons_succ, List.getElem_toArray, List.getElem_cons_zero, List.getElem_cons_succ])
  refine wpAnyG_call (i := 6) _ _ _ rfl (by kernel_rfl) (by kernel_rfl) (by kernel_rfl) hG rfl (by intro ww; go_simp; all_goals (first | rfl | exact ⟨rfl, rfl⟩)) (fun ww => C3.out ww) ?_
  (try simp only [Act.put, List.setIfInBounds_toArray, List.set_cons_zero, List.set_cons_succ, List.getElem_toArray, List.getElem_cons_zero, List.getElem_cons_succ])
  refine wpAnyG_store (i := 7) (fun w' => But [w.heap.size + 1] W1 w' ∧ Box (w.heap.size + 1) ((rdP x).1) ((rdP x).2) w') rfl (by kernel_rfl) (⟨fun _ _ hx hy => ⟨hx.1.below hy, hx.2.below hy⟩, fun _ hx => hx.1.box b1 (by simp only [List.mem_cons, List.not_mem_nil, or_false]; omega)⟩) rfl ?_ ?_
  · rintro ww hB
    obtain ⟨q0, q1, q2, q3, q4⟩ := (r.below hB)
    refine ⟨((ww.setCell ⟨w.heap.size + 1, 0, none⟩ (.int .i64 ((rdP x).1))).setCell ⟨w.heap.size + 1, 1, none⟩ (.int .i64 ((rdP x).2))), ?_, (((But.of hB).set (by simp) _ _).set (by simp) _ _), Box.set ⟨q0, q1, q2, q3, q4⟩ _ _⟩
    rw [← hv.out]
    go_simp
    try rfl
  (try simp only [Act.put, List.setIfInBounds_toArray, List.set_cons_zero, List.set_cons_succ, List.getElem_toArray, List.getElem_cons_zero, List.getElem_cons_succ])
  refine wpAnyG_done (by kernel_rfl) ?_ _
  rintro W2 ⟨hB, ho_r⟩
  clear hR hG
  have hb := hB.toBelow hb (Nat.le_refl _) (by intro k hk; simp only [List.mem_cons, List.not_mem_nil, or_false] at hk; omega)
  have b1 := hB.box b1 (by simp only [List.mem_cons, List.not_mem_nil, or_false]; omega)
  have r := ho_r
  clear ho_r
  clear hB
  have Hr := Lib.hid r
  obtain ⟨r_0, r_1, r_2, r_3, r_4⟩ := r
  have r_n : (w.heap.size + 1) ≠ W2.heap.size := Nat.ne_of_lt r_4
  go_wp2_with fail
  exact bodyPost_ret (v := en (rdP x)) (by simp [results, Tryd.results93, go_sem, r_0, r_1, r_2, r_3, r_4]) rfl ⟨rfl, hb⟩

theorem sinOf_T (x : P2) : RetT 33 #[en x] (enE (siP x) (angE x.1 x.2)) := fun w => (sinOf_any x.1 x.2 w).mono fun _ _ ⟨e, o⟩ => ⟨e, o.below⟩
theorem cosOf_T (x : P2) : RetT 92 #[en x] (enE (coP x) (angE x.1 x.2)) := fun w => (cosOf_any x.1 x.2 w).mono fun _ _ ⟨e, o⟩ => ⟨e, o.below⟩
theorem sin_T (a : Int) : RetT 116 #[.int .i64 a] (enE (siP (onP a)) (angE a a)) := fun w => (sin_any a w).mono fun _ _ ⟨e, o⟩ => ⟨e, o.below⟩
theorem cos_T (a : Int) : RetT 117 #[.int .i64 a] (enE (coP (onP a)) (angE a a)) := fun w => (cos_any a w).mono fun _ _ ⟨e, o⟩ => ⟨e, o.below⟩
theorem arcsin_T (x : P2) : RetT 115 #[en x] (enE (asP x) (oneE x.1 x.2)) := fun w => (arcsin_any x.1 x.2 w).mono fun _ _ ⟨e, o⟩ => ⟨e, o.below⟩
theorem arccos_T (x : P2) : RetT 110 #[en x] (enE (acP x) (oneE x.1 x.2)) := fun w => (arccos_any x.1 x.2 w).mono fun _ _ ⟨e, o⟩ => ⟨e, o.below⟩
theorem times_T (x y : P2) : RetT 91 #[en x, en y] (enE (tmP x y) (tmE x y)) := by rw [← timesV_eq]; exact times_any _ _ _ _
theorem plus_T (x y : P2) : RetT 94 #[en x, en y] (enE (plP x y) (plE x y)) := by rw [← plusV_eq]; exact plus_any _ _ _ _
theorem minus_T (x y : P2) : RetT 107 #[en x, en y] (enE (mnP x y) (mnE x y)) := by rw [← minusV_eq]; exact minus_any _ _ _ _
theorem over_T (x y : P2) : RetT 106 #[en x, en y] (enE (ovP x y) (ovE x y)) := by rw [← overV_eq]; exact over_any _ _ _ _
theorem quo_T (a b : Int) (hb : 0 < b) (hb1 : b ≤ 9100000000000000000) (h0 : -9100000000000000000 ≤ a) (h1 : a ≤ 9100000000000000000) : RetT 89 #[.int .i64 a, .int .i64 b] (en (a / b, upD a b)) := by
  intro w
  have h := quotient_any a b w (by omega) (by omega) hb1 h0 h1
  unfold qLoQ qHiQ at h
  rw [if_neg (by omega), if_neg (by omega)] at h
  exact h.mono fun _ _ ⟨e, o⟩ => ⟨e, o.below⟩

set_option maxHeartbeats 1000000 in
theorem ofSine_T (k : Int) (x : P2) (k0 : 0 ≤ k) (k1 : k ≤ 10000000) : RetT 97 #[.int .i64 k, en x] (en (ofP k x)) := by
  intro w
  have s := siP_bd x
  have m1 : k * -100000000 ≤ k * (siP x).1 := Int.mul_le_mul_of_nonneg_left s.1 k0
  have m2 : k * (siP x).1 ≤ k * (siP x).2 := Int.mul_le_mul_of_nonneg_left s.2.1 k0
  have m3 : k * (siP x).2 ≤ k * 100000000 := Int.mul_le_mul_of_nonneg_left s.2.2 k0
  have C1 := Lib.hid (sinOf_T x)
  have C2 := Lib.hid (sure_T (siP x) (angE x.1 x.2))
  have C3 := Lib.hid (down_T (k * (siP x).1) 100000000 (by omega) (by omega) (by omega) (by omega))
  have C4 := Lib.hid (up_T (k * (siP x).2) 100000000 (by omega) (by omega) (by omega) (by omega))
  have w1 : IntKind.i64.wrap (k * (siP x).1) = k * (siP x).1 := IntWalk.i64_in _ (by omega)
  have w2 : IntKind.i64.wrap (k * (siP x).2) = k * (siP x).2 := IntWalk.i64_in _ (by omega)
  clear s m1 m2 m3 k0 k1
  go_enter Tryd.func97, Tryd.ntmps97
  go_wp2_with fail
  refine fresh_call (fun W => Box (w.heap.size) (x.1) (x.2) W ∧ Box (w.heap.size + 1) (0) (0) W ∧ Below w.heap.size w W) ⟨((Box.fresh _ _ _ _)).alloc _, (Box.freshAt (by simp) _ _ _), (((Below.refl _ _).alloc (Nat.le_refl _) _).alloc (by simp) _)⟩ ?_
  rintro W1 ⟨b1, r, hb⟩
  refine (C1.out _).mono ?_
  rintro e v2 ⟨rfl, hq⟩
  have b1 := b1.below hq
  have r := r.below hq
  have hb := hb.trans (hq.mono hb.size)
  clear hq
  go_wp2_with fail
  refine (C2.out _).mono ?_
  rintro e v3 ⟨rfl, hq⟩
  have b1 := b1.below hq
  have r := r.below hq
  have hb := hb.trans (hq.mono hb.size)
  clear hq
  have Hb1 := Lib.hid b1
  obtain ⟨b1_0, b1_1, b1_2, b1_3, b1_4⟩ := b1
  have b1_n : (w.heap.size) ≠ v3.heap.size := Nat.ne_of_lt b1_4
  go_wp2_with fail
  clear b1_n b1_0 b1_1 b1_2 b1_3 b1_4
  have b1 := Hb1.out
  clear Hb1
  have d_lb : w.heap.size + 1 < v3.heap.size := r.2.2.2.2
  refine fresh_world (fun W => Box (w.heap.size) (x.1) (x.2) W ∧ Box (w.heap.size + 1) (0) (0) W ∧ Box (v3.heap.size) ((siP x).1) ((siP x).2) W ∧ Below w.heap.size w W) ⟨b1.alloc _, r.alloc _, Box.fresh _ _ _ _, hb.alloc hb.size _⟩ ?_
  clear b1 r hb
  rintro W4 ⟨b1, r, d, hb⟩
  have hR : ∀ w', Below W4.heap.size W4 w' → Box (v3.heap.size) ((siP x).1) ((siP x).2) w' := fun w' hq0 => d.below hq0
  have hG := good_below hR
  refine wp_region_G (R := fun w' => Box (v3.heap.size) ((siP x).1) ((siP x).2) w') (fun w' => Below W4.heap.size W4 w') (by kernel_rfl) (Below.refl _ _).drew ?_
  refine wpAnyG_take (i := 0) (v := ?_) rfl (by kernel_rfl) (by kernel_rfl) (by kernel_rfl) hG rfl ?_ ?_
  rotate_left
  (focus (intro ww hSw; obtain ⟨r0_0, r0_1, r0_2, r0_3, r0_4⟩ := hSw; go_simp; (try with_reducible rfl)))
  (try simp only [Act.put, List.setIfInBounds_toArray, List.set_cons_zero, List.set_cons_succ, List.getElem_toArray, List.getElem_cons_zero, List.getElem_cons_succ])
  refine wpAnyG_take (i := 1) (v := ?_) rfl (by kernel_rfl) (by kernel_rfl) (by kernel_rfl) hG rfl ?_ ?_
  rotate_left
  (focus (intro ww hSw; obtain ⟨r0_0, r0_1, r0_2, r0_3, r0_4⟩ := hSw; go_simp; (try with_reducible rfl)))
  (try simp only [Act.put, List.setIfInBounds_toArray, List.set_cons_zero, List.set_cons_succ, List.getElem_toArray, List.getElem_cons_zero, List.getElem_cons_succ])
  refine wpAnyG_take (i := 2) (v := ?_) rfl (by kernel_rfl) (by kernel_rfl) (by kernel_rfl) hG rfl ?_ ?_
  rotate_left
  (focus (intro ww hSw; obtain ⟨r0_0, r0_1, r0_2, r0_3, r0_4⟩ := hSw; go_simp; (try with_reducible rfl)))
  (try simp only [Act.put, List.setIfInBounds_toArray, List.set_cons_zero, List.set_cons_succ, List.getElem_toArray, List.getElem_cons_zero, List.getElem_cons_succ])
  refine wpAnyG_take (i := 3) (v := ?_) rfl (by kernel_rfl) (by kernel_rfl) (by kernel_rfl) hG rfl ?_ ?_
  rotate_left
  (focus (intro ww hSw; obtain ⟨r0_0, r0_1, r0_2, r0_3, r0_4⟩ := hSw; go_simp; (try with_reducible rfl)))
  (try simp only [Act.put, List.setIfInBounds_toArray, List.set_cons_zero, List.set_cons_succ, List.getElem_toArray, List.getElem_cons_zero, List.getElem_cons_succ])
  refine wpAnyG_call (i := 4) _ _ _ rfl (by kernel_rfl) (by kernel_rfl) (by kernel_rfl) hG rfl (by intro ww; go_simp; all_goals (first | rfl | exact ⟨rfl, rfl⟩)) (fun ww => C3.out ww) ?_
  (try simp only [Act.put, List.setIfInBounds_toArray, List.set_cons_zero, List.set_cons_succ, List.getElem_toArray, List.getElem_cons_zero, List.getElem_cons_succ])
  refine wpAnyG_take (i := 5) (v := ?_) rfl (by kernel_rfl) (by kernel_rfl) (by kernel_rfl) hG rfl ?_ ?_
  rotate_left
  (focus (intro ww hSw; obtain ⟨r0_0, r0_1, r0_2, r0_3, r0_4⟩ := hSw; go_simp; (try with_reducible rfl)))
  (try simp only [Act.put, List.setIfInBounds_toArray, List.set_cons_zero, List.set_cons_succ, List.getElem_toArray, List.getElem_cons_zero, List.getElem_cons_succ])
  refine wpAnyG_take (i := 6) (v := ?_) rfl (by kernel_rfl) (by kernel_rfl) (by kernel_rfl) hG rfl ?_ ?_
  rotate_left
  (focus (intro ww hSw; obtain ⟨r0_0, r0_1, r0_2, r0_3, r0_4⟩ := hSw; go_simp; (try with_reducible rfl)))
  (try simp only [Act.put, List.setIfInBounds_toArray, List.set_cons_zero, List.set_cons_succ, List.getElem_toArray, List.getElem_cons_zero, List.getElem_cons_succ])
  refine wpAnyG_take (i := 7) (v := ?_) rfl (by kernel_rfl) (by kernel_rfl) (by kernel_rfl) hG rfl ?_ ?_
  rotate_left
  (focus (intro ww hSw; obtain ⟨r0_0, r0_1, r0_2, r0_3, r0_4⟩ := hSw; go_simp; (try with_reducible rfl)))
  (try simp only [Act.put, List.setIfInBounds_toArray, List.set_cons_zero, List.set_cons_succ, List.getElem_toArray, List.getElem_cons_zero, List.getElem_cons_succ])
  refine wpAnyG_take (i := 8) (v := ?_) rfl (by kernel_rfl) (by kernel_rfl) (by kernel_rfl) hG rfl ?_ ?_
  rotate_left
  (focus (intro ww hSw; obtain ⟨r0_0, r0_1, r0_2, r0_3, r0_4⟩ := hSw; go_simp; (try with_reducible rfl)))
  (try simp only [Act.put, List.setIfInBounds_toArray, List.set_cons_zero, List.set_cons_succ, List.getElem_toArray, List.getElem_cons_zero, List.getElem_cons_succ])
  refine wpAnyG_call (i := 9) _ _ _ rfl (by kernel_rfl) (by kernel_rfl) (by kernel_rfl) hG rfl (by intro ww; go_simp; all_goals (first | rfl | exact ⟨rfl, rfl⟩)) (fun ww => C4.out ww) ?_
  (try simp only [Act.put, List.setIfInBounds_toArray, List.set_cons_zero, List.set_cons_succ, List.getElem_toArray, List.getElem_cons_zero, List.getElem_cons_succ])
  refine wpAnyG_take (i := 10) (v := ?_) rfl (by kernel_rfl) (by kernel_rfl) (by kernel_rfl) hG rfl ?_ ?_
  rotate_left
  (focus (intro ww hSw; obtain ⟨r0_0, r0_1, r0_2, r0_3, r0_4⟩ := hSw; go_simp; (try with_reducible rfl)))
  (try simp only [Act.put, List.setIfInBounds_toArray, List.set_cons_zero, List.set_cons_succ, List.getElem_toArray, List.getElem_cons_zero, List.getElem_cons_succ])
  refine wpAnyG_store (i := 11) (fun w' => But [w.heap.size + 1] W4 w' ∧ Box (w.heap.size + 1) ((ofP k x).1) ((ofP k x).2) w') rfl (by kernel_rfl) (⟨fun _ _ hx hy => ⟨hx.1.below hy, hx.2.below hy⟩, fun _ hx => hx.1.box d (by simp only [List.mem_cons, List.not_mem_nil, or_false]; omega)⟩) rfl ?_ ?_
  · rintro ww hB
    obtain ⟨q0, q1, q2, q3, q4⟩ := (r.below hB)
    refine ⟨((ww.setCell ⟨w.heap.size + 1, 0, none⟩ (.int .i64 ((ofP k x).1))).setCell ⟨w.heap.size + 1, 1, none⟩ (.int .i64 ((ofP k x).2))), ?_, (((But.of hB).set (by simp) _ _).set (by simp) _ _), Box.set ⟨q0, q1, q2, q3, q4⟩ _ _⟩
    go_simp
    try rfl
  (try simp only [Act.put, List.setIfInBounds_toArray, List.set_cons_zero, List.set_cons_succ, List.getElem_toArray, List.getElem_cons_zero, List.getElem_cons_succ])
  refine wpAnyG_done (by kernel_rfl) ?_ _
  rintro W5 ⟨hB, ho_r⟩
  clear hR hG
  have hb := hB.toBelow hb (Nat.le_refl _) (by intro k hk; simp only [List.mem_cons, List.not_mem_nil, or_false] at hk; omega)
  have b1 := hB.box b1 (by simp only [List.mem_cons, List.not_mem_nil, or_false]; omega)
  have d := hB.box d (by simp only [List.mem_cons, List.not_mem_nil, or_false]; omega)
  have r := ho_r
  clear ho_r
  clear hB
  have Hr := Lib.hid r
  obtain ⟨r_0, r_1, r_2, r_3, r_4⟩ := r
  have r_n : (w.heap.size + 1) ≠ W5.heap.size := Nat.ne_of_lt r_4
  go_wp2_with fail
  exact bodyPost_ret (v := en (ofP k x)) (by simp [results, Tryd.results97, go_sem, r_0, r_1, r_2, r_3, r_4]) rfl ⟨rfl, hb⟩

/-- the quotients' hull -/
def jn (u v : Int) : P2 := (jLo (u / 8640000) (fun _ => v / 8640000) 1, jHi (upD u 8640000) (fun _ => upD v 8640000) 1)
theorem join_T (u v : Int) (w : World) (sb : Nat) (h : Box sb (v / 8640000) (upD v 8640000) w) : Calls Tryd.prog 83 #[en (u / 8640000, upD u 8640000), .slice (some ⟨sb, 0, none⟩) 1 1] w fun e w' => e = .returned (en (jn u v)) ∧ Below w.heap.size w w' := by
  obtain ⟨h0, h1, h2, h3, h4⟩ := h
  refine (join_any (u / 8640000) (upD u 8640000) 1 sb (fun _ => v / 8640000) (fun _ => upD v 8640000) w (by omega) h4 (fun j hj => ?_) (fun j hj => ?_)).mono fun _ _ ⟨e, o⟩ => ⟨e, o.below⟩
  · obtain rfl : j = 0 := by omega
    exact h0
  · obtain rfl : j = 0 := by omega
    exact h1
theorem jn_up {u v : Int} (h : u ≤ v) : jn u v = (u / 8640000, upD v 8640000) := by
  have a := down_mono (c := 8640000) (by omega) h
  have b := up_mono (c := 8640000) (by omega) h
  unfold jn jLo jHi jLo jHi
  simp only [Prod.mk.injEq]
  refine ⟨?_, ?_⟩ <;> split <;> omega
theorem jn_down {u v : Int} (h : v ≤ u) : jn u v = (v / 8640000, upD u 8640000) := by
  have a := down_mono (c := 8640000) (by omega) h
  have b := up_mono (c := 8640000) (by omega) h
  unfold jn jLo jHi jLo jHi
  simp only [Prod.mk.injEq]
  refine ⟨?_, ?_⟩ <;> split <;> omega

set_option maxRecDepth 100000 in
set_option maxHeartbeats 4000000 in
theorem grown_T (st g : Int) (x : P2) (s0 : -1000000000 ≤ st) (s1 : st ≤ 1000000000) (g1 : -1000000000000000000 ≤ g * x.1 ∧ g * x.1 ≤ 1000000000000000000) (g2 : -1000000000000000000 ≤ g * x.2 ∧ g * x.2 ≤ 1000000000000000000) : RetT 96 #[.int .i64 st, .int .i64 g, en x] (en (adP (onP st) (jn (g * x.1) (g * x.2)))) := by
  intro w
  have C1 := Lib.hid (quo_T (g * x.1) 8640000 (by omega) (by omega) (by omega) (by omega))
  have C2 := Lib.hid (quo_T (g * x.2) 8640000 (by omega) (by omega) (by omega) (by omega))
  have C3 := Lib.hid (only_T st)
  have C4 := Lib.hid (add_T (onP st) (jn (g * x.1) (g * x.2)) (onP_bd (by omega) (by omega)) (by
    have e1 := downUp (g * x.1) 8640000 (by omega)
    have e2 := downUp (g * x.2) 8640000 (by omega)
    have u1 : upD (g * x.1) 8640000 ≤ 2000000000000000000 := by unfold upD; omega
    have u2 : upD (g * x.2) 8640000 ≤ 2000000000000000000 := by unfold upD; omega
    unfold Bd jn jLo jHi jLo jHi
    (try simp only)
    refine ⟨?_, ?_, ?_⟩ <;> (repeat' split) <;> omega))
  have JN := join_T (g * x.1) (g * x.2)
  have w1 : IntKind.i64.wrap (g * x.1) = g * x.1 := IntWalk.i64_in _ (by omega)
  have w2 : IntKind.i64.wrap (g * x.2) = g * x.2 := IntWalk.i64_in _ (by omega)
  clear s0 s1 g1 g2
  go_enter Tryd.func96, Tryd.ntmps96
  go_wp2_with fail
  refine fresh_world (fun W => Box w.heap.size x.1 x.2 W ∧ Box (w.heap.size + 1) 0 0 W ∧ Below w.heap.size w W) ⟨(Box.fresh _ _ _ _).alloc _, Box.freshAt (by simp) _ _ _, ((Below.refl _ _).alloc (Nat.le_refl _) _).alloc (by simp) _⟩ ?_
  rintro W ⟨b1, rb, hb⟩
  have hR : ∀ w', Below W.heap.size W w' → Box w.heap.size x.1 x.2 w' := fun w' h => b1.below h
  have hG := good_below hR
  refine wp_region_G (R := fun w' => Box w.heap.size x.1 x.2 w') (fun w' => Below W.heap.size W w') (by kernel_rfl) (Below.refl _ _).drew ?_
  refine wpAnyG_take (i := 0) (v := ?_) rfl (by kernel_rfl) (by kernel_rfl) (by kernel_rfl) hG rfl ?_ ?_
  rotate_left
  (focus (intro ww hSw; obtain ⟨r0, r1, r2, r3, r4⟩ := hSw; go_simp; (try with_reducible rfl)))
  (try simp only [Act.put, List.setIfInBounds_toArray, List.set_cons_zero, List.set_cons_succ, List.getElem_toArray, List.getElem_cons_zero, List.getElem_cons_succ])
  refine wpAnyG_take (i := 1) (v := ?_) rfl (by kernel_rfl) (by kernel_rfl) (by kernel_rfl) hG rfl ?_ ?_
  rotate_left
  (focus (intro ww hSw; obtain ⟨r0, r1, r2, r3, r4⟩ := hSw; go_simp; (try with_reducible rfl)))
  (try simp only [Act.put, List.setIfInBounds_toArray, List.set_cons_zero, List.set_cons_succ, List.getElem_toArray, List.getElem_cons_zero, List.getElem_cons_succ])
  refine wpAnyG_take (i := 2) (v := ?_) rfl (by kernel_rfl) (by kernel_rfl) (by kernel_rfl) hG rfl ?_ ?_
  rotate_left
  (focus (intro ww hSw; obtain ⟨r0, r1, r2, r3, r4⟩ := hSw; go_simp; (try with_reducible rfl)))
  (try simp only [Act.put, List.setIfInBounds_toArray, List.set_cons_zero, List.set_cons_succ, List.getElem_toArray, List.getElem_cons_zero, List.getElem_cons_succ])
  refine wpAnyG_take (i := 3) (v := ?_) rfl (by kernel_rfl) (by kernel_rfl) (by kernel_rfl) hG rfl ?_ ?_
  rotate_left
  (focus (intro ww hSw; obtain ⟨r0, r1, r2, r3, r4⟩ := hSw; go_simp; (try with_reducible rfl)))
  (try simp only [Act.put, List.setIfInBounds_toArray, List.set_cons_zero, List.set_cons_succ, List.getElem_toArray, List.getElem_cons_zero, List.getElem_cons_succ])
  refine wpAnyG_call (i := 4) _ _ _ rfl (by kernel_rfl) (by kernel_rfl) (by kernel_rfl) hG rfl (by intro ww; go_simp) (fun ww => C1.out ww) ?_
  (try simp only [Act.put, List.setIfInBounds_toArray, List.set_cons_zero, List.set_cons_succ, List.getElem_toArray, List.getElem_cons_zero, List.getElem_cons_succ])
  refine wpAnyG_take (i := 5) (v := ?_) rfl (by kernel_rfl) (by kernel_rfl) (by kernel_rfl) hG rfl ?_ ?_
  rotate_left
  (focus (intro ww hSw; obtain ⟨r0, r1, r2, r3, r4⟩ := hSw; go_simp; (try with_reducible rfl)))
  (try simp only [Act.put, List.setIfInBounds_toArray, List.set_cons_zero, List.set_cons_succ, List.getElem_toArray, List.getElem_cons_zero, List.getElem_cons_succ])
  refine wpAnyG_take (i := 6) (v := ?_) rfl (by kernel_rfl) (by kernel_rfl) (by kernel_rfl) hG rfl ?_ ?_
  rotate_left
  (focus (intro ww hSw; obtain ⟨r0, r1, r2, r3, r4⟩ := hSw; go_simp; (try with_reducible rfl)))
  (try simp only [Act.put, List.setIfInBounds_toArray, List.set_cons_zero, List.set_cons_succ, List.getElem_toArray, List.getElem_cons_zero, List.getElem_cons_succ])
  refine wpAnyG_take (i := 7) (v := ?_) rfl (by kernel_rfl) (by kernel_rfl) (by kernel_rfl) hG rfl ?_ ?_
  rotate_left
  (focus (intro ww hSw; obtain ⟨r0, r1, r2, r3, r4⟩ := hSw; go_simp; (try with_reducible rfl)))
  (try simp only [Act.put, List.setIfInBounds_toArray, List.set_cons_zero, List.set_cons_succ, List.getElem_toArray, List.getElem_cons_zero, List.getElem_cons_succ])
  refine wpAnyG_take (i := 8) (v := ?_) rfl (by kernel_rfl) (by kernel_rfl) (by kernel_rfl) hG rfl ?_ ?_
  rotate_left
  (focus (intro ww hSw; obtain ⟨r0, r1, r2, r3, r4⟩ := hSw; go_simp; (try with_reducible rfl)))
  (try simp only [Act.put, List.setIfInBounds_toArray, List.set_cons_zero, List.set_cons_succ, List.getElem_toArray, List.getElem_cons_zero, List.getElem_cons_succ])
  refine wpAnyG_call (i := 9) _ _ _ rfl (by kernel_rfl) (by kernel_rfl) (by kernel_rfl) hG rfl (by intro ww; go_simp) (fun ww => C2.out ww) ?_
  (try simp only [Act.put, List.setIfInBounds_toArray, List.set_cons_zero, List.set_cons_succ, List.getElem_toArray, List.getElem_cons_zero, List.getElem_cons_succ])
  refine wpAnyG_two (i := 10) (j := 12) (by kernel_rfl) ?_ ?_
  · refine stepTo_new (fun b => .slice (some ⟨b, 0, none⟩) 1 1) (fun sb => fun w' => Below W.heap.size W w' ∧ W.heap.size ≤ sb ∧ Box sb (g * x.2 / 8640000) (upD (g * x.2) 8640000) w') rfl (fun sb => ⟨fun _ _ hx hy => ⟨hx.1.trans (hy.mono hx.1.size), hx.2.1, hx.2.2.below hy⟩, fun _ hx => b1.below hx.1⟩) rfl ?_ ?_
    · rintro ww hB
      refine ⟨ww.alloc (.cells #[.int .i64 (g * x.2 / 8640000), .int .i64 (upD (g * x.2) 8640000)] 51), ?_, hB.alloc hB.size _, hB.size, Box.fresh _ _ _ _⟩
      go_simp
      try rfl
    intro sb
    (try simp only [Act.put, List.setIfInBounds_toArray, List.set_cons_zero, List.set_cons_succ, List.getElem_toArray, List.getElem_cons_zero, List.getElem_cons_succ])
    refine wpAnyG_two (i := 11) (j := 12) (by kernel_rfl) ?_ ?_
    · refine stepTo_call _ _ (en (jn (g * x.1) (g * x.2))) rfl (⟨fun _ _ hx hy => ⟨hx.1.trans (hy.mono hx.1.size), hx.2.1, hx.2.2.below hy⟩, fun _ hx => b1.below hx.1⟩) rfl (by intro ww; go_simp) (fun ww hS => JN ww sb hS.2.2) ?_
      (try simp only [Act.put, List.setIfInBounds_toArray, List.set_cons_zero, List.set_cons_succ, List.getElem_toArray, List.getElem_cons_zero, List.getElem_cons_succ])
      refine wpAnyG_new (i := 12) (fun b => .pointer (some ⟨b, 0, none⟩)) (fun c => fun w' => Below W.heap.size W w' ∧ (W.heap.size ≤ sb ∧ Box sb (g * x.2 / 8640000) (upD (g * x.2) 8640000) w') ∧ W.heap.size ≤ c ∧ Box c 0 0 w') rfl (by kernel_rfl) (fun c => ⟨fun _ _ hx hy => ⟨hx.1.trans (hy.mono hx.1.size), ⟨hx.2.1.1, hx.2.1.2.below hy⟩, hx.2.2.1, hx.2.2.2.below hy⟩, fun _ hx => b1.below hx.1⟩) rfl ?_ ?_
      · rintro ww ⟨hB, hs1, hs2⟩
        refine ⟨ww.alloc (.cells #[.int .i64 0, .int .i64 0] 51), ?_, hB.alloc hB.size _, ⟨hs1, hs2.alloc _⟩, hB.size, Box.fresh _ _ _ _⟩
        go_simp
        try rfl
      intro c
      (try simp only [Act.put, List.setIfInBounds_toArray, List.set_cons_zero, List.set_cons_succ, List.getElem_toArray, List.getElem_cons_zero, List.getElem_cons_succ])
      refine wpAnyG_store (i := 13) (fun w' => Below W.heap.size W w' ∧ W.heap.size ≤ c ∧ Box c (jn (g * x.1) (g * x.2)).1 (jn (g * x.1) (g * x.2)).2 w') rfl (by kernel_rfl) (⟨fun _ _ hx hy => ⟨hx.1.trans (hy.mono hx.1.size), hx.2.1, hx.2.2.below hy⟩, fun _ hx => b1.below hx.1⟩) rfl ?_ ?_
      · rintro ww ⟨hB, ⟨_, _⟩, hge, hal⟩
        obtain ⟨q0, q1, q2, q3, q4⟩ := hal
        refine ⟨((ww.setCell ⟨c, 0, none⟩ (.int .i64 (jn (g * x.1) (g * x.2)).1)).setCell ⟨c, 1, none⟩ (.int .i64 (jn (g * x.1) (g * x.2)).2)), ?_, ((hB.setCell hge _).setCell hge _), hge, Box.set ⟨q0, q1, q2, q3, q4⟩ _ _⟩
        go_simp
      (try simp only [Act.put, List.setIfInBounds_toArray, List.set_cons_zero, List.set_cons_succ, List.getElem_toArray, List.getElem_cons_zero, List.getElem_cons_succ])
      refine wpAnyG_done (by kernel_rfl) ?_ _
      rintro W2 ⟨hB, hge, j⟩
      clear hR hG
      have j_lb : w.heap.size + 1 < c := Nat.lt_of_lt_of_le rb.lt hge
      have b1 := b1.below hB
      have rb := rb.below hB
      have hb := hb.trans (hB.mono hb.size)
      clear hB hge
      go_wp2_with fail
      have hR : ∀ w', Below W2.heap.size W2 w' → Box (c) ((jn (g * x.1) (g * x.2)).1) ((jn (g * x.1) (g * x.2)).2) w' := fun w' hq0 => j.below hq0
      have hG := good_below hR
      refine wp_region_G (R := fun w' => Box (c) ((jn (g * x.1) (g * x.2)).1) ((jn (g * x.1) (g * x.2)).2) w') (fun w' => Below W2.heap.size W2 w') (by kernel_rfl) (Below.refl _ _).drew ?_
      refine wpAnyG_take (i := 0) (v := ?_) rfl (by kernel_rfl) (by kernel_rfl) (by kernel_rfl) hG rfl ?_ ?_
      rotate_left
      (focus (intro ww hSw; obtain ⟨r0_0, r0_1, r0_2, r0_3, r0_4⟩ := hSw; go_simp; (try with_reducible rfl)))
      (try simp only [Act.put, List.setIfInBounds_toArray, List.set_cons_zero, List.set_cons_succ, List.getElem_toArray, List.getElem_cons_zero, List.getElem_cons_succ])
      refine wpAnyG_call (i := 1) _ _ _ rfl (by kernel_rfl) (by kernel_rfl) (by kernel_rfl) hG rfl (by intro ww; go_simp; all_goals (first | rfl | exact ⟨rfl, rfl⟩)) (fun ww => C3.out ww) ?_
      (try simp only [Act.put, List.setIfInBounds_toArray, List.set_cons_zero, List.set_cons_succ, List.getElem_toArray, List.getElem_cons_zero, List.getElem_cons_succ])
      refine wpAnyG_take (i := 2) (v := ?_) rfl (by kernel_rfl) (by kernel_rfl) (by kernel_rfl) hG rfl ?_ ?_
      rotate_left
      (focus (intro ww hSw; obtain ⟨r0_0, r0_1, r0_2, r0_3, r0_4⟩ := hSw; go_simp; (try with_reducible rfl)))
      (try simp only [Act.put, List.setIfInBounds_toArray, List.set_cons_zero, List.set_cons_succ, List.getElem_toArray, List.getElem_cons_zero, List.getElem_cons_succ])
      refine wpAnyG_call (i := 3) _ _ _ rfl (by kernel_rfl) (by kernel_rfl) (by kernel_rfl) hG rfl (by intro ww; go_simp; all_goals (first | rfl | exact ⟨rfl, rfl⟩)) (fun ww => C4.out ww) ?_
      (try simp only [Act.put, List.setIfInBounds_toArray, List.set_cons_zero, List.set_cons_succ, List.getElem_toArray, List.getElem_cons_zero, List.getElem_cons_succ])
      refine wpAnyG_store (i := 4) (fun w' => But [w.heap.size + 1] W2 w' ∧ Box (w.heap.size + 1) ((adP (onP st) (jn (g * x.1) (g * x.2))).1) ((adP (onP st) (jn (g * x.1) (g * x.2))).2) w') rfl (by kernel_rfl) (⟨fun _ _ hx hy => ⟨hx.1.below hy, hx.2.below hy⟩, fun _ hx => hx.1.box j (by simp only [List.mem_cons, List.not_mem_nil, or_false]; omega)⟩) rfl ?_ ?_
      · rintro ww hB
        obtain ⟨q0, q1, q2, q3, q4⟩ := (rb.below hB)
        refine ⟨((ww.setCell ⟨w.heap.size + 1, 0, none⟩ (.int .i64 ((adP (onP st) (jn (g * x.1) (g * x.2))).1))).setCell ⟨w.heap.size + 1, 1, none⟩ (.int .i64 ((adP (onP st) (jn (g * x.1) (g * x.2))).2))), ?_, (((But.of hB).set (by simp) _ _).set (by simp) _ _), Box.set ⟨q0, q1, q2, q3, q4⟩ _ _⟩
        go_simp
        try rfl
      (try simp only [Act.put, List.setIfInBounds_toArray, List.set_cons_zero, List.set_cons_succ, List.getElem_toArray, List.getElem_cons_zero, List.getElem_cons_succ])
      refine wpAnyG_done (by kernel_rfl) ?_ _
      rintro W3 ⟨hB, ho_rb⟩
      clear hR hG
      have hb := hB.toBelow hb (Nat.le_refl _) (by intro k hk; simp only [List.mem_cons, List.not_mem_nil, or_false] at hk; omega)
      have b1 := hB.box b1 (by simp only [List.mem_cons, List.not_mem_nil, or_false]; omega)
      have j := hB.box j (by simp only [List.mem_cons, List.not_mem_nil, or_false]; omega)
      have rb := ho_rb
      clear ho_rb
      clear hB
      have Hrb := Lib.hid rb
      obtain ⟨rb_0, rb_1, rb_2, rb_3, rb_4⟩ := rb
      have rb_n : (w.heap.size + 1) ≠ W3.heap.size := Nat.ne_of_lt rb_4
      go_wp2_with fail
      exact bodyPost_ret (v := en (adP (onP st) (jn (g * x.1) (g * x.2)))) (by simp [results, Tryd.results96, go_sem, rb_0, rb_1, rb_2, rb_3, rb_4]) rfl ⟨rfl, hb⟩
    · refine stepTo_new (fun b => .pointer (some ⟨b, 0, none⟩)) (fun c => fun w' => Below W.heap.size W w' ∧ (W.heap.size ≤ sb ∧ Box sb (g * x.2 / 8640000) (upD (g * x.2) 8640000) w') ∧ W.heap.size ≤ c ∧ Box c 0 0 w') rfl (fun c => ⟨fun _ _ hx hy => ⟨hx.1.trans (hy.mono hx.1.size), ⟨hx.2.1.1, hx.2.1.2.below hy⟩, hx.2.2.1, hx.2.2.2.below hy⟩, fun _ hx => b1.below hx.1⟩) rfl ?_ ?_
      · rintro ww ⟨hB, hs1, hs2⟩
        refine ⟨ww.alloc (.cells #[.int .i64 0, .int .i64 0] 51), ?_, hB.alloc hB.size _, ⟨hs1, hs2.alloc _⟩, hB.size, Box.fresh _ _ _ _⟩
        go_simp
        try rfl
      intro c
      (try simp only [Act.put, List.setIfInBounds_toArray, List.set_cons_zero, List.set_cons_succ, List.getElem_toArray, List.getElem_cons_zero, List.getElem_cons_succ])
      refine wpAnyG_step (i := 11) (by kernel_rfl) (stepTo_call _ _ (en (jn (g * x.1) (g * x.2))) rfl (⟨fun _ _ hx hy => ⟨hx.1.trans (hy.mono hx.1.size), ⟨hx.2.1.1, hx.2.1.2.below hy⟩, hx.2.2.1, hx.2.2.2.below hy⟩, fun _ hx => b1.below hx.1⟩) rfl (by intro ww; go_simp) (fun ww hS => JN ww sb hS.2.1.2) ?_)
      (try simp only [Act.put, List.setIfInBounds_toArray, List.set_cons_zero, List.set_cons_succ, List.getElem_toArray, List.getElem_cons_zero, List.getElem_cons_succ])
      refine wpAnyG_store (i := 13) (fun w' => Below W.heap.size W w' ∧ W.heap.size ≤ c ∧ Box c (jn (g * x.1) (g * x.2)).1 (jn (g * x.1) (g * x.2)).2 w') rfl (by kernel_rfl) (⟨fun _ _ hx hy => ⟨hx.1.trans (hy.mono hx.1.size), hx.2.1, hx.2.2.below hy⟩, fun _ hx => b1.below hx.1⟩) rfl ?_ ?_
      · rintro ww ⟨hB, ⟨_, _⟩, hge, hal⟩
        obtain ⟨q0, q1, q2, q3, q4⟩ := hal
        refine ⟨((ww.setCell ⟨c, 0, none⟩ (.int .i64 (jn (g * x.1) (g * x.2)).1)).setCell ⟨c, 1, none⟩ (.int .i64 (jn (g * x.1) (g * x.2)).2)), ?_, ((hB.setCell hge _).setCell hge _), hge, Box.set ⟨q0, q1, q2, q3, q4⟩ _ _⟩
        go_simp
      (try simp only [Act.put, List.setIfInBounds_toArray, List.set_cons_zero, List.set_cons_succ, List.getElem_toArray, List.getElem_cons_zero, List.getElem_cons_succ])
      refine wpAnyG_done (by kernel_rfl) ?_ _
      rintro W2 ⟨hB, hge, j⟩
      clear hR hG
      have j_lb : w.heap.size + 1 < c := Nat.lt_of_lt_of_le rb.lt hge
      have b1 := b1.below hB
      have rb := rb.below hB
      have hb := hb.trans (hB.mono hb.size)
      clear hB hge
      go_wp2_with fail
      have hR : ∀ w', Below W2.heap.size W2 w' → Box (c) ((jn (g * x.1) (g * x.2)).1) ((jn (g * x.1) (g * x.2)).2) w' := fun w' hq0 => j.below hq0
      have hG := good_below hR
      refine wp_region_G (R := fun w' => Box (c) ((jn (g * x.1) (g * x.2)).1) ((jn (g * x.1) (g * x.2)).2) w') (fun w' => Below W2.heap.size W2 w') (by kernel_rfl) (Below.refl _ _).drew ?_
      refine wpAnyG_take (i := 0) (v := ?_) rfl (by kernel_rfl) (by kernel_rfl) (by kernel_rfl) hG rfl ?_ ?_
      rotate_left
      (focus (intro ww hSw; obtain ⟨r0_0, r0_1, r0_2, r0_3, r0_4⟩ := hSw; go_simp; (try with_reducible rfl)))
      (try simp only [Act.put, List.setIfInBounds_toArray, List.set_cons_zero, List.set_cons_succ, List.getElem_toArray, List.getElem_cons_zero, List.getElem_cons_succ])
      refine wpAnyG_call (i := 1) _ _ _ rfl (by kernel_rfl) (by kernel_rfl) (by kernel_rfl) hG rfl (by intro ww; go_simp; all_goals (first | rfl | exact ⟨rfl, rfl⟩)) (fun ww => C3.out ww) ?_
      (try simp only [Act.put, List.setIfInBounds_toArray, List.set_cons_zero, List.set_cons_succ, List.getElem_toArray, List.getElem_cons_zero, List.getElem_cons_succ])
      refine wpAnyG_take (i := 2) (v := ?_) rfl (by kernel_rfl) (by kernel_rfl) (by kernel_rfl) hG rfl ?_ ?_
      rotate_left
      (focus (intro ww hSw; obtain ⟨r0_0, r0_1, r0_2, r0_3, r0_4⟩ := hSw; go_simp; (try with_reducible rfl)))
      (try simp only [Act.put, List.setIfInBounds_toArray, List.set_cons_zero, List.set_cons_succ, List.getElem_toArray, List.getElem_cons_zero, List.getElem_cons_succ])
      refine wpAnyG_call (i := 3) _ _ _ rfl (by kernel_rfl) (by kernel_rfl) (by kernel_rfl) hG rfl (by intro ww; go_simp; all_goals (first | rfl | exact ⟨rfl, rfl⟩)) (fun ww => C4.out ww) ?_
      (try simp only [Act.put, List.setIfInBounds_toArray, List.set_cons_zero, List.set_cons_succ, List.getElem_toArray, List.getElem_cons_zero, List.getElem_cons_succ])
      refine wpAnyG_store (i := 4) (fun w' => But [w.heap.size + 1] W2 w' ∧ Box (w.heap.size + 1) ((adP (onP st) (jn (g * x.1) (g * x.2))).1) ((adP (onP st) (jn (g * x.1) (g * x.2))).2) w') rfl (by kernel_rfl) (⟨fun _ _ hx hy => ⟨hx.1.below hy, hx.2.below hy⟩, fun _ hx => hx.1.box j (by simp only [List.mem_cons, List.not_mem_nil, or_false]; omega)⟩) rfl ?_ ?_
      · rintro ww hB
        obtain ⟨q0, q1, q2, q3, q4⟩ := (rb.below hB)
        refine ⟨((ww.setCell ⟨w.heap.size + 1, 0, none⟩ (.int .i64 ((adP (onP st) (jn (g * x.1) (g * x.2))).1))).setCell ⟨w.heap.size + 1, 1, none⟩ (.int .i64 ((adP (onP st) (jn (g * x.1) (g * x.2))).2))), ?_, (((But.of hB).set (by simp) _ _).set (by simp) _ _), Box.set ⟨q0, q1, q2, q3, q4⟩ _ _⟩
        go_simp
        try rfl
      (try simp only [Act.put, List.setIfInBounds_toArray, List.set_cons_zero, List.set_cons_succ, List.getElem_toArray, List.getElem_cons_zero, List.getElem_cons_succ])
      refine wpAnyG_done (by kernel_rfl) ?_ _
      rintro W3 ⟨hB, ho_rb⟩
      clear hR hG
      have hb := hB.toBelow hb (Nat.le_refl _) (by intro k hk; simp only [List.mem_cons, List.not_mem_nil, or_false] at hk; omega)
      have b1 := hB.box b1 (by simp only [List.mem_cons, List.not_mem_nil, or_false]; omega)
      have j := hB.box j (by simp only [List.mem_cons, List.not_mem_nil, or_false]; omega)
      have rb := ho_rb
      clear ho_rb
      clear hB
      have Hrb := Lib.hid rb
      obtain ⟨rb_0, rb_1, rb_2, rb_3, rb_4⟩ := rb
      have rb_n : (w.heap.size + 1) ≠ W3.heap.size := Nat.ne_of_lt rb_4
      go_wp2_with fail
      exact bodyPost_ret (v := en (adP (onP st) (jn (g * x.1) (g * x.2)))) (by simp [results, Tryd.results96, go_sem, rb_0, rb_1, rb_2, rb_3, rb_4]) rfl ⟨rfl, hb⟩
  · refine stepTo_new (fun b => .pointer (some ⟨b, 0, none⟩)) (fun c => fun w' => Below W.heap.size W w' ∧ W.heap.size ≤ c ∧ Box c 0 0 w') rfl (fun c => ⟨fun _ _ hx hy => ⟨hx.1.trans (hy.mono hx.1.size), hx.2.1, hx.2.2.below hy⟩, fun _ hx => b1.below hx.1⟩) rfl ?_ ?_
    · rintro ww hB
      refine ⟨ww.alloc (.cells #[.int .i64 0, .int .i64 0] 51), ?_, hB.alloc hB.size _, hB.size, Box.fresh _ _ _ _⟩
      go_simp
      try rfl
    intro c
    (try simp only [Act.put, List.setIfInBounds_toArray, List.set_cons_zero, List.set_cons_succ, List.getElem_toArray, List.getElem_cons_zero, List.getElem_cons_succ])
    refine wpAnyG_new (i := 10) (fun b => .slice (some ⟨b, 0, none⟩) 1 1) (fun sb => fun w' => Below W.heap.size W w' ∧ (W.heap.size ≤ sb ∧ Box sb (g * x.2 / 8640000) (upD (g * x.2) 8640000) w') ∧ W.heap.size ≤ c ∧ Box c 0 0 w') rfl (by kernel_rfl) (fun sb => ⟨fun _ _ hx hy => ⟨hx.1.trans (hy.mono hx.1.size), ⟨hx.2.1.1, hx.2.1.2.below hy⟩, hx.2.2.1, hx.2.2.2.below hy⟩, fun _ hx => b1.below hx.1⟩) rfl ?_ ?_
    · rintro ww ⟨hB, hge, hal⟩
      refine ⟨ww.alloc (.cells #[.int .i64 (g * x.2 / 8640000), .int .i64 (upD (g * x.2) 8640000)] 51), ?_, hB.alloc hB.size _, ⟨hB.size, Box.fresh _ _ _ _⟩, hge, hal.alloc _⟩
      go_simp
      try rfl
    intro sb
    (try simp only [Act.put, List.setIfInBounds_toArray, List.set_cons_zero, List.set_cons_succ, List.getElem_toArray, List.getElem_cons_zero, List.getElem_cons_succ])
    refine wpAnyG_step (i := 11) (by kernel_rfl) (stepTo_call _ _ (en (jn (g * x.1) (g * x.2))) rfl (⟨fun _ _ hx hy => ⟨hx.1.trans (hy.mono hx.1.size), ⟨hx.2.1.1, hx.2.1.2.below hy⟩, hx.2.2.1, hx.2.2.2.below hy⟩, fun _ hx => b1.below hx.1⟩) rfl (by intro ww; go_simp) (fun ww hS => JN ww sb hS.2.1.2) ?_)
    (try simp only [Act.put, List.setIfInBounds_toArray, List.set_cons_zero, List.set_cons_succ, List.getElem_toArray, List.getElem_cons_zero, List.getElem_cons_succ])
    refine wpAnyG_store (i := 13) (fun w' => Below W.heap.size W w' ∧ W.heap.size ≤ c ∧ Box c (jn (g * x.1) (g * x.2)).1 (jn (g * x.1) (g * x.2)).2 w') rfl (by kernel_rfl) (⟨fun _ _ hx hy => ⟨hx.1.trans (hy.mono hx.1.size), hx.2.1, hx.2.2.below hy⟩, fun _ hx => b1.below hx.1⟩) rfl ?_ ?_
    · rintro ww ⟨hB, ⟨_, _⟩, hge, hal⟩
      obtain ⟨q0, q1, q2, q3, q4⟩ := hal
      refine ⟨((ww.setCell ⟨c, 0, none⟩ (.int .i64 (jn (g * x.1) (g * x.2)).1)).setCell ⟨c, 1, none⟩ (.int .i64 (jn (g * x.1) (g * x.2)).2)), ?_, ((hB.setCell hge _).setCell hge _), hge, Box.set ⟨q0, q1, q2, q3, q4⟩ _ _⟩
      go_simp
    (try simp only [Act.put, List.setIfInBounds_toArray, List.set_cons_zero, List.set_cons_succ, List.getElem_toArray, List.getElem_cons_zero, List.getElem_cons_succ])
    refine wpAnyG_done (by kernel_rfl) ?_ _
    rintro W2 ⟨hB, hge, j⟩
    clear hR hG
    have j_lb : w.heap.size + 1 < c := Nat.lt_of_lt_of_le rb.lt hge
    have b1 := b1.below hB
    have rb := rb.below hB
    have hb := hb.trans (hB.mono hb.size)
    clear hB hge
    go_wp2_with fail
    have hR : ∀ w', Below W2.heap.size W2 w' → Box (c) ((jn (g * x.1) (g * x.2)).1) ((jn (g * x.1) (g * x.2)).2) w' := fun w' hq0 => j.below hq0
    have hG := good_below hR
    refine wp_region_G (R := fun w' => Box (c) ((jn (g * x.1) (g * x.2)).1) ((jn (g * x.1) (g * x.2)).2) w') (fun w' => Below W2.heap.size W2 w') (by kernel_rfl) (Below.refl _ _).drew ?_
    refine wpAnyG_take (i := 0) (v := ?_) rfl (by kernel_rfl) (by kernel_rfl) (by kernel_rfl) hG rfl ?_ ?_
    rotate_left
    (focus (intro ww hSw; obtain ⟨r0_0, r0_1, r0_2, r0_3, r0_4⟩ := hSw; go_simp; (try with_reducible rfl)))
    (try simp only [Act.put, List.setIfInBounds_toArray, List.set_cons_zero, List.set_cons_succ, List.getElem_toArray, List.getElem_cons_zero, List.getElem_cons_succ])
    refine wpAnyG_call (i := 1) _ _ _ rfl (by kernel_rfl) (by kernel_rfl) (by kernel_rfl) hG rfl (by intro ww; go_simp; all_goals (first | rfl | exact ⟨rfl, rfl⟩)) (fun ww => C3.out ww) ?_
    (try simp only [Act.put, List.setIfInBounds_toArray, List.set_cons_zero, List.set_cons_succ, List.getElem_toArray, List.getElem_cons_zero, List.getElem_cons_succ])
    refine wpAnyG_take (i := 2) (v := ?_) rfl (by kernel_rfl) (by kernel_rfl) (by kernel_rfl) hG rfl ?_ ?_
    rotate_left
    (focus (intro ww hSw; obtain ⟨r0_0, r0_1, r0_2, r0_3, r0_4⟩ := hSw; go_simp; (try with_reducible rfl)))
    (try simp only [Act.put, List.setIfInBounds_toArray, List.set_cons_zero, List.set_cons_succ, List.getElem_toArray, List.getElem_cons_zero, List.getElem_cons_succ])
    refine wpAnyG_call (i := 3) _ _ _ rfl (by kernel_rfl) (by kernel_rfl) (by kernel_rfl) hG rfl (by intro ww; go_simp; all_goals (first | rfl | exact ⟨rfl, rfl⟩)) (fun ww => C4.out ww) ?_
    (try simp only [Act.put, List.setIfInBounds_toArray, List.set_cons_zero, List.set_cons_succ, List.getElem_toArray, List.getElem_cons_zero, List.getElem_cons_succ])
    refine wpAnyG_store (i := 4) (fun w' => But [w.heap.size + 1] W2 w' ∧ Box (w.heap.size + 1) ((adP (onP st) (jn (g * x.1) (g * x.2))).1) ((adP (onP st) (jn (g * x.1) (g * x.2))).2) w') rfl (by kernel_rfl) (⟨fun _ _ hx hy => ⟨hx.1.below hy, hx.2.below hy⟩, fun _ hx => hx.1.box j (by simp only [List.mem_cons, List.not_mem_nil, or_false]; omega)⟩) rfl ?_ ?_
    · rintro ww hB
      obtain ⟨q0, q1, q2, q3, q4⟩ := (rb.below hB)
      refine ⟨((ww.setCell ⟨w.heap.size + 1, 0, none⟩ (.int .i64 ((adP (onP st) (jn (g * x.1) (g * x.2))).1))).setCell ⟨w.heap.size + 1, 1, none⟩ (.int .i64 ((adP (onP st) (jn (g * x.1) (g * x.2))).2))), ?_, (((But.of hB).set (by simp) _ _).set (by simp) _ _), Box.set ⟨q0, q1, q2, q3, q4⟩ _ _⟩
      go_simp
      try rfl
    (try simp only [Act.put, List.setIfInBounds_toArray, List.set_cons_zero, List.set_cons_succ, List.getElem_toArray, List.getElem_cons_zero, List.getElem_cons_succ])
    refine wpAnyG_done (by kernel_rfl) ?_ _
    rintro W3 ⟨hB, ho_rb⟩
    clear hR hG
    have hb := hB.toBelow hb (Nat.le_refl _) (by intro k hk; simp only [List.mem_cons, List.not_mem_nil, or_false] at hk; omega)
    have b1 := hB.box b1 (by simp only [List.mem_cons, List.not_mem_nil, or_false]; omega)
    have j := hB.box j (by simp only [List.mem_cons, List.not_mem_nil, or_false]; omega)
    have rb := ho_rb
    clear ho_rb
    clear hB
    have Hrb := Lib.hid rb
    obtain ⟨rb_0, rb_1, rb_2, rb_3, rb_4⟩ := rb
    have rb_n : (w.heap.size + 1) ≠ W3.heap.size := Nat.ne_of_lt rb_4
    go_wp2_with fail
    exact bodyPost_ret (v := en (adP (onP st) (jn (g * x.1) (g * x.2)))) (by simp [results, Tryd.results96, go_sem, rb_0, rb_1, rb_2, rb_3, rb_4]) rfl ⟨rfl, hb⟩
end Go.Proofs.YtjcgojbfjefbcaaDoor
