/- The way of the sun, hours and moments of the code. -/
import Derived.Test.YtjcgojbfjefbcaaDoorSy
namespace Go.Proofs.YtjcgojbfjefbcaaDoor
set_option linter.unusedSimpArgs false
set_option linter.unusedVariables false
open Go.RowKit SineNear
attribute [local go_sem ↓] Go.wp_at_zero Go.wp_at_succ

/-- the sun's way, as a value -/
abbrev ci (x y : P2) : Value := .agg #[.int .i64 x.1, .int .i64 x.2, .int .i64 y.1, .int .i64 y.2]

set_option maxRecDepth 100000 in
set_option maxHeartbeats 4000000 in
theorem circle_T (lat : Int) (s : P2) : RetT 87 #[.int .i64 lat, en s] (ci (miP lat s) (swP lat s)) := by
  intro w
  have C1 := Lib.hid (arcsin_T s)
  have C2 := Lib.hid (sure_T (asP s) (oneE s.1 s.2))
  have C3 := Lib.hid (cosOf_T (asP s))
  have C4 := Lib.hid (sure_T (coP (asP s)) (angE (asP s).1 (asP s).2))
  have D1 := Lib.hid (sin_T lat)
  have D2 := Lib.hid (sure_T (siP (onP lat)) (angE lat lat))
  have D3 := Lib.hid (times_T (siP (onP lat)) s)
  have D4 := Lib.hid (sure_T (miP lat s) (tmE (siP (onP lat)) s))
  have E1 := Lib.hid (cos_T lat)
  have E2 := Lib.hid (sure_T (coP (onP lat)) (angE lat lat))
  have E3 := Lib.hid (times_T (coP (onP lat)) (coP (asP s)))
  have E4 := Lib.hid (sure_T (swP lat s) (tmE (coP (onP lat)) (coP (asP s))))
  go_enter Tryd.func87, Tryd.ntmps87
  go_wp2_with fail
  refine fresh_call (fun W => Box (w.heap.size) ((s).1) ((s).2) W ∧ Box4 (w.heap.size + 1) (0) (0) (0) (0) W ∧ Below w.heap.size w W) ⟨((Box.fresh _ _ _ _)).alloc _, (Box4.freshAt (by simp) _ _ _ _ _), (((Below.refl _ _).alloc (Nat.le_refl _) _).alloc (by simp) _)⟩ ?_
  rintro W1 ⟨b1, r, hb⟩
  refine (C1.out _).mono ?_
  rintro e v2 ⟨rfl, hq⟩
  have b1 := b1.below hq
  have r := r.below hq
  have hb := hb.trans (hq.mono hb.size)
  clear hq
  go_wp2_with fail
  refine (C2.out _).mono ?_
  rintro e v3 ⟨rfl, hq⟩
  have b1 := b1.below hq
  have r := r.below hq
  have hb := hb.trans (hq.mono hb.size)
  clear hq
  go_wp2_with fail
  refine (C3.out _).mono ?_
  rintro e v4 ⟨rfl, hq⟩
  have b1 := b1.below hq
  have r := r.below hq
  have hb := hb.trans (hq.mono hb.size)
  clear hq
  go_wp2_with fail
  refine (C4.out _).mono ?_
  rintro e v5 ⟨rfl, hq⟩
  have b1 := b1.below hq
  have r := r.below hq
  have hb := hb.trans (hq.mono hb.size)
  clear hq
  go_wp2_with fail
  have co_lb : w.heap.size + 1 < v5.heap.size := r.2.2.2.2.2.2.2.2
  refine fresh_world (fun W => Box (w.heap.size) ((s).1) ((s).2) W ∧ Box4 (w.heap.size + 1) (0) (0) (0) (0) W ∧ Box (v5.heap.size) ((coP (asP s)).1) ((coP (asP s)).2) W ∧ Below w.heap.size w W) ⟨b1.alloc _, r.alloc _, Box.fresh _ _ _ _, hb.alloc hb.size _⟩ ?_
  clear b1 r hb
  rintro W6 ⟨b1, r, co, hb⟩
  have hR : ∀ w', Below W6.heap.size W6 w' → Box (w.heap.size) ((s).1) ((s).2) w' ∧ Box (v5.heap.size) ((coP (asP s)).1) ((coP (asP s)).2) w' := fun w' hq0 => ⟨b1.below hq0, co.below hq0⟩
  have hG := good_below hR
  refine wp_region_G (R := fun w' => Box (w.heap.size) ((s).1) ((s).2) w' ∧ Box (v5.heap.size) ((coP (asP s)).1) ((coP (asP s)).2) w') (fun w' => Below W6.heap.size W6 w') (by kernel_rfl) (Below.refl _ _).drew ?_
  refine wpAnyG_take (i := 0) (v := ?_) rfl (by kernel_rfl) (by kernel_rfl) (by kernel_rfl) hG rfl ?_ ?_
  rotate_left
  (focus (intro ww hSw; obtain ⟨⟨r0_0, r0_1, r0_2, r0_3, r0_4⟩, ⟨r1_0, r1_1, r1_2, r1_3, r1_4⟩⟩ := hSw; go_simp; (try with_reducible rfl)))
  (try simp only [Act.put, List.setIfInBounds_toArray, List.set_cons_zero, List.set_cons_succ, List.getElem_toArray, List.getElem_cons_zero, List.getElem_cons_succ])
  refine wpAnyG_call (i := 1) _ _ _ rfl (by kernel_rfl) (by kernel_rfl) (by kernel_rfl) hG rfl (by intro ww; go_simp; all_goals (first | rfl | exact ⟨rfl, rfl⟩)) (fun ww => D1.out ww) ?_
  (try simp only [Act.put, List.setIfInBounds_toArray, List.set_cons_zero, List.set_cons_succ, List.getElem_toArray, List.getElem_cons_zero, List.getElem_cons_succ])
  refine wpAnyG_take (i := 2) (v := ?_) rfl (by kernel_rfl) (by kernel_rfl) (by kernel_rfl) hG rfl ?_ ?_
  rotate_left
  (focus (intro ww hSw; obtain ⟨⟨r0_0, r0_1, r0_2, r0_3, r0_4⟩, ⟨r1_0, r1_1, r1_2, r1_3, r1_4⟩⟩ := hSw; go_simp; (try with_reducible rfl)))
  (try simp only [Act.put, List.setIfInBounds_toArray, List.set_cons_zero, List.set_cons_succ, List.getElem_toArray, List.getElem_cons_zero, List.getElem_cons_succ])
  refine wpAnyG_take (i := 3) (v := ?_) rfl (by kernel_rfl) (by kernel_rfl) (by kernel_rfl) hG rfl ?_ ?_
  rotate_left
  (focus (intro ww hSw; obtain ⟨⟨r0_0, r0_1, r0_2, r0_3, r0_4⟩, ⟨r1_0, r1_1, r1_2, r1_3, r1_4⟩⟩ := hSw; go_simp; (try with_reducible rfl)))
  (try simp only [Act.put, List.setIfInBounds_toArray, List.set_cons_zero, List.set_cons_succ, List.getElem_toArray, List.getElem_cons_zero, List.getElem_cons_succ])
  refine wpAnyG_call (i := 4) _ _ _ rfl (by kernel_rfl) (by kernel_rfl) (by kernel_rfl) hG rfl (by intro ww; go_simp; all_goals (first | rfl | exact ⟨rfl, rfl⟩)) (fun ww => D2.out ww) ?_
  (try simp only [Act.put, List.setIfInBounds_toArray, List.set_cons_zero, List.set_cons_succ, List.getElem_toArray, List.getElem_cons_zero, List.getElem_cons_succ])
  refine wpAnyG_take (i := 5) (v := ?_) rfl (by kernel_rfl) (by kernel_rfl) (by kernel_rfl) hG rfl ?_ ?_
  rotate_left
  (focus (intro ww hSw; obtain ⟨⟨r0_0, r0_1, r0_2, r0_3, r0_4⟩, ⟨r1_0, r1_1, r1_2, r1_3, r1_4⟩⟩ := hSw; go_simp; (try with_reducible rfl)))
  (try simp only [Act.put, List.setIfInBounds_toArray, List.set_cons_zero, List.set_cons_succ, List.getElem_toArray, List.getElem_cons_zero, List.getElem_cons_succ])
  refine wpAnyG_call (i := 6) _ _ _ rfl (by kernel_rfl) (by kernel_rfl) (by kernel_rfl) hG rfl (by intro ww; go_simp; all_goals (first | rfl | exact ⟨rfl, rfl⟩)) (fun ww => D3.out ww) ?_
  (try simp only [Act.put, List.setIfInBounds_toArray, List.set_cons_zero, List.set_cons_succ, List.getElem_toArray, List.getElem_cons_zero, List.getElem_cons_succ])
  refine wpAnyG_take (i := 7) (v := ?_) rfl (by kernel_rfl) (by kernel_rfl) (by kernel_rfl) hG rfl ?_ ?_
  rotate_left
  (focus (intro ww hSw; obtain ⟨⟨r0_0, r0_1, r0_2, r0_3, r0_4⟩, ⟨r1_0, r1_1, r1_2, r1_3, r1_4⟩⟩ := hSw; go_simp; (try with_reducible rfl)))
  (try simp only [Act.put, List.setIfInBounds_toArray, List.set_cons_zero, List.set_cons_succ, List.getElem_toArray, List.getElem_cons_zero, List.getElem_cons_succ])
  refine wpAnyG_take (i := 8) (v := ?_) rfl (by kernel_rfl) (by kernel_rfl) (by kernel_rfl) hG rfl ?_ ?_
  rotate_left
  (focus (intro ww hSw; obtain ⟨⟨r0_0, r0_1, r0_2, r0_3, r0_4⟩, ⟨r1_0, r1_1, r1_2, r1_3, r1_4⟩⟩ := hSw; go_simp; (try with_reducible rfl)))
  (try simp only [Act.put, List.setIfInBounds_toArray, List.set_cons_zero, List.set_cons_succ, List.getElem_toArray, List.getElem_cons_zero, List.getElem_cons_succ])
  refine wpAnyG_call (i := 9) _ _ _ rfl (by kernel_rfl) (by kernel_rfl) (by kernel_rfl) hG rfl (by intro ww; go_simp; all_goals (first | rfl | exact ⟨rfl, rfl⟩)) (fun ww => D4.out ww) ?_
  (try simp only [Act.put, List.setIfInBounds_toArray, List.set_cons_zero, List.set_cons_succ, List.getElem_toArray, List.getElem_cons_zero, List.getElem_cons_succ])
  refine wpAnyG_take (i := 10) (v := ?_) rfl (by kernel_rfl) (by kernel_rfl) (by kernel_rfl) hG rfl ?_ ?_
  rotate_left
  (focus (intro ww hSw; obtain ⟨⟨r0_0, r0_1, r0_2, r0_3, r0_4⟩, ⟨r1_0, r1_1, r1_2, r1_3, r1_4⟩⟩ := hSw; go_simp; (try with_reducible rfl)))
  (try simp only [Act.put, List.setIfInBounds_toArray, List.set_cons_zero, List.set_cons_succ, List.getElem_toArray, List.getElem_cons_zero, List.getElem_cons_succ])
  refine wpAnyG_call (i := 11) _ _ _ rfl (by kernel_rfl) (by kernel_rfl) (by kernel_rfl) hG rfl (by intro ww; go_simp; all_goals (first | rfl | exact ⟨rfl, rfl⟩)) (fun ww => E1.out ww) ?_
  (try simp only [Act.put, List.setIfInBounds_toArray, List.set_cons_zero, List.set_cons_succ, List.getElem_toArray, List.getElem_cons_zero, List.getElem_cons_succ])
  refine wpAnyG_take (i := 12) (v := ?_) rfl (by kernel_rfl) (by kernel_rfl) (by kernel_rfl) hG rfl ?_ ?_
  rotate_left
  (focus (intro ww hSw; obtain ⟨⟨r0_0, r0_1, r0_2, r0_3, r0_4⟩, ⟨r1_0, r1_1, r1_2, r1_3, r1_4⟩⟩ := hSw; go_simp; (try with_reducible rfl)))
  (try simp only [Act.put, List.setIfInBounds_toArray, List.set_cons_zero, List.set_cons_succ, List.getElem_toArray, List.getElem_cons_zero, List.getElem_cons_succ])
  refine wpAnyG_take (i := 13) (v := ?_) rfl (by kernel_rfl) (by kernel_rfl) (by kernel_rfl) hG rfl ?_ ?_
  rotate_left
  (focus (intro ww hSw; obtain ⟨⟨r0_0, r0_1, r0_2, r0_3, r0_4⟩, ⟨r1_0, r1_1, r1_2, r1_3, r1_4⟩⟩ := hSw; go_simp; (try with_reducible rfl)))
  (try simp only [Act.put, List.setIfInBounds_toArray, List.set_cons_zero, List.set_cons_succ, List.getElem_toArray, List.getElem_cons_zero, List.getElem_cons_succ])
  refine wpAnyG_call (i := 14) _ _ _ rfl (by kernel_rfl) (by kernel_rfl) (by kernel_rfl) hG rfl (by intro ww; go_simp; all_goals (first | rfl | exact ⟨rfl, rfl⟩)) (fun ww => E2.out ww) ?_
  (try simp only [Act.put, List.setIfInBounds_toArray, List.set_cons_zero, List.set_cons_succ, List.getElem_toArray, List.getElem_cons_zero, List.getElem_cons_succ])
  refine wpAnyG_take (i := 15) (v := ?_) rfl (by kernel_rfl) (by kernel_rfl) (by kernel_rfl) hG rfl ?_ ?_
  rotate_left
  (focus (intro ww hSw; obtain ⟨⟨r0_0, r0_1, r0_2, r0_3, r0_4⟩, ⟨r1_0, r1_1, r1_2, r1_3, r1_4⟩⟩ := hSw; go_simp; (try with_reducible rfl)))
  (try simp only [Act.put, List.setIfInBounds_toArray, List.set_cons_zero, List.set_cons_succ, List.getElem_toArray, List.getElem_cons_zero, List.getElem_cons_succ])
  refine wpAnyG_call (i := 16) _ _ _ rfl (by kernel_rfl) (by kernel_rfl) (by kernel_rfl) hG rfl (by intro ww; go_simp; all_goals (first | rfl | exact ⟨rfl, rfl⟩)) (fun ww => E3.out ww) ?_
  (try simp only [Act.put, List.setIfInBounds_toArray, List.set_cons_zero, List.set_cons_succ, List.getElem_toArray, List.getElem_cons_zero, List.getElem_cons_succ])
  refine wpAnyG_take (i := 17) (v := ?_) rfl (by kernel_rfl) (by kernel_rfl) (by kernel_rfl) hG rfl ?_ ?_
  rotate_left
  (focus (intro ww hSw; obtain ⟨⟨r0_0, r0_1, r0_2, r0_3, r0_4⟩, ⟨r1_0, r1_1, r1_2, r1_3, r1_4⟩⟩ := hSw; go_simp; (try with_reducible rfl)))
  (try simp only [Act.put, List.setIfInBounds_toArray, List.set_cons_zero, List.set_cons_succ, List.getElem_toArray, List.getElem_cons_zero, List.getElem_cons_succ])
  refine wpAnyG_take (i := 18) (v := ?_) rfl (by kernel_rfl) (by kernel_rfl) (by kernel_rfl) hG rfl ?_ ?_
  rotate_left
  (focus (intro ww hSw; obtain ⟨⟨r0_0, r0_1, r0_2, r0_3, r0_4⟩, ⟨r1_0, r1_1, r1_2, r1_3, r1_4⟩⟩ := hSw; go_simp; (try with_reducible rfl)))
  (try simp only [Act.put, List.setIfInBounds_toArray, List.set_cons_zero, List.set_cons_succ, List.getElem_toArray, List.getElem_cons_zero, List.getElem_cons_succ])
  refine wpAnyG_call (i := 19) _ _ _ rfl (by kernel_rfl) (by kernel_rfl) (by kernel_rfl) hG rfl (by intro ww; go_simp; all_goals (first | rfl | exact ⟨rfl, rfl⟩)) (fun ww => E4.out ww) ?_
  (try simp only [Act.put, List.setIfInBounds_toArray, List.set_cons_zero, List.set_cons_succ, List.getElem_toArray, List.getElem_cons_zero, List.getElem_cons_succ])
  refine wpAnyG_take (i := 20) (v := ?_) rfl (by kernel_rfl) (by kernel_rfl) (by kernel_rfl) hG rfl ?_ ?_
  rotate_left
  (focus (intro ww hSw; obtain ⟨⟨r0_0, r0_1, r0_2, r0_3, r0_4⟩, ⟨r1_0, r1_1, r1_2, r1_3, r1_4⟩⟩ := hSw; go_simp; (try with_reducible rfl)))
  (try simp only [Act.put, List.setIfInBounds_toArray, List.set_cons_zero, List.set_cons_succ, List.getElem_toArray, List.getElem_cons_zero, List.getElem_cons_succ])
  refine wpAnyG_store (i := 21) (fun w' => But [w.heap.size + 1] W6 w' ∧ Box4 (w.heap.size + 1) ((miP lat s).1) ((miP lat s).2) ((swP lat s).1) ((swP lat s).2) w') rfl (by kernel_rfl) (⟨fun _ _ hx hy => ⟨hx.1.below hy, hx.2.below hy⟩, fun _ hx => ⟨hx.1.box b1 (by simp only [List.mem_cons, List.not_mem_nil, or_false]; omega), hx.1.box co (by simp only [List.mem_cons, List.not_mem_nil, or_false]; omega)⟩⟩) rfl ?_ ?_
  · rintro ww hB
    obtain ⟨q0, q1, q2, q3, q4, q5, q6, q7, q8⟩ := (r.below hB)
    refine ⟨((((ww.setCell ⟨w.heap.size + 1, 0, none⟩ (.int .i64 ((miP lat s).1))).setCell ⟨w.heap.size + 1, 1, none⟩ (.int .i64 ((miP lat s).2))).setCell ⟨w.heap.size + 1, 2, none⟩ (.int .i64 ((swP lat s).1))).setCell ⟨w.heap.size + 1, 3, none⟩ (.int .i64 ((swP lat s).2))), ?_, (((((But.of hB).set (by simp) _ _).set (by simp) _ _).set (by simp) _ _).set (by simp) _ _), Box4.set ⟨q0, q1, q2, q3, q4, q5, q6, q7, q8⟩ _ _ _ _⟩
    go_simp
    try rfl
  (try simp only [Act.put, List.setIfInBounds_toArray, List.set_cons_zero, List.set_cons_succ, List.getElem_toArray, List.getElem_cons_zero, List.getElem_cons_succ])
  refine wpAnyG_done (by kernel_rfl) ?_ _
  rintro W7 ⟨hB, ho_r⟩
  clear hR hG
  have hb := hB.toBelow hb (Nat.le_refl _) (by intro k hk; simp only [List.mem_cons, List.not_mem_nil, or_false] at hk; omega)
  have b1 := hB.box b1 (by simp only [List.mem_cons, List.not_mem_nil, or_false]; omega)
  have co := hB.box co (by simp only [List.mem_cons, List.not_mem_nil, or_false]; omega)
  have r := ho_r
  clear ho_r
  clear hB
  have Hr := Lib.hid r
  obtain ⟨r_0, r_1, r_2, r_3, r_4, r_5, r_6, r_7, r_8⟩ := r
  have r_n : (w.heap.size + 1) ≠ W7.heap.size := Nat.ne_of_lt r_8
  go_wp2_with fail
  exact bodyPost_ret (v := (ci (miP lat s) (swP lat s))) (by simp [results, Tryd.results87, go_sem, r_0, r_1, r_2, r_3, r_4, r_5, r_6, r_7, r_8]) rfl ⟨rfl, hb⟩

set_option maxHeartbeats 4000000 in
theorem moments_T (day : Int) (a : P2) (d0 : 0 ≤ day) (d1 : day ≤ 100000) (ha : Bd 1000000000000 a) : RetT 111 #[.int .i64 day, en a] (en (moP day a)) := by
  intro w
  have q := ha.all
  have o := ha.2.1
  have C1 := Lib.hid (down_T (3 * a.1) 12500 (by omega) (by omega) (by omega) (by omega))
  have C2 := Lib.hid (up_T (3 * a.2) 12500 (by omega) (by omega) (by omega) (by omega))
  have C3 := Lib.hid (only_T (86400 * day))
  have C4 := Lib.hid (add_T (onP (86400 * day)) (3 * a.1 / 12500, upD (3 * a.2) 12500) (onP_bd (by omega) (by omega)) (by
    have d := downUp (3 * a.1) 12500 (by omega)
    have u := up_mono (c := 12500) (by omega) (show 3 * a.1 ≤ 3 * a.2 by omega)
    unfold Bd; simp only
    refine ⟨by omega, by omega, ?_⟩
    unfold upD; omega))
  have w0 : IntKind.i64.wrap (86400 * day) = 86400 * day := IntWalk.i64_in _ (by omega)
  have w1 : IntKind.i64.wrap (3 * a.1) = 3 * a.1 := IntWalk.i64_in _ (by omega)
  have w2 : IntKind.i64.wrap (3 * a.2) = 3 * a.2 := IntWalk.i64_in _ (by omega)
  clear q o ha d0 d1
  go_enter Tryd.func111, Tryd.ntmps111
  go_wp2_with fail
  refine fresh_world (fun W => Box (w.heap.size) ((a).1) ((a).2) W ∧ Box (w.heap.size + 1) (0) (0) W ∧ Below w.heap.size w W) ⟨((Box.fresh _ _ _ _)).alloc _, (Box.freshAt (by simp) _ _ _), (((Below.refl _ _).alloc (Nat.le_refl _) _).alloc (by simp) _)⟩ ?_
  rintro W1 ⟨b1, r, hb⟩
  have hlt2 : w.heap.size + 1 < W1.heap.size := r.lt
  have hR : ∀ w', Below W1.heap.size W1 w' → Box (w.heap.size) ((a).1) ((a).2) w' := fun w' hq0 => b1.below hq0
  have hG := good_below hR
  refine wp_region_G (R := fun w' => Box (w.heap.size) ((a).1) ((a).2) w') (fun w' => Below W1.heap.size W1 w') (by kernel_rfl) (Below.refl _ _).drew ?_
  refine wpAnyG_take (i := 0) (v := ?_) rfl (by kernel_rfl) (by kernel_rfl) (by kernel_rfl) hG rfl ?_ ?_
  rotate_left
  (focus (intro ww hSw; obtain ⟨r0_0, r0_1, r0_2, r0_3, r0_4⟩ := hSw; go_simp; (try with_reducible rfl)))
  (try simp only [Act.put, List.setIfInBounds_toArray, List.set_cons_zero, List.set_cons_succ, List.getElem_toArray, List.getElem_cons_zero, List.getElem_cons_succ])
  refine wpAnyG_take (i := 1) (v := ?_) rfl (by kernel_rfl) (by kernel_rfl) (by kernel_rfl) hG rfl ?_ ?_
  rotate_left
  (focus (intro ww hSw; obtain ⟨r0_0, r0_1, r0_2, r0_3, r0_4⟩ := hSw; go_simp; (try with_reducible rfl)))
  (try simp only [Act.put, List.setIfInBounds_toArray, List.set_cons_zero, List.set_cons_succ, List.getElem_toArray, List.getElem_cons_zero, List.getElem_cons_succ])
  refine wpAnyG_take (i := 2) (v := ?_) rfl (by kernel_rfl) (by kernel_rfl) (by kernel_rfl) hG rfl ?_ ?_
  rotate_left
  (focus (intro ww hSw; obtain ⟨r0_0, r0_1, r0_2, r0_3, r0_4⟩ := hSw; go_simp; (try with_reducible rfl)))
  (try simp only [Act.put, List.setIfInBounds_toArray, List.set_cons_zero, List.set_cons_succ, List.getElem_toArray, List.getElem_cons_zero, List.getElem_cons_succ])
  refine wpAnyG_call (i := 3) _ _ _ rfl (by kernel_rfl) (by kernel_rfl) (by kernel_rfl) hG rfl (by intro ww; go_simp; all_goals (first | rfl | exact ⟨rfl, rfl⟩)) (fun ww => C1.out ww) ?_
  (try simp only [Act.put, List.setIfInBounds_toArray, List.set_cons_zero, List.set_cons_succ, List.getElem_toArray, List.getElem_cons_zero, List.getElem_cons_succ])
  refine wpAnyG_take (i := 4) (v := ?_) rfl (by kernel_rfl) (by kernel_rfl) (by kernel_rfl) hG rfl ?_ ?_
  rotate_left
  (focus (intro ww hSw; obtain ⟨r0_0, r0_1, r0_2, r0_3, r0_4⟩ := hSw; go_simp; (try with_reducible rfl)))
  (try simp only [Act.put, List.setIfInBounds_toArray, List.set_cons_zero, List.set_cons_succ, List.getElem_toArray, List.getElem_cons_zero, List.getElem_cons_succ])
  refine wpAnyG_take (i := 5) (v := ?_) rfl (by kernel_rfl) (by kernel_rfl) (by kernel_rfl) hG rfl ?_ ?_
  rotate_left
  (focus (intro ww hSw; obtain ⟨r0_0, r0_1, r0_2, r0_3, r0_4⟩ := hSw; go_simp; (try with_reducible rfl)))
  (try simp only [Act.put, List.setIfInBounds_toArray, List.set_cons_zero, List.set_cons_succ, List.getElem_toArray, List.getElem_cons_zero, List.getElem_cons_succ])
  refine wpAnyG_take (i := 6) (v := ?_) rfl (by kernel_rfl) (by kernel_rfl) (by kernel_rfl) hG rfl ?_ ?_
  rotate_left
  (focus (intro ww hSw; obtain ⟨r0_0, r0_1, r0_2, r0_3, r0_4⟩ := hSw; go_simp; (try with_reducible rfl)))
  (try simp only [Act.put, List.setIfInBounds_toArray, List.set_cons_zero, List.set_cons_succ, List.getElem_toArray, List.getElem_cons_zero, List.getElem_cons_succ])
  refine wpAnyG_call (i := 7) _ _ _ rfl (by kernel_rfl) (by kernel_rfl) (by kernel_rfl) hG rfl (by intro ww; go_simp; all_goals (first | rfl | exact ⟨rfl, rfl⟩)) (fun ww => C2.out ww) ?_
  (try simp only [Act.put, List.setIfInBounds_toArray, List.set_cons_zero, List.set_cons_succ, List.getElem_toArray, List.getElem_cons_zero, List.getElem_cons_succ])
  refine wpAnyG_take (i := 8) (v := ?_) rfl (by kernel_rfl) (by kernel_rfl) (by kernel_rfl) hG rfl ?_ ?_
  rotate_left
  (focus (intro ww hSw; obtain ⟨r0_0, r0_1, r0_2, r0_3, r0_4⟩ := hSw; go_simp; (try with_reducible rfl)))
  (try simp only [Act.put, List.setIfInBounds_toArray, List.set_cons_zero, List.set_cons_succ, List.getElem_toArray, List.getElem_cons_zero, List.getElem_cons_succ])
  refine wpAnyG_new (i := 9) (fun b => .pointer (some ⟨b, 0, none⟩)) (fun c_se => fun w' => Below W1.heap.size W1 w' ∧ W1.heap.size ≤ c_se ∧ Box c_se (0) (0) w') rfl (by kernel_rfl) (fun c_se => ⟨fun _ _ hx hy => ⟨hx.1.trans (hy.mono hx.1.size), hx.2.1, hx.2.2.below hy⟩, fun _ hx => b1.below hx.1⟩) rfl ?_ ?_
  · intro ww hS
    refine ⟨ww.alloc (.cells #[.int .i64 0, .int .i64 0] 51), ?_, hS.alloc hS.size _, hS.size, Box.fresh _ _ _ _⟩
    go_simp
    try rfl
  intro c_se
  (try simp only [Act.put, List.setIfInBounds_toArray, List.set_cons_zero, List.set_cons_succ, List.getElem_toArray, List.getElem_cons_zero, List.getElem_cons_succ])
  refine wpAnyG_store (i := 10) (fun w' => Below W1.heap.size W1 w' ∧ W1.heap.size ≤ c_se ∧ Box c_se (3 * a.1 / 12500) (upD (3 * a.2) 12500) w') rfl (by kernel_rfl) (⟨fun _ _ hx hy => ⟨hx.1.trans (hy.mono hx.1.size), hx.2.1, hx.2.2.below hy⟩, fun _ hx => b1.below hx.1⟩) rfl ?_ ?_
  · rintro ww ⟨hB, hge, hal⟩
    obtain ⟨q0, q1, q2, q3, q4⟩ := hal
    refine ⟨((ww.setCell ⟨c_se, 0, none⟩ (.int .i64 (3 * a.1 / 12500))).setCell ⟨c_se, 1, none⟩ (.int .i64 (upD (3 * a.2) 12500))), ?_, ((hB.setCell hge _).setCell hge _), hge, Box.set ⟨q0, q1, q2, q3, q4⟩ _ _⟩
    go_simp
    try rfl
  (try simp only [Act.put, List.setIfInBounds_toArray, List.set_cons_zero, List.set_cons_succ, List.getElem_toArray, List.getElem_cons_zero, List.getElem_cons_succ])
  refine wpAnyG_done (by kernel_rfl) ?_ _
  rintro W2 ⟨hB, hge, hal⟩
  clear hR hG
  have b1 := b1.below hB
  have r := r.below hB
  have hb := hb.trans (hB.mono hb.size)
  have se := hal
  clear hal
  have se_lb : w.heap.size + 1 < c_se := Nat.lt_of_lt_of_le hlt2 hge
  clear hge
  clear hB
  go_wp2_with fail
  have hR : ∀ w', Below W2.heap.size W2 w' → Box (c_se) (3 * a.1 / 12500) (upD (3 * a.2) 12500) w' := fun w' hq0 => se.below hq0
  have hG := good_below hR
  refine wp_region_G (R := fun w' => Box (c_se) (3 * a.1 / 12500) (upD (3 * a.2) 12500) w') (fun w' => Below W2.heap.size W2 w') (by kernel_rfl) (Below.refl _ _).drew ?_
  refine wpAnyG_take (i := 0) (v := ?_) rfl (by kernel_rfl) (by kernel_rfl) (by kernel_rfl) hG rfl ?_ ?_
  rotate_left
  (focus (intro ww hSw; obtain ⟨r0_0, r0_1, r0_2, r0_3, r0_4⟩ := hSw; go_simp; (try with_reducible rfl)))
  (try simp only [Act.put, List.setIfInBounds_toArray, List.set_cons_zero, List.set_cons_succ, List.getElem_toArray, List.getElem_cons_zero, List.getElem_cons_succ])
  refine wpAnyG_take (i := 1) (v := ?_) rfl (by kernel_rfl) (by kernel_rfl) (by kernel_rfl) hG rfl ?_ ?_
  rotate_left
  (focus (intro ww hSw; obtain ⟨r0_0, r0_1, r0_2, r0_3, r0_4⟩ := hSw; go_simp; (try with_reducible rfl)))
  (try simp only [Act.put, List.setIfInBounds_toArray, List.set_cons_zero, List.set_cons_succ, List.getElem_toArray, List.getElem_cons_zero, List.getElem_cons_succ])
  refine wpAnyG_call (i := 2) _ _ _ rfl (by kernel_rfl) (by kernel_rfl) (by kernel_rfl) hG rfl (by intro ww; go_simp; all_goals (first | rfl | exact ⟨rfl, rfl⟩)) (fun ww => C3.out ww) ?_
  (try simp only [Act.put, List.setIfInBounds_toArray, List.set_cons_zero, List.set_cons_succ, List.getElem_toArray, List.getElem_cons_zero, List.getElem_cons_succ])
  refine wpAnyG_take (i := 3) (v := ?_) rfl (by kernel_rfl) (by kernel_rfl) (by kernel_rfl) hG rfl ?_ ?_
  rotate_left
  (focus (intro ww hSw; obtain ⟨r0_0, r0_1, r0_2, r0_3, r0_4⟩ := hSw; go_simp; (try with_reducible rfl)))
  (try simp only [Act.put, List.setIfInBounds_toArray, List.set_cons_zero, List.set_cons_succ, List.getElem_toArray, List.getElem_cons_zero, List.getElem_cons_succ])
  refine wpAnyG_call (i := 4) _ _ _ rfl (by kernel_rfl) (by kernel_rfl) (by kernel_rfl) hG rfl (by intro ww; go_simp; all_goals (first | rfl | exact ⟨rfl, rfl⟩)) (fun ww => C4.out ww) ?_
  (try simp only [Act.put, List.setIfInBounds_toArray, List.set_cons_zero, List.set_cons_succ, List.getElem_toArray, List.getElem_cons_zero, List.getElem_cons_succ])
  refine wpAnyG_store (i := 5) (fun w' => But [w.heap.size + 1] W2 w' ∧ Box (w.heap.size + 1) ((moP day a).1) ((moP day a).2) w') rfl (by kernel_rfl) (⟨fun _ _ hx hy => ⟨hx.1.below hy, hx.2.below hy⟩, fun _ hx => hx.1.box se (by simp only [List.mem_cons, List.not_mem_nil, or_false]; omega)⟩) rfl ?_ ?_
  · rintro ww hB
    obtain ⟨q0, q1, q2, q3, q4⟩ := (r.below hB)
    refine ⟨((ww.setCell ⟨w.heap.size + 1, 0, none⟩ (.int .i64 ((moP day a).1))).setCell ⟨w.heap.size + 1, 1, none⟩ (.int .i64 ((moP day a).2))), ?_, (((But.of hB).set (by simp) _ _).set (by simp) _ _), Box.set ⟨q0, q1, q2, q3, q4⟩ _ _⟩
    go_simp
    try rfl
  (try simp only [Act.put, List.setIfInBounds_toArray, List.set_cons_zero, List.set_cons_succ, List.getElem_toArray, List.getElem_cons_zero, List.getElem_cons_succ])
  refine wpAnyG_done (by kernel_rfl) ?_ _
  rintro W3 ⟨hB, ho_r⟩
  clear hR hG
  have hb := hB.toBelow hb (Nat.le_refl _) (by intro k hk; simp only [List.mem_cons, List.not_mem_nil, or_false] at hk; omega)
  have b1 := hB.box b1 (by simp only [List.mem_cons, List.not_mem_nil, or_false]; omega)
  have se := hB.box se (by simp only [List.mem_cons, List.not_mem_nil, or_false]; omega)
  have r := ho_r
  clear ho_r
  clear hB
  have Hr := Lib.hid r
  obtain ⟨r_0, r_1, r_2, r_3, r_4⟩ := r
  have r_n : (w.heap.size + 1) ≠ W3.heap.size := Nat.ne_of_lt r_4
  go_wp2_with fail
  exact bodyPost_ret (v := en (moP day a)) (by simp [results, Tryd.results111, go_sem, r_0, r_1, r_2, r_3, r_4]) rfl ⟨rfl, hb⟩

/-- a half of a day, as a value -/
abbrev hv (m : P2) (r : Bool) : Value := .agg #[.int .i64 m.1, .int .i64 m.2, .bool r]

set_option maxHeartbeats 4000000 in
theorem hour_yes (m a : P2) (ha : Bd 1000000000000 a) : RetT 109 #[hv m true, en a] (en (lsP (onP 0) a)) := by
  intro w
  have C1 := Lib.hid (only_T 0)
  have C2 := Lib.hid (less_T (onP 0) a (onP_bd (by omega) (by omega)) (ha.mono (by omega)))
  clear ha
  go_enter Tryd.func109, Tryd.ntmps109
  go_wp2_with fail
  refine fresh_world (fun W => Half (w.heap.size) (m.1) (m.2) (true) W ∧ Box (w.heap.size + 1) ((a).1) ((a).2) W ∧ Box (w.heap.size + 1 + 1) (0) (0) W ∧ Below w.heap.size w W) ⟨(((Half.fresh _ _ _ _ _)).alloc _).alloc _, ((Box.freshAt (by simp) _ _ _)).alloc _, (Box.freshAt (by simp) _ _ _), ((((Below.refl _ _).alloc (Nat.le_refl _) _).alloc (by simp) _).alloc (by simp; omega) _)⟩ ?_
  rintro W1 ⟨b1, b2, r, hb⟩
  have hR : ∀ w', Below W1.heap.size W1 w' → Box (w.heap.size + 1) ((a).1) ((a).2) w' := fun w' hq0 => b2.below hq0
  have hG := good_below hR
  refine wp_region_G (R := fun w' => Box (w.heap.size + 1) ((a).1) ((a).2) w') (fun w' => Below W1.heap.size W1 w') (by kernel_rfl) (Below.refl _ _).drew ?_
  refine wpAnyG_call (i := 0) _ _ _ rfl (by kernel_rfl) (by kernel_rfl) (by kernel_rfl) hG rfl (by intro ww; go_simp; all_goals (first | rfl | exact ⟨rfl, rfl⟩)) (fun ww => C1.out ww) ?_
  (try simp only [Act.put, List.setIfInBounds_toArray, List.set_cons_zero, List.set_cons_succ, List.getElem_toArray, List.getElem_cons_zero, List.getElem_cons_succ])
  refine wpAnyG_take (i := 1) (v := ?_) rfl (by kernel_rfl) (by kernel_rfl) (by kernel_rfl) hG rfl ?_ ?_
  rotate_left
  (focus (intro ww hSw; obtain ⟨r0_0, r0_1, r0_2, r0_3, r0_4⟩ := hSw; go_simp; (try with_reducible rfl)))
  (try simp only [Act.put, List.setIfInBounds_toArray, List.set_cons_zero, List.set_cons_succ, List.getElem_toArray, List.getElem_cons_zero, List.getElem_cons_succ])
  refine wpAnyG_call (i := 2) _ _ _ rfl (by kernel_rfl) (by kernel_rfl) (by kernel_rfl) hG rfl (by intro ww; go_simp; all_goals (first | rfl | exact ⟨rfl, rfl⟩)) (fun ww => C2.out ww) ?_
  (try simp only [Act.put, List.setIfInBounds_toArray, List.set_cons_zero, List.set_cons_succ, List.getElem_toArray, List.getElem_cons_zero, List.getElem_cons_succ])
  refine wpAnyG_store (i := 3) (fun w' => But [w.heap.size + 1 + 1] W1 w' ∧ Box (w.heap.size + 1 + 1) ((lsP (onP 0) a).1) ((lsP (onP 0) a).2) w') rfl (by kernel_rfl) (⟨fun _ _ hx hy => ⟨hx.1.below hy, hx.2.below hy⟩, fun _ hx => hx.1.box b2 (by simp only [List.mem_cons, List.not_mem_nil, or_false]; omega)⟩) rfl ?_ ?_
  · rintro ww hB
    obtain ⟨q0, q1, q2, q3, q4⟩ := (r.below hB)
    refine ⟨((ww.setCell ⟨w.heap.size + 1 + 1, 0, none⟩ (.int .i64 ((lsP (onP 0) a).1))).setCell ⟨w.heap.size + 1 + 1, 1, none⟩ (.int .i64 ((lsP (onP 0) a).2))), ?_, (((But.of hB).set (by simp) _ _).set (by simp) _ _), Box.set ⟨q0, q1, q2, q3, q4⟩ _ _⟩
    go_simp
    try rfl
  (try simp only [Act.put, List.setIfInBounds_toArray, List.set_cons_zero, List.set_cons_succ, List.getElem_toArray, List.getElem_cons_zero, List.getElem_cons_succ])
  refine wpAnyG_done (by kernel_rfl) ?_ _
  rintro W2 ⟨hB, ho_r⟩
  clear hR hG
  have hb := hB.toBelow hb (Nat.le_refl _) (by intro k hk; simp only [List.mem_cons, List.not_mem_nil, or_false] at hk; omega)
  have b1 := hB.half b1 (by simp only [List.mem_cons, List.not_mem_nil, or_false]; omega)
  have b2 := hB.box b2 (by simp only [List.mem_cons, List.not_mem_nil, or_false]; omega)
  have r := ho_r
  clear ho_r
  clear hB
  have Hr := Lib.hid r
  obtain ⟨r_0, r_1, r_2, r_3, r_4⟩ := r
  have r_n : (w.heap.size + 1 + 1) ≠ W2.heap.size := Nat.ne_of_lt r_4
  go_wp2_with fail
  exact bodyPost_ret (v := en (lsP (onP 0) a)) (by simp [results, Tryd.results109, go_sem, r_0, r_1, r_2, r_3, r_4]) rfl ⟨rfl, hb⟩

set_option maxHeartbeats 4000000 in
theorem hour_no (m a : P2) : RetT 109 #[hv m false, en a] (en a) := by
  intro w
  obtain ⟨a0, a1⟩ := a
  go_enter Tryd.func109, Tryd.ntmps109
  go_wp2_with fail
  exact bodyPost_ret (v := en (a0, a1)) (by simp [results, Tryd.results109, go_sem]) rfl ⟨rfl, (((Below.refl _ _).alloc (Nat.le_refl _) _).alloc (by simp) _).alloc (by simp; omega) _⟩
theorem hour_T (m a : P2) (r : Bool) (ha : Bd 1000000000000 a) : RetT 109 #[hv m r, en a] (en (haP r a)) := by
  cases r
  · exact hour_no m a
  · exact hour_yes m a ha

/-- what a call over a city in memory returns -/
def RetC (cb : Nat) (la lo zo a0 a1 : Int) (f : FuncId) (args : Array Value) (v : Value) : Prop := ∀ w : World, City cb la lo zo a0 a1 w → Calls Tryd.prog f args w fun e w' => e = .returned v ∧ Below w.heap.size w w'

set_option maxHeartbeats 4000000 in
theorem window_T (cb : Nat) (la lo zo a0 a1 day : Int) (m : P2) (rise : Bool) (d0 : 0 ≤ day) (d1 : day ≤ 100000) (l0 : -180000000 ≤ lo) (l1 : lo ≤ 180000000) (hm : Bd 100000 m) : RetC cb la lo zo a0 a1 95 #[hv m rise, .pointer (some ⟨cb, 0, none⟩), .int .i64 day] (en (adP (moP day (onP (-lo))) m)) := by
  intro w ct
  have ct_lt : cb < w.heap.size := ct.lt
  have w0 : IntKind.i64.wrap (-lo) = -lo := IntWalk.i64_in _ (by omega)
  have C1 := Lib.hid (only_T (-lo))
  have C2 := Lib.hid (moments_T day (onP (-lo)) d0 d1 (onP_bd (by omega) (by omega)))
  have C3 := Lib.hid (add_T (moP day (onP (-lo))) m ((moP_bd (B := 180000000) (onP_bd (by omega) (by omega)) (by omega) d0 d1).mono (by omega)) (hm.mono (by omega)))
  clear d0 d1 l0 l1 hm
  go_enter Tryd.func95, Tryd.ntmps95
  go_wp2_with fail
  refine fresh_world (fun W => City (cb) (la) (lo) (zo) (a0) (a1) W ∧ Half (w.heap.size) (m.1) (m.2) (rise) W ∧ Box (w.heap.size + 1) (0) (0) W ∧ Below w.heap.size w W) ⟨((ct).alloc _).alloc _, ((Half.fresh _ _ _ _ _)).alloc _, (Box.freshAt (by simp) _ _ _), (((Below.refl _ _).alloc (Nat.le_refl _) _).alloc (by simp) _)⟩ ?_
  clear ct
  rintro W1 ⟨ct, b1, r, hb⟩
  have hR : ∀ w', Below W1.heap.size W1 w' → City (cb) (la) (lo) (zo) (a0) (a1) w' ∧ Half (w.heap.size) (m.1) (m.2) (rise) w' := fun w' hq0 => ⟨ct.below hq0, b1.below hq0⟩
  have hG := good_below hR
  refine wp_region_G (R := fun w' => City (cb) (la) (lo) (zo) (a0) (a1) w' ∧ Half (w.heap.size) (m.1) (m.2) (rise) w') (fun w' => Below W1.heap.size W1 w') (by kernel_rfl) (Below.refl _ _).drew ?_
  refine wpAnyG_take (i := 0) (v := ?_) rfl (by kernel_rfl) (by kernel_rfl) (by kernel_rfl) hG rfl ?_ ?_
  rotate_left
  (focus (intro ww hSw; obtain ⟨⟨r0_0, r0_1, r0_2, r0_3, r0_4, r0_5⟩, ⟨r1_0, r1_1, r1_2, r1_3⟩⟩ := hSw; go_simp; (try with_reducible rfl)))
  (try simp only [Act.put, List.setIfInBounds_toArray, List.set_cons_zero, List.set_cons_succ, List.getElem_toArray, List.getElem_cons_zero, List.getElem_cons_succ])
  refine wpAnyG_take (i := 1) (v := ?_) rfl (by kernel_rfl) (by kernel_rfl) (by kernel_rfl) hG rfl ?_ ?_
  rotate_left
  (focus (intro ww hSw; obtain ⟨⟨r0_0, r0_1, r0_2, r0_3, r0_4, r0_5⟩, ⟨r1_0, r1_1, r1_2, r1_3⟩⟩ := hSw; go_simp; (try with_reducible rfl)))
  (try simp only [Act.put, List.setIfInBounds_toArray, List.set_cons_zero, List.set_cons_succ, List.getElem_toArray, List.getElem_cons_zero, List.getElem_cons_succ])
  refine wpAnyG_take (i := 2) (v := ?_) rfl (by kernel_rfl) (by kernel_rfl) (by kernel_rfl) hG rfl ?_ ?_
  rotate_left
  (focus (intro ww hSw; obtain ⟨⟨r0_0, r0_1, r0_2, r0_3, r0_4, r0_5⟩, ⟨r1_0, r1_1, r1_2, r1_3⟩⟩ := hSw; go_simp; (try with_reducible rfl)))
  (try simp only [Act.put, List.setIfInBounds_toArray, List.set_cons_zero, List.set_cons_succ, List.getElem_toArray, List.getElem_cons_zero, List.getElem_cons_succ])
  refine wpAnyG_take (i := 3) (v := ?_) rfl (by kernel_rfl) (by kernel_rfl) (by kernel_rfl) hG rfl ?_ ?_
  rotate_left
  (focus (intro ww hSw; obtain ⟨⟨r0_0, r0_1, r0_2, r0_3, r0_4, r0_5⟩, ⟨r1_0, r1_1, r1_2, r1_3⟩⟩ := hSw; go_simp; (try with_reducible rfl)))
  (try simp only [Act.put, List.setIfInBounds_toArray, List.set_cons_zero, List.set_cons_succ, List.getElem_toArray, List.getElem_cons_zero, List.getElem_cons_succ])
  refine wpAnyG_take (i := 4) (v := ?_) rfl (by kernel_rfl) (by kernel_rfl) (by kernel_rfl) hG rfl ?_ ?_
  rotate_left
  (focus (intro ww hSw; obtain ⟨⟨r0_0, r0_1, r0_2, r0_3, r0_4, r0_5⟩, ⟨r1_0, r1_1, r1_2, r1_3⟩⟩ := hSw; go_simp; (try with_reducible rfl)))
  (try simp only [Act.put, List.setIfInBounds_toArray, List.set_cons_zero, List.set_cons_succ, List.getElem_toArray, List.getElem_cons_zero, List.getElem_cons_succ])
  refine wpAnyG_take (i := 5) (v := ?_) rfl (by kernel_rfl) (by kernel_rfl) (by kernel_rfl) hG rfl ?_ ?_
  rotate_left
  (focus (intro ww hSw; obtain ⟨⟨r0_0, r0_1, r0_2, r0_3, r0_4, r0_5⟩, ⟨r1_0, r1_1, r1_2, r1_3⟩⟩ := hSw; go_simp; (try with_reducible rfl)))
  (try simp only [Act.put, List.setIfInBounds_toArray, List.set_cons_zero, List.set_cons_succ, List.getElem_toArray, List.getElem_cons_zero, List.getElem_cons_succ])
  refine wpAnyG_call (i := 6) _ _ _ rfl (by kernel_rfl) (by kernel_rfl) (by kernel_rfl) hG rfl (by intro ww; go_simp; all_goals (first | rfl | exact ⟨rfl, rfl⟩)) (fun ww => C1.out ww) ?_
  (try simp only [Act.put, List.setIfInBounds_toArray, List.set_cons_zero, List.set_cons_succ, List.getElem_toArray, List.getElem_cons_zero, List.getElem_cons_succ])
  refine wpAnyG_call (i := 7) _ _ _ rfl (by kernel_rfl) (by kernel_rfl) (by kernel_rfl) hG rfl (by intro ww; go_simp; all_goals (first | rfl | exact ⟨rfl, rfl⟩)) (fun ww => C2.out ww) ?_
  (try simp only [Act.put, List.setIfInBounds_toArray, List.set_cons_zero, List.set_cons_succ, List.getElem_toArray, List.getElem_cons_zero, List.getElem_cons_succ])
  refine wpAnyG_take (i := 8) (v := ?_) rfl (by kernel_rfl) (by kernel_rfl) (by kernel_rfl) hG rfl ?_ ?_
  rotate_left
  (focus (intro ww hSw; obtain ⟨⟨r0_0, r0_1, r0_2, r0_3, r0_4, r0_5⟩, ⟨r1_0, r1_1, r1_2, r1_3⟩⟩ := hSw; go_simp; (try with_reducible rfl)))
  (try simp only [Act.put, List.setIfInBounds_toArray, List.set_cons_zero, List.set_cons_succ, List.getElem_toArray, List.getElem_cons_zero, List.getElem_cons_succ])
  refine wpAnyG_take (i := 9) (v := ?_) rfl (by kernel_rfl) (by kernel_rfl) (by kernel_rfl) hG rfl ?_ ?_
  rotate_left
  (focus (intro ww hSw; obtain ⟨⟨r0_0, r0_1, r0_2, r0_3, r0_4, r0_5⟩, ⟨r1_0, r1_1, r1_2, r1_3⟩⟩ := hSw; go_simp; (try with_reducible rfl)))
  (try simp only [Act.put, List.setIfInBounds_toArray, List.set_cons_zero, List.set_cons_succ, List.getElem_toArray, List.getElem_cons_zero, List.getElem_cons_succ])
  refine wpAnyG_call (i := 10) _ _ _ rfl (by kernel_rfl) (by kernel_rfl) (by kernel_rfl) hG rfl (by intro ww; go_simp; all_goals (first | rfl | exact ⟨rfl, rfl⟩)) (fun ww => C3.out ww) ?_
  (try simp only [Act.put, List.setIfInBounds_toArray, List.set_cons_zero, List.set_cons_succ, List.getElem_toArray, List.getElem_cons_zero, List.getElem_cons_succ])
  refine wpAnyG_store (i := 11) (fun w' => But [w.heap.size + 1] W1 w' ∧ Box (w.heap.size + 1) ((adP (moP day (onP (-lo))) m).1) ((adP (moP day (onP (-lo))) m).2) w') rfl (by kernel_rfl) (⟨fun _ _ hx hy => ⟨hx.1.below hy, hx.2.below hy⟩, fun _ hx => ⟨hx.1.city ct (by simp only [List.mem_cons, List.not_mem_nil, or_false]; omega), hx.1.half b1 (by simp only [List.mem_cons, List.not_mem_nil, or_false]; omega)⟩⟩) rfl ?_ ?_
  · rintro ww hB
    obtain ⟨q0, q1, q2, q3, q4⟩ := (r.below hB)
    refine ⟨((ww.setCell ⟨w.heap.size + 1, 0, none⟩ (.int .i64 ((adP (moP day (onP (-lo))) m).1))).setCell ⟨w.heap.size + 1, 1, none⟩ (.int .i64 ((adP (moP day (onP (-lo))) m).2))), ?_, (((But.of hB).set (by simp) _ _).set (by simp) _ _), Box.set ⟨q0, q1, q2, q3, q4⟩ _ _⟩
    go_simp
    try rfl
  (try simp only [Act.put, List.setIfInBounds_toArray, List.set_cons_zero, List.set_cons_succ, List.getElem_toArray, List.getElem_cons_zero, List.getElem_cons_succ])
  refine wpAnyG_done (by kernel_rfl) ?_ _
  rintro W2 ⟨hB, ho_r⟩
  clear hR hG
  have hb := hB.toBelow hb (Nat.le_refl _) (by intro k hk; simp only [List.mem_cons, List.not_mem_nil, or_false] at hk; omega)
  have ct := hB.city ct (by simp only [List.mem_cons, List.not_mem_nil, or_false]; omega)
  have b1 := hB.half b1 (by simp only [List.mem_cons, List.not_mem_nil, or_false]; omega)
  have r := ho_r
  clear ho_r
  clear hB
  have Hr := Lib.hid r
  obtain ⟨r_0, r_1, r_2, r_3, r_4⟩ := r
  have r_n : (w.heap.size + 1) ≠ W2.heap.size := Nat.ne_of_lt r_4
  go_wp2_with fail
  exact bodyPost_ret (v := en (adP (moP day (onP (-lo))) m)) (by simp [results, Tryd.results95, go_sem, r_0, r_1, r_2, r_3, r_4]) rfl ⟨rfl, hb⟩

/-- local seconds -/
def loP (zo day : Int) (x : P2) : P2 := adP x (onP (43200 + zo - 86400 * day))

set_option maxHeartbeats 4000000 in
theorem local_T (cb : Nat) (la lo zo a0 a1 day : Int) (x : P2) (d0 : 0 ≤ day) (d1 : day ≤ 100000) (z0 : -50400 ≤ zo) (z1 : zo ≤ 50400) (hx : Bd 1000000000000 x) : RetC cb la lo zo a0 a1 82 #[.pointer (some ⟨cb, 0, none⟩), .int .i64 day, en x] (en (loP zo day x)) := by
  intro w ct
  have ct_lt : cb < w.heap.size := ct.lt
  have w0 : IntKind.i64.wrap (43200 + zo) = 43200 + zo := IntWalk.i64_in _ (by omega)
  have w1 : IntKind.i64.wrap (86400 * day) = 86400 * day := IntWalk.i64_in _ (by omega)
  have w2 : IntKind.i64.wrap (43200 + zo - 86400 * day) = 43200 + zo - 86400 * day := IntWalk.i64_in _ (by omega)
  have C1 := Lib.hid (only_T (43200 + zo - 86400 * day))
  have C2 := Lib.hid (add_T x (onP (43200 + zo - 86400 * day)) (hx.mono (by omega)) (onP_bd (by omega) (by omega)))
  clear d0 d1 z0 z1 hx
  go_enter Tryd.func82, Tryd.ntmps82
  go_wp2_with fail
  refine fresh_world (fun W => City (cb) (la) (lo) (zo) (a0) (a1) W ∧ Box (w.heap.size) ((x).1) ((x).2) W ∧ Box (w.heap.size + 1) (0) (0) W ∧ Below w.heap.size w W) ⟨((ct).alloc _).alloc _, ((Box.fresh _ _ _ _)).alloc _, (Box.freshAt (by simp) _ _ _), (((Below.refl _ _).alloc (Nat.le_refl _) _).alloc (by simp) _)⟩ ?_
  clear ct
  rintro W1 ⟨ct, b1, r, hb⟩
  have hR : ∀ w', Below W1.heap.size W1 w' → City (cb) (la) (lo) (zo) (a0) (a1) w' ∧ Box (w.heap.size) ((x).1) ((x).2) w' := fun w' hq0 => ⟨ct.below hq0, b1.below hq0⟩
  have hG := good_below hR
  refine wp_region_G (R := fun w' => City (cb) (la) (lo) (zo) (a0) (a1) w' ∧ Box (w.heap.size) ((x).1) ((x).2) w') (fun w' => Below W1.heap.size W1 w') (by kernel_rfl) (Below.refl _ _).drew ?_
  refine wpAnyG_take (i := 0) (v := ?_) rfl (by kernel_rfl) (by kernel_rfl) (by kernel_rfl) hG rfl ?_ ?_
  rotate_left
  (focus (intro ww hSw; obtain ⟨⟨r0_0, r0_1, r0_2, r0_3, r0_4, r0_5⟩, ⟨r1_0, r1_1, r1_2, r1_3, r1_4⟩⟩ := hSw; go_simp; (try with_reducible rfl)))
  (try simp only [Act.put, List.setIfInBounds_toArray, List.set_cons_zero, List.set_cons_succ, List.getElem_toArray, List.getElem_cons_zero, List.getElem_cons_succ])
  refine wpAnyG_take (i := 1) (v := ?_) rfl (by kernel_rfl) (by kernel_rfl) (by kernel_rfl) hG rfl ?_ ?_
  rotate_left
  (focus (intro ww hSw; obtain ⟨⟨r0_0, r0_1, r0_2, r0_3, r0_4, r0_5⟩, ⟨r1_0, r1_1, r1_2, r1_3, r1_4⟩⟩ := hSw; go_simp; (try with_reducible rfl)))
  (try simp only [Act.put, List.setIfInBounds_toArray, List.set_cons_zero, List.set_cons_succ, List.getElem_toArray, List.getElem_cons_zero, List.getElem_cons_succ])
  refine wpAnyG_take (i := 2) (v := ?_) rfl (by kernel_rfl) (by kernel_rfl) (by kernel_rfl) hG rfl ?_ ?_
  rotate_left
  (focus (intro ww hSw; obtain ⟨⟨r0_0, r0_1, r0_2, r0_3, r0_4, r0_5⟩, ⟨r1_0, r1_1, r1_2, r1_3, r1_4⟩⟩ := hSw; go_simp; (try with_reducible rfl)))
  (try simp only [Act.put, List.setIfInBounds_toArray, List.set_cons_zero, List.set_cons_succ, List.getElem_toArray, List.getElem_cons_zero, List.getElem_cons_succ])
  refine wpAnyG_take (i := 3) (v := ?_) rfl (by kernel_rfl) (by kernel_rfl) (by kernel_rfl) hG rfl ?_ ?_
  rotate_left
  (focus (intro ww hSw; obtain ⟨⟨r0_0, r0_1, r0_2, r0_3, r0_4, r0_5⟩, ⟨r1_0, r1_1, r1_2, r1_3, r1_4⟩⟩ := hSw; go_simp; (try with_reducible rfl)))
  (try simp only [Act.put, List.setIfInBounds_toArray, List.set_cons_zero, List.set_cons_succ, List.getElem_toArray, List.getElem_cons_zero, List.getElem_cons_succ])
  refine wpAnyG_take (i := 4) (v := ?_) rfl (by kernel_rfl) (by kernel_rfl) (by kernel_rfl) hG rfl ?_ ?_
  rotate_left
  (focus (intro ww hSw; obtain ⟨⟨r0_0, r0_1, r0_2, r0_3, r0_4, r0_5⟩, ⟨r1_0, r1_1, r1_2, r1_3, r1_4⟩⟩ := hSw; go_simp; (try with_reducible rfl)))
  (try simp only [Act.put, List.setIfInBounds_toArray, List.set_cons_zero, List.set_cons_succ, List.getElem_toArray, List.getElem_cons_zero, List.getElem_cons_succ])
  refine wpAnyG_take (i := 5) (v := ?_) rfl (by kernel_rfl) (by kernel_rfl) (by kernel_rfl) hG rfl ?_ ?_
  rotate_left
  (focus (intro ww hSw; obtain ⟨⟨r0_0, r0_1, r0_2, r0_3, r0_4, r0_5⟩, ⟨r1_0, r1_1, r1_2, r1_3, r1_4⟩⟩ := hSw; go_simp; (try with_reducible rfl)))
  (try simp only [Act.put, List.setIfInBounds_toArray, List.set_cons_zero, List.set_cons_succ, List.getElem_toArray, List.getElem_cons_zero, List.getElem_cons_succ])
  refine wpAnyG_take (i := 6) (v := ?_) rfl (by kernel_rfl) (by kernel_rfl) (by kernel_rfl) hG rfl ?_ ?_
  rotate_left
  (focus (intro ww hSw; obtain ⟨⟨r0_0, r0_1, r0_2, r0_3, r0_4, r0_5⟩, ⟨r1_0, r1_1, r1_2, r1_3, r1_4⟩⟩ := hSw; go_simp; (try with_reducible rfl)))
  (try simp only [Act.put, List.setIfInBounds_toArray, List.set_cons_zero, List.set_cons_succ, List.getElem_toArray, List.getElem_cons_zero, List.getElem_cons_succ])
  refine wpAnyG_take (i := 7) (v := ?_) rfl (by kernel_rfl) (by kernel_rfl) (by kernel_rfl) hG rfl ?_ ?_
  rotate_left
  (focus (intro ww hSw; obtain ⟨⟨r0_0, r0_1, r0_2, r0_3, r0_4, r0_5⟩, ⟨r1_0, r1_1, r1_2, r1_3, r1_4⟩⟩ := hSw; go_simp; (try with_reducible rfl)))
  (try simp only [Act.put, List.setIfInBounds_toArray, List.set_cons_zero, List.set_cons_succ, List.getElem_toArray, List.getElem_cons_zero, List.getElem_cons_succ])
  refine wpAnyG_take (i := 8) (v := ?_) rfl (by kernel_rfl) (by kernel_rfl) (by kernel_rfl) hG rfl ?_ ?_
  rotate_left
  (focus (intro ww hSw; obtain ⟨⟨r0_0, r0_1, r0_2, r0_3, r0_4, r0_5⟩, ⟨r1_0, r1_1, r1_2, r1_3, r1_4⟩⟩ := hSw; go_simp; (try with_reducible rfl)))
  (try simp only [Act.put, List.setIfInBounds_toArray, List.set_cons_zero, List.set_cons_succ, List.getElem_toArray, List.getElem_cons_zero, List.getElem_cons_succ])
  refine wpAnyG_call (i := 9) _ _ _ rfl (by kernel_rfl) (by kernel_rfl) (by kernel_rfl) hG rfl (by intro ww; go_simp; all_goals (first | rfl | exact ⟨rfl, rfl⟩)) (fun ww => C1.out ww) ?_
  (try simp only [Act.put, List.setIfInBounds_toArray, List.set_cons_zero, List.set_cons_succ, List.getElem_toArray, List.getElem_cons_zero, List.getElem_cons_succ])
  refine wpAnyG_call (i := 10) _ _ _ rfl (by kernel_rfl) (by kernel_rfl) (by kernel_rfl) hG rfl (by intro ww; go_simp; all_goals (first | rfl | exact ⟨rfl, rfl⟩)) (fun ww => C2.out ww) ?_
  (try simp only [Act.put, List.setIfInBounds_toArray, List.set_cons_zero, List.set_cons_succ, List.getElem_toArray, List.getElem_cons_zero, List.getElem_cons_succ])
  refine wpAnyG_store (i := 11) (fun w' => But [w.heap.size + 1] W1 w' ∧ Box (w.heap.size + 1) ((loP zo day x).1) ((loP zo day x).2) w') rfl (by kernel_rfl) (⟨fun _ _ hx hy => ⟨hx.1.below hy, hx.2.below hy⟩, fun _ hx => ⟨hx.1.city ct (by simp only [List.mem_cons, List.not_mem_nil, or_false]; omega), hx.1.box b1 (by simp only [List.mem_cons, List.not_mem_nil, or_false]; omega)⟩⟩) rfl ?_ ?_
  · rintro ww hB
    obtain ⟨q0, q1, q2, q3, q4⟩ := (r.below hB)
    refine ⟨((ww.setCell ⟨w.heap.size + 1, 0, none⟩ (.int .i64 ((loP zo day x).1))).setCell ⟨w.heap.size + 1, 1, none⟩ (.int .i64 ((loP zo day x).2))), ?_, (((But.of hB).set (by simp) _ _).set (by simp) _ _), Box.set ⟨q0, q1, q2, q3, q4⟩ _ _⟩
    go_simp
    try rfl
  (try simp only [Act.put, List.setIfInBounds_toArray, List.set_cons_zero, List.set_cons_succ, List.getElem_toArray, List.getElem_cons_zero, List.getElem_cons_succ])
  refine wpAnyG_done (by kernel_rfl) ?_ _
  rintro W2 ⟨hB, ho_r⟩
  clear hR hG
  have hb := hB.toBelow hb (Nat.le_refl _) (by intro k hk; simp only [List.mem_cons, List.not_mem_nil, or_false] at hk; omega)
  have ct := hB.city ct (by simp only [List.mem_cons, List.not_mem_nil, or_false]; omega)
  have b1 := hB.box b1 (by simp only [List.mem_cons, List.not_mem_nil, or_false]; omega)
  have r := ho_r
  clear ho_r
  clear hB
  have Hr := Lib.hid r
  obtain ⟨r_0, r_1, r_2, r_3, r_4⟩ := r
  have r_n : (w.heap.size + 1) ≠ W2.heap.size := Nat.ne_of_lt r_4
  go_wp2_with fail
  exact bodyPost_ret (v := en (loP zo day x)) (by simp [results, Tryd.results82, go_sem, r_0, r_1, r_2, r_3, r_4]) rfl ⟨rfl, hb⟩
end Go.Proofs.YtjcgojbfjefbcaaDoor
