/- The code's model of the sun. -/
import Derived.Test.YtjcgojbfjefbcaaDoorSx
namespace Go.Proofs.YtjcgojbfjefbcaaDoor
set_option linter.unusedSimpArgs false
set_option linter.unusedVariables false
open Go.RowKit SineNear
attribute [local go_sem ↓] Go.wp_at_zero Go.wp_at_succ

set_option maxRecDepth 100000 in
set_option maxHeartbeats 8000000 in
theorem model_T (x : P2) (hx : Bd 10000000000 x) : RetT 72 #[en x] (.tuple #[en (sM x), en (eM x)]) := by
  intro w
  have q := hx.all
  have o := hx.2.1
  have G1 := grown_T 357528000 98560028 x (by omega) (by omega) (by omega) (by omega)
  rw [jn_up (by omega)] at G1
  have G1 := Lib.hid G1
  have G2 := Lib.hid (reduced_T (grP 357528000 98560028 x) ((g_bd hx).mono (by omega)))
  have Q1 := grown_T 280459000 98564736 x (by omega) (by omega) (by omega) (by omega)
  rw [jn_up (by omega)] at Q1
  have Q1 := Lib.hid Q1
  have Q2 := Lib.hid (reduced_T (grP 280459000 98564736 x) ((q_bds hx).mono (by omega)))
  have O1 := Lib.hid (ofSine_T 1915000 (gM x) (by omega) (by omega))
  have M2 := Lib.hid (mult_T 2 (gM x) ((gM_bd hx).mono (by omega)) (by omega) (by omega))
  have O2 := Lib.hid (ofSine_T 20000 (muP 2 (gM x)) (by omega) (by omega))
  have A1 := Lib.hid (add_T (ofP 1915000 (gM x)) (ofP 20000 (muP 2 (gM x))) (by have := ofP_bd 1915000 (by omega) (gM x); unfold Bd; omega) (by have := ofP_bd 20000 (by omega) (muP 2 (gM x)); unfold Bd; omega))
  have A2 := Lib.hid (add_T (qM x) (cM x) ((qM_bd hx).mono (by omega)) ((cM_bd x).mono (by omega)))
  have L2 := Lib.hid (slack_T (adP (qM x) (cM x)) ((adP_bd (qM_bd hx) (cM_bd x)).mono (by omega)))
  have R3 := Lib.hid (reduced_T (slP (adP (qM x) (cM x))) ((lM_pre hx).mono (by omega)))
  have GO := grown_T 23439000 (-36) x (by omega) (by omega) (by omega) (by omega)
  rw [jn_down (by omega)] at GO
  have GO := Lib.hid GO
  have S1 := Lib.hid (sinOf_T (oM x))
  have U1 := Lib.hid (sure_T (siP (oM x)) (angE (oM x).1 (oM x).2))
  have S2 := Lib.hid (sinOf_T (lM x))
  have U2 := Lib.hid (sure_T (siP (lM x)) (angE (lM x).1 (lM x).2))
  have T3 := Lib.hid (times_T (siP (oM x)) (siP (lM x)))
  have U3 := Lib.hid (sure_T (sM x) (tmE (siP (oM x)) (siP (lM x))))
  have M3 := Lib.hid (mult_T 2 (lM x) ((lM_bd hx).mono (by omega)) (by omega) (by omega))
  have O3 := Lib.hid (ofSine_T 2466000 (muP 2 (lM x)) (by omega) (by omega))
  have L3 := Lib.hid (less_T (ofP 2466000 (muP 2 (lM x))) (cM x) (by have := ofP_bd 2466000 (by omega) (muP 2 (lM x)); unfold Bd; omega) ((cM_bd x).mono (by omega)))
  have M4 := Lib.hid (mult_T 4 (lM x) ((lM_bd hx).mono (by omega)) (by omega) (by omega))
  have O4 := Lib.hid (ofSine_T 53000 (muP 4 (lM x)) (by omega) (by omega))
  have L4 := Lib.hid (less_T (hM x) (ofP 53000 (muP 4 (lM x))) ((hM_bd x).mono (by omega)) (by have := ofP_bd 53000 (by omega) (muP 4 (lM x)); unfold Bd; omega))
  have L5 := Lib.hid (slack_T (lsP (hM x) (ofP 53000 (muP 4 (lM x)))) (by have a := hM_bd x; have b := ofP_bd 53000 (by omega) (muP 4 (lM x)); unfold Bd lsP at *; simp only; omega))
  clear q o hx
  go_enter Tryd.func72, Tryd.ntmps72
  go_wp2_with fail
  refine fresh_call (fun W => Box (w.heap.size) (x.1) (x.2) W ∧ Box (w.heap.size + 1) (0) (0) W ∧ Box (w.heap.size + 1 + 1) (0) (0) W ∧ Below w.heap.size w W) ⟨(((Box.fresh _ _ _ _)).alloc _).alloc _, ((Box.freshAt (by simp) _ _ _)).alloc _, (Box.freshAt (by simp) _ _ _), ((((Below.refl _ _).alloc (Nat.le_refl _) _).alloc (by simp) _).alloc (by simp; omega) _)⟩ ?_
  rintro W1 ⟨b1, r2, r3, hb⟩
  refine (G1.out _).mono ?_
  rintro e v2 ⟨rfl, hq⟩
  have b1 := b1.below hq
  have r2 := r2.below hq
  have r3 := r3.below hq
  have hb := hb.trans (hq.mono hb.size)
  clear hq
  go_wp2_with fail
  refine (G2.out _).mono ?_
  rintro e v3 ⟨rfl, hq⟩
  have b1 := b1.below hq
  have r2 := r2.below hq
  have r3 := r3.below hq
  have hb := hb.trans (hq.mono hb.size)
  clear hq
  have Hb1 := Lib.hid b1
  obtain ⟨b1_0, b1_1, b1_2, b1_3, b1_4⟩ := b1
  have b1_n : (w.heap.size) ≠ v3.heap.size := Nat.ne_of_lt b1_4
  go_wp2_with fail
  clear b1_n b1_0 b1_1 b1_2 b1_3 b1_4
  have b1 := Hb1.out
  clear Hb1
  have g_lb : w.heap.size + 2 < v3.heap.size := r3.2.2.2.2
  refine fresh_call (fun W => Box (w.heap.size) (x.1) (x.2) W ∧ Box (w.heap.size + 1) (0) (0) W ∧ Box (w.heap.size + 1 + 1) (0) (0) W ∧ Box (v3.heap.size) ((gM x).1) ((gM x).2) W ∧ Below w.heap.size w W) ⟨b1.alloc _, r2.alloc _, r3.alloc _, Box.fresh _ _ _ _, hb.alloc hb.size _⟩ ?_
  clear b1 r2 r3 hb
  rintro W4 ⟨b1, r2, r3, g, hb⟩
  refine (Q1.out _).mono ?_
  rintro e v5 ⟨rfl, hq⟩
  have b1 := b1.below hq
  have r2 := r2.below hq
  have r3 := r3.below hq
  have g := g.below hq
  have hb := hb.trans (hq.mono hb.size)
  clear hq
  go_wp2_with fail
  refine (Q2.out _).mono ?_
  rintro e v6 ⟨rfl, hq⟩
  have b1 := b1.below hq
  have r2 := r2.below hq
  have r3 := r3.below hq
  have g := g.below hq
  have hb := hb.trans (hq.mono hb.size)
  clear hq
  have Hb1 := Lib.hid b1
  obtain ⟨b1_0, b1_1, b1_2, b1_3, b1_4⟩ := b1
  have b1_n : (w.heap.size) ≠ v6.heap.size := Nat.ne_of_lt b1_4
  go_wp2_with fail
  clear b1_n b1_0 b1_1 b1_2 b1_3 b1_4
  have b1 := Hb1.out
  clear Hb1
  have q_lb : w.heap.size + 2 < v6.heap.size := r3.2.2.2.2
  refine fresh_world (fun W => Box (w.heap.size) (x.1) (x.2) W ∧ Box (w.heap.size + 1) (0) (0) W ∧ Box (w.heap.size + 1 + 1) (0) (0) W ∧ Box (v3.heap.size) ((gM x).1) ((gM x).2) W ∧ Box (v6.heap.size) ((qM x).1) ((qM x).2) W ∧ Below w.heap.size w W) ⟨b1.alloc _, r2.alloc _, r3.alloc _, g.alloc _, Box.fresh _ _ _ _, hb.alloc hb.size _⟩ ?_
  clear b1 r2 r3 g hb
  rintro W7 ⟨b1, r2, r3, g, q, hb⟩
  have hlt8 : w.heap.size + 1 + 1 < W7.heap.size := r3.lt
  have hR : ∀ w', Below W7.heap.size W7 w' → Box (v3.heap.size) ((gM x).1) ((gM x).2) w' := fun w' hq0 => g.below hq0
  have hG := good_below hR
  refine wp_region_G (R := fun w' => Box (v3.heap.size) ((gM x).1) ((gM x).2) w') (fun w' => Below W7.heap.size W7 w') (by kernel_rfl) (Below.refl _ _).drew ?_
  refine wpAnyG_take (i := 0) (v := ?_) rfl (by kernel_rfl) (by kernel_rfl) (by kernel_rfl) hG rfl ?_ ?_
  rotate_left
  (focus (intro ww hSw; obtain ⟨r0_0, r0_1, r0_2, r0_3, r0_4⟩ := hSw; go_simp; (try with_reducible rfl)))
  (try simp only [Act.put, List.setIfInBounds_toArray, List.set_cons_zero, List.set_cons_succ, List.getElem_toArray, List.getElem_cons_zero, List.getElem_cons_succ])
  refine wpAnyG_call (i := 1) _ _ _ rfl (by kernel_rfl) (by kernel_rfl) (by kernel_rfl) hG rfl (by intro ww; go_simp; all_goals (first | rfl | exact ⟨rfl, rfl⟩)) (fun ww => O1.out ww) ?_
  (try simp only [Act.put, List.setIfInBounds_toArray, List.set_cons_zero, List.set_cons_succ, List.getElem_toArray, List.getElem_cons_zero, List.getElem_cons_succ])
  refine wpAnyG_take (i := 2) (v := ?_) rfl (by kernel_rfl) (by kernel_rfl) (by kernel_rfl) hG rfl ?_ ?_
  rotate_left
  (focus (intro ww hSw; obtain ⟨r0_0, r0_1, r0_2, r0_3, r0_4⟩ := hSw; go_simp; (try with_reducible rfl)))
  (try simp only [Act.put, List.setIfInBounds_toArray, List.set_cons_zero, List.set_cons_succ, List.getElem_toArray, List.getElem_cons_zero, List.getElem_cons_succ])
  refine wpAnyG_call (i := 3) _ _ _ rfl (by kernel_rfl) (by kernel_rfl) (by kernel_rfl) hG rfl (by intro ww; go_simp; all_goals (first | rfl | exact ⟨rfl, rfl⟩)) (fun ww => M2.out ww) ?_
  (try simp only [Act.put, List.setIfInBounds_toArray, List.set_cons_zero, List.set_cons_succ, List.getElem_toArray, List.getElem_cons_zero, List.getElem_cons_succ])
  refine wpAnyG_call (i := 4) _ _ _ rfl (by kernel_rfl) (by kernel_rfl) (by kernel_rfl) hG rfl (by intro ww; go_simp; all_goals (first | rfl | exact ⟨rfl, rfl⟩)) (fun ww => O2.out ww) ?_
  (try simp only [Act.put, List.setIfInBounds_toArray, List.set_cons_zero, List.set_cons_succ, List.getElem_toArray, List.getElem_cons_zero, List.getElem_cons_succ])
  refine wpAnyG_call (i := 5) _ _ _ rfl (by kernel_rfl) (by kernel_rfl) (by kernel_rfl) hG rfl (by intro ww; go_simp; all_goals (first | rfl | exact ⟨rfl, rfl⟩)) (fun ww => A1.out ww) ?_
  (try simp only [Act.put, List.setIfInBounds_toArray, List.set_cons_zero, List.set_cons_succ, List.getElem_toArray, List.getElem_cons_zero, List.getElem_cons_succ])
  refine wpAnyG_new (i := 6) (fun b => .pointer (some ⟨b, 0, none⟩)) (fun c_c => fun w' => Below W7.heap.size W7 w' ∧ W7.heap.size ≤ c_c ∧ Box c_c (0) (0) w') rfl (by kernel_rfl) (fun c_c => ⟨fun _ _ hx hy => ⟨hx.1.trans (hy.mono hx.1.size), hx.2.1, hx.2.2.below hy⟩, fun _ hx => g.below hx.1⟩) rfl ?_ ?_
  · intro ww hS
    refine ⟨ww.alloc (.cells #[.int .i64 0, .int .i64 0] 51), ?_, hS.alloc hS.size _, hS.size, Box.fresh _ _ _ _⟩
    go_simp
    try rfl
  intro c_c
  (try simp only [Act.put, List.setIfInBounds_toArray, List.set_cons_zero, List.set_cons_succ, List.getElem_toArray, List.getElem_cons_zero, List.getElem_cons_succ])
  refine wpAnyG_store (i := 7) (fun w' => Below W7.heap.size W7 w' ∧ W7.heap.size ≤ c_c ∧ Box c_c ((cM x).1) ((cM x).2) w') rfl (by kernel_rfl) (⟨fun _ _ hx hy => ⟨hx.1.trans (hy.mono hx.1.size), hx.2.1, hx.2.2.below hy⟩, fun _ hx => g.below hx.1⟩) rfl ?_ ?_
  · rintro ww ⟨hB, hge, hal⟩
    obtain ⟨q0, q1, q2, q3, q4⟩ := hal
    refine ⟨((ww.setCell ⟨c_c, 0, none⟩ (.int .i64 ((cM x).1))).setCell ⟨c_c, 1, none⟩ (.int .i64 ((cM x).2))), ?_, ((hB.setCell hge _).setCell hge _), hge, Box.set ⟨q0, q1, q2, q3, q4⟩ _ _⟩
    go_simp
    try rfl
  (try simp only [Act.put, List.setIfInBounds_toArray, List.set_cons_zero, List.set_cons_succ, List.getElem_toArray, List.getElem_cons_zero, List.getElem_cons_succ])
  refine wpAnyG_done (by kernel_rfl) ?_ _
  rintro W8 ⟨hB, hge, hal⟩
  clear hR hG
  have b1 := b1.below hB
  have r2 := r2.below hB
  have r3 := r3.below hB
  have g := g.below hB
  have q := q.below hB
  have hb := hb.trans (hB.mono hb.size)
  have c := hal
  clear hal
  have c_lb : w.heap.size + 2 < c_c := Nat.lt_of_lt_of_le hlt8 hge
  clear hge
  clear hB
  have Hq := Lib.hid q
  obtain ⟨q_0, q_1, q_2, q_3, q_4⟩ := q
  have q_n : (v6.heap.size) ≠ W8.heap.size := Nat.ne_of_lt q_4
  have Hc := Lib.hid c
  obtain ⟨c_0, c_1, c_2, c_3, c_4⟩ := c
  have c_n : (c_c) ≠ W8.heap.size := Nat.ne_of_lt c_4
  go_wp2_with fail
  clear q_n q_0 q_1 q_2 q_3 q_4
  have q := Hq.out
  clear Hq
  clear c_n c_0 c_1 c_2 c_3 c_4
  have c := Hc.out
  clear Hc
  refine (A2.out _).mono ?_
  rintro e v9 ⟨rfl, hq⟩
  have b1 := b1.below hq
  have r2 := r2.below hq
  have r3 := r3.below hq
  have g := g.below hq
  have q := q.below hq
  have c := c.below hq
  have hb := hb.trans (hq.mono hb.size)
  clear hq
  go_wp2_with fail
  refine (L2.out _).mono ?_
  rintro e v10 ⟨rfl, hq⟩
  have b1 := b1.below hq
  have r2 := r2.below hq
  have r3 := r3.below hq
  have g := g.below hq
  have q := q.below hq
  have c := c.below hq
  have hb := hb.trans (hq.mono hb.size)
  clear hq
  go_wp2_with fail
  refine (R3.out _).mono ?_
  rintro e v11 ⟨rfl, hq⟩
  have b1 := b1.below hq
  have r2 := r2.below hq
  have r3 := r3.below hq
  have g := g.below hq
  have q := q.below hq
  have c := c.below hq
  have hb := hb.trans (hq.mono hb.size)
  clear hq
  have Hb1 := Lib.hid b1
  obtain ⟨b1_0, b1_1, b1_2, b1_3, b1_4⟩ := b1
  have b1_n : (w.heap.size) ≠ v11.heap.size := Nat.ne_of_lt b1_4
  go_wp2_with fail
  clear b1_n b1_0 b1_1 b1_2 b1_3 b1_4
  have b1 := Hb1.out
  clear Hb1
  have l_lb : w.heap.size + 2 < v11.heap.size := r3.2.2.2.2
  refine fresh_call (fun W => Box (w.heap.size) (x.1) (x.2) W ∧ Box (w.heap.size + 1) (0) (0) W ∧ Box (w.heap.size + 1 + 1) (0) (0) W ∧ Box (v3.heap.size) ((gM x).1) ((gM x).2) W ∧ Box (v6.heap.size) ((qM x).1) ((qM x).2) W ∧ Box (c_c) ((cM x).1) ((cM x).2) W ∧ Box (v11.heap.size) ((lM x).1) ((lM x).2) W ∧ Below w.heap.size w W) ⟨b1.alloc _, r2.alloc _, r3.alloc _, g.alloc _, q.alloc _, c.alloc _, Box.fresh _ _ _ _, hb.alloc hb.size _⟩ ?_
  clear b1 r2 r3 g q c hb
  rintro W12 ⟨b1, r2, r3, g, q, c, l, hb⟩
  refine (GO.out _).mono ?_
  rintro e v13 ⟨rfl, hq⟩
  have b1 := b1.below hq
  have r2 := r2.below hq
  have r3 := r3.below hq
  have g := g.below hq
  have q := q.below hq
  have c := c.below hq
  have l := l.below hq
  have hb := hb.trans (hq.mono hb.size)
  clear hq
  go_wp2_with fail
  have ob_lb : w.heap.size + 2 < v13.heap.size := r3.2.2.2.2
  refine fresh_world (fun W => Box (w.heap.size) (x.1) (x.2) W ∧ Box (w.heap.size + 1) (0) (0) W ∧ Box (w.heap.size + 1 + 1) (0) (0) W ∧ Box (v3.heap.size) ((gM x).1) ((gM x).2) W ∧ Box (v6.heap.size) ((qM x).1) ((qM x).2) W ∧ Box (c_c) ((cM x).1) ((cM x).2) W ∧ Box (v11.heap.size) ((lM x).1) ((lM x).2) W ∧ Box (v13.heap.size) ((oM x).1) ((oM x).2) W ∧ Below w.heap.size w W) ⟨b1.alloc _, r2.alloc _, r3.alloc _, g.alloc _, q.alloc _, c.alloc _, l.alloc _, Box.fresh _ _ _ _, hb.alloc hb.size _⟩ ?_
  clear b1 r2 r3 g q c l hb
  rintro W14 ⟨b1, r2, r3, g, q, c, l, ob, hb⟩
  have hR : ∀ w', Below W14.heap.size W14 w' → Box (v13.heap.size) ((oM x).1) ((oM x).2) w' ∧ Box (v11.heap.size) ((lM x).1) ((lM x).2) w' := fun w' hq0 => ⟨ob.below hq0, l.below hq0⟩
  have hG := good_below hR
  refine wp_region_G (R := fun w' => Box (v13.heap.size) ((oM x).1) ((oM x).2) w' ∧ Box (v11.heap.size) ((lM x).1) ((lM x).2) w') (fun w' => Below W14.heap.size W14 w') (by kernel_rfl) (Below.refl _ _).drew ?_
  refine wpAnyG_take (i := 0) (v := ?_) rfl (by kernel_rfl) (by kernel_rfl) (by kernel_rfl) hG rfl ?_ ?_
  rotate_left
  (focus (intro ww hSw; obtain ⟨⟨r0_0, r0_1, r0_2, r0_3, r0_4⟩, ⟨r1_0, r1_1, r1_2, r1_3, r1_4⟩⟩ := hSw; go_simp; (try with_reducible rfl)))
  (try simp only [Act.put, List.setIfInBounds_toArray, List.set_cons_zero, List.set_cons_succ, List.getElem_toArray, List.getElem_cons_zero, List.getElem_cons_succ])
  refine wpAnyG_call (i := 1) _ _ _ rfl (by kernel_rfl) (by kernel_rfl) (by kernel_rfl) hG rfl (by intro ww; go_simp; all_goals (first | rfl | exact ⟨rfl, rfl⟩)) (fun ww => S1.out ww) ?_
  (try simp only [Act.put, List.setIfInBounds_toArray, List.set_cons_zero, List.set_cons_succ, List.getElem_toArray, List.getElem_cons_zero, List.getElem_cons_succ])
  refine wpAnyG_take (i := 2) (v := ?_) rfl (by kernel_rfl) (by kernel_rfl) (by kernel_rfl) hG rfl ?_ ?_
  rotate_left
  (focus (intro ww hSw; obtain ⟨⟨r0_0, r0_1, r0_2, r0_3, r0_4⟩, ⟨r1_0, r1_1, r1_2, r1_3, r1_4⟩⟩ := hSw; go_simp; (try with_reducible rfl)))
  (try simp only [Act.put, List.setIfInBounds_toArray, List.set_cons_zero, List.set_cons_succ, List.getElem_toArray, List.getElem_cons_zero, List.getElem_cons_succ])
  refine wpAnyG_take (i := 3) (v := ?_) rfl (by kernel_rfl) (by kernel_rfl) (by kernel_rfl) hG rfl ?_ ?_
  rotate_left
  (focus (intro ww hSw; obtain ⟨⟨r0_0, r0_1, r0_2, r0_3, r0_4⟩, ⟨r1_0, r1_1, r1_2, r1_3, r1_4⟩⟩ := hSw; go_simp; (try with_reducible rfl)))
  (try simp only [Act.put, List.setIfInBounds_toArray, List.set_cons_zero, List.set_cons_succ, List.getElem_toArray, List.getElem_cons_zero, List.getElem_cons_succ])
  refine wpAnyG_call (i := 4) _ _ _ rfl (by kernel_rfl) (by kernel_rfl) (by kernel_rfl) hG rfl (by intro ww; go_simp; all_goals (first | rfl | exact ⟨rfl, rfl⟩)) (fun ww => U1.out ww) ?_
  (try simp only [Act.put, List.setIfInBounds_toArray, List.set_cons_zero, List.set_cons_succ, List.getElem_toArray, List.getElem_cons_zero, List.getElem_cons_succ])
  refine wpAnyG_take (i := 5) (v := ?_) rfl (by kernel_rfl) (by kernel_rfl) (by kernel_rfl) hG rfl ?_ ?_
  rotate_left
  (focus (intro ww hSw; obtain ⟨⟨r0_0, r0_1, r0_2, r0_3, r0_4⟩, ⟨r1_0, r1_1, r1_2, r1_3, r1_4⟩⟩ := hSw; go_simp; (try with_reducible rfl)))
  (try simp only [Act.put, List.setIfInBounds_toArray, List.set_cons_zero, List.set_cons_succ, List.getElem_toArray, List.getElem_cons_zero, List.getElem_cons_succ])
  refine wpAnyG_call (i := 6) _ _ _ rfl (by kernel_rfl) (by kernel_rfl) (by kernel_rfl) hG rfl (by intro ww; go_simp; all_goals (first | rfl | exact ⟨rfl, rfl⟩)) (fun ww => S2.out ww) ?_
  (try simp only [Act.put, List.setIfInBounds_toArray, List.set_cons_zero, List.set_cons_succ, List.getElem_toArray, List.getElem_cons_zero, List.getElem_cons_succ])
  refine wpAnyG_take (i := 7) (v := ?_) rfl (by kernel_rfl) (by kernel_rfl) (by kernel_rfl) hG rfl ?_ ?_
  rotate_left
  (focus (intro ww hSw; obtain ⟨⟨r0_0, r0_1, r0_2, r0_3, r0_4⟩, ⟨r1_0, r1_1, r1_2, r1_3, r1_4⟩⟩ := hSw; go_simp; (try with_reducible rfl)))
  (try simp only [Act.put, List.setIfInBounds_toArray, List.set_cons_zero, List.set_cons_succ, List.getElem_toArray, List.getElem_cons_zero, List.getElem_cons_succ])
  refine wpAnyG_take (i := 8) (v := ?_) rfl (by kernel_rfl) (by kernel_rfl) (by kernel_rfl) hG rfl ?_ ?_
  rotate_left
  (focus (intro ww hSw; obtain ⟨⟨r0_0, r0_1, r0_2, r0_3, r0_4⟩, ⟨r1_0, r1_1, r1_2, r1_3, r1_4⟩⟩ := hSw; go_simp; (try with_reducible rfl)))
  (try simp only [Act.put, List.setIfInBounds_toArray, List.set_cons_zero, List.set_cons_succ, List.getElem_toArray, List.getElem_cons_zero, List.getElem_cons_succ])
  refine wpAnyG_call (i := 9) _ _ _ rfl (by kernel_rfl) (by kernel_rfl) (by kernel_rfl) hG rfl (by intro ww; go_simp; all_goals (first | rfl | exact ⟨rfl, rfl⟩)) (fun ww => U2.out ww) ?_
  (try simp only [Act.put, List.setIfInBounds_toArray, List.set_cons_zero, List.set_cons_succ, List.getElem_toArray, List.getElem_cons_zero, List.getElem_cons_succ])
  refine wpAnyG_call (i := 10) _ _ _ rfl (by kernel_rfl) (by kernel_rfl) (by kernel_rfl) hG rfl (by intro ww; go_simp; all_goals (first | rfl | exact ⟨rfl, rfl⟩)) (fun ww => T3.out ww) ?_
  (try simp only [Act.put, List.setIfInBounds_toArray, List.set_cons_zero, List.set_cons_succ, List.getElem_toArray, List.getElem_cons_zero, List.getElem_cons_succ])
  refine wpAnyG_take (i := 11) (v := ?_) rfl (by kernel_rfl) (by kernel_rfl) (by kernel_rfl) hG rfl ?_ ?_
  rotate_left
  (focus (intro ww hSw; obtain ⟨⟨r0_0, r0_1, r0_2, r0_3, r0_4⟩, ⟨r1_0, r1_1, r1_2, r1_3, r1_4⟩⟩ := hSw; go_simp; (try with_reducible rfl)))
  (try simp only [Act.put, List.setIfInBounds_toArray, List.set_cons_zero, List.set_cons_succ, List.getElem_toArray, List.getElem_cons_zero, List.getElem_cons_succ])
  refine wpAnyG_take (i := 12) (v := ?_) rfl (by kernel_rfl) (by kernel_rfl) (by kernel_rfl) hG rfl ?_ ?_
  rotate_left
  (focus (intro ww hSw; obtain ⟨⟨r0_0, r0_1, r0_2, r0_3, r0_4⟩, ⟨r1_0, r1_1, r1_2, r1_3, r1_4⟩⟩ := hSw; go_simp; (try with_reducible rfl)))
  (try simp only [Act.put, List.setIfInBounds_toArray, List.set_cons_zero, List.set_cons_succ, List.getElem_toArray, List.getElem_cons_zero, List.getElem_cons_succ])
  refine wpAnyG_call (i := 13) _ _ _ rfl (by kernel_rfl) (by kernel_rfl) (by kernel_rfl) hG rfl (by intro ww; go_simp; all_goals (first | rfl | exact ⟨rfl, rfl⟩)) (fun ww => U3.out ww) ?_
  (try simp only [Act.put, List.setIfInBounds_toArray, List.set_cons_zero, List.set_cons_succ, List.getElem_toArray, List.getElem_cons_zero, List.getElem_cons_succ])
  refine wpAnyG_store (i := 14) (fun w' => But [w.heap.size + 1] W14 w' ∧ Box (w.heap.size + 1) ((sM x).1) ((sM x).2) w') rfl (by kernel_rfl) (⟨fun _ _ hx hy => ⟨hx.1.below hy, hx.2.below hy⟩, fun _ hx => ⟨hx.1.box ob (by simp only [List.mem_cons, List.not_mem_nil, or_false]; omega), hx.1.box l (by simp only [List.mem_cons, List.not_mem_nil, or_false]; omega)⟩⟩) rfl ?_ ?_
  · rintro ww hB
    obtain ⟨q0, q1, q2, q3, q4⟩ := (r2.below hB)
    refine ⟨((ww.setCell ⟨w.heap.size + 1, 0, none⟩ (.int .i64 ((sM x).1))).setCell ⟨w.heap.size + 1, 1, none⟩ (.int .i64 ((sM x).2))), ?_, (((But.of hB).set (by simp) _ _).set (by simp) _ _), Box.set ⟨q0, q1, q2, q3, q4⟩ _ _⟩
    go_simp
    try rfl
  (try simp only [Act.put, List.setIfInBounds_toArray, List.set_cons_zero, List.set_cons_succ, List.getElem_toArray, List.getElem_cons_zero, List.getElem_cons_succ])
  refine wpAnyG_done (by kernel_rfl) ?_ _
  rintro W15 ⟨hB, ho_r2⟩
  clear hR hG
  have hb := hB.toBelow hb (Nat.le_refl _) (by intro k hk; simp only [List.mem_cons, List.not_mem_nil, or_false] at hk; omega)
  have b1 := hB.box b1 (by simp only [List.mem_cons, List.not_mem_nil, or_false]; omega)
  have r3 := hB.box r3 (by simp only [List.mem_cons, List.not_mem_nil, or_false]; omega)
  have g := hB.box g (by simp only [List.mem_cons, List.not_mem_nil, or_false]; omega)
  have q := hB.box q (by simp only [List.mem_cons, List.not_mem_nil, or_false]; omega)
  have c := hB.box c (by simp only [List.mem_cons, List.not_mem_nil, or_false]; omega)
  have l := hB.box l (by simp only [List.mem_cons, List.not_mem_nil, or_false]; omega)
  have ob := hB.box ob (by simp only [List.mem_cons, List.not_mem_nil, or_false]; omega)
  have r2 := ho_r2
  clear ho_r2
  clear hB
  go_wp2_with fail
  have hlt16 : w.heap.size + 1 + 1 < W15.heap.size := r3.lt
  have hR : ∀ w', Below W15.heap.size W15 w' → Box (v11.heap.size) ((lM x).1) ((lM x).2) w' ∧ Box (c_c) ((cM x).1) ((cM x).2) w' := fun w' hq0 => ⟨l.below hq0, c.below hq0⟩
  have hG := good_below hR
  refine wp_region_G (R := fun w' => Box (v11.heap.size) ((lM x).1) ((lM x).2) w' ∧ Box (c_c) ((cM x).1) ((cM x).2) w') (fun w' => Below W15.heap.size W15 w') (by kernel_rfl) (Below.refl _ _).drew ?_
  refine wpAnyG_take (i := 0) (v := ?_) rfl (by kernel_rfl) (by kernel_rfl) (by kernel_rfl) hG rfl ?_ ?_
  rotate_left
  (focus (intro ww hSw; obtain ⟨⟨r0_0, r0_1, r0_2, r0_3, r0_4⟩, ⟨r1_0, r1_1, r1_2, r1_3, r1_4⟩⟩ := hSw; go_simp; (try with_reducible rfl)))
  (try simp only [Act.put, List.setIfInBounds_toArray, List.set_cons_zero, List.set_cons_succ, List.getElem_toArray, List.getElem_cons_zero, List.getElem_cons_succ])
  refine wpAnyG_call (i := 1) _ _ _ rfl (by kernel_rfl) (by kernel_rfl) (by kernel_rfl) hG rfl (by intro ww; go_simp; all_goals (first | rfl | exact ⟨rfl, rfl⟩)) (fun ww => M3.out ww) ?_
  (try simp only [Act.put, List.setIfInBounds_toArray, List.set_cons_zero, List.set_cons_succ, List.getElem_toArray, List.getElem_cons_zero, List.getElem_cons_succ])
  refine wpAnyG_call (i := 2) _ _ _ rfl (by kernel_rfl) (by kernel_rfl) (by kernel_rfl) hG rfl (by intro ww; go_simp; all_goals (first | rfl | exact ⟨rfl, rfl⟩)) (fun ww => O3.out ww) ?_
  (try simp only [Act.put, List.setIfInBounds_toArray, List.set_cons_zero, List.set_cons_succ, List.getElem_toArray, List.getElem_cons_zero, List.getElem_cons_succ])
  refine wpAnyG_take (i := 3) (v := ?_) rfl (by kernel_rfl) (by kernel_rfl) (by kernel_rfl) hG rfl ?_ ?_
  rotate_left
  (focus (intro ww hSw; obtain ⟨⟨r0_0, r0_1, r0_2, r0_3, r0_4⟩, ⟨r1_0, r1_1, r1_2, r1_3, r1_4⟩⟩ := hSw; go_simp; (try with_reducible rfl)))
  (try simp only [Act.put, List.setIfInBounds_toArray, List.set_cons_zero, List.set_cons_succ, List.getElem_toArray, List.getElem_cons_zero, List.getElem_cons_succ])
  refine wpAnyG_call (i := 4) _ _ _ rfl (by kernel_rfl) (by kernel_rfl) (by kernel_rfl) hG rfl (by intro ww; go_simp; all_goals (first | rfl | exact ⟨rfl, rfl⟩)) (fun ww => L3.out ww) ?_
  (try simp only [Act.put, List.setIfInBounds_toArray, List.set_cons_zero, List.set_cons_succ, List.getElem_toArray, List.getElem_cons_zero, List.getElem_cons_succ])
  refine wpAnyG_new (i := 5) (fun b => .pointer (some ⟨b, 0, none⟩)) (fun c_h => fun w' => Below W15.heap.size W15 w' ∧ W15.heap.size ≤ c_h ∧ Box c_h (0) (0) w') rfl (by kernel_rfl) (fun c_h => ⟨fun _ _ hx hy => ⟨hx.1.trans (hy.mono hx.1.size), hx.2.1, hx.2.2.below hy⟩, fun _ hx => ⟨l.below hx.1, c.below hx.1⟩⟩) rfl ?_ ?_
  · intro ww hS
    refine ⟨ww.alloc (.cells #[.int .i64 0, .int .i64 0] 51), ?_, hS.alloc hS.size _, hS.size, Box.fresh _ _ _ _⟩
    go_simp
    try rfl
  intro c_h
  (try simp only [Act.put, List.setIfInBounds_toArray, List.set_cons_zero, List.set_cons_succ, List.getElem_toArray, List.getElem_cons_zero, List.getElem_cons_succ])
  refine wpAnyG_store (i := 6) (fun w' => Below W15.heap.size W15 w' ∧ W15.heap.size ≤ c_h ∧ Box c_h ((hM x).1) ((hM x).2) w') rfl (by kernel_rfl) (⟨fun _ _ hx hy => ⟨hx.1.trans (hy.mono hx.1.size), hx.2.1, hx.2.2.below hy⟩, fun _ hx => ⟨l.below hx.1, c.below hx.1⟩⟩) rfl ?_ ?_
  · rintro ww ⟨hB, hge, hal⟩
    obtain ⟨q0, q1, q2, q3, q4⟩ := hal
    refine ⟨((ww.setCell ⟨c_h, 0, none⟩ (.int .i64 ((hM x).1))).setCell ⟨c_h, 1, none⟩ (.int .i64 ((hM x).2))), ?_, ((hB.setCell hge _).setCell hge _), hge, Box.set ⟨q0, q1, q2, q3, q4⟩ _ _⟩
    go_simp
    try rfl
  (try simp only [Act.put, List.setIfInBounds_toArray, List.set_cons_zero, List.set_cons_succ, List.getElem_toArray, List.getElem_cons_zero, List.getElem_cons_succ])
  refine wpAnyG_done (by kernel_rfl) ?_ _
  rintro W16 ⟨hB, hge, hal⟩
  clear hR hG
  have b1 := b1.below hB
  have r2 := r2.below hB
  have r3 := r3.below hB
  have g := g.below hB
  have q := q.below hB
  have c := c.below hB
  have l := l.below hB
  have ob := ob.below hB
  have hb := hb.trans (hB.mono hb.size)
  have h := hal
  clear hal
  have h_lb : w.heap.size + 2 < c_h := Nat.lt_of_lt_of_le hlt16 hge
  clear hge
  clear hB
  go_wp2_with fail
  have hR : ∀ w', Below W16.heap.size W16 w' → Box (w.heap.size + 1) ((sM x).1) ((sM x).2) w' ∧ Box (c_h) ((hM x).1) ((hM x).2) w' ∧ Box (v11.heap.size) ((lM x).1) ((lM x).2) w' := fun w' hq0 => ⟨r2.below hq0, h.below hq0, l.below hq0⟩
  have hG := good_below hR
  refine wp_region_G (R := fun w' => Box (w.heap.size + 1) ((sM x).1) ((sM x).2) w' ∧ Box (c_h) ((hM x).1) ((hM x).2) w' ∧ Box (v11.heap.size) ((lM x).1) ((lM x).2) w') (fun w' => Below W16.heap.size W16 w') (by kernel_rfl) (Below.refl _ _).drew ?_
  refine wpAnyG_take (i := 0) (v := ?_) rfl (by kernel_rfl) (by kernel_rfl) (by kernel_rfl) hG rfl ?_ ?_
  rotate_left
  (focus (intro ww hSw; obtain ⟨⟨r0_0, r0_1, r0_2, r0_3, r0_4⟩, ⟨r1_0, r1_1, r1_2, r1_3, r1_4⟩, ⟨r2_0, r2_1, r2_2, r2_3, r2_4⟩⟩ := hSw; go_simp; (try with_reducible rfl)))
  (try simp only [Act.put, List.setIfInBounds_toArray, List.set_cons_zero, List.set_cons_succ, List.getElem_toArray, List.getElem_cons_zero, List.getElem_cons_succ])
  refine wpAnyG_take (i := 1) (v := ?_) rfl (by kernel_rfl) (by kernel_rfl) (by kernel_rfl) hG rfl ?_ ?_
  rotate_left
  (focus (intro ww hSw; obtain ⟨⟨r0_0, r0_1, r0_2, r0_3, r0_4⟩, ⟨r1_0, r1_1, r1_2, r1_3, r1_4⟩, ⟨r2_0, r2_1, r2_2, r2_3, r2_4⟩⟩ := hSw; go_simp; (try with_reducible rfl)))
  (try simp only [Act.put, List.setIfInBounds_toArray, List.set_cons_zero, List.set_cons_succ, List.getElem_toArray, List.getElem_cons_zero, List.getElem_cons_succ])
  refine wpAnyG_take (i := 2) (v := ?_) rfl (by kernel_rfl) (by kernel_rfl) (by kernel_rfl) hG rfl ?_ ?_
  rotate_left
  (focus (intro ww hSw; obtain ⟨⟨r0_0, r0_1, r0_2, r0_3, r0_4⟩, ⟨r1_0, r1_1, r1_2, r1_3, r1_4⟩, ⟨r2_0, r2_1, r2_2, r2_3, r2_4⟩⟩ := hSw; go_simp; (try with_reducible rfl)))
  (try simp only [Act.put, List.setIfInBounds_toArray, List.set_cons_zero, List.set_cons_succ, List.getElem_toArray, List.getElem_cons_zero, List.getElem_cons_succ])
  refine wpAnyG_call (i := 3) _ _ _ rfl (by kernel_rfl) (by kernel_rfl) (by kernel_rfl) hG rfl (by intro ww; go_simp; all_goals (first | rfl | exact ⟨rfl, rfl⟩)) (fun ww => M4.out ww) ?_
  (try simp only [Act.put, List.setIfInBounds_toArray, List.set_cons_zero, List.set_cons_succ, List.getElem_toArray, List.getElem_cons_zero, List.getElem_cons_succ])
  refine wpAnyG_call (i := 4) _ _ _ rfl (by kernel_rfl) (by kernel_rfl) (by kernel_rfl) hG rfl (by intro ww; go_simp; all_goals (first | rfl | exact ⟨rfl, rfl⟩)) (fun ww => O4.out ww) ?_
  (try simp only [Act.put, List.setIfInBounds_toArray, List.set_cons_zero, List.set_cons_succ, List.getElem_toArray, List.getElem_cons_zero, List.getElem_cons_succ])
  refine wpAnyG_call (i := 5) _ _ _ rfl (by kernel_rfl) (by kernel_rfl) (by kernel_rfl) hG rfl (by intro ww; go_simp; all_goals (first | rfl | exact ⟨rfl, rfl⟩)) (fun ww => L4.out ww) ?_
  (try simp only [Act.put, List.setIfInBounds_toArray, List.set_cons_zero, List.set_cons_succ, List.getElem_toArray, List.getElem_cons_zero, List.getElem_cons_succ])
  refine wpAnyG_call (i := 6) _ _ _ rfl (by kernel_rfl) (by kernel_rfl) (by kernel_rfl) hG rfl (by intro ww; go_simp; all_goals (first | rfl | exact ⟨rfl, rfl⟩)) (fun ww => L5.out ww) ?_
  (try simp only [Act.put, List.setIfInBounds_toArray, List.set_cons_zero, List.set_cons_succ, List.getElem_toArray, List.getElem_cons_zero, List.getElem_cons_succ])
  refine wpAnyG_store (i := 7) (fun w' => But [w.heap.size + 1] W16 w' ∧ Box (w.heap.size + 1) ((sM x).1) ((sM x).2) w') rfl (by kernel_rfl) (⟨fun _ _ hx hy => ⟨hx.1.below hy, hx.2.below hy⟩, fun _ hx => ⟨hx.2, hx.1.box h (by simp only [List.mem_cons, List.not_mem_nil, or_false]; omega), hx.1.box l (by simp only [List.mem_cons, List.not_mem_nil, or_false]; omega)⟩⟩) rfl ?_ ?_
  · rintro ww hB
    obtain ⟨q0, q1, q2, q3, q4⟩ := (r2.below hB)
    refine ⟨((ww.setCell ⟨w.heap.size + 1, 0, none⟩ (.int .i64 ((sM x).1))).setCell ⟨w.heap.size + 1, 1, none⟩ (.int .i64 ((sM x).2))), ?_, (((But.of hB).set (by simp) _ _).set (by simp) _ _), Box.set ⟨q0, q1, q2, q3, q4⟩ _ _⟩
    go_simp
    try rfl
  (try simp only [Act.put, List.setIfInBounds_toArray, List.set_cons_zero, List.set_cons_succ, List.getElem_toArray, List.getElem_cons_zero, List.getElem_cons_succ])
  refine wpAnyG_store (i := 8) (fun w' => But [w.heap.size + 1, w.heap.size + 1 + 1] W16 w' ∧ Box (w.heap.size + 1) ((sM x).1) ((sM x).2) w' ∧ Box (w.heap.size + 1 + 1) ((eM x).1) ((eM x).2) w') rfl (by kernel_rfl) (⟨fun _ _ hx hy => ⟨hx.1.below hy, hx.2.1.below hy, hx.2.2.below hy⟩, fun _ hx => ⟨hx.2.1, hx.1.box h (by simp only [List.mem_cons, List.not_mem_nil, or_false]; omega), hx.1.box l (by simp only [List.mem_cons, List.not_mem_nil, or_false]; omega)⟩⟩) rfl ?_ ?_
  · rintro ww ⟨hB, ho_r2⟩
    obtain ⟨q0, q1, q2, q3, q4⟩ := (hB.box r3 (by simp only [List.mem_cons, List.not_mem_nil, or_false]; omega))
    refine ⟨((ww.setCell ⟨w.heap.size + 1 + 1, 0, none⟩ (.int .i64 ((eM x).1))).setCell ⟨w.heap.size + 1 + 1, 1, none⟩ (.int .i64 ((eM x).2))), ?_, (((hB.more (by simp)).set (by simp) _ _).set (by simp) _ _), (Box.aside ho_r2 (by omega) [(0, .int .i64 ((eM x).1)), (1, .int .i64 ((eM x).2))]), Box.set ⟨q0, q1, q2, q3, q4⟩ _ _⟩
    go_simp
    try rfl
  (try simp only [Act.put, List.setIfInBounds_toArray, List.set_cons_zero, List.set_cons_succ, List.getElem_toArray, List.getElem_cons_zero, List.getElem_cons_succ])
  refine wpAnyG_done (by kernel_rfl) ?_ _
  rintro W17 ⟨hB, ho_r2, ho_r3⟩
  clear hR hG
  have hb := hB.toBelow hb (Nat.le_refl _) (by intro k hk; simp only [List.mem_cons, List.not_mem_nil, or_false] at hk; omega)
  have b1 := hB.box b1 (by simp only [List.mem_cons, List.not_mem_nil, or_false]; omega)
  have g := hB.box g (by simp only [List.mem_cons, List.not_mem_nil, or_false]; omega)
  have q := hB.box q (by simp only [List.mem_cons, List.not_mem_nil, or_false]; omega)
  have c := hB.box c (by simp only [List.mem_cons, List.not_mem_nil, or_false]; omega)
  have l := hB.box l (by simp only [List.mem_cons, List.not_mem_nil, or_false]; omega)
  have ob := hB.box ob (by simp only [List.mem_cons, List.not_mem_nil, or_false]; omega)
  have h := hB.box h (by simp only [List.mem_cons, List.not_mem_nil, or_false]; omega)
  have r2 := ho_r2
  clear ho_r2
  have r3 := ho_r3
  clear ho_r3
  clear hB
  have Hr2 := Lib.hid r2
  obtain ⟨r2_0, r2_1, r2_2, r2_3, r2_4⟩ := r2
  have r2_n : (w.heap.size + 1) ≠ W17.heap.size := Nat.ne_of_lt r2_4
  have Hr3 := Lib.hid r3
  obtain ⟨r3_0, r3_1, r3_2, r3_3, r3_4⟩ := r3
  have r3_n : (w.heap.size + 1 + 1) ≠ W17.heap.size := Nat.ne_of_lt r3_4
  go_wp2_with fail
  exact bodyPost_ret (v := .tuple #[en (sM x), en (eM x)]) (by simp [results, Tryd.results72, go_sem, r2_0, r2_1, r2_2, r2_3, r2_4, r3_0, r3_1, r3_2, r3_3, r3_4]) rfl ⟨rfl, hb⟩
end Go.Proofs.YtjcgojbfjefbcaaDoor
