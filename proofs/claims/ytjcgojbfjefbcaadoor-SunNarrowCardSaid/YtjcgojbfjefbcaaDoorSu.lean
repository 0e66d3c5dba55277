/- Sun of the code. -/
import Derived.Test.YtjcgojbfjefbcaaDoorSy
import Derived.Test.YtjcgojbfjefbcaaDoorMo
namespace Go.Proofs.YtjcgojbfjefbcaaDoor
set_option linter.unusedSimpArgs false
set_option linter.unusedVariables false
open Go.RowKit SineNear
attribute [local go_sem ↓] Go.wp_at_zero Go.wp_at_succ

theorem within2_T (lo hi l m : Int) : RetT 67 #[en (lo, hi), .int .i64 l, .int .i64 m] (.bool (inB lo hi l m)) := fun w => (isWithin_any lo hi l m w).mono fun _ _ ⟨e, o⟩ => ⟨e, o.below⟩
set_option maxHeartbeats 4000000 in
theorem sun_out (lo hi : Int) (h : inB lo hi (-172800) 3456172800 = false) : RetT 40 #[.int .i64 lo, .int .i64 hi] (.tuple #[en (0, 0), en (0, 0), .int .i64 7]) := by
  intro w
  have C1 := within2_T lo hi (-172800) 3456172800
  rw [h] at C1
  have C1 := Lib.hid C1
  clear h
  go_enter Tryd.func40, Tryd.ntmps40
  go_wp2_with fail
  have r4 : Box w.heap.size 0 0 (((w.alloc (.cells #[.int .i64 0, .int .i64 0] 51)).alloc (.cells #[.int .i64 0, .int .i64 0] 51)).alloc (.cells #[.int .i64 lo, .int .i64 hi] 51)) := ((Box.fresh _ _ _ _).alloc _).alloc _
  have r5 : Box (w.heap.size + 1) 0 0 (((w.alloc (.cells #[.int .i64 0, .int .i64 0] 51)).alloc (.cells #[.int .i64 0, .int .i64 0] 51)).alloc (.cells #[.int .i64 lo, .int .i64 hi] 51)) := (Box.freshAt (by simp) _ _ _).alloc _
  have sp : Box (w.heap.size + 1 + 1) lo hi (((w.alloc (.cells #[.int .i64 0, .int .i64 0] 51)).alloc (.cells #[.int .i64 0, .int .i64 0] 51)).alloc (.cells #[.int .i64 lo, .int .i64 hi] 51)) := Box.freshAt (by simp) _ _ _
  have hb : Below w.heap.size w (((w.alloc (.cells #[.int .i64 0, .int .i64 0] 51)).alloc (.cells #[.int .i64 0, .int .i64 0] 51)).alloc (.cells #[.int .i64 lo, .int .i64 hi] 51)) := (((Below.refl _ _).alloc (Nat.le_refl _) _).alloc (by simp) _).alloc (by simp; omega) _
  refine fresh_call (fun W => Box w.heap.size 0 0 W ∧ Box (w.heap.size + 1) 0 0 W ∧ Box (w.heap.size + 1 + 1) lo hi W ∧ Below w.heap.size w W) ⟨r4, r5, sp, hb⟩ ?_
  clear r4 r5 sp hb
  rintro W1 ⟨r4, r5, sp, hb⟩
  refine (C1.out _).mono ?_
  rintro e v1 ⟨rfl, hq⟩
  have r4 := r4.below hq
  have r5 := r5.below hq
  have sp := sp.below hq
  have hb := hb.trans (hq.mono hb.size)
  clear hq
  obtain ⟨r4_0, r4_1, r4_2, r4_3, r4_4⟩ := r4
  obtain ⟨r5_0, r5_1, r5_2, r5_3, r5_4⟩ := r5
  obtain ⟨sp_0, sp_1, sp_2, sp_3, sp_4⟩ := sp
  go_wp2_with fail
  exact bodyPost_ret (v := .tuple #[en (0, 0), en (0, 0), .int .i64 7]) (by simp [results, Tryd.results40, go_sem, r4_0, r4_1, r4_2, r4_3, r4_4, r5_0, r5_1, r5_2, r5_3, r5_4]) rfl ⟨rfl, (((hb.setCell (by simp) _).setCell (by simp) _).setCell (by simp) _).setCell (by simp) _⟩

set_option maxHeartbeats 4000000 in
theorem sun_long (lo hi : Int) (h : inB lo hi (-172800) 3456172800 = true) (hl : 172800 < hi - lo) : RetT 40 #[.int .i64 lo, .int .i64 hi] (.tuple #[en (0, 0), en (0, 0), .int .i64 7]) := by
  intro w
  have C1 := within2_T lo hi (-172800) 3456172800
  have hbd := inB_bd h
  rw [h] at C1
  have C1 := Lib.hid C1
  clear h
  go_enter Tryd.func40, Tryd.ntmps40
  go_wp2_with fail
  have r4 : Box w.heap.size 0 0 (((w.alloc (.cells #[.int .i64 0, .int .i64 0] 51)).alloc (.cells #[.int .i64 0, .int .i64 0] 51)).alloc (.cells #[.int .i64 lo, .int .i64 hi] 51)) := ((Box.fresh _ _ _ _).alloc _).alloc _
  have r5 : Box (w.heap.size + 1) 0 0 (((w.alloc (.cells #[.int .i64 0, .int .i64 0] 51)).alloc (.cells #[.int .i64 0, .int .i64 0] 51)).alloc (.cells #[.int .i64 lo, .int .i64 hi] 51)) := (Box.freshAt (by simp) _ _ _).alloc _
  have sp : Box (w.heap.size + 1 + 1) lo hi (((w.alloc (.cells #[.int .i64 0, .int .i64 0] 51)).alloc (.cells #[.int .i64 0, .int .i64 0] 51)).alloc (.cells #[.int .i64 lo, .int .i64 hi] 51)) := Box.freshAt (by simp) _ _ _
  have hb : Below w.heap.size w (((w.alloc (.cells #[.int .i64 0, .int .i64 0] 51)).alloc (.cells #[.int .i64 0, .int .i64 0] 51)).alloc (.cells #[.int .i64 lo, .int .i64 hi] 51)) := (((Below.refl _ _).alloc (Nat.le_refl _) _).alloc (by simp) _).alloc (by simp; omega) _
  refine fresh_call (fun W => Box w.heap.size 0 0 W ∧ Box (w.heap.size + 1) 0 0 W ∧ Box (w.heap.size + 1 + 1) lo hi W ∧ Below w.heap.size w W) ⟨r4, r5, sp, hb⟩ ?_
  clear r4 r5 sp hb
  rintro W1 ⟨r4, r5, sp, hb⟩
  refine (C1.out _).mono ?_
  rintro e v1 ⟨rfl, hq⟩
  have r4 := r4.below hq
  have r5 := r5.below hq
  have sp := sp.below hq
  have hb := hb.trans (hq.mono hb.size)
  clear hq
  obtain ⟨r4_0, r4_1, r4_2, r4_3, r4_4⟩ := r4
  obtain ⟨r5_0, r5_1, r5_2, r5_3, r5_4⟩ := r5
  obtain ⟨sp_0, sp_1, sp_2, sp_3, sp_4⟩ := sp
  go_wp2_with fail
  exact bodyPost_ret (v := .tuple #[en (0, 0), en (0, 0), .int .i64 7]) (by simp [results, Tryd.results40, go_sem, r4_0, r4_1, r4_2, r4_3, r4_4, r5_0, r5_1, r5_2, r5_3, r5_4]) rfl ⟨rfl, (((hb.setCell (by simp) _).setCell (by simp) _).setCell (by simp) _).setCell (by simp) _⟩

set_option maxHeartbeats 4000000 in
theorem sun_yes (lo hi : Int) (h : inB lo hi (-172800) 3456172800 = true) (hl : hi - lo ≤ 172800) : RetT 40 #[.int .i64 lo, .int .i64 hi] (.tuple #[en (sM (lo, hi)), en (eM (lo, hi)), .int .i64 0]) := by
  intro w
  have C1 := within2_T lo hi (-172800) 3456172800
  have hbd := inB_bd h
  have H := Lib.hid h
  have C1 := Lib.hid C1
  have C2 := Lib.hid (model_T (lo, hi) (show Bd 10000000000 (lo, hi) by unfold Bd; simp only; omega))
  clear h
  go_enter Tryd.func40, Tryd.ntmps40
  go_wp2_with fail
  have r4 : Box w.heap.size 0 0 (((w.alloc (.cells #[.int .i64 0, .int .i64 0] 51)).alloc (.cells #[.int .i64 0, .int .i64 0] 51)).alloc (.cells #[.int .i64 lo, .int .i64 hi] 51)) := ((Box.fresh _ _ _ _).alloc _).alloc _
  have r5 : Box (w.heap.size + 1) 0 0 (((w.alloc (.cells #[.int .i64 0, .int .i64 0] 51)).alloc (.cells #[.int .i64 0, .int .i64 0] 51)).alloc (.cells #[.int .i64 lo, .int .i64 hi] 51)) := (Box.freshAt (by simp) _ _ _).alloc _
  have sp : Box (w.heap.size + 1 + 1) lo hi (((w.alloc (.cells #[.int .i64 0, .int .i64 0] 51)).alloc (.cells #[.int .i64 0, .int .i64 0] 51)).alloc (.cells #[.int .i64 lo, .int .i64 hi] 51)) := Box.freshAt (by simp) _ _ _
  have hb : Below w.heap.size w (((w.alloc (.cells #[.int .i64 0, .int .i64 0] 51)).alloc (.cells #[.int .i64 0, .int .i64 0] 51)).alloc (.cells #[.int .i64 lo, .int .i64 hi] 51)) := (((Below.refl _ _).alloc (Nat.le_refl _) _).alloc (by simp) _).alloc (by simp; omega) _
  refine fresh_call (fun W => Box w.heap.size 0 0 W ∧ Box (w.heap.size + 1) 0 0 W ∧ Box (w.heap.size + 1 + 1) lo hi W ∧ Below w.heap.size w W) ⟨r4, r5, sp, hb⟩ ?_
  clear r4 r5 sp hb
  rintro W1 ⟨r4, r5, sp, hb⟩
  refine (C1.out _).mono ?_
  rintro e v1 ⟨rfl, hq⟩
  have r4 := r4.below hq
  have r5 := r5.below hq
  have sp := sp.below hq
  have hb := hb.trans (hq.mono hb.size)
  clear hq
  rw [H.out]
  obtain ⟨r4_0, r4_1, r4_2, r4_3, r4_4⟩ := r4
  obtain ⟨r5_0, r5_1, r5_2, r5_3, r5_4⟩ := r5
  obtain ⟨sp_0, sp_1, sp_2, sp_3, sp_4⟩ := sp
  go_wp2_with fail
  have r4 : Box w.heap.size 0 0 v1 := ⟨r4_0, r4_1, r4_2, r4_3, r4_4⟩
  have r5 : Box (w.heap.size + 1) 0 0 v1 := ⟨r5_0, r5_1, r5_2, r5_3, r5_4⟩
  refine (C2.out _).mono ?_
  rintro e v2 ⟨rfl, hq⟩
  have r4 := r4.below hq
  have r5 := r5.below hq
  have hb := hb.trans (hq.mono hb.size)
  clear hq sp_0 sp_1 sp_2 sp_3 sp_4 r4_0 r4_1 r4_2 r4_3 r4_4 r5_0 r5_1 r5_2 r5_3 r5_4
  have R4 := r4
  have R5 := r5
  obtain ⟨r4_0, r4_1, r4_2, r4_3, r4_4⟩ := r4
  obtain ⟨r5_0, r5_1, r5_2, r5_3, r5_4⟩ := r5
  go_wp2_with fail
  refine fresh_world (fun W => Box w.heap.size (sM (lo, hi)).1 (sM (lo, hi)).2 W ∧ Box (w.heap.size + 1) (eM (lo, hi)).1 (eM (lo, hi)).2 W ∧ Below w.heap.size w W) ⟨?_, ?_, ?_⟩ ?_
  · exact (R4.set _ _).other (by omega) _ _
  · exact (R5.other (by omega) _ _).set _ _
  · exact (((hb.setCell (by simp) _).setCell (by simp) _).setCell (by simp) _).setCell (by simp) _
  clear R4 R5 r4_0 r4_1 r4_2 r4_3 r4_4 r5_0 r5_1 r5_2 r5_3 r5_4 hb
  rintro W3 ⟨r4, r5, hb⟩
  have hG : Good (fun w' => Box w.heap.size (sM (lo, hi)).1 (sM (lo, hi)).2 w' ∧ Box (w.heap.size + 1) (eM (lo, hi)).1 (eM (lo, hi)).2 w') (fun w' => But [w.heap.size, w.heap.size + 1] W3 w' ∧ Box w.heap.size (sM (lo, hi)).1 (sM (lo, hi)).2 w' ∧ Box (w.heap.size + 1) (eM (lo, hi)).1 (eM (lo, hi)).2 w') := (⟨fun _ _ hx hy => ⟨hx.1.below hy, hx.2.1.below hy, hx.2.2.below hy⟩, fun _ hx => ⟨hx.2.1, hx.2.2⟩⟩)
  refine wp_region_G (R := fun w' => Box w.heap.size (sM (lo, hi)).1 (sM (lo, hi)).2 w' ∧ Box (w.heap.size + 1) (eM (lo, hi)).1 (eM (lo, hi)).2 w') (fun w' => But [w.heap.size, w.heap.size + 1] W3 w' ∧ Box w.heap.size (sM (lo, hi)).1 (sM (lo, hi)).2 w' ∧ Box (w.heap.size + 1) (eM (lo, hi)).1 (eM (lo, hi)).2 w') (by kernel_rfl) ⟨But.of (Below.refl _ _).drew, r4.below (Below.refl _ _).drew, r5.below (Below.refl _ _).drew⟩ ?_
  refine wpAnyG_take (i := 0) (v := ?_) rfl (by kernel_rfl) (by kernel_rfl) (by kernel_rfl) hG rfl ?_ ?_
  rotate_left
  (focus (intro ww hSw; obtain ⟨⟨q0, q1, q2, q3, q4⟩, ⟨s0, s1, s2, s3, s4⟩⟩ := hSw; go_simp; (try with_reducible rfl)))
  (try simp only [Act.put, List.setIfInBounds_toArray, List.set_cons_zero, List.set_cons_succ, List.getElem_toArray, List.getElem_cons_zero, List.getElem_cons_succ])
  refine wpAnyG_take (i := 1) (v := ?_) rfl (by kernel_rfl) (by kernel_rfl) (by kernel_rfl) hG rfl ?_ ?_
  rotate_left
  (focus (intro ww hSw; obtain ⟨⟨q0, q1, q2, q3, q4⟩, ⟨s0, s1, s2, s3, s4⟩⟩ := hSw; go_simp; (try with_reducible rfl)))
  (try simp only [Act.put, List.setIfInBounds_toArray, List.set_cons_zero, List.set_cons_succ, List.getElem_toArray, List.getElem_cons_zero, List.getElem_cons_succ])
  refine wpAnyG_store (i := 2) (fun w' => But [w.heap.size, w.heap.size + 1] W3 w' ∧ Box w.heap.size (sM (lo, hi)).1 (sM (lo, hi)).2 w' ∧ Box (w.heap.size + 1) (eM (lo, hi)).1 (eM (lo, hi)).2 w') rfl (by kernel_rfl) (⟨fun _ _ hx hy => ⟨hx.1.below hy, hx.2.1.below hy, hx.2.2.below hy⟩, fun _ hx => ⟨hx.2.1, hx.2.2⟩⟩) rfl ?_ ?_
  · rintro ww ⟨hB, hx, hy⟩
    obtain ⟨q0, q1, q2, q3, q4⟩ := hx
    have hx : Box w.heap.size _ _ ww := ⟨q0, q1, q2, q3, q4⟩
    refine ⟨((ww.setCell ⟨w.heap.size, 0, none⟩ (.int .i64 (sM (lo, hi)).1)).setCell ⟨w.heap.size, 1, none⟩ (.int .i64 (sM (lo, hi)).2)), ?_, (((hB.set (by simp) _ _).set (by simp) _ _)), Box.set ⟨q0, q1, q2, q3, q4⟩ _ _, (Box.aside hy (by omega) [(0, (.int .i64 (sM (lo, hi)).1)), (1, (.int .i64 (sM (lo, hi)).2))])⟩
    go_simp
    try rfl
  (try simp only [Act.put, List.setIfInBounds_toArray, List.set_cons_zero, List.set_cons_succ, List.getElem_toArray, List.getElem_cons_zero, List.getElem_cons_succ])
  refine wpAnyG_store (i := 3) (fun w' => But [w.heap.size, w.heap.size + 1] W3 w' ∧ Box w.heap.size (sM (lo, hi)).1 (sM (lo, hi)).2 w' ∧ Box (w.heap.size + 1) (eM (lo, hi)).1 (eM (lo, hi)).2 w') rfl (by kernel_rfl) (⟨fun _ _ hx hy => ⟨hx.1.below hy, hx.2.1.below hy, hx.2.2.below hy⟩, fun _ hx => ⟨hx.2.1, hx.2.2⟩⟩) rfl ?_ ?_
  · rintro ww ⟨hB, hx, hy⟩
    obtain ⟨q0, q1, q2, q3, q4⟩ := hy
    have hy : Box (w.heap.size + 1) _ _ ww := ⟨q0, q1, q2, q3, q4⟩
    refine ⟨((ww.setCell ⟨w.heap.size + 1, 0, none⟩ (.int .i64 (eM (lo, hi)).1)).setCell ⟨w.heap.size + 1, 1, none⟩ (.int .i64 (eM (lo, hi)).2)), ?_, (((hB.set (by simp) _ _).set (by simp) _ _)), (Box.aside hx (by omega) [(0, (.int .i64 (eM (lo, hi)).1)), (1, (.int .i64 (eM (lo, hi)).2))]), Box.set ⟨q0, q1, q2, q3, q4⟩ _ _⟩
    go_simp
    try rfl
  (try simp only [Act.put, List.setIfInBounds_toArray, List.set_cons_zero, List.set_cons_succ, List.getElem_toArray, List.getElem_cons_zero, List.getElem_cons_succ])
  refine wpAnyG_take (i := 4) (v := ?_) rfl (by kernel_rfl) (by kernel_rfl) (by kernel_rfl) hG rfl ?_ ?_
  rotate_left
  (focus (intro ww hSw; obtain ⟨⟨q0, q1, q2, q3, q4⟩, ⟨s0, s1, s2, s3, s4⟩⟩ := hSw; go_simp; (try with_reducible rfl)))
  (try simp only [Act.put, List.setIfInBounds_toArray, List.set_cons_zero, List.set_cons_succ, List.getElem_toArray, List.getElem_cons_zero, List.getElem_cons_succ])
  refine wpAnyG_done (by kernel_rfl) ?_ _
  rintro W4 ⟨hB, r4, r5⟩
  clear hG
  have hb := hB.toBelow hb (Nat.le_refl _) (by intro k hk; simp only [List.mem_cons, List.not_mem_nil, or_false] at hk; omega)
  clear hB
  obtain ⟨r4_0, r4_1, r4_2, r4_3, r4_4⟩ := r4
  obtain ⟨r5_0, r5_1, r5_2, r5_3, r5_4⟩ := r5
  go_wp2_with fail
  exact bodyPost_ret (v := .tuple #[en (sM (lo, hi)), en (eM (lo, hi)), .int .i64 0]) (by simp [results, Tryd.results40, go_sem, r4_0, r4_1, r4_2, r4_3, r4_4, r5_0, r5_1, r5_2, r5_3, r5_4]) rfl ⟨rfl, hb⟩
end Go.Proofs.YtjcgojbfjefbcaaDoor
