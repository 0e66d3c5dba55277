/- Night of the code. -/
import Derived.Test.YtjcgojbfjefbcaaDoorNi
namespace Go.Proofs.YtjcgojbfjefbcaaDoor
set_option linter.unusedSimpArgs false
set_option linter.unusedVariables false
open Go.RowKit SineNear
attribute [local go_sem ↓] Go.wp_at_zero Go.wp_at_succ

/-- between -B and B, in any order -/
def Bu (B : Int) (x : P2) : Prop := -B ≤ x.1 ∧ x.1 ≤ B ∧ -B ≤ x.2 ∧ x.2 ≤ B
theorem addU_T (x y : P2) (hx : Bu 4000000000000000000 x) (hy : Bd 4000000000000000000 y) : RetT 88 #[en x, en y] (en (adP x y)) := by
  intro w
  obtain ⟨a, b⟩ := x
  obtain ⟨c, d⟩ := y
  obtain ⟨x0, x1, x2, x3⟩ := hx
  obtain ⟨y0, y1, y2, y3⟩ := hy.all
  clear hy
  simp only at x0 x1 x2 x3 y0 y1 y2 y3
  go_enter Tryd.func88, Tryd.ntmps88
  go_wp2
  exact bodyPost_ret (v := en (adP (a, b) (c, d))) (by simp [results, Tryd.results88, go_sem, adP]) rfl ⟨rfl, (((Below.refl _ _).alloc (Nat.le_refl _) _).alloc (by simp) _).alloc (by simp; omega) _⟩
set_option maxHeartbeats 4000000 in
theorem localU_T (cb : Nat) (la lo zo a0 a1 day : Int) (x : P2) (d0 : 0 ≤ day) (d1 : day ≤ 100000) (z0 : -50400 ≤ zo) (z1 : zo ≤ 50400) (hx : Bu 1000000000000 x) : RetC cb la lo zo a0 a1 82 #[.pointer (some ⟨cb, 0, none⟩), .int .i64 day, en x] (en (loP zo day x)) := by
  intro w ct
  have ct_lt : cb < w.heap.size := ct.lt
  have w0 : IntKind.i64.wrap (43200 + zo) = 43200 + zo := IntWalk.i64_in _ (by omega)
  have w1 : IntKind.i64.wrap (86400 * day) = 86400 * day := IntWalk.i64_in _ (by omega)
  have w2 : IntKind.i64.wrap (43200 + zo - 86400 * day) = 43200 + zo - 86400 * day := IntWalk.i64_in _ (by omega)
  have C1 := Lib.hid (only_T (43200 + zo - 86400 * day))
  have C2 := Lib.hid (addU_T x (onP (43200 + zo - 86400 * day)) (by unfold Bu at *; omega) (onP_bd (by omega) (by omega)))
  clear d0 d1 z0 z1 hx
  go_enter Tryd.func82, Tryd.ntmps82
  go_wp2_with fail
  refine fresh_world (fun W => City (cb) (la) (lo) (zo) (a0) (a1) W ∧ Box (w.heap.size) ((x).1) ((x).2) W ∧ Box (w.heap.size + 1) (0) (0) W ∧ Below w.heap.size w W) ⟨((ct).alloc _).alloc _, ((Box.fresh _ _ _ _)).alloc _, (Box.freshAt (by simp) _ _ _), (((Below.refl _ _).alloc (Nat.le_refl _) _).alloc (by simp) _)⟩ ?_
  clear ct
  rintro W1 ⟨ct, b1, r, hb⟩
  have hR : ∀ w', Below W1.heap.size W1 w' → City (cb) (la) (lo) (zo) (a0) (a1) w' ∧ Box (w.heap.size) ((x).1) ((x).2) w' := fun w' hq0 => ⟨ct.below hq0, b1.below hq0⟩
  have hG := good_below hR
  refine wp_region_G (R := fun w' => City (cb) (la) (lo) (zo) (a0) (a1) w' ∧ Box (w.heap.size) ((x).1) ((x).2) w') (fun w' => Below W1.heap.size W1 w') (by kernel_rfl) (Below.refl _ _).drew ?_
  refine wpAnyG_take (i := 0) (v := ?_) rfl (by kernel_rfl) (by kernel_rfl) (by kernel_rfl) hG rfl ?_ ?_
  rotate_left
  (focus (intro ww hSw; obtain ⟨⟨r0_0, r0_1, r0_2, r0_3, r0_4, r0_5⟩, ⟨r1_0, r1_1, r1_2, r1_3, r1_4⟩⟩ := hSw; go_simp; (try with_reducible rfl)))
  (try simp only [Act.put, List.setIfInBounds_toArray, List.set_cons_zero, List.set_cons_succ, List.getElem_toArray, List.getElem_cons_zero, List.getElem_cons_succ])
  refine wpAnyG_take (i := 1) (v := ?_) rfl (by kernel_rfl) (by kernel_rfl) (by kernel_rfl) hG rfl ?_ ?_
  rotate_left
  (focus (intro ww hSw; obtain ⟨⟨r0_0, r0_1, r0_2, r0_3, r0_4, r0_5⟩, ⟨r1_0, r1_1, r1_2, r1_3, r1_4⟩⟩ := hSw; go_simp; (try with_reducible rfl)))
  (try simp only [Act.put, List.setIfInBounds_toArray, List.set_cons_zero, List.set_cons_succ, List.getElem_toArray, List.getElem_cons_zero, List.getElem_cons_succ])
  refine wpAnyG_take (i := 2) (v := ?_) rfl (by kernel_rfl) (by kernel_rfl) (by kernel_rfl) hG rfl ?_ ?_
  rotate_left
  (focus (intro ww hSw; obtain ⟨⟨r0_0, r0_1, r0_2, r0_3, r0_4, r0_5⟩, ⟨r1_0, r1_1, r1_2, r1_3, r1_4⟩⟩ := hSw; go_simp; (try with_reducible rfl)))
  (try simp only [Act.put, List.setIfInBounds_toArray, List.set_cons_zero, List.set_cons_succ, List.getElem_toArray, List.getElem_cons_zero, List.getElem_cons_succ])
  refine wpAnyG_take (i := 3) (v := ?_) rfl (by kernel_rfl) (by kernel_rfl) (by kernel_rfl) hG rfl ?_ ?_
  rotate_left
  (focus (intro ww hSw; obtain ⟨⟨r0_0, r0_1, r0_2, r0_3, r0_4, r0_5⟩, ⟨r1_0, r1_1, r1_2, r1_3, r1_4⟩⟩ := hSw; go_simp; (try with_reducible rfl)))
  (try simp only [Act.put, List.setIfInBounds_toArray, List.set_cons_zero, List.set_cons_succ, List.getElem_toArray, List.getElem_cons_zero, List.getElem_cons_succ])
  refine wpAnyG_take (i := 4) (v := ?_) rfl (by kernel_rfl) (by kernel_rfl) (by kernel_rfl) hG rfl ?_ ?_
  rotate_left
  (focus (intro ww hSw; obtain ⟨⟨r0_0, r0_1, r0_2, r0_3, r0_4, r0_5⟩, ⟨r1_0, r1_1, r1_2, r1_3, r1_4⟩⟩ := hSw; go_simp; (try with_reducible rfl)))
  (try simp only [Act.put, List.setIfInBounds_toArray, List.set_cons_zero, List.set_cons_succ, List.getElem_toArray, List.getElem_cons_zero, List.getElem_cons_succ])
  refine wpAnyG_take (i := 5) (v := ?_) rfl (by kernel_rfl) (by kernel_rfl) (by kernel_rfl) hG rfl ?_ ?_
  rotate_left
  (focus (intro ww hSw; obtain ⟨⟨r0_0, r0_1, r0_2, r0_3, r0_4, r0_5⟩, ⟨r1_0, r1_1, r1_2, r1_3, r1_4⟩⟩ := hSw; go_simp; (try with_reducible rfl)))
  (try simp only [Act.put, List.setIfInBounds_toArray, List.set_cons_zero, List.set_cons_succ, List.getElem_toArray, List.getElem_cons_zero, List.getElem_cons_succ])
  refine wpAnyG_take (i := 6) (v := ?_) rfl (by kernel_rfl) (by kernel_rfl) (by kernel_rfl) hG rfl ?_ ?_
  rotate_left
  (focus (intro ww hSw; obtain ⟨⟨r0_0, r0_1, r0_2, r0_3, r0_4, r0_5⟩, ⟨r1_0, r1_1, r1_2, r1_3, r1_4⟩⟩ := hSw; go_simp; (try with_reducible rfl)))
  (try simp only [Act.put, List.setIfInBounds_toArray, List.set_cons_zero, List.set_cons_succ, List.getElem_toArray, List.getElem_cons_zero, List.getElem_cons_succ])
  refine wpAnyG_take (i := 7) (v := ?_) rfl (by kernel_rfl) (by kernel_rfl) (by kernel_rfl) hG rfl ?_ ?_
  rotate_left
  (focus (intro ww hSw; obtain ⟨⟨r0_0, r0_1, r0_2, r0_3, r0_4, r0_5⟩, ⟨r1_0, r1_1, r1_2, r1_3, r1_4⟩⟩ := hSw; go_simp; (try with_reducible rfl)))
  (try simp only [Act.put, List.setIfInBounds_toArray, List.set_cons_zero, List.set_cons_succ, List.getElem_toArray, List.getElem_cons_zero, List.getElem_cons_succ])
  refine wpAnyG_take (i := 8) (v := ?_) rfl (by kernel_rfl) (by kernel_rfl) (by kernel_rfl) hG rfl ?_ ?_
  rotate_left
  (focus (intro ww hSw; obtain ⟨⟨r0_0, r0_1, r0_2, r0_3, r0_4, r0_5⟩, ⟨r1_0, r1_1, r1_2, r1_3, r1_4⟩⟩ := hSw; go_simp; (try with_reducible rfl)))
  (try simp only [Act.put, List.setIfInBounds_toArray, List.set_cons_zero, List.set_cons_succ, List.getElem_toArray, List.getElem_cons_zero, List.getElem_cons_succ])
  refine wpAnyG_call (i := 9) _ _ _ rfl (by kernel_rfl) (by kernel_rfl) (by kernel_rfl) hG rfl (by intro ww; go_simp; all_goals (first | rfl | exact ⟨rfl, rfl⟩)) (fun ww => C1.out ww) ?_
  (try simp only [Act.put, List.setIfInBounds_toArray, List.set_cons_zero, List.set_cons_succ, List.getElem_toArray, List.getElem_cons_zero, List.getElem_cons_succ])
  refine wpAnyG_call (i := 10) _ _ _ rfl (by kernel_rfl) (by kernel_rfl) (by kernel_rfl) hG rfl (by intro ww; go_simp; all_goals (first | rfl | exact ⟨rfl, rfl⟩)) (fun ww => C2.out ww) ?_
  (try simp only [Act.put, List.setIfInBounds_toArray, List.set_cons_zero, List.set_cons_succ, List.getElem_toArray, List.getElem_cons_zero, List.getElem_cons_succ])
  refine wpAnyG_store (i := 11) (fun w' => But [w.heap.size + 1] W1 w' ∧ Box (w.heap.size + 1) ((loP zo day x).1) ((loP zo day x).2) w') rfl (by kernel_rfl) (⟨fun _ _ hx hy => ⟨hx.1.below hy, hx.2.below hy⟩, fun _ hx => ⟨hx.1.city ct (by simp only [List.mem_cons, List.not_mem_nil, or_false]; omega), hx.1.box b1 (by simp only [List.mem_cons, List.not_mem_nil, or_false]; omega)⟩⟩) rfl ?_ ?_
  · rintro ww hB
    obtain ⟨q0, q1, q2, q3, q4⟩ := (r.below hB)
    refine ⟨((ww.setCell ⟨w.heap.size + 1, 0, none⟩ (.int .i64 ((loP zo day x).1))).setCell ⟨w.heap.size + 1, 1, none⟩ (.int .i64 ((loP zo day x).2))), ?_, (((But.of hB).set (by simp) _ _).set (by simp) _ _), Box.set ⟨q0, q1, q2, q3, q4⟩ _ _⟩
    go_simp
    try rfl
  (try simp only [Act.put, List.setIfInBounds_toArray, List.set_cons_zero, List.set_cons_succ, List.getElem_toArray, List.getElem_cons_zero, List.getElem_cons_succ])
  refine wpAnyG_done (by kernel_rfl) ?_ _
  rintro W2 ⟨hB, ho_r⟩
  clear hR hG
  have hb := hB.toBelow hb (Nat.le_refl _) (by intro k hk; simp only [List.mem_cons, List.not_mem_nil, or_false] at hk; omega)
  have ct := hB.city ct (by simp only [List.mem_cons, List.not_mem_nil, or_false]; omega)
  have b1 := hB.box b1 (by simp only [List.mem_cons, List.not_mem_nil, or_false]; omega)
  have r := ho_r
  clear ho_r
  clear hB
  have Hr := Lib.hid r
  obtain ⟨r_0, r_1, r_2, r_3, r_4⟩ := r
  have r_n : (w.heap.size + 1) ≠ W2.heap.size := Nat.ne_of_lt r_4
  go_wp2_with fail
  exact bodyPost_ret (v := en (loP zo day x)) (by simp [results, Tryd.results82, go_sem, r_0, r_1, r_2, r_3, r_4]) rfl ⟨rfl, hb⟩

open Nw in
theorem night_any (cb : Nat) (la lo zo day : Int) (alt : P2) (ok : okB la lo zo alt = true) (d0 : 0 ≤ day) (d1 : day ≤ 39999) (w : World) (ct : City cb la lo zo alt.1 alt.2 w) (ev : TabE w) (tm : TabM w) :
    Calls Tryd.prog 71 #[.pointer (some ⟨cb, 0, none⟩), .int .i64 day] w fun e w' => e = .returned (en (niP alt la lo zo day)) ∧ Below w.heap.size w w' := by
  obtain ⟨b1, b2, b3, b4⟩ := ok_bd ok
  have ha : Alt alt := b4
  have cl := ct.lt
  have P1 := Lib.hid (passing_T cb la lo zo day alt false d0 (by omega) b2.1 b2.2)
  have P2 := Lib.hid (passing_T cb la lo zo (day + 1) alt true (by omega) (by omega) b2.1 b2.2)
  have Q1 := window_T cb la lo zo alt.1 alt.2 (day + 1) (reP true) true (by omega) (by omega) b2.1 b2.2 (by unfold Bd reP; decide)
  have Q2 := window_T cb la lo zo alt.1 alt.2 day (reP false) false (by omega) (by omega) b2.1 b2.2 (by unfold Bd reP; decide)
  have N1 := pa_wi (rise := false) b1.1 b1.2 d0 (by omega) b2.1 b2.2 ha (show Wi alt alt from ⟨Int.le_refl _, b4.2.1, Int.le_refl _⟩)
  have N2 := pa_wi (rise := true) b1.1 b1.2 (show 0 ≤ day + 1 by omega) (by omega) b2.1 b2.2 ha (show Wi alt alt from ⟨Int.le_refl _, b4.2.1, Int.le_refl _⟩)
  have W1 := wi_spn (rise := false) (lon := lo) d0 (show day ≤ 40001 by omega) b2.1 b2.2
  have W2 := wi_spn (rise := true) (lon := lo) (show 0 ≤ day + 1 by omega) (show day + 1 ≤ 40001 by omega) b2.1 b2.2
  have p1 := N1.pin
  have p2 := N2.pin
  have LU := fun x h => localU_T cb la lo zo alt.1 alt.2 day x d0 (by omega) b3.1 b3.2 h
  unfold Wi at p1 p2
  have W1 : -172800 ≤ (wiP day lo false).1 ∧ (wiP day lo false).1 ≤ (wiP day lo false).2 ∧ (wiP day lo false).2 ≤ 4000000000 ∧ (wiP day lo false).2 - (wiP day lo false).1 ≤ 172800 := W1
  have W2 : -172800 ≤ (wiP (day + 1) lo true).1 ∧ (wiP (day + 1) lo true).1 ≤ (wiP (day + 1) lo true).2 ∧ (wiP (day + 1) lo true).2 ≤ 4000000000 ∧ (wiP (day + 1) lo true).2 - (wiP (day + 1) lo true).1 ≤ 172800 := W2
  have Q1 : RetC cb la lo zo alt.1 alt.2 95 #[hv (reP true) true, .pointer (some ⟨cb, 0, none⟩), .int .i64 (day + 1)] (en (wiP (day + 1) lo true)) := Q1
  have Q2 : RetC cb la lo zo alt.1 alt.2 95 #[hv (reP false) false, .pointer (some ⟨cb, 0, none⟩), .int .i64 day] (en (wiP day lo false)) := Q2
  clear N1 N2 ok
  unfold niP dkP
  generalize paM alt la lo day false = p at *
  generalize paM alt la lo (day + 1) true = q at *
  generalize wiP day lo false = U at *
  generalize wiP (day + 1) lo true = V at *
  obtain ⟨k, pp⟩ := p
  obtain ⟨m, qq⟩ := q
  obtain ⟨pa, pb⟩ := pp
  obtain ⟨qa, qb⟩ := qq
  obtain ⟨ua, ub⟩ := U
  obtain ⟨va, vb⟩ := V
  simp only at *
  by_cases hk : k = 2
  · subst hk
    by_cases hm : m = 2
    · subst hm
      rw [if_pos ⟨rfl, rfl⟩]
      exact night_ll cb la lo zo alt.1 alt.2 day 2 2 pa pb qa qb 0 0 0 d0 (by omega) P1 P2 w cl ct ev tm
    · rw [if_neg (fun h => hm h.2), if_pos rfl, if_neg hm]
      exact night_lp cb la lo zo alt.1 alt.2 day 2 m pa pb qa qb va 0 vb d0 (by omega) P1 P2 (Lib.hid Q1) (Lib.hid (LU (va, qb) (by unfold Bu; simp only; omega))) (by simp [hm]) w cl ct ev tm
  · by_cases hm : m = 2
    · subst hm
      rw [if_neg (fun h => hk h.1), if_neg hk, if_pos rfl]
      exact night_pl cb la lo zo alt.1 alt.2 day k 2 pa pb qa qb 0 ub ua d0 (by omega) P1 P2 (Lib.hid Q2) (Lib.hid (LU (pa, ub) (by unfold Bu; simp only; omega))) (by simp [hk]) w cl ct ev tm
    · rw [if_neg (fun h => hk h.1), if_neg hk, if_neg hm]
      exact night_pp cb la lo zo alt.1 alt.2 day k m pa pb qa qb 0 0 0 d0 (by omega) P1 P2 (Lib.hid (LU (pa, qb) (by unfold Bu; simp only; omega))) (by simp [hk]) (by simp [hm]) w cl ct ev tm

/-- what Night returns -/
def ntP (la lo zo : Int) (alt : P2) (day : Int) : P2 := if okB la lo zo alt && frB day 0 39999 then Nw.niP alt la lo zo day else (0, 0)

set_option maxRecDepth 100000 in
set_option maxHeartbeats 4000000 in
theorem Night_no (la lo zo : Int) (alt : P2) (day : Int) (C1 : Hid (RetT 70 #[cv la lo zo alt, .int .i64 day, .int .i64 39999] (.int .i64 7))) (w : World) (ev : TabE w) (tm : TabM w) :
    Calls Tryd.prog 36 #[cv la lo zo alt, .int .i64 day] w fun e w' => e = .returned (.tuple #[en (0, 0), .int .i64 7]) ∧ Below w.heap.size w w' := by
  have hn : Below w.heap.size w ((w.alloc (.cells #[.int .i64 la, .int .i64 lo, .int .i64 zo, .int .i64 alt.1, .int .i64 alt.2] 53)).alloc (.cells #[.int .i64 0, .int .i64 0] 63)) := ((Below.refl _ _).alloc (Nat.le_refl _) _).alloc (by simp) _
  have ct : City w.heap.size la lo zo alt.1 alt.2 ((w.alloc (.cells #[.int .i64 la, .int .i64 lo, .int .i64 zo, .int .i64 alt.1, .int .i64 alt.2] 53)).alloc (.cells #[.int .i64 0, .int .i64 0] 63)) := (City.fresh _ _ _ _ _ _ _).alloc _
  have r : Box (w.heap.size + 1) 0 0 ((w.alloc (.cells #[.int .i64 la, .int .i64 lo, .int .i64 zo, .int .i64 alt.1, .int .i64 alt.2] 53)).alloc (.cells #[.int .i64 0, .int .i64 0] 63)) := Box.freshAt (by simp) _ _ _
  go_enter Tryd.func36, Tryd.ntmps36
  go_wp2_with fail
  refine fresh_call (fun W => City w.heap.size la lo zo alt.1 alt.2 W ∧ Box (w.heap.size + 1) 0 0 W ∧ TabE W ∧ TabM W ∧ Below w.heap.size w W) ⟨ct, r, ev.below hn, tm.below hn, hn⟩ ?_
  clear ct r ev tm hn
  rintro W1 ⟨ct, r, ev, tm, hb⟩
  refine (C1.out _).mono ?_
  rintro e v1 ⟨rfl, hq⟩
  have ct := ct.below hq
  have r := r.below hq
  have ev := ev.below hq
  have tm := tm.below hq
  have hb := hb.trans (hq.mono hb.size)
  clear hq
  obtain ⟨r0, r1, r2, r3, r4⟩ := r
  go_wp2_with fail
  exact bodyPost_ret (v := .tuple #[en (0, 0), .int .i64 7]) (by simp [results, Tryd.results36, go_sem, r0, r1, r2, r3, r4]) rfl ⟨rfl, (hb.setCell (by simp) _).setCell (by simp) _⟩
set_option maxRecDepth 100000 in
set_option maxHeartbeats 4000000 in
theorem Night_yes (la lo zo n0 n1 : Int) (alt : P2) (day : Int) (C1 : Hid (RetT 70 #[cv la lo zo alt, .int .i64 day, .int .i64 39999] (.int .i64 0)))
    (C2 : Hid (∀ (cb : Nat) (w : World), City cb la lo zo alt.1 alt.2 w → TabE w → TabM w → Calls Tryd.prog 71 #[.pointer (some ⟨cb, 0, none⟩), .int .i64 day] w fun e w' => e = .returned (en (n0, n1)) ∧ Below w.heap.size w w')) (w : World) (ev : TabE w) (tm : TabM w) :
    Calls Tryd.prog 36 #[cv la lo zo alt, .int .i64 day] w fun e w' => e = .returned (.tuple #[en (n0, n1), .int .i64 0]) ∧ Below w.heap.size w w' := by
  have hn : Below w.heap.size w ((w.alloc (.cells #[.int .i64 la, .int .i64 lo, .int .i64 zo, .int .i64 alt.1, .int .i64 alt.2] 53)).alloc (.cells #[.int .i64 0, .int .i64 0] 63)) := ((Below.refl _ _).alloc (Nat.le_refl _) _).alloc (by simp) _
  have ct : City w.heap.size la lo zo alt.1 alt.2 ((w.alloc (.cells #[.int .i64 la, .int .i64 lo, .int .i64 zo, .int .i64 alt.1, .int .i64 alt.2] 53)).alloc (.cells #[.int .i64 0, .int .i64 0] 63)) := (City.fresh _ _ _ _ _ _ _).alloc _
  have r : Box (w.heap.size + 1) 0 0 ((w.alloc (.cells #[.int .i64 la, .int .i64 lo, .int .i64 zo, .int .i64 alt.1, .int .i64 alt.2] 53)).alloc (.cells #[.int .i64 0, .int .i64 0] 63)) := Box.freshAt (by simp) _ _ _
  go_enter Tryd.func36, Tryd.ntmps36
  go_wp2_with fail
  refine fresh_call (fun W => City w.heap.size la lo zo alt.1 alt.2 W ∧ Box (w.heap.size + 1) 0 0 W ∧ TabE W ∧ TabM W ∧ Below w.heap.size w W) ⟨ct, r, ev.below hn, tm.below hn, hn⟩ ?_
  clear ct r ev tm hn
  rintro W1 ⟨ct, r, ev, tm, hb⟩
  refine (C1.out _).mono ?_
  rintro e v1 ⟨rfl, hq⟩
  have ct := ct.below hq
  have r := r.below hq
  have ev := ev.below hq
  have tm := tm.below hq
  have hb := hb.trans (hq.mono hb.size)
  clear hq
  go_wp2_with fail
  refine (C2.out _ _ ct ev tm).mono ?_
  rintro e v2 ⟨rfl, hq⟩
  have r := r.below hq
  have hb := hb.trans (hq.mono hb.size)
  clear hq ct ev tm
  obtain ⟨r0, r1, r2, r3, r4⟩ := r
  go_wp2_with fail
  exact bodyPost_ret (v := .tuple #[en (n0, n1), .int .i64 0]) (by simp [results, Tryd.results36, go_sem, r0, r1, r2, r3, r4]) rfl ⟨rfl, (hb.setCell (by simp) _).setCell (by simp) _⟩
theorem Night_any (la lo zo : Int) (alt : P2) (day : Int) (w : World) (ev : TabE w) (tm : TabM w) :
    Calls Tryd.prog 36 #[cv la lo zo alt, .int .i64 day] w fun e w' => e = .returned (.tuple #[en (ntP la lo zo alt day), .int .i64 (erE la lo zo alt day 39999)]) ∧ Below w.heap.size w w' := by
  have E1 := err_T la lo zo alt day 39999
  unfold ntP
  unfold erE at *
  cases h0 : (okB la lo zo alt && frB day 0 39999)
  · rw [h0] at E1
    exact Night_no la lo zo alt day (Lib.hid E1) w ev tm
  · rw [h0] at E1
    simp only [Bool.and_eq_true] at h0
    have b4 := frB_yes h0.2
    exact Night_yes la lo zo (Nw.niP alt la lo zo day).1 (Nw.niP alt la lo zo day).2 alt day (Lib.hid E1) (Lib.hid (fun cb w ct ev tm => night_any cb la lo zo day alt h0.1 b4.1 b4.2 w ct ev tm)) w ev tm
end Go.Proofs.YtjcgojbfjefbcaaDoor
