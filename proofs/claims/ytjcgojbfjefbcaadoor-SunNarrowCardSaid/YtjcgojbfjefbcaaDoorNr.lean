/- SunNarrow: the walk. -/
import Derived.Test.YtjcgojbfjefbcaaDoorNl
import Derived.Test.YtjcgojbfjefbcaaDoorPa
namespace Go.Proofs.YtjcgojbfjefbcaaDoor
set_option linter.unusedSimpArgs false
set_option linter.unusedVariables false
open Go.RowKit SineNear
attribute [local go_sem ↓] Go.wp_at_zero Go.wp_at_succ

theorem But.cel {l : List Nat} {c o : Nat} {v : Value} {W w : World} (h : But l W w) (x : Cel c o v W) (hn : c ∉ l) : Cel c o v w := ⟨(h.cell x.2 hn).trans x.1, Nat.lt_of_lt_of_le x.2 h.size⟩
set_option maxHeartbeats 4000000 in
theorem narrow_no (ea : Addr) (la lo zo a0 a1 day u v : Int) (w : World) (td : TabD ea w) (te : TabE w) (tm : TabM w) (C1 : Hid (RetT 38 #[cv la lo zo (a0, a1)] (.int .i64 7))) :
    Calls Tryd.prog 11 #[cv la lo zo (a0, a1), .int .i64 day, .agg #[.int .u8 u, .int .u8 v]] w fun e w' => e = .returned (.bool true) ∧ Below w.heap.size w w' := by
  have hn : Below w.heap.size w ((w.alloc (.cells #[.int .i64 la, .int .i64 lo, .int .i64 zo, .int .i64 a0, .int .i64 a1] 53)).alloc (.cells #[.int .u8 u, .int .u8 v] 71)) := ((Below.refl _ _).alloc (Nat.le_refl _) _).alloc (by simp) _
  have cc : City w.heap.size la lo zo a0 a1 ((w.alloc (.cells #[.int .i64 la, .int .i64 lo, .int .i64 zo, .int .i64 a0, .int .i64 a1] 53)).alloc (.cells #[.int .u8 u, .int .u8 v] 71)) := (City.fresh _ _ _ _ _ _ _).alloc _
  have c0 : Cel (w.heap.size + 1) 0 (.int .u8 u) ((w.alloc (.cells #[.int .i64 la, .int .i64 lo, .int .i64 zo, .int .i64 a0, .int .i64 a1] 53)).alloc (.cells #[.int .u8 u, .int .u8 v] 71)) := ⟨by simp [go_sem], by simp⟩
  have c1 : Cel (w.heap.size + 1) 1 (.int .u8 v) ((w.alloc (.cells #[.int .i64 la, .int .i64 lo, .int .i64 zo, .int .i64 a0, .int .i64 a1] 53)).alloc (.cells #[.int .u8 u, .int .u8 v] 71)) := ⟨by simp [go_sem], by simp⟩
  go_enter Tryd.func11, Tryd.ntmps11
  go_wp2_with fail
  refine fresh_call (fun W => City w.heap.size la lo zo a0 a1 W ∧ Cel (w.heap.size + 1) 0 (.int .u8 u) W ∧ Cel (w.heap.size + 1) 1 (.int .u8 v) W ∧ TabD ea W ∧ TabE W ∧ TabM W ∧ Below w.heap.size w W) ⟨cc, c0, c1, td.below hn, te.below hn, tm.below hn, hn⟩ ?_
  clear cc c0 c1 td te tm hn
  rintro W1 ⟨cc, c0, c1, td, te, tm, hb⟩
  refine (C1.out _).mono ?_
  rintro e w1 ⟨rfl, hq⟩
  have cc := cc.below hq
  have c0 := c0.below hq
  have c1 := c1.below hq
  have td := td.below hq
  have te := te.below hq
  have tm := tm.below hq
  have hb := hb.trans (hq.mono hb.size)
  clear hq
  clear C1
  go_wp2_with fail
  refine (awake_any ea _ td te).mono ?_
  rintro e w2 ⟨rfl, hq⟩
  have hb := hb.trans (hq.mono hb.size)
  clear hq
  clear td te
  go_wp2_with fail
  go_ret
  exact ⟨rfl, hb⟩

set_option maxRecDepth 100000 in
set_option maxHeartbeats 16000000 in
theorem narrow_e (ea : Addr) (la lo zo a0 a1 b0 b1 day u v K L X Y p0 p1 q0 q1 m0 m1 n0 n1 : Int) (w : World) (td : TabD ea w) (te : TabE w) (tm : TabM w) (C1 : Hid (RetT 38 #[cv la lo zo (a0, a1)] (.int .i64 0)))
    (u0 : 0 ≤ u) (u1 : u ≤ 255) (v0 : 0 ≤ v) (v1 : v ≤ 255) (ab : -18000000 ≤ a0 ∧ a0 ≤ a1 ∧ a1 ≤ 0) (eb0 : b0 = a0 + (a1 - a0) * min u v / 255) (eb1 : b1 = a0 + (a1 - a0) * max u v / 255)
    (S1 : Hid (∀ W, TabE W → Calls Tryd.prog 31 #[cv la lo zo (a0, a1), .int .i64 day] W fun e w' => e = .returned (trV K (p0, p1) X) ∧ Below W.heap.size W w'))
    (S2 : Hid (∀ W, TabE W → Calls Tryd.prog 31 #[cv la lo zo (b0, b1), .int .i64 day] W fun e w' => e = .returned (trV L (q0, q1) X) ∧ Below W.heap.size W w'))
    (N1 : Hid (∀ W, TabE W → TabM W → Calls Tryd.prog 36 #[cv la lo zo (a0, a1), .int .i64 day] W fun e w' => e = .returned (.tuple #[en (m0, m1), .int .i64 Y]) ∧ Below W.heap.size W w'))
    (N2 : Hid (∀ W, TabE W → TabM W → Calls Tryd.prog 36 #[cv la lo zo (b0, b1), .int .i64 day] W fun e w' => e = .returned (.tuple #[en (n0, n1), .int .i64 Y]) ∧ Below W.heap.size W w'))
    (mb : (-1000000000000 ≤ m0 ∧ m0 ≤ 1000000000000) ∧ (-1000000000000 ≤ m1 ∧ m1 ≤ 1000000000000)) (nb : (-1000000000000 ≤ n0 ∧ n0 ≤ 1000000000000) ∧ (-1000000000000 ≤ n1 ∧ n1 ≤ 1000000000000))
    (NF : (n0 = 0 ∧ n1 = 0 ∧ 0 ≤ m1 - m0) ∨ (¬ n0 = 0 ∧ m0 ≤ n0 ∧ n1 ≤ m1 ∧ n1 - n0 ≤ m1 - m0) ∨ (n0 = 0 ∧ ¬ n1 = 0 ∧ m0 ≤ 0 ∧ n1 ≤ m1 ∧ n1 ≤ m1 - m0))
(hX : X = 7) :
    Calls Tryd.prog 11 #[cv la lo zo (a0, a1), .int .i64 day, .agg #[.int .u8 u, .int .u8 v]] w fun e w' => e = .returned (.bool true) ∧ Below w.heap.size w w' := by
  obtain ⟨m_0, m_1, m_2, m_3, m_4, m_5, m_6⟩ := part_small ab.2.1 (show a1 - a0 ≤ 7200000000 by omega) u0 u1 v0 v1
  obtain ⟨ab0, ab1, ab2⟩ := ab
  obtain ⟨⟨mb0, mb1⟩, mb2, mb3⟩ := mb
  obtain ⟨⟨nb0, nb1⟩, nb2, nb3⟩ := nb
  have CX := lx_T b0 b1
  have CX : RetT 39 #[.int .i64 (a0 + (a1 - a0) * min u v / 255), .int .i64 (a0 + (a1 - a0) * max u v / 255)] (en (b0, b1)) := by rw [← eb0, ← eb1]; exact CX
  have CX := Lib.hid CX
  clear eb0 eb1
  have hn : Below w.heap.size w ((w.alloc (.cells #[.int .i64 la, .int .i64 lo, .int .i64 zo, .int .i64 a0, .int .i64 a1] 53)).alloc (.cells #[.int .u8 u, .int .u8 v] 71)) := ((Below.refl _ _).alloc (Nat.le_refl _) _).alloc (by simp) _
  have cc : City w.heap.size la lo zo a0 a1 ((w.alloc (.cells #[.int .i64 la, .int .i64 lo, .int .i64 zo, .int .i64 a0, .int .i64 a1] 53)).alloc (.cells #[.int .u8 u, .int .u8 v] 71)) := (City.fresh _ _ _ _ _ _ _).alloc _
  have c0 : Cel (w.heap.size + 1) 0 (.int .u8 u) ((w.alloc (.cells #[.int .i64 la, .int .i64 lo, .int .i64 zo, .int .i64 a0, .int .i64 a1] 53)).alloc (.cells #[.int .u8 u, .int .u8 v] 71)) := ⟨by simp [go_sem], by simp⟩
  have c1 : Cel (w.heap.size + 1) 1 (.int .u8 v) ((w.alloc (.cells #[.int .i64 la, .int .i64 lo, .int .i64 zo, .int .i64 a0, .int .i64 a1] 53)).alloc (.cells #[.int .u8 u, .int .u8 v] 71)) := ⟨by simp [go_sem], by simp⟩
  go_enter Tryd.func11, Tryd.ntmps11
  go_wp2_with fail
  refine fresh_call (fun W => City w.heap.size la lo zo a0 a1 W ∧ Cel (w.heap.size + 1) 0 (.int .u8 u) W ∧ Cel (w.heap.size + 1) 1 (.int .u8 v) W ∧ TabD ea W ∧ TabE W ∧ TabM W ∧ Below w.heap.size w W) ⟨cc, c0, c1, td.below hn, te.below hn, tm.below hn, hn⟩ ?_
  clear cc c0 c1 td te tm hn
  rintro W1 ⟨cc, c0, c1, td, te, tm, hb⟩
  refine (C1.out _).mono ?_
  rintro e w1 ⟨rfl, hq⟩
  have cc := cc.below hq
  have c0 := c0.below hq
  have c1 := c1.below hq
  have td := td.below hq
  have te := te.below hq
  have tm := tm.below hq
  have hb := hb.trans (hq.mono hb.size)
  clear hq
  clear C1
  have CC := Lib.hid cc
  obtain ⟨k0, k1, k2, k3, k4, k5⟩ := cc
  have kn : w.heap.size ≠ w1.heap.size := by omega
  go_wp2_with fail
  clear k0 k1 k2 k3 k4 k5 kn
  have cc := CC.out
  clear CC
  have hn : Below w1.heap.size w1 (w1.alloc (.cells #[.int .i64 a0, .int .i64 a1] 51)) := (Below.refl _ _).alloc (Nat.le_refl _) _
  refine fresh_world (fun W => City w.heap.size la lo zo a0 a1 W ∧ Cel (w.heap.size + 1) 0 (.int .u8 u) W ∧ Cel (w.heap.size + 1) 1 (.int .u8 v) W ∧ Box w1.heap.size a0 a1 W ∧ TabD ea W ∧ TabE W ∧ TabM W ∧ Below w.heap.size w W) ⟨cc.below hn, c0.below hn, c1.below hn, Box.fresh _ _ _ _, td.below hn, te.below hn, tm.below hn, hb.trans (hn.mono hb.size)⟩ ?_
  clear cc c0 c1 td te tm hb hn
  rintro W2 ⟨cc, c0, c1, x7, td, te, tm, hb⟩
  have hR : ∀ w', Below W2.heap.size W2 w' → Cel (w.heap.size + 1) 0 (.int .u8 u) w' ∧ Cel (w.heap.size + 1) 1 (.int .u8 v) w' := fun w' hq0 => ⟨c0.below hq0, c1.below hq0⟩
  have hG := good_below hR
  have y0 : IntKind.i64.wrap 0 = 0 := by decide
  have y1 : IntKind.i64.wrap 1 = 1 := by decide
  refine wp_region_G (R := fun w' => Cel (w.heap.size + 1) 0 (.int .u8 u) w' ∧ Cel (w.heap.size + 1) 1 (.int .u8 v) w') (fun w' => Below W2.heap.size W2 w') (by kernel_rfl) (Below.refl _ _).drew ?_
  refine wpAnyG_take (i := 0) (v := ?_) rfl (by kernel_rfl) (by kernel_rfl) (by kernel_rfl) hG rfl ?_ ?_
  rotate_left
  (focus (intro ww hSw; obtain ⟨⟨q0, q1⟩, ⟨s0, s1⟩⟩ := hSw; go_simp; (try with_reducible rfl)))
  (try simp only [Act.put, List.setIfInBounds_toArray, List.set_cons_zero, List.set_cons_succ, List.getElem_toArray, List.getElem_cons_zero, List.getElem_cons_succ])
  refine wpAnyG_take (i := 1) (v := ?_) rfl (by kernel_rfl) (by kernel_rfl) (by kernel_rfl) hG rfl ?_ ?_
  rotate_left
  (focus (intro ww hSw; obtain ⟨⟨q0, q1⟩, ⟨s0, s1⟩⟩ := hSw; go_simp; (try with_reducible rfl)))
  (try simp only [Act.put, List.setIfInBounds_toArray, List.set_cons_zero, List.set_cons_succ, List.getElem_toArray, List.getElem_cons_zero, List.getElem_cons_succ])
  refine wpAnyG_take (i := 2) (v := ?_) rfl (by kernel_rfl) (by kernel_rfl) (by kernel_rfl) hG rfl ?_ ?_
  rotate_left
  (focus (intro ww hSw; obtain ⟨⟨q0, q1⟩, ⟨s0, s1⟩⟩ := hSw; go_simp; (try with_reducible rfl)))
  (try simp only [Act.put, List.setIfInBounds_toArray, List.set_cons_zero, List.set_cons_succ, List.getElem_toArray, List.getElem_cons_zero, List.getElem_cons_succ])
  refine wpAnyG_take (i := 3) (v := ?_) rfl (by kernel_rfl) (by kernel_rfl) (by kernel_rfl) hG rfl ?_ ?_
  rotate_left
  (focus (intro ww hSw; obtain ⟨⟨q0, q1⟩, ⟨s0, s1⟩⟩ := hSw; go_simp; (try with_reducible rfl)))
  (try simp only [Act.put, List.setIfInBounds_toArray, List.set_cons_zero, List.set_cons_succ, List.getElem_toArray, List.getElem_cons_zero, List.getElem_cons_succ])
  refine wpAnyG_take (i := 4) (v := ?_) rfl (by kernel_rfl) (by kernel_rfl) (by kernel_rfl) hG rfl ?_ ?_
  rotate_left
  (focus (intro ww hSw; obtain ⟨⟨q0, q1⟩, ⟨s0, s1⟩⟩ := hSw; go_simp; (try with_reducible rfl)))
  (try simp only [Act.put, List.setIfInBounds_toArray, List.set_cons_zero, List.set_cons_succ, List.getElem_toArray, List.getElem_cons_zero, List.getElem_cons_succ])
  refine wpAnyG_take (i := 5) (v := ?_) rfl (by kernel_rfl) (by kernel_rfl) (by kernel_rfl) hG rfl ?_ ?_
  rotate_left
  (focus (intro ww hSw; obtain ⟨⟨q0, q1⟩, ⟨s0, s1⟩⟩ := hSw; go_simp; (try with_reducible rfl)))
  (try simp only [Act.put, List.setIfInBounds_toArray, List.set_cons_zero, List.set_cons_succ, List.getElem_toArray, List.getElem_cons_zero, List.getElem_cons_succ])
  refine wpAnyG_take (i := 6) (v := ?_) rfl (by kernel_rfl) (by kernel_rfl) (by kernel_rfl) hG rfl ?_ ?_
  rotate_left
  (focus (intro ww hSw; obtain ⟨⟨q0, q1⟩, ⟨s0, s1⟩⟩ := hSw; go_simp; (try with_reducible rfl)))
  (try simp only [Act.put, List.setIfInBounds_toArray, List.set_cons_zero, List.set_cons_succ, List.getElem_toArray, List.getElem_cons_zero, List.getElem_cons_succ])
  refine wpAnyG_take (i := 7) (v := ?_) rfl (by kernel_rfl) (by kernel_rfl) (by kernel_rfl) hG rfl ?_ ?_
  rotate_left
  (focus (intro ww hSw; obtain ⟨⟨q0, q1⟩, ⟨s0, s1⟩⟩ := hSw; go_simp; (try with_reducible rfl)))
  (try simp only [Act.put, List.setIfInBounds_toArray, List.set_cons_zero, List.set_cons_succ, List.getElem_toArray, List.getElem_cons_zero, List.getElem_cons_succ])
  refine wpAnyG_take (i := 8) (v := ?_) rfl (by kernel_rfl) (by kernel_rfl) (by kernel_rfl) hG rfl ?_ ?_
  rotate_left
  (focus (intro ww hSw; obtain ⟨⟨q0, q1⟩, ⟨s0, s1⟩⟩ := hSw; go_simp; (try with_reducible rfl)))
  (try simp only [Act.put, List.setIfInBounds_toArray, List.set_cons_zero, List.set_cons_succ, List.getElem_toArray, List.getElem_cons_zero, List.getElem_cons_succ])
  refine wpAnyG_take (i := 9) (v := ?_) rfl (by kernel_rfl) (by kernel_rfl) (by kernel_rfl) hG rfl ?_ ?_
  rotate_left
  (focus (intro ww hSw; obtain ⟨⟨q0, q1⟩, ⟨s0, s1⟩⟩ := hSw; go_simp; (try with_reducible rfl)))
  (try simp only [Act.put, List.setIfInBounds_toArray, List.set_cons_zero, List.set_cons_succ, List.getElem_toArray, List.getElem_cons_zero, List.getElem_cons_succ])
  refine wpAnyG_take (i := 10) (v := ?_) rfl (by kernel_rfl) (by kernel_rfl) (by kernel_rfl) hG rfl ?_ ?_
  rotate_left
  (focus (intro ww hSw; obtain ⟨⟨q0, q1⟩, ⟨s0, s1⟩⟩ := hSw; go_simp; (try with_reducible rfl)))
  (try simp only [Act.put, List.setIfInBounds_toArray, List.set_cons_zero, List.set_cons_succ, List.getElem_toArray, List.getElem_cons_zero, List.getElem_cons_succ])
  refine wpAnyG_take (i := 11) (v := ?_) rfl (by kernel_rfl) (by kernel_rfl) (by kernel_rfl) hG rfl ?_ ?_
  rotate_left
  (focus (intro ww hSw; obtain ⟨⟨q0, q1⟩, ⟨s0, s1⟩⟩ := hSw; go_simp; (try with_reducible rfl)))
  (try simp only [Act.put, List.setIfInBounds_toArray, List.set_cons_zero, List.set_cons_succ, List.getElem_toArray, List.getElem_cons_zero, List.getElem_cons_succ])
  refine wpAnyG_done (by kernel_rfl) ?_ _
  intro W3 hB
  clear hR hG y0 y1 c0 c1
  have cc := cc.below hB
  have x7 := x7.below hB
  have td := td.below hB
  have te := te.below hB
  have tm := tm.below hB
  have hb := hb.trans (hB.mono hb.size)
  clear hB
  have ccl := cc.lt
  have x7l := x7.lt
  have ml := tm.lt
  have el := te.lt
  have dl3 := (td.len 0 (by omega)).lt
  have dl0 := td.err.lt
  have CC := Lib.hid cc
  obtain ⟨k0, k1, k2, k3, k4, k5⟩ := cc
  have kn : w.heap.size ≠ W3.heap.size := by omega
  have X7 := Lib.hid x7
  obtain ⟨d0, d1, d2, d3, d4⟩ := x7
  have dn : w1.heap.size ≠ W3.heap.size := by omega
  go_wp2_with fail
  clear k0 k1 k2 k3 k4 k5 kn
  have cc := CC.out
  clear CC
  clear d0 d1 d2 d3 d4 dn
  have x7 := X7.out
  clear X7
  have C3 := Lib.hid cc
  refine (CX.out _).mono ?_
  rintro e w4 ⟨rfl, hq⟩
  have hn := (Below.refl W3.heap.size W3).alloc (Nat.le_refl _) (.cells #[.int .i64 la, .int .i64 lo, .int .i64 zo, .int .i64 a0, .int .i64 a1] 53)
  have cc := (cc.below hn).below hq
  have td := (td.below hn).below hq
  have te := (te.below hn).below hq
  have tm := (tm.below hn).below hq
  have hb := (hb.trans (hn.mono hb.size)).trans (hq.mono (hb.trans (hn.mono hb.size)).size)
  have hz : W3.heap.size < w4.heap.size := by have := hq.size; simp at this; omega
  obtain ⟨hc, hf⟩ := bcellB hq
  clear hq hn CX x7
  obtain ⟨k0, k1, k2, k3, k4, k5⟩ := C3.out
  have kn : w.heap.size ≠ W3.heap.size := by omega
  go_wp2_with fail
  clear C3 k0 k1 k2 k3 k4 k5 kn
  have BT : But [W3.heap.size] w4 ((w4.setCell ⟨W3.heap.size, 3, none⟩ (.int .i64 b0)).setCell ⟨W3.heap.size, 4, none⟩ (.int .i64 b1)) := ((But.of (Below.refl _ _)).set (by simp) _ _).set (by simp) _ _
  have cs : City W3.heap.size la lo zo b0 b1 ((w4.setCell ⟨W3.heap.size, 3, none⟩ (.int .i64 b0)).setCell ⟨W3.heap.size, 4, none⟩ (.int .i64 b1)) := by
    refine ⟨?_, ?_, ?_, ?_, ?_, by simpa using hz⟩ <;> simp [go_sem, hc, hz]
  have BW : Below w4.heap.size w4 w4 := Below.refl _ _
  have zz : w.heap.size ≤ W3.heap.size := by omega
  refine fresh_call (fun W => City w.heap.size la lo zo a0 a1 W ∧ City W3.heap.size la lo zo b0 b1 W ∧ TabD ea W ∧ TabE W ∧ TabM W ∧ Below w.heap.size w W) ⟨BT.city cc (by simp; omega), cs, ⟨fun i hi => BT.cel (td.len i hi) (by simp; omega), BT.cel td.err (by simp; omega)⟩, BT.half te (by simp; omega), BT.half tm (by simp; omega), BT.toBelow hb (Nat.le_refl _) (by intro k hk; simp at hk; omega)⟩ ?_
  clear BT BW cc cs td te tm hb hc hf ml el dl3 dl0
  rintro W5 ⟨cc, cs, td, te, tm, hb⟩
  refine (S1.out _ te).mono ?_
  rintro e w6 ⟨rfl, hq⟩
  have cc := cc.below hq
  have cs := cs.below hq
  have td := td.below hq
  have te := te.below hq
  have tm := tm.below hq
  have hb := hb.trans (hq.mono hb.size)
  clear hq
  clear S1
  have csl := cs.lt
  have CS := Lib.hid cs
  obtain ⟨k0, k1, k2, k3, k4, k5⟩ := cs
  have kn : W3.heap.size ≠ w6.heap.size := by omega
  go_wp2_with fail
  clear k0 k1 k2 k3 k4 k5 kn
  have cs := CS.out
  clear CS
  refine fresh_call (fun W => City w.heap.size la lo zo a0 a1 W ∧ City W3.heap.size la lo zo b0 b1 W ∧ TabD ea W ∧ TabE W ∧ TabM W ∧ Box w6.heap.size p0 p1 W ∧ Below w.heap.size w W) ⟨cc.alloc _, cs.alloc _, td.below ((Below.refl _ _).alloc (Nat.le_refl _) _), te.alloc _, tm.alloc _, Box.fresh _ _ _ _, hb.alloc hb.size _⟩ ?_
  clear cc cs td te tm hb
  rintro W7 ⟨cc, cs, td, te, tm, p12, hb⟩
  refine (S2.out _ te).mono ?_
  rintro e w8 ⟨rfl, hq⟩
  have cc := cc.below hq
  have cs := cs.below hq
  have td := td.below hq
  have te := te.below hq
  have tm := tm.below hq
  have p12 := p12.below hq
  have hb := hb.trans (hq.mono hb.size)
  clear hq
  clear S2
  have p12l := p12.lt
  have ccl2 := cc.lt
  subst hX
  have CC := Lib.hid cc
  obtain ⟨k0, k1, k2, k3, k4, k5⟩ := cc
  have kn : w.heap.size ≠ w8.heap.size := by omega
  have P12 := Lib.hid p12
  obtain ⟨d0, d1, d2, d3, d4⟩ := p12
  have dn : w6.heap.size ≠ w8.heap.size := by omega
  go_wp2_with fail
  clear k0 k1 k2 k3 k4 k5 kn
  have cc := CC.out
  clear CC
  clear d0 d1 d2 d3 d4 dn
  have p12 := P12.out
  clear P12
  have hn : Below w8.heap.size w8 (w8.alloc (.cells #[.int .i64 q0, .int .i64 q1] 51)) := (Below.refl _ _).alloc (Nat.le_refl _) _
  refine fresh_call (fun W => City w.heap.size la lo zo a0 a1 W ∧ City W3.heap.size la lo zo b0 b1 W ∧ TabD ea W ∧ TabE W ∧ TabM W ∧ Below w.heap.size w W) ⟨cc.below hn, cs.below hn, td.below hn, te.below hn, tm.below hn, hb.trans (hn.mono hb.size)⟩ ?_
  clear cc cs td te tm hb hn p12
  rintro W9 ⟨cc, cs, td, te, tm, hb⟩
  refine (N1.out _ te tm).mono ?_
  rintro e w10 ⟨rfl, hq⟩
  have cc := cc.below hq
  have cs := cs.below hq
  have td := td.below hq
  have te := te.below hq
  have tm := tm.below hq
  have hb := hb.trans (hq.mono hb.size)
  clear hq
  clear N1
  have csl3 := cs.lt
  have CS := Lib.hid cs
  obtain ⟨k0, k1, k2, k3, k4, k5⟩ := cs
  have kn : W3.heap.size ≠ w10.heap.size := by omega
  go_wp2_with fail
  clear k0 k1 k2 k3 k4 k5 kn
  have cs := CS.out
  clear CS
  refine fresh_call (fun W => TabD ea W ∧ TabE W ∧ TabM W ∧ Box w10.heap.size m0 m1 W ∧ Below w.heap.size w W) ⟨td.below ((Below.refl _ _).alloc (Nat.le_refl _) _), te.alloc _, tm.alloc _, Box.fresh _ _ _ _, hb.alloc hb.size _⟩ ?_
  clear cc cs td te tm hb
  rintro W11 ⟨td, te, tm, m17, hb⟩
  refine (N2.out _ te tm).mono ?_
  rintro e w12 ⟨rfl, hq⟩
  have td := td.below hq
  have te := te.below hq
  have m17 := m17.below hq
  have hb := hb.trans (hq.mono hb.size)
  clear hq
  clear N2 tm
  have m17l := m17.lt
  have M17 := Lib.hid m17
  obtain ⟨d0, d1, d2, d3, d4⟩ := m17
  have dn : w10.heap.size ≠ w12.heap.size := by omega
  have d5 : w10.heap.size < w12.heap.size := by omega
  rcases NF with ⟨rfl, rfl, hw⟩ | ⟨hne, h0, h1, hw⟩ | ⟨rfl, hne, h0, h1, hw⟩
  · go_wp2_with fail
    refine fresh_call (fun W => TabD ea W ∧ TabE W ∧ Below w.heap.size w W) ⟨td.below ((Below.refl _ _).alloc (Nat.le_refl _) _), te.alloc _, hb.alloc hb.size _⟩ ?_
    clear td te hb
    rintro W13 ⟨td, te, hb⟩
    refine (awake_any ea _ td te).mono ?_
    rintro e w14 ⟨rfl, hq⟩
    have hb := hb.trans (hq.mono hb.size)
    clear hq
    clear td te
    go_wp2_with fail
    go_ret
    exact ⟨rfl, hb⟩
  · go_wp2_with fail
    refine fresh_call (fun W => TabD ea W ∧ TabE W ∧ Below w.heap.size w W) ⟨td.below ((Below.refl _ _).alloc (Nat.le_refl _) _), te.alloc _, hb.alloc hb.size _⟩ ?_
    clear td te hb
    rintro W13 ⟨td, te, hb⟩
    refine (awake_any ea _ td te).mono ?_
    rintro e w14 ⟨rfl, hq⟩
    have hb := hb.trans (hq.mono hb.size)
    clear hq
    clear td te
    go_wp2_with fail
    go_ret
    exact ⟨rfl, hb⟩
  · go_wp2_with fail
    refine fresh_call (fun W => TabD ea W ∧ TabE W ∧ Below w.heap.size w W) ⟨td.below ((Below.refl _ _).alloc (Nat.le_refl _) _), te.alloc _, hb.alloc hb.size _⟩ ?_
    clear td te hb
    rintro W13 ⟨td, te, hb⟩
    refine (awake_any ea _ td te).mono ?_
    rintro e w14 ⟨rfl, hq⟩
    have hb := hb.trans (hq.mono hb.size)
    clear hq
    clear td te
    go_wp2_with fail
    go_ret
    exact ⟨rfl, hb⟩

set_option maxRecDepth 100000 in
set_option maxHeartbeats 16000000 in
theorem narrow_k (ea : Addr) (la lo zo a0 a1 b0 b1 day u v K L X Y p0 p1 q0 q1 m0 m1 n0 n1 : Int) (w : World) (td : TabD ea w) (te : TabE w) (tm : TabM w) (C1 : Hid (RetT 38 #[cv la lo zo (a0, a1)] (.int .i64 0)))
    (u0 : 0 ≤ u) (u1 : u ≤ 255) (v0 : 0 ≤ v) (v1 : v ≤ 255) (ab : -18000000 ≤ a0 ∧ a0 ≤ a1 ∧ a1 ≤ 0) (eb0 : b0 = a0 + (a1 - a0) * min u v / 255) (eb1 : b1 = a0 + (a1 - a0) * max u v / 255)
    (S1 : Hid (∀ W, TabE W → Calls Tryd.prog 31 #[cv la lo zo (a0, a1), .int .i64 day] W fun e w' => e = .returned (trV K (p0, p1) X) ∧ Below W.heap.size W w'))
    (S2 : Hid (∀ W, TabE W → Calls Tryd.prog 31 #[cv la lo zo (b0, b1), .int .i64 day] W fun e w' => e = .returned (trV L (q0, q1) X) ∧ Below W.heap.size W w'))
    (N1 : Hid (∀ W, TabE W → TabM W → Calls Tryd.prog 36 #[cv la lo zo (a0, a1), .int .i64 day] W fun e w' => e = .returned (.tuple #[en (m0, m1), .int .i64 Y]) ∧ Below W.heap.size W w'))
    (N2 : Hid (∀ W, TabE W → TabM W → Calls Tryd.prog 36 #[cv la lo zo (b0, b1), .int .i64 day] W fun e w' => e = .returned (.tuple #[en (n0, n1), .int .i64 Y]) ∧ Below W.heap.size W w'))
    (mb : (-1000000000000 ≤ m0 ∧ m0 ≤ 1000000000000) ∧ (-1000000000000 ≤ m1 ∧ m1 ≤ 1000000000000)) (nb : (-1000000000000 ≤ n0 ∧ n0 ≤ 1000000000000) ∧ (-1000000000000 ≤ n1 ∧ n1 ≤ 1000000000000))
    (NF : (n0 = 0 ∧ n1 = 0 ∧ 0 ≤ m1 - m0) ∨ (¬ n0 = 0 ∧ m0 ≤ n0 ∧ n1 ≤ m1 ∧ n1 - n0 ≤ m1 - m0) ∨ (n0 = 0 ∧ ¬ n1 = 0 ∧ m0 ≤ 0 ∧ n1 ≤ m1 ∧ n1 ≤ m1 - m0))
(hX : X = 0) (hK : (K == 0) = false) :
    Calls Tryd.prog 11 #[cv la lo zo (a0, a1), .int .i64 day, .agg #[.int .u8 u, .int .u8 v]] w fun e w' => e = .returned (.bool true) ∧ Below w.heap.size w w' := by
  obtain ⟨m_0, m_1, m_2, m_3, m_4, m_5, m_6⟩ := part_small ab.2.1 (show a1 - a0 ≤ 7200000000 by omega) u0 u1 v0 v1
  obtain ⟨ab0, ab1, ab2⟩ := ab
  obtain ⟨⟨mb0, mb1⟩, mb2, mb3⟩ := mb
  obtain ⟨⟨nb0, nb1⟩, nb2, nb3⟩ := nb
  have CX := lx_T b0 b1
  have CX : RetT 39 #[.int .i64 (a0 + (a1 - a0) * min u v / 255), .int .i64 (a0 + (a1 - a0) * max u v / 255)] (en (b0, b1)) := by rw [← eb0, ← eb1]; exact CX
  have CX := Lib.hid CX
  clear eb0 eb1
  have hn : Below w.heap.size w ((w.alloc (.cells #[.int .i64 la, .int .i64 lo, .int .i64 zo, .int .i64 a0, .int .i64 a1] 53)).alloc (.cells #[.int .u8 u, .int .u8 v] 71)) := ((Below.refl _ _).alloc (Nat.le_refl _) _).alloc (by simp) _
  have cc : City w.heap.size la lo zo a0 a1 ((w.alloc (.cells #[.int .i64 la, .int .i64 lo, .int .i64 zo, .int .i64 a0, .int .i64 a1] 53)).alloc (.cells #[.int .u8 u, .int .u8 v] 71)) := (City.fresh _ _ _ _ _ _ _).alloc _
  have c0 : Cel (w.heap.size + 1) 0 (.int .u8 u) ((w.alloc (.cells #[.int .i64 la, .int .i64 lo, .int .i64 zo, .int .i64 a0, .int .i64 a1] 53)).alloc (.cells #[.int .u8 u, .int .u8 v] 71)) := ⟨by simp [go_sem], by simp⟩
  have c1 : Cel (w.heap.size + 1) 1 (.int .u8 v) ((w.alloc (.cells #[.int .i64 la, .int .i64 lo, .int .i64 zo, .int .i64 a0, .int .i64 a1] 53)).alloc (.cells #[.int .u8 u, .int .u8 v] 71)) := ⟨by simp [go_sem], by simp⟩
  go_enter Tryd.func11, Tryd.ntmps11
  go_wp2_with fail
  refine fresh_call (fun W => City w.heap.size la lo zo a0 a1 W ∧ Cel (w.heap.size + 1) 0 (.int .u8 u) W ∧ Cel (w.heap.size + 1) 1 (.int .u8 v) W ∧ TabD ea W ∧ TabE W ∧ TabM W ∧ Below w.heap.size w W) ⟨cc, c0, c1, td.below hn, te.below hn, tm.below hn, hn⟩ ?_
  clear cc c0 c1 td te tm hn
  rintro W1 ⟨cc, c0, c1, td, te, tm, hb⟩
  refine (C1.out _).mono ?_
  rintro e w1 ⟨rfl, hq⟩
  have cc := cc.below hq
  have c0 := c0.below hq
  have c1 := c1.below hq
  have td := td.below hq
  have te := te.below hq
  have tm := tm.below hq
  have hb := hb.trans (hq.mono hb.size)
  clear hq
  clear C1
  have CC := Lib.hid cc
  obtain ⟨k0, k1, k2, k3, k4, k5⟩ := cc
  have kn : w.heap.size ≠ w1.heap.size := by omega
  go_wp2_with fail
  clear k0 k1 k2 k3 k4 k5 kn
  have cc := CC.out
  clear CC
  have hn : Below w1.heap.size w1 (w1.alloc (.cells #[.int .i64 a0, .int .i64 a1] 51)) := (Below.refl _ _).alloc (Nat.le_refl _) _
  refine fresh_world (fun W => City w.heap.size la lo zo a0 a1 W ∧ Cel (w.heap.size + 1) 0 (.int .u8 u) W ∧ Cel (w.heap.size + 1) 1 (.int .u8 v) W ∧ Box w1.heap.size a0 a1 W ∧ TabD ea W ∧ TabE W ∧ TabM W ∧ Below w.heap.size w W) ⟨cc.below hn, c0.below hn, c1.below hn, Box.fresh _ _ _ _, td.below hn, te.below hn, tm.below hn, hb.trans (hn.mono hb.size)⟩ ?_
  clear cc c0 c1 td te tm hb hn
  rintro W2 ⟨cc, c0, c1, x7, td, te, tm, hb⟩
  have hR : ∀ w', Below W2.heap.size W2 w' → Cel (w.heap.size + 1) 0 (.int .u8 u) w' ∧ Cel (w.heap.size + 1) 1 (.int .u8 v) w' := fun w' hq0 => ⟨c0.below hq0, c1.below hq0⟩
  have hG := good_below hR
  have y0 : IntKind.i64.wrap 0 = 0 := by decide
  have y1 : IntKind.i64.wrap 1 = 1 := by decide
  refine wp_region_G (R := fun w' => Cel (w.heap.size + 1) 0 (.int .u8 u) w' ∧ Cel (w.heap.size + 1) 1 (.int .u8 v) w') (fun w' => Below W2.heap.size W2 w') (by kernel_rfl) (Below.refl _ _).drew ?_
  refine wpAnyG_take (i := 0) (v := ?_) rfl (by kernel_rfl) (by kernel_rfl) (by kernel_rfl) hG rfl ?_ ?_
  rotate_left
  (focus (intro ww hSw; obtain ⟨⟨q0, q1⟩, ⟨s0, s1⟩⟩ := hSw; go_simp; (try with_reducible rfl)))
  (try simp only [Act.put, List.setIfInBounds_toArray, List.set_cons_zero, List.set_cons_succ, List.getElem_toArray, List.getElem_cons_zero, List.getElem_cons_succ])
  refine wpAnyG_take (i := 1) (v := ?_) rfl (by kernel_rfl) (by kernel_rfl) (by kernel_rfl) hG rfl ?_ ?_
  rotate_left
  (focus (intro ww hSw; obtain ⟨⟨q0, q1⟩, ⟨s0, s1⟩⟩ := hSw; go_simp; (try with_reducible rfl)))
  (try simp only [Act.put, List.setIfInBounds_toArray, List.set_cons_zero, List.set_cons_succ, List.getElem_toArray, List.getElem_cons_zero, List.getElem_cons_succ])
  refine wpAnyG_take (i := 2) (v := ?_) rfl (by kernel_rfl) (by kernel_rfl) (by kernel_rfl) hG rfl ?_ ?_
  rotate_left
  (focus (intro ww hSw; obtain ⟨⟨q0, q1⟩, ⟨s0, s1⟩⟩ := hSw; go_simp; (try with_reducible rfl)))
  (try simp only [Act.put, List.setIfInBounds_toArray, List.set_cons_zero, List.set_cons_succ, List.getElem_toArray, List.getElem_cons_zero, List.getElem_cons_succ])
  refine wpAnyG_take (i := 3) (v := ?_) rfl (by kernel_rfl) (by kernel_rfl) (by kernel_rfl) hG rfl ?_ ?_
  rotate_left
  (focus (intro ww hSw; obtain ⟨⟨q0, q1⟩, ⟨s0, s1⟩⟩ := hSw; go_simp; (try with_reducible rfl)))
  (try simp only [Act.put, List.setIfInBounds_toArray, List.set_cons_zero, List.set_cons_succ, List.getElem_toArray, List.getElem_cons_zero, List.getElem_cons_succ])
  refine wpAnyG_take (i := 4) (v := ?_) rfl (by kernel_rfl) (by kernel_rfl) (by kernel_rfl) hG rfl ?_ ?_
  rotate_left
  (focus (intro ww hSw; obtain ⟨⟨q0, q1⟩, ⟨s0, s1⟩⟩ := hSw; go_simp; (try with_reducible rfl)))
  (try simp only [Act.put, List.setIfInBounds_toArray, List.set_cons_zero, List.set_cons_succ, List.getElem_toArray, List.getElem_cons_zero, List.getElem_cons_succ])
  refine wpAnyG_take (i := 5) (v := ?_) rfl (by kernel_rfl) (by kernel_rfl) (by kernel_rfl) hG rfl ?_ ?_
  rotate_left
  (focus (intro ww hSw; obtain ⟨⟨q0, q1⟩, ⟨s0, s1⟩⟩ := hSw; go_simp; (try with_reducible rfl)))
  (try simp only [Act.put, List.setIfInBounds_toArray, List.set_cons_zero, List.set_cons_succ, List.getElem_toArray, List.getElem_cons_zero, List.getElem_cons_succ])
  refine wpAnyG_take (i := 6) (v := ?_) rfl (by kernel_rfl) (by kernel_rfl) (by kernel_rfl) hG rfl ?_ ?_
  rotate_left
  (focus (intro ww hSw; obtain ⟨⟨q0, q1⟩, ⟨s0, s1⟩⟩ := hSw; go_simp; (try with_reducible rfl)))
  (try simp only [Act.put, List.setIfInBounds_toArray, List.set_cons_zero, List.set_cons_succ, List.getElem_toArray, List.getElem_cons_zero, List.getElem_cons_succ])
  refine wpAnyG_take (i := 7) (v := ?_) rfl (by kernel_rfl) (by kernel_rfl) (by kernel_rfl) hG rfl ?_ ?_
  rotate_left
  (focus (intro ww hSw; obtain ⟨⟨q0, q1⟩, ⟨s0, s1⟩⟩ := hSw; go_simp; (try with_reducible rfl)))
  (try simp only [Act.put, List.setIfInBounds_toArray, List.set_cons_zero, List.set_cons_succ, List.getElem_toArray, List.getElem_cons_zero, List.getElem_cons_succ])
  refine wpAnyG_take (i := 8) (v := ?_) rfl (by kernel_rfl) (by kernel_rfl) (by kernel_rfl) hG rfl ?_ ?_
  rotate_left
  (focus (intro ww hSw; obtain ⟨⟨q0, q1⟩, ⟨s0, s1⟩⟩ := hSw; go_simp; (try with_reducible rfl)))
  (try simp only [Act.put, List.setIfInBounds_toArray, List.set_cons_zero, List.set_cons_succ, List.getElem_toArray, List.getElem_cons_zero, List.getElem_cons_succ])
  refine wpAnyG_take (i := 9) (v := ?_) rfl (by kernel_rfl) (by kernel_rfl) (by kernel_rfl) hG rfl ?_ ?_
  rotate_left
  (focus (intro ww hSw; obtain ⟨⟨q0, q1⟩, ⟨s0, s1⟩⟩ := hSw; go_simp; (try with_reducible rfl)))
  (try simp only [Act.put, List.setIfInBounds_toArray, List.set_cons_zero, List.set_cons_succ, List.getElem_toArray, List.getElem_cons_zero, List.getElem_cons_succ])
  refine wpAnyG_take (i := 10) (v := ?_) rfl (by kernel_rfl) (by kernel_rfl) (by kernel_rfl) hG rfl ?_ ?_
  rotate_left
  (focus (intro ww hSw; obtain ⟨⟨q0, q1⟩, ⟨s0, s1⟩⟩ := hSw; go_simp; (try with_reducible rfl)))
  (try simp only [Act.put, List.setIfInBounds_toArray, List.set_cons_zero, List.set_cons_succ, List.getElem_toArray, List.getElem_cons_zero, List.getElem_cons_succ])
  refine wpAnyG_take (i := 11) (v := ?_) rfl (by kernel_rfl) (by kernel_rfl) (by kernel_rfl) hG rfl ?_ ?_
  rotate_left
  (focus (intro ww hSw; obtain ⟨⟨q0, q1⟩, ⟨s0, s1⟩⟩ := hSw; go_simp; (try with_reducible rfl)))
  (try simp only [Act.put, List.setIfInBounds_toArray, List.set_cons_zero, List.set_cons_succ, List.getElem_toArray, List.getElem_cons_zero, List.getElem_cons_succ])
  refine wpAnyG_done (by kernel_rfl) ?_ _
  intro W3 hB
  clear hR hG y0 y1 c0 c1
  have cc := cc.below hB
  have x7 := x7.below hB
  have td := td.below hB
  have te := te.below hB
  have tm := tm.below hB
  have hb := hb.trans (hB.mono hb.size)
  clear hB
  have ccl := cc.lt
  have x7l := x7.lt
  have ml := tm.lt
  have el := te.lt
  have dl3 := (td.len 0 (by omega)).lt
  have dl0 := td.err.lt
  have CC := Lib.hid cc
  obtain ⟨k0, k1, k2, k3, k4, k5⟩ := cc
  have kn : w.heap.size ≠ W3.heap.size := by omega
  have X7 := Lib.hid x7
  obtain ⟨d0, d1, d2, d3, d4⟩ := x7
  have dn : w1.heap.size ≠ W3.heap.size := by omega
  go_wp2_with fail
  clear k0 k1 k2 k3 k4 k5 kn
  have cc := CC.out
  clear CC
  clear d0 d1 d2 d3 d4 dn
  have x7 := X7.out
  clear X7
  have C3 := Lib.hid cc
  refine (CX.out _).mono ?_
  rintro e w4 ⟨rfl, hq⟩
  have hn := (Below.refl W3.heap.size W3).alloc (Nat.le_refl _) (.cells #[.int .i64 la, .int .i64 lo, .int .i64 zo, .int .i64 a0, .int .i64 a1] 53)
  have cc := (cc.below hn).below hq
  have td := (td.below hn).below hq
  have te := (te.below hn).below hq
  have tm := (tm.below hn).below hq
  have hb := (hb.trans (hn.mono hb.size)).trans (hq.mono (hb.trans (hn.mono hb.size)).size)
  have hz : W3.heap.size < w4.heap.size := by have := hq.size; simp at this; omega
  obtain ⟨hc, hf⟩ := bcellB hq
  clear hq hn CX x7
  obtain ⟨k0, k1, k2, k3, k4, k5⟩ := C3.out
  have kn : w.heap.size ≠ W3.heap.size := by omega
  go_wp2_with fail
  clear C3 k0 k1 k2 k3 k4 k5 kn
  have BT : But [W3.heap.size] w4 ((w4.setCell ⟨W3.heap.size, 3, none⟩ (.int .i64 b0)).setCell ⟨W3.heap.size, 4, none⟩ (.int .i64 b1)) := ((But.of (Below.refl _ _)).set (by simp) _ _).set (by simp) _ _
  have cs : City W3.heap.size la lo zo b0 b1 ((w4.setCell ⟨W3.heap.size, 3, none⟩ (.int .i64 b0)).setCell ⟨W3.heap.size, 4, none⟩ (.int .i64 b1)) := by
    refine ⟨?_, ?_, ?_, ?_, ?_, by simpa using hz⟩ <;> simp [go_sem, hc, hz]
  have BW : Below w4.heap.size w4 w4 := Below.refl _ _
  have zz : w.heap.size ≤ W3.heap.size := by omega
  refine fresh_call (fun W => City w.heap.size la lo zo a0 a1 W ∧ City W3.heap.size la lo zo b0 b1 W ∧ TabD ea W ∧ TabE W ∧ TabM W ∧ Below w.heap.size w W) ⟨BT.city cc (by simp; omega), cs, ⟨fun i hi => BT.cel (td.len i hi) (by simp; omega), BT.cel td.err (by simp; omega)⟩, BT.half te (by simp; omega), BT.half tm (by simp; omega), BT.toBelow hb (Nat.le_refl _) (by intro k hk; simp at hk; omega)⟩ ?_
  clear BT BW cc cs td te tm hb hc hf ml el dl3 dl0
  rintro W5 ⟨cc, cs, td, te, tm, hb⟩
  refine (S1.out _ te).mono ?_
  rintro e w6 ⟨rfl, hq⟩
  have cc := cc.below hq
  have cs := cs.below hq
  have td := td.below hq
  have te := te.below hq
  have tm := tm.below hq
  have hb := hb.trans (hq.mono hb.size)
  clear hq
  clear S1
  have csl := cs.lt
  have CS := Lib.hid cs
  obtain ⟨k0, k1, k2, k3, k4, k5⟩ := cs
  have kn : W3.heap.size ≠ w6.heap.size := by omega
  go_wp2_with fail
  clear k0 k1 k2 k3 k4 k5 kn
  have cs := CS.out
  clear CS
  refine fresh_call (fun W => City w.heap.size la lo zo a0 a1 W ∧ City W3.heap.size la lo zo b0 b1 W ∧ TabD ea W ∧ TabE W ∧ TabM W ∧ Box w6.heap.size p0 p1 W ∧ Below w.heap.size w W) ⟨cc.alloc _, cs.alloc _, td.below ((Below.refl _ _).alloc (Nat.le_refl _) _), te.alloc _, tm.alloc _, Box.fresh _ _ _ _, hb.alloc hb.size _⟩ ?_
  clear cc cs td te tm hb
  rintro W7 ⟨cc, cs, td, te, tm, p12, hb⟩
  refine (S2.out _ te).mono ?_
  rintro e w8 ⟨rfl, hq⟩
  have cc := cc.below hq
  have cs := cs.below hq
  have td := td.below hq
  have te := te.below hq
  have tm := tm.below hq
  have p12 := p12.below hq
  have hb := hb.trans (hq.mono hb.size)
  clear hq
  clear S2
  have p12l := p12.lt
  have ccl2 := cc.lt
  subst hX
  have CC := Lib.hid cc
  obtain ⟨k0, k1, k2, k3, k4, k5⟩ := cc
  have kn : w.heap.size ≠ w8.heap.size := by omega
  have P12 := Lib.hid p12
  obtain ⟨d0, d1, d2, d3, d4⟩ := p12
  have dn : w6.heap.size ≠ w8.heap.size := by omega
  go_wp2_with fail
  clear k0 k1 k2 k3 k4 k5 kn
  have cc := CC.out
  clear CC
  clear d0 d1 d2 d3 d4 dn
  have p12 := P12.out
  clear P12
  have hn : Below w8.heap.size w8 (w8.alloc (.cells #[.int .i64 q0, .int .i64 q1] 51)) := (Below.refl _ _).alloc (Nat.le_refl _) _
  refine fresh_call (fun W => City w.heap.size la lo zo a0 a1 W ∧ City W3.heap.size la lo zo b0 b1 W ∧ TabD ea W ∧ TabE W ∧ TabM W ∧ Below w.heap.size w W) ⟨cc.below hn, cs.below hn, td.below hn, te.below hn, tm.below hn, hb.trans (hn.mono hb.size)⟩ ?_
  clear cc cs td te tm hb hn p12
  rintro W9 ⟨cc, cs, td, te, tm, hb⟩
  refine (N1.out _ te tm).mono ?_
  rintro e w10 ⟨rfl, hq⟩
  have cc := cc.below hq
  have cs := cs.below hq
  have td := td.below hq
  have te := te.below hq
  have tm := tm.below hq
  have hb := hb.trans (hq.mono hb.size)
  clear hq
  clear N1
  have csl3 := cs.lt
  have CS := Lib.hid cs
  obtain ⟨k0, k1, k2, k3, k4, k5⟩ := cs
  have kn : W3.heap.size ≠ w10.heap.size := by omega
  go_wp2_with fail
  clear k0 k1 k2 k3 k4 k5 kn
  have cs := CS.out
  clear CS
  refine fresh_call (fun W => TabD ea W ∧ TabE W ∧ TabM W ∧ Box w10.heap.size m0 m1 W ∧ Below w.heap.size w W) ⟨td.below ((Below.refl _ _).alloc (Nat.le_refl _) _), te.alloc _, tm.alloc _, Box.fresh _ _ _ _, hb.alloc hb.size _⟩ ?_
  clear cc cs td te tm hb
  rintro W11 ⟨td, te, tm, m17, hb⟩
  refine (N2.out _ te tm).mono ?_
  rintro e w12 ⟨rfl, hq⟩
  have td := td.below hq
  have te := te.below hq
  have m17 := m17.below hq
  have hb := hb.trans (hq.mono hb.size)
  clear hq
  clear N2 tm
  have m17l := m17.lt
  have M17 := Lib.hid m17
  obtain ⟨d0, d1, d2, d3, d4⟩ := m17
  have dn : w10.heap.size ≠ w12.heap.size := by omega
  have d5 : w10.heap.size < w12.heap.size := by omega
  rcases NF with ⟨rfl, rfl, hw⟩ | ⟨hne, h0, h1, hw⟩ | ⟨rfl, hne, h0, h1, hw⟩
  · go_wp2_with fail
    refine fresh_call (fun W => TabD ea W ∧ TabE W ∧ Below w.heap.size w W) ⟨td.below ((Below.refl _ _).alloc (Nat.le_refl _) _), te.alloc _, hb.alloc hb.size _⟩ ?_
    clear td te hb
    rintro W13 ⟨td, te, hb⟩
    refine (awake_any ea _ td te).mono ?_
    rintro e w14 ⟨rfl, hq⟩
    have hb := hb.trans (hq.mono hb.size)
    clear hq
    clear td te
    go_wp2_with fail
    go_ret
    exact ⟨rfl, hb⟩
  · go_wp2_with fail
    refine fresh_call (fun W => TabD ea W ∧ TabE W ∧ Below w.heap.size w W) ⟨td.below ((Below.refl _ _).alloc (Nat.le_refl _) _), te.alloc _, hb.alloc hb.size _⟩ ?_
    clear td te hb
    rintro W13 ⟨td, te, hb⟩
    refine (awake_any ea _ td te).mono ?_
    rintro e w14 ⟨rfl, hq⟩
    have hb := hb.trans (hq.mono hb.size)
    clear hq
    clear td te
    go_wp2_with fail
    go_ret
    exact ⟨rfl, hb⟩
  · go_wp2_with fail
    refine fresh_call (fun W => TabD ea W ∧ TabE W ∧ Below w.heap.size w W) ⟨td.below ((Below.refl _ _).alloc (Nat.le_refl _) _), te.alloc _, hb.alloc hb.size _⟩ ?_
    clear td te hb
    rintro W13 ⟨td, te, hb⟩
    refine (awake_any ea _ td te).mono ?_
    rintro e w14 ⟨rfl, hq⟩
    have hb := hb.trans (hq.mono hb.size)
    clear hq
    clear td te
    go_wp2_with fail
    go_ret
    exact ⟨rfl, hb⟩

set_option maxRecDepth 100000 in
set_option maxHeartbeats 16000000 in
theorem narrow_w (ea : Addr) (la lo zo a0 a1 b0 b1 day u v K L X Y p0 p1 q0 q1 m0 m1 n0 n1 : Int) (w : World) (td : TabD ea w) (te : TabE w) (tm : TabM w) (C1 : Hid (RetT 38 #[cv la lo zo (a0, a1)] (.int .i64 0)))
    (u0 : 0 ≤ u) (u1 : u ≤ 255) (v0 : 0 ≤ v) (v1 : v ≤ 255) (ab : -18000000 ≤ a0 ∧ a0 ≤ a1 ∧ a1 ≤ 0) (eb0 : b0 = a0 + (a1 - a0) * min u v / 255) (eb1 : b1 = a0 + (a1 - a0) * max u v / 255)
    (S1 : Hid (∀ W, TabE W → Calls Tryd.prog 31 #[cv la lo zo (a0, a1), .int .i64 day] W fun e w' => e = .returned (trV K (p0, p1) X) ∧ Below W.heap.size W w'))
    (S2 : Hid (∀ W, TabE W → Calls Tryd.prog 31 #[cv la lo zo (b0, b1), .int .i64 day] W fun e w' => e = .returned (trV L (q0, q1) X) ∧ Below W.heap.size W w'))
    (N1 : Hid (∀ W, TabE W → TabM W → Calls Tryd.prog 36 #[cv la lo zo (a0, a1), .int .i64 day] W fun e w' => e = .returned (.tuple #[en (m0, m1), .int .i64 Y]) ∧ Below W.heap.size W w'))
    (N2 : Hid (∀ W, TabE W → TabM W → Calls Tryd.prog 36 #[cv la lo zo (b0, b1), .int .i64 day] W fun e w' => e = .returned (.tuple #[en (n0, n1), .int .i64 Y]) ∧ Below W.heap.size W w'))
    (mb : (-1000000000000 ≤ m0 ∧ m0 ≤ 1000000000000) ∧ (-1000000000000 ≤ m1 ∧ m1 ≤ 1000000000000)) (nb : (-1000000000000 ≤ n0 ∧ n0 ≤ 1000000000000) ∧ (-1000000000000 ≤ n1 ∧ n1 ≤ 1000000000000))
    (NF : (n0 = 0 ∧ n1 = 0 ∧ 0 ≤ m1 - m0) ∨ (¬ n0 = 0 ∧ m0 ≤ n0 ∧ n1 ≤ m1 ∧ n1 - n0 ≤ m1 - m0) ∨ (n0 = 0 ∧ ¬ n1 = 0 ∧ m0 ≤ 0 ∧ n1 ≤ m1 ∧ n1 ≤ m1 - m0))
(hX : X = 0) (hK : K = 0) (hL : L = 0) (WI : Hid (RetT 41 #[en (q0, q1), en (p0, p1)] (.bool true))) :
    Calls Tryd.prog 11 #[cv la lo zo (a0, a1), .int .i64 day, .agg #[.int .u8 u, .int .u8 v]] w fun e w' => e = .returned (.bool true) ∧ Below w.heap.size w w' := by
  obtain ⟨m_0, m_1, m_2, m_3, m_4, m_5, m_6⟩ := part_small ab.2.1 (show a1 - a0 ≤ 7200000000 by omega) u0 u1 v0 v1
  obtain ⟨ab0, ab1, ab2⟩ := ab
  obtain ⟨⟨mb0, mb1⟩, mb2, mb3⟩ := mb
  obtain ⟨⟨nb0, nb1⟩, nb2, nb3⟩ := nb
  have CX := lx_T b0 b1
  have CX : RetT 39 #[.int .i64 (a0 + (a1 - a0) * min u v / 255), .int .i64 (a0 + (a1 - a0) * max u v / 255)] (en (b0, b1)) := by rw [← eb0, ← eb1]; exact CX
  have CX := Lib.hid CX
  clear eb0 eb1
  have hn : Below w.heap.size w ((w.alloc (.cells #[.int .i64 la, .int .i64 lo, .int .i64 zo, .int .i64 a0, .int .i64 a1] 53)).alloc (.cells #[.int .u8 u, .int .u8 v] 71)) := ((Below.refl _ _).alloc (Nat.le_refl _) _).alloc (by simp) _
  have cc : City w.heap.size la lo zo a0 a1 ((w.alloc (.cells #[.int .i64 la, .int .i64 lo, .int .i64 zo, .int .i64 a0, .int .i64 a1] 53)).alloc (.cells #[.int .u8 u, .int .u8 v] 71)) := (City.fresh _ _ _ _ _ _ _).alloc _
  have c0 : Cel (w.heap.size + 1) 0 (.int .u8 u) ((w.alloc (.cells #[.int .i64 la, .int .i64 lo, .int .i64 zo, .int .i64 a0, .int .i64 a1] 53)).alloc (.cells #[.int .u8 u, .int .u8 v] 71)) := ⟨by simp [go_sem], by simp⟩
  have c1 : Cel (w.heap.size + 1) 1 (.int .u8 v) ((w.alloc (.cells #[.int .i64 la, .int .i64 lo, .int .i64 zo, .int .i64 a0, .int .i64 a1] 53)).alloc (.cells #[.int .u8 u, .int .u8 v] 71)) := ⟨by simp [go_sem], by simp⟩
  go_enter Tryd.func11, Tryd.ntmps11
  go_wp2_with fail
  refine fresh_call (fun W => City w.heap.size la lo zo a0 a1 W ∧ Cel (w.heap.size + 1) 0 (.int .u8 u) W ∧ Cel (w.heap.size + 1) 1 (.int .u8 v) W ∧ TabD ea W ∧ TabE W ∧ TabM W ∧ Below w.heap.size w W) ⟨cc, c0, c1, td.below hn, te.below hn, tm.below hn, hn⟩ ?_
  clear cc c0 c1 td te tm hn
  rintro W1 ⟨cc, c0, c1, td, te, tm, hb⟩
  refine (C1.out _).mono ?_
  rintro e w1 ⟨rfl, hq⟩
  have cc := cc.below hq
  have c0 := c0.below hq
  have c1 := c1.below hq
  have td := td.below hq
  have te := te.below hq
  have tm := tm.below hq
  have hb := hb.trans (hq.mono hb.size)
  clear hq
  clear C1
  have CC := Lib.hid cc
  obtain ⟨k0, k1, k2, k3, k4, k5⟩ := cc
  have kn : w.heap.size ≠ w1.heap.size := by omega
  go_wp2_with fail
  clear k0 k1 k2 k3 k4 k5 kn
  have cc := CC.out
  clear CC
  have hn : Below w1.heap.size w1 (w1.alloc (.cells #[.int .i64 a0, .int .i64 a1] 51)) := (Below.refl _ _).alloc (Nat.le_refl _) _
  refine fresh_world (fun W => City w.heap.size la lo zo a0 a1 W ∧ Cel (w.heap.size + 1) 0 (.int .u8 u) W ∧ Cel (w.heap.size + 1) 1 (.int .u8 v) W ∧ Box w1.heap.size a0 a1 W ∧ TabD ea W ∧ TabE W ∧ TabM W ∧ Below w.heap.size w W) ⟨cc.below hn, c0.below hn, c1.below hn, Box.fresh _ _ _ _, td.below hn, te.below hn, tm.below hn, hb.trans (hn.mono hb.size)⟩ ?_
  clear cc c0 c1 td te tm hb hn
  rintro W2 ⟨cc, c0, c1, x7, td, te, tm, hb⟩
  have hR : ∀ w', Below W2.heap.size W2 w' → Cel (w.heap.size + 1) 0 (.int .u8 u) w' ∧ Cel (w.heap.size + 1) 1 (.int .u8 v) w' := fun w' hq0 => ⟨c0.below hq0, c1.below hq0⟩
  have hG := good_below hR
  have y0 : IntKind.i64.wrap 0 = 0 := by decide
  have y1 : IntKind.i64.wrap 1 = 1 := by decide
  refine wp_region_G (R := fun w' => Cel (w.heap.size + 1) 0 (.int .u8 u) w' ∧ Cel (w.heap.size + 1) 1 (.int .u8 v) w') (fun w' => Below W2.heap.size W2 w') (by kernel_rfl) (Below.refl _ _).drew ?_
  refine wpAnyG_take (i := 0) (v := ?_) rfl (by kernel_rfl) (by kernel_rfl) (by kernel_rfl) hG rfl ?_ ?_
  rotate_left
  (focus (intro ww hSw; obtain ⟨⟨q0, q1⟩, ⟨s0, s1⟩⟩ := hSw; go_simp; (try with_reducible rfl)))
  (try simp only [Act.put, List.setIfInBounds_toArray, List.set_cons_zero, List.set_cons_succ, List.getElem_toArray, List.getElem_cons_zero, List.getElem_cons_succ])
  refine wpAnyG_take (i := 1) (v := ?_) rfl (by kernel_rfl) (by kernel_rfl) (by kernel_rfl) hG rfl ?_ ?_
  rotate_left
  (focus (intro ww hSw; obtain ⟨⟨q0, q1⟩, ⟨s0, s1⟩⟩ := hSw; go_simp; (try with_reducible rfl)))
  (try simp only [Act.put, List.setIfInBounds_toArray, List.set_cons_zero, List.set_cons_succ, List.getElem_toArray, List.getElem_cons_zero, List.getElem_cons_succ])
  refine wpAnyG_take (i := 2) (v := ?_) rfl (by kernel_rfl) (by kernel_rfl) (by kernel_rfl) hG rfl ?_ ?_
  rotate_left
  (focus (intro ww hSw; obtain ⟨⟨q0, q1⟩, ⟨s0, s1⟩⟩ := hSw; go_simp; (try with_reducible rfl)))
  (try simp only [Act.put, List.setIfInBounds_toArray, List.set_cons_zero, List.set_cons_succ, List.getElem_toArray, List.getElem_cons_zero, List.getElem_cons_succ])
  refine wpAnyG_take (i := 3) (v := ?_) rfl (by kernel_rfl) (by kernel_rfl) (by kernel_rfl) hG rfl ?_ ?_
  rotate_left
  (focus (intro ww hSw; obtain ⟨⟨q0, q1⟩, ⟨s0, s1⟩⟩ := hSw; go_simp; (try with_reducible rfl)))
  (try simp only [Act.put, List.setIfInBounds_toArray, List.set_cons_zero, List.set_cons_succ, List.getElem_toArray, List.getElem_cons_zero, List.getElem_cons_succ])
  refine wpAnyG_take (i := 4) (v := ?_) rfl (by kernel_rfl) (by kernel_rfl) (by kernel_rfl) hG rfl ?_ ?_
  rotate_left
  (focus (intro ww hSw; obtain ⟨⟨q0, q1⟩, ⟨s0, s1⟩⟩ := hSw; go_simp; (try with_reducible rfl)))
  (try simp only [Act.put, List.setIfInBounds_toArray, List.set_cons_zero, List.set_cons_succ, List.getElem_toArray, List.getElem_cons_zero, List.getElem_cons_succ])
  refine wpAnyG_take (i := 5) (v := ?_) rfl (by kernel_rfl) (by kernel_rfl) (by kernel_rfl) hG rfl ?_ ?_
  rotate_left
  (focus (intro ww hSw; obtain ⟨⟨q0, q1⟩, ⟨s0, s1⟩⟩ := hSw; go_simp; (try with_reducible rfl)))
  (try simp only [Act.put, List.setIfInBounds_toArray, List.set_cons_zero, List.set_cons_succ, List.getElem_toArray, List.getElem_cons_zero, List.getElem_cons_succ])
  refine wpAnyG_take (i := 6) (v := ?_) rfl (by kernel_rfl) (by kernel_rfl) (by kernel_rfl) hG rfl ?_ ?_
  rotate_left
  (focus (intro ww hSw; obtain ⟨⟨q0, q1⟩, ⟨s0, s1⟩⟩ := hSw; go_simp; (try with_reducible rfl)))
  (try simp only [Act.put, List.setIfInBounds_toArray, List.set_cons_zero, List.set_cons_succ, List.getElem_toArray, List.getElem_cons_zero, List.getElem_cons_succ])
  refine wpAnyG_take (i := 7) (v := ?_) rfl (by kernel_rfl) (by kernel_rfl) (by kernel_rfl) hG rfl ?_ ?_
  rotate_left
  (focus (intro ww hSw; obtain ⟨⟨q0, q1⟩, ⟨s0, s1⟩⟩ := hSw; go_simp; (try with_reducible rfl)))
  (try simp only [Act.put, List.setIfInBounds_toArray, List.set_cons_zero, List.set_cons_succ, List.getElem_toArray, List.getElem_cons_zero, List.getElem_cons_succ])
  refine wpAnyG_take (i := 8) (v := ?_) rfl (by kernel_rfl) (by kernel_rfl) (by kernel_rfl) hG rfl ?_ ?_
  rotate_left
  (focus (intro ww hSw; obtain ⟨⟨q0, q1⟩, ⟨s0, s1⟩⟩ := hSw; go_simp; (try with_reducible rfl)))
  (try simp only [Act.put, List.setIfInBounds_toArray, List.set_cons_zero, List.set_cons_succ, List.getElem_toArray, List.getElem_cons_zero, List.getElem_cons_succ])
  refine wpAnyG_take (i := 9) (v := ?_) rfl (by kernel_rfl) (by kernel_rfl) (by kernel_rfl) hG rfl ?_ ?_
  rotate_left
  (focus (intro ww hSw; obtain ⟨⟨q0, q1⟩, ⟨s0, s1⟩⟩ := hSw; go_simp; (try with_reducible rfl)))
  (try simp only [Act.put, List.setIfInBounds_toArray, List.set_cons_zero, List.set_cons_succ, List.getElem_toArray, List.getElem_cons_zero, List.getElem_cons_succ])
  refine wpAnyG_take (i := 10) (v := ?_) rfl (by kernel_rfl) (by kernel_rfl) (by kernel_rfl) hG rfl ?_ ?_
  rotate_left
  (focus (intro ww hSw; obtain ⟨⟨q0, q1⟩, ⟨s0, s1⟩⟩ := hSw; go_simp; (try with_reducible rfl)))
  (try simp only [Act.put, List.setIfInBounds_toArray, List.set_cons_zero, List.set_cons_succ, List.getElem_toArray, List.getElem_cons_zero, List.getElem_cons_succ])
  refine wpAnyG_take (i := 11) (v := ?_) rfl (by kernel_rfl) (by kernel_rfl) (by kernel_rfl) hG rfl ?_ ?_
  rotate_left
  (focus (intro ww hSw; obtain ⟨⟨q0, q1⟩, ⟨s0, s1⟩⟩ := hSw; go_simp; (try with_reducible rfl)))
  (try simp only [Act.put, List.setIfInBounds_toArray, List.set_cons_zero, List.set_cons_succ, List.getElem_toArray, List.getElem_cons_zero, List.getElem_cons_succ])
  refine wpAnyG_done (by kernel_rfl) ?_ _
  intro W3 hB
  clear hR hG y0 y1 c0 c1
  have cc := cc.below hB
  have x7 := x7.below hB
  have td := td.below hB
  have te := te.below hB
  have tm := tm.below hB
  have hb := hb.trans (hB.mono hb.size)
  clear hB
  have ccl := cc.lt
  have x7l := x7.lt
  have ml := tm.lt
  have el := te.lt
  have dl3 := (td.len 0 (by omega)).lt
  have dl0 := td.err.lt
  have CC := Lib.hid cc
  obtain ⟨k0, k1, k2, k3, k4, k5⟩ := cc
  have kn : w.heap.size ≠ W3.heap.size := by omega
  have X7 := Lib.hid x7
  obtain ⟨d0, d1, d2, d3, d4⟩ := x7
  have dn : w1.heap.size ≠ W3.heap.size := by omega
  go_wp2_with fail
  clear k0 k1 k2 k3 k4 k5 kn
  have cc := CC.out
  clear CC
  clear d0 d1 d2 d3 d4 dn
  have x7 := X7.out
  clear X7
  have C3 := Lib.hid cc
  refine (CX.out _).mono ?_
  rintro e w4 ⟨rfl, hq⟩
  have hn := (Below.refl W3.heap.size W3).alloc (Nat.le_refl _) (.cells #[.int .i64 la, .int .i64 lo, .int .i64 zo, .int .i64 a0, .int .i64 a1] 53)
  have cc := (cc.below hn).below hq
  have td := (td.below hn).below hq
  have te := (te.below hn).below hq
  have tm := (tm.below hn).below hq
  have hb := (hb.trans (hn.mono hb.size)).trans (hq.mono (hb.trans (hn.mono hb.size)).size)
  have hz : W3.heap.size < w4.heap.size := by have := hq.size; simp at this; omega
  obtain ⟨hc, hf⟩ := bcellB hq
  clear hq hn CX x7
  obtain ⟨k0, k1, k2, k3, k4, k5⟩ := C3.out
  have kn : w.heap.size ≠ W3.heap.size := by omega
  go_wp2_with fail
  clear C3 k0 k1 k2 k3 k4 k5 kn
  have BT : But [W3.heap.size] w4 ((w4.setCell ⟨W3.heap.size, 3, none⟩ (.int .i64 b0)).setCell ⟨W3.heap.size, 4, none⟩ (.int .i64 b1)) := ((But.of (Below.refl _ _)).set (by simp) _ _).set (by simp) _ _
  have cs : City W3.heap.size la lo zo b0 b1 ((w4.setCell ⟨W3.heap.size, 3, none⟩ (.int .i64 b0)).setCell ⟨W3.heap.size, 4, none⟩ (.int .i64 b1)) := by
    refine ⟨?_, ?_, ?_, ?_, ?_, by simpa using hz⟩ <;> simp [go_sem, hc, hz]
  have BW : Below w4.heap.size w4 w4 := Below.refl _ _
  have zz : w.heap.size ≤ W3.heap.size := by omega
  refine fresh_call (fun W => City w.heap.size la lo zo a0 a1 W ∧ City W3.heap.size la lo zo b0 b1 W ∧ TabD ea W ∧ TabE W ∧ TabM W ∧ Below w.heap.size w W) ⟨BT.city cc (by simp; omega), cs, ⟨fun i hi => BT.cel (td.len i hi) (by simp; omega), BT.cel td.err (by simp; omega)⟩, BT.half te (by simp; omega), BT.half tm (by simp; omega), BT.toBelow hb (Nat.le_refl _) (by intro k hk; simp at hk; omega)⟩ ?_
  clear BT BW cc cs td te tm hb hc hf ml el dl3 dl0
  rintro W5 ⟨cc, cs, td, te, tm, hb⟩
  refine (S1.out _ te).mono ?_
  rintro e w6 ⟨rfl, hq⟩
  have cc := cc.below hq
  have cs := cs.below hq
  have td := td.below hq
  have te := te.below hq
  have tm := tm.below hq
  have hb := hb.trans (hq.mono hb.size)
  clear hq
  clear S1
  have csl := cs.lt
  have CS := Lib.hid cs
  obtain ⟨k0, k1, k2, k3, k4, k5⟩ := cs
  have kn : W3.heap.size ≠ w6.heap.size := by omega
  go_wp2_with fail
  clear k0 k1 k2 k3 k4 k5 kn
  have cs := CS.out
  clear CS
  refine fresh_call (fun W => City w.heap.size la lo zo a0 a1 W ∧ City W3.heap.size la lo zo b0 b1 W ∧ TabD ea W ∧ TabE W ∧ TabM W ∧ Box w6.heap.size p0 p1 W ∧ Below w.heap.size w W) ⟨cc.alloc _, cs.alloc _, td.below ((Below.refl _ _).alloc (Nat.le_refl _) _), te.alloc _, tm.alloc _, Box.fresh _ _ _ _, hb.alloc hb.size _⟩ ?_
  clear cc cs td te tm hb
  rintro W7 ⟨cc, cs, td, te, tm, p12, hb⟩
  refine (S2.out _ te).mono ?_
  rintro e w8 ⟨rfl, hq⟩
  have cc := cc.below hq
  have cs := cs.below hq
  have td := td.below hq
  have te := te.below hq
  have tm := tm.below hq
  have p12 := p12.below hq
  have hb := hb.trans (hq.mono hb.size)
  clear hq
  clear S2
  have p12l := p12.lt
  have ccl2 := cc.lt
  subst hX hK hL
  have CC := Lib.hid cc
  obtain ⟨k0, k1, k2, k3, k4, k5⟩ := cc
  have kn : w.heap.size ≠ w8.heap.size := by omega
  have P12 := Lib.hid p12
  obtain ⟨d0, d1, d2, d3, d4⟩ := p12
  have dn : w6.heap.size ≠ w8.heap.size := by omega
  go_wp2_with fail
  clear k0 k1 k2 k3 k4 k5 kn
  have cc := CC.out
  clear CC
  clear d0 d1 d2 d3 d4 dn
  have p12 := P12.out
  clear P12
  have hn : Below w8.heap.size w8 (w8.alloc (.cells #[.int .i64 q0, .int .i64 q1] 51)) := (Below.refl _ _).alloc (Nat.le_refl _) _
  refine fresh_call (fun W => City w.heap.size la lo zo a0 a1 W ∧ City W3.heap.size la lo zo b0 b1 W ∧ TabD ea W ∧ TabE W ∧ TabM W ∧ Below w.heap.size w W) ⟨cc.below hn, cs.below hn, td.below hn, te.below hn, tm.below hn, hb.trans (hn.mono hb.size)⟩ ?_
  clear cc cs td te tm hb hn p12
  rintro W9 ⟨cc, cs, td, te, tm, hb⟩
  refine (WI.out _).mono ?_
  rintro e w9 ⟨rfl, hq⟩
  have cc := cc.below hq
  have cs := cs.below hq
  have td := td.below hq
  have te := te.below hq
  have tm := tm.below hq
  have hb := hb.trans (hq.mono hb.size)
  clear hq
  clear WI
  have CC := Lib.hid cc
  obtain ⟨k0, k1, k2, k3, k4, k5⟩ := cc
  go_wp2_with fail
  clear k0 k1 k2 k3 k4 k5
  have cc := CC.out
  clear CC
  refine (N1.out _ te tm).mono ?_
  rintro e w10 ⟨rfl, hq⟩
  have cc := cc.below hq
  have cs := cs.below hq
  have td := td.below hq
  have te := te.below hq
  have tm := tm.below hq
  have hb := hb.trans (hq.mono hb.size)
  clear hq
  clear N1
  have csl3 := cs.lt
  have CS := Lib.hid cs
  obtain ⟨k0, k1, k2, k3, k4, k5⟩ := cs
  have kn : W3.heap.size ≠ w10.heap.size := by omega
  go_wp2_with fail
  clear k0 k1 k2 k3 k4 k5 kn
  have cs := CS.out
  clear CS
  refine fresh_call (fun W => TabD ea W ∧ TabE W ∧ TabM W ∧ Box w10.heap.size m0 m1 W ∧ Below w.heap.size w W) ⟨td.below ((Below.refl _ _).alloc (Nat.le_refl _) _), te.alloc _, tm.alloc _, Box.fresh _ _ _ _, hb.alloc hb.size _⟩ ?_
  clear cc cs td te tm hb
  rintro W11 ⟨td, te, tm, m17, hb⟩
  refine (N2.out _ te tm).mono ?_
  rintro e w12 ⟨rfl, hq⟩
  have td := td.below hq
  have te := te.below hq
  have m17 := m17.below hq
  have hb := hb.trans (hq.mono hb.size)
  clear hq
  clear N2 tm
  have m17l := m17.lt
  have M17 := Lib.hid m17
  obtain ⟨d0, d1, d2, d3, d4⟩ := m17
  have dn : w10.heap.size ≠ w12.heap.size := by omega
  have d5 : w10.heap.size < w12.heap.size := by omega
  rcases NF with ⟨rfl, rfl, hw⟩ | ⟨hne, h0, h1, hw⟩ | ⟨rfl, hne, h0, h1, hw⟩
  · go_wp2_with fail
    refine fresh_call (fun W => TabD ea W ∧ TabE W ∧ Below w.heap.size w W) ⟨td.below ((Below.refl _ _).alloc (Nat.le_refl _) _), te.alloc _, hb.alloc hb.size _⟩ ?_
    clear td te hb
    rintro W13 ⟨td, te, hb⟩
    refine (awake_any ea _ td te).mono ?_
    rintro e w14 ⟨rfl, hq⟩
    have hb := hb.trans (hq.mono hb.size)
    clear hq
    clear td te
    go_wp2_with fail
    go_ret
    exact ⟨rfl, hb⟩
  · go_wp2_with fail
    refine fresh_call (fun W => TabD ea W ∧ TabE W ∧ Below w.heap.size w W) ⟨td.below ((Below.refl _ _).alloc (Nat.le_refl _) _), te.alloc _, hb.alloc hb.size _⟩ ?_
    clear td te hb
    rintro W13 ⟨td, te, hb⟩
    refine (awake_any ea _ td te).mono ?_
    rintro e w14 ⟨rfl, hq⟩
    have hb := hb.trans (hq.mono hb.size)
    clear hq
    clear td te
    go_wp2_with fail
    go_ret
    exact ⟨rfl, hb⟩
  · go_wp2_with fail
    refine fresh_call (fun W => TabD ea W ∧ TabE W ∧ Below w.heap.size w W) ⟨td.below ((Below.refl _ _).alloc (Nat.le_refl _) _), te.alloc _, hb.alloc hb.size _⟩ ?_
    clear td te hb
    rintro W13 ⟨td, te, hb⟩
    refine (awake_any ea _ td te).mono ?_
    rintro e w14 ⟨rfl, hq⟩
    have hb := hb.trans (hq.mono hb.size)
    clear hq
    clear td te
    go_wp2_with fail
    go_ret
    exact ⟨rfl, hb⟩
end Go.Proofs.YtjcgojbfjefbcaaDoor
