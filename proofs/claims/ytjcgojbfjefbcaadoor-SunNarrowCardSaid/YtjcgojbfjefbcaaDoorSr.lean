/- One round: when the sun passes the altitude, from a window (code). -/
import Derived.Test.YtjcgojbfjefbcaaDoorSz
namespace Go.Proofs.YtjcgojbfjefbcaaDoor
set_option linter.unusedSimpArgs false
set_option linter.unusedVariables false
open Go.RowKit SineNear
attribute [local go_sem ↓] Go.wp_at_zero Go.wp_at_succ

theorem But.after {l : List Nat} {W0 W w : World} (h0 : Below W0.heap.size W0 W) (h : But l W w) : But l W0 w :=
  ⟨h.os.trans h0.os, h.tape.trans h0.tape, h.output.trans h0.output, Nat.le_trans h0.size h.size, fun k hk hn => (h.block k (Nat.lt_of_lt_of_le hk h0.size) hn).trans (h0.block k hk)⟩

set_option maxRecDepth 100000 in
set_option maxHeartbeats 8000000 in
theorem round_any (A cB B H D cb : Nat) (la lo zo day : Int) (alt m wd : P2) (rise : Bool) (hw : Bd 10000000000 wd) (d0 : 0 ≤ day) (d1 : day ≤ 100000) (l0 : -180000000 ≤ lo) (l1 : lo ≤ 180000000)
    (n1 : cB ≠ A) (n2 : cb ≠ A) (n3 : B ≠ A) (n4 : H ≠ A) (n5 : D ≠ A) (w : World)
    (wa : Box A wd.1 wd.2 w) (cp : One cB (.pointer (some ⟨cb, 0, none⟩)) w) (ct : City cb la lo zo alt.1 alt.2 w) (al : Box B (siP alt).1 (siP alt).2 w) (hf : Half H m.1 m.2 rise w) (dy : One D (.int .i64 day) w) :
    Calls Tryd.prog 105 #[.pointer (some ⟨A, 0, none⟩), .pointer (some ⟨cB, 0, none⟩), .pointer (some ⟨B, 0, none⟩), .pointer (some ⟨H, 0, none⟩), .pointer (some ⟨D, 0, none⟩)] w fun e w' => e = .returned (.int .i64 (kiM (raP alt la wd))) ∧
      Box A (if kiM (raP alt la wd) = 0 then nxP day lo rise (raP alt la wd) wd else wd).1 (if kiM (raP alt la wd) = 0 then nxP day lo rise (raP alt la wd) wd else wd).2 w' ∧ But [A] w w' := by
  have hb : Below w.heap.size w w := Below.refl _ _
  have M1 := Lib.hid (model_T wd hw)
  have C1 := Lib.hid (circle_T la (sM wd))
  have N1 := Lib.hid (minus_T (siP alt) (miP la (sM wd)))
  have N2 := Lib.hid (sure_T (mnP (siP alt) (miP la (sM wd))) (mnE (siP alt) (miP la (sM wd))))
  have N3 := Lib.hid (over_T (mnP (siP alt) (miP la (sM wd))) (swP la (sM wd)))
  have N4 := Lib.hid (sure_T (raP alt la wd) (ovE (mnP (siP alt) (miP la (sM wd))) (swP la (sM wd))))
  have K1 := Lib.hid (kind_T (raP alt la wd))
  by_cases hk : kiM (raP alt la wd) = 0
  · have ab := acP_bd _ hk
    have hb1 : Bd 1000000000000 (acP (raP alt la wd)) := ab.mono (by omega)
    have hb2 : Bd 400000000 (haP rise (acP (raP alt la wd))) := by
      cases rise
      · exact ab.mono (by omega)
      · exact (lsP_bd (B := 0) (onP_bd (by omega) (by omega)) ab).mono (by omega)
    have hb3 : Bd 600000000 (lsP (haP rise (acP (raP alt la wd))) (onP lo)) := (lsP_bd hb2 (onP_bd (B := 180000000) (by omega) (by omega))).mono (by omega)
    have hb4 : Bd 1000000000 (lsP (lsP (haP rise (acP (raP alt la wd))) (onP lo)) (eM wd)) := (lsP_bd hb3 (eM_bd wd)).mono (by omega)
    have P1 := Lib.hid (arccos_T (raP alt la wd))
    have P2 := Lib.hid (sure_T (acP (raP alt la wd)) (oneE (raP alt la wd).1 (raP alt la wd).2))
    have P3 := Lib.hid (hour_T m (acP (raP alt la wd)) rise hb1)
    have Q1 := Lib.hid (only_T lo)
    have Q2 := Lib.hid (less_T (haP rise (acP (raP alt la wd))) (onP lo) (hb2.mono (by omega)) (onP_bd (by omega) (by omega)))
    have Q3 := Lib.hid (less_T (lsP (haP rise (acP (raP alt la wd))) (onP lo)) (eM wd) (hb3.mono (by omega)) ((eM_bd wd).mono (by omega)))
    have Q4 := Lib.hid (moments_T day (lsP (lsP (haP rise (acP (raP alt la wd))) (onP lo)) (eM wd)) d0 d1 (hb4.mono (by omega)))
    have KP := Lib.hid hk
    have kt : (kiM (raP alt la wd) == 0) = true := by simp [hk]
    clear hw d0 d1 l0 l1 ab hb1 hb2 hb3 hb4 hk
    go_enter Tryd.func105, Tryd.ntmps105
    have Hwa := Lib.hid wa
    obtain ⟨wa_0, wa_1, wa_2, wa_3, wa_4⟩ := wa
    have wa_n : (A) ≠ w.heap.size := Nat.ne_of_lt wa_4
    go_wp2_with fail
    clear wa_n wa_0 wa_1 wa_2 wa_3 wa_4
    have wa := Hwa.out
    clear Hwa
    refine (M1.out _).mono ?_
    rintro e v1 ⟨rfl, hq⟩
    have wa := wa.below hq
    have cp := cp.below hq
    have ct := ct.below hq
    have al := al.below hq
    have hf := hf.below hq
    have dy := dy.below hq
    have hb := hb.trans (hq.mono hb.size)
    clear hq
    have se_lb : A < v1.heap.size := wa.lt
    go_wp2_with fail
    refine fresh_world (fun W => Box (A) ((wd).1) ((wd).2) W ∧ One (cB) (.pointer (some ⟨cb, 0, none⟩)) W ∧ City (cb) (la) (lo) (zo) (alt.1) (alt.2) W ∧ Box (B) ((siP alt).1) ((siP alt).2) W ∧ Half (H) (m.1) (m.2) (rise) W ∧ One (D) (.int .i64 day) W ∧ Box (v1.heap.size) ((sM wd).1) ((sM wd).2) W ∧ Box (v1.heap.size + 1) ((eM wd).1) ((eM wd).2) W ∧ Below w.heap.size w W) ⟨((wa).alloc _).alloc _, ((cp).alloc _).alloc _, ((ct).alloc _).alloc _, ((al).alloc _).alloc _, ((hf).alloc _).alloc _, ((dy).alloc _).alloc _, ((Box.fresh _ _ _ _)).alloc _, (Box.freshAt (by simp) _ _ _), ((hb.alloc hb.size _).alloc (by simp; have := hb.size; omega) _)⟩ ?_
    clear wa cp ct al hf dy hb
    rintro W2 ⟨wa, cp, ct, al, hf, dy, se, eq, hb⟩
    have hlt3 : A < W2.heap.size := wa.lt
    have hR : ∀ w', Below W2.heap.size W2 w' → One (cB) (.pointer (some ⟨cb, 0, none⟩)) w' ∧ City (cb) (la) (lo) (zo) (alt.1) (alt.2) w' ∧ Box (v1.heap.size) ((sM wd).1) ((sM wd).2) w' := fun w' hq0 => ⟨cp.below hq0, ct.below hq0, se.below hq0⟩
    have hG := good_below hR
    refine wp_region_G (R := fun w' => One (cB) (.pointer (some ⟨cb, 0, none⟩)) w' ∧ City (cb) (la) (lo) (zo) (alt.1) (alt.2) w' ∧ Box (v1.heap.size) ((sM wd).1) ((sM wd).2) w') (fun w' => Below W2.heap.size W2 w') (by kernel_rfl) (Below.refl _ _).drew ?_
    refine wpAnyG_take (i := 0) (v := ?_) rfl (by kernel_rfl) (by kernel_rfl) (by kernel_rfl) hG rfl ?_ ?_
    rotate_left
    (focus (intro ww hSw; obtain ⟨⟨r0_0, r0_1, r0_2⟩, ⟨r1_0, r1_1, r1_2, r1_3, r1_4, r1_5⟩, ⟨r2_0, r2_1, r2_2, r2_3, r2_4⟩⟩ := hSw; go_simp; (try with_reducible rfl)))
    (try simp only [Act.put, List.setIfInBounds_toArray, List.set_cons_zero, List.set_cons_succ, List.getElem_toArray, List.getElem_cons_zero, List.getElem_cons_succ])
    refine wpAnyG_take (i := 1) (v := ?_) rfl (by kernel_rfl) (by kernel_rfl) (by kernel_rfl) hG rfl ?_ ?_
    rotate_left
    (focus (intro ww hSw; obtain ⟨⟨r0_0, r0_1, r0_2⟩, ⟨r1_0, r1_1, r1_2, r1_3, r1_4, r1_5⟩, ⟨r2_0, r2_1, r2_2, r2_3, r2_4⟩⟩ := hSw; go_simp; (try with_reducible rfl)))
    (try simp only [Act.put, List.setIfInBounds_toArray, List.set_cons_zero, List.set_cons_succ, List.getElem_toArray, List.getElem_cons_zero, List.getElem_cons_succ])
    refine wpAnyG_take (i := 2) (v := ?_) rfl (by kernel_rfl) (by kernel_rfl) (by kernel_rfl) hG rfl ?_ ?_
    rotate_left
    (focus (intro ww hSw; obtain ⟨⟨r0_0, r0_1, r0_2⟩, ⟨r1_0, r1_1, r1_2, r1_3, r1_4, r1_5⟩, ⟨r2_0, r2_1, r2_2, r2_3, r2_4⟩⟩ := hSw; go_simp; (try with_reducible rfl)))
    (try simp only [Act.put, List.setIfInBounds_toArray, List.set_cons_zero, List.set_cons_succ, List.getElem_toArray, List.getElem_cons_zero, List.getElem_cons_succ])
    refine wpAnyG_take (i := 3) (v := ?_) rfl (by kernel_rfl) (by kernel_rfl) (by kernel_rfl) hG rfl ?_ ?_
    rotate_left
    (focus (intro ww hSw; obtain ⟨⟨r0_0, r0_1, r0_2⟩, ⟨r1_0, r1_1, r1_2, r1_3, r1_4, r1_5⟩, ⟨r2_0, r2_1, r2_2, r2_3, r2_4⟩⟩ := hSw; go_simp; (try with_reducible rfl)))
    (try simp only [Act.put, List.setIfInBounds_toArray, List.set_cons_zero, List.set_cons_succ, List.getElem_toArray, List.getElem_cons_zero, List.getElem_cons_succ])
    refine wpAnyG_take (i := 4) (v := ?_) rfl (by kernel_rfl) (by kernel_rfl) (by kernel_rfl) hG rfl ?_ ?_
    rotate_left
    (focus (intro ww hSw; obtain ⟨⟨r0_0, r0_1, r0_2⟩, ⟨r1_0, r1_1, r1_2, r1_3, r1_4, r1_5⟩, ⟨r2_0, r2_1, r2_2, r2_3, r2_4⟩⟩ := hSw; go_simp; (try with_reducible rfl)))
    (try simp only [Act.put, List.setIfInBounds_toArray, List.set_cons_zero, List.set_cons_succ, List.getElem_toArray, List.getElem_cons_zero, List.getElem_cons_succ])
    refine wpAnyG_call (i := 5) _ _ _ rfl (by kernel_rfl) (by kernel_rfl) (by kernel_rfl) hG rfl (by intro ww; go_simp; all_goals (first | rfl | exact ⟨rfl, rfl⟩)) (fun ww => C1.out ww) ?_
    (try simp only [Act.put, List.setIfInBounds_toArray, List.set_cons_zero, List.set_cons_succ, List.getElem_toArray, List.getElem_cons_zero, List.getElem_cons_succ])
    refine wpAnyG_new (i := 6) (fun b => .pointer (some ⟨b, 0, none⟩)) (fun c_cr => fun w' => Below W2.heap.size W2 w' ∧ W2.heap.size ≤ c_cr ∧ Box4 c_cr (0) (0) (0) (0) w') rfl (by kernel_rfl) (fun c_cr => ⟨fun _ _ hx hy => ⟨hx.1.trans (hy.mono hx.1.size), hx.2.1, hx.2.2.below hy⟩, fun _ hx => ⟨cp.below hx.1, ct.below hx.1, se.below hx.1⟩⟩) rfl ?_ ?_
    · intro ww hS
      refine ⟨ww.alloc (.cells #[.int .i64 0, .int .i64 0, .int .i64 0, .int .i64 0] 145), ?_, hS.alloc hS.size _, hS.size, Box4.fresh _ _ _ _ _ _⟩
      go_simp
      try rfl
    intro c_cr
    (try simp only [Act.put, List.setIfInBounds_toArray, List.set_cons_zero, List.set_cons_succ, List.getElem_toArray, List.getElem_cons_zero, List.getElem_cons_succ])
    refine wpAnyG_store (i := 7) (fun w' => Below W2.heap.size W2 w' ∧ W2.heap.size ≤ c_cr ∧ Box4 c_cr ((miP la (sM wd)).1) ((miP la (sM wd)).2) ((swP la (sM wd)).1) ((swP la (sM wd)).2) w') rfl (by kernel_rfl) (⟨fun _ _ hx hy => ⟨hx.1.trans (hy.mono hx.1.size), hx.2.1, hx.2.2.below hy⟩, fun _ hx => ⟨cp.below hx.1, ct.below hx.1, se.below hx.1⟩⟩) rfl ?_ ?_
    · rintro ww ⟨hB, hge, hal⟩
      obtain ⟨q0, q1, q2, q3, q4, q5, q6, q7, q8⟩ := hal
      refine ⟨((((ww.setCell ⟨c_cr, 0, none⟩ (.int .i64 ((miP la (sM wd)).1))).setCell ⟨c_cr, 1, none⟩ (.int .i64 ((miP la (sM wd)).2))).setCell ⟨c_cr, 2, none⟩ (.int .i64 ((swP la (sM wd)).1))).setCell ⟨c_cr, 3, none⟩ (.int .i64 ((swP la (sM wd)).2))), ?_, ((((hB.setCell hge _).setCell hge _).setCell hge _).setCell hge _), hge, Box4.set ⟨q0, q1, q2, q3, q4, q5, q6, q7, q8⟩ _ _ _ _⟩
      go_simp
      try rfl
    (try simp only [Act.put, List.setIfInBounds_toArray, List.set_cons_zero, List.set_cons_succ, List.getElem_toArray, List.getElem_cons_zero, List.getElem_cons_succ])
    refine wpAnyG_done (by kernel_rfl) ?_ _
    rintro W3 ⟨hB, hge, hal⟩
    clear hR hG
    have wa := wa.below hB
    have cp := cp.below hB
    have ct := ct.below hB
    have al := al.below hB
    have hf := hf.below hB
    have dy := dy.below hB
    have se := se.below hB
    have eq := eq.below hB
    have hb := hb.trans (hB.mono hb.size)
    have cr := hal
    clear hal
    have cr_lb : A < c_cr := Nat.lt_of_lt_of_le hlt3 hge
    clear hge
    clear hB
    go_wp2_with fail
    have hlt4 : A < W3.heap.size := wa.lt
    have hR : ∀ w', Below W3.heap.size W3 w' → Box (B) ((siP alt).1) ((siP alt).2) w' ∧ Box4 (c_cr) ((miP la (sM wd)).1) ((miP la (sM wd)).2) ((swP la (sM wd)).1) ((swP la (sM wd)).2) w' := fun w' hq0 => ⟨al.below hq0, cr.below hq0⟩
    have hG := good_below hR
    refine wp_region_G (R := fun w' => Box (B) ((siP alt).1) ((siP alt).2) w' ∧ Box4 (c_cr) ((miP la (sM wd)).1) ((miP la (sM wd)).2) ((swP la (sM wd)).1) ((swP la (sM wd)).2) w') (fun w' => Below W3.heap.size W3 w') (by kernel_rfl) (Below.refl _ _).drew ?_
    refine wpAnyG_take (i := 0) (v := ?_) rfl (by kernel_rfl) (by kernel_rfl) (by kernel_rfl) hG rfl ?_ ?_
    rotate_left
    (focus (intro ww hSw; obtain ⟨⟨r0_0, r0_1, r0_2, r0_3, r0_4⟩, ⟨r1_0, r1_1, r1_2, r1_3, r1_4, r1_5, r1_6, r1_7, r1_8⟩⟩ := hSw; go_simp; (try with_reducible rfl)))
    (try simp only [Act.put, List.setIfInBounds_toArray, List.set_cons_zero, List.set_cons_succ, List.getElem_toArray, List.getElem_cons_zero, List.getElem_cons_succ])
    refine wpAnyG_take (i := 1) (v := ?_) rfl (by kernel_rfl) (by kernel_rfl) (by kernel_rfl) hG rfl ?_ ?_
    rotate_left
    (focus (intro ww hSw; obtain ⟨⟨r0_0, r0_1, r0_2, r0_3, r0_4⟩, ⟨r1_0, r1_1, r1_2, r1_3, r1_4, r1_5, r1_6, r1_7, r1_8⟩⟩ := hSw; go_simp; (try with_reducible rfl)))
    (try simp only [Act.put, List.setIfInBounds_toArray, List.set_cons_zero, List.set_cons_succ, List.getElem_toArray, List.getElem_cons_zero, List.getElem_cons_succ])
    refine wpAnyG_take (i := 2) (v := ?_) rfl (by kernel_rfl) (by kernel_rfl) (by kernel_rfl) hG rfl ?_ ?_
    rotate_left
    (focus (intro ww hSw; obtain ⟨⟨r0_0, r0_1, r0_2, r0_3, r0_4⟩, ⟨r1_0, r1_1, r1_2, r1_3, r1_4, r1_5, r1_6, r1_7, r1_8⟩⟩ := hSw; go_simp; (try with_reducible rfl)))
    (try simp only [Act.put, List.setIfInBounds_toArray, List.set_cons_zero, List.set_cons_succ, List.getElem_toArray, List.getElem_cons_zero, List.getElem_cons_succ])
    refine wpAnyG_call (i := 3) _ _ _ rfl (by kernel_rfl) (by kernel_rfl) (by kernel_rfl) hG rfl (by intro ww; go_simp; all_goals (first | rfl | exact ⟨rfl, rfl⟩)) (fun ww => N1.out ww) ?_
    (try simp only [Act.put, List.setIfInBounds_toArray, List.set_cons_zero, List.set_cons_succ, List.getElem_toArray, List.getElem_cons_zero, List.getElem_cons_succ])
    refine wpAnyG_take (i := 4) (v := ?_) rfl (by kernel_rfl) (by kernel_rfl) (by kernel_rfl) hG rfl ?_ ?_
    rotate_left
    (focus (intro ww hSw; obtain ⟨⟨r0_0, r0_1, r0_2, r0_3, r0_4⟩, ⟨r1_0, r1_1, r1_2, r1_3, r1_4, r1_5, r1_6, r1_7, r1_8⟩⟩ := hSw; go_simp; (try with_reducible rfl)))
    (try simp only [Act.put, List.setIfInBounds_toArray, List.set_cons_zero, List.set_cons_succ, List.getElem_toArray, List.getElem_cons_zero, List.getElem_cons_succ])
    refine wpAnyG_take (i := 5) (v := ?_) rfl (by kernel_rfl) (by kernel_rfl) (by kernel_rfl) hG rfl ?_ ?_
    rotate_left
    (focus (intro ww hSw; obtain ⟨⟨r0_0, r0_1, r0_2, r0_3, r0_4⟩, ⟨r1_0, r1_1, r1_2, r1_3, r1_4, r1_5, r1_6, r1_7, r1_8⟩⟩ := hSw; go_simp; (try with_reducible rfl)))
    (try simp only [Act.put, List.setIfInBounds_toArray, List.set_cons_zero, List.set_cons_succ, List.getElem_toArray, List.getElem_cons_zero, List.getElem_cons_succ])
    refine wpAnyG_call (i := 6) _ _ _ rfl (by kernel_rfl) (by kernel_rfl) (by kernel_rfl) hG rfl (by intro ww; go_simp; all_goals (first | rfl | exact ⟨rfl, rfl⟩)) (fun ww => N2.out ww) ?_
    (try simp only [Act.put, List.setIfInBounds_toArray, List.set_cons_zero, List.set_cons_succ, List.getElem_toArray, List.getElem_cons_zero, List.getElem_cons_succ])
    refine wpAnyG_take (i := 7) (v := ?_) rfl (by kernel_rfl) (by kernel_rfl) (by kernel_rfl) hG rfl ?_ ?_
    rotate_left
    (focus (intro ww hSw; obtain ⟨⟨r0_0, r0_1, r0_2, r0_3, r0_4⟩, ⟨r1_0, r1_1, r1_2, r1_3, r1_4, r1_5, r1_6, r1_7, r1_8⟩⟩ := hSw; go_simp; (try with_reducible rfl)))
    (try simp only [Act.put, List.setIfInBounds_toArray, List.set_cons_zero, List.set_cons_succ, List.getElem_toArray, List.getElem_cons_zero, List.getElem_cons_succ])
    refine wpAnyG_take (i := 8) (v := ?_) rfl (by kernel_rfl) (by kernel_rfl) (by kernel_rfl) hG rfl ?_ ?_
    rotate_left
    (focus (intro ww hSw; obtain ⟨⟨r0_0, r0_1, r0_2, r0_3, r0_4⟩, ⟨r1_0, r1_1, r1_2, r1_3, r1_4, r1_5, r1_6, r1_7, r1_8⟩⟩ := hSw; go_simp; (try with_reducible rfl)))
    (try simp only [Act.put, List.setIfInBounds_toArray, List.set_cons_zero, List.set_cons_succ, List.getElem_toArray, List.getElem_cons_zero, List.getElem_cons_succ])
    refine wpAnyG_call (i := 9) _ _ _ rfl (by kernel_rfl) (by kernel_rfl) (by kernel_rfl) hG rfl (by intro ww; go_simp; all_goals (first | rfl | exact ⟨rfl, rfl⟩)) (fun ww => N3.out ww) ?_
    (try simp only [Act.put, List.setIfInBounds_toArray, List.set_cons_zero, List.set_cons_succ, List.getElem_toArray, List.getElem_cons_zero, List.getElem_cons_succ])
    refine wpAnyG_take (i := 10) (v := ?_) rfl (by kernel_rfl) (by kernel_rfl) (by kernel_rfl) hG rfl ?_ ?_
    rotate_left
    (focus (intro ww hSw; obtain ⟨⟨r0_0, r0_1, r0_2, r0_3, r0_4⟩, ⟨r1_0, r1_1, r1_2, r1_3, r1_4, r1_5, r1_6, r1_7, r1_8⟩⟩ := hSw; go_simp; (try with_reducible rfl)))
    (try simp only [Act.put, List.setIfInBounds_toArray, List.set_cons_zero, List.set_cons_succ, List.getElem_toArray, List.getElem_cons_zero, List.getElem_cons_succ])
    refine wpAnyG_take (i := 11) (v := ?_) rfl (by kernel_rfl) (by kernel_rfl) (by kernel_rfl) hG rfl ?_ ?_
    rotate_left
    (focus (intro ww hSw; obtain ⟨⟨r0_0, r0_1, r0_2, r0_3, r0_4⟩, ⟨r1_0, r1_1, r1_2, r1_3, r1_4, r1_5, r1_6, r1_7, r1_8⟩⟩ := hSw; go_simp; (try with_reducible rfl)))
    (try simp only [Act.put, List.setIfInBounds_toArray, List.set_cons_zero, List.set_cons_succ, List.getElem_toArray, List.getElem_cons_zero, List.getElem_cons_succ])
    refine wpAnyG_call (i := 12) _ _ _ rfl (by kernel_rfl) (by kernel_rfl) (by kernel_rfl) hG rfl (by intro ww; go_simp; all_goals (first | rfl | exact ⟨rfl, rfl⟩)) (fun ww => N4.out ww) ?_
    (try simp only [Act.put, List.setIfInBounds_toArray, List.set_cons_zero, List.set_cons_succ, List.getElem_toArray, List.getElem_cons_zero, List.getElem_cons_succ])
    refine wpAnyG_new (i := 13) (fun b => .pointer (some ⟨b, 0, none⟩)) (fun c_x => fun w' => Below W3.heap.size W3 w' ∧ W3.heap.size ≤ c_x ∧ Box c_x (0) (0) w') rfl (by kernel_rfl) (fun c_x => ⟨fun _ _ hx hy => ⟨hx.1.trans (hy.mono hx.1.size), hx.2.1, hx.2.2.below hy⟩, fun _ hx => ⟨al.below hx.1, cr.below hx.1⟩⟩) rfl ?_ ?_
    · intro ww hS
      refine ⟨ww.alloc (.cells #[.int .i64 0, .int .i64 0] 51), ?_, hS.alloc hS.size _, hS.size, Box.fresh _ _ _ _⟩
      go_simp
      try rfl
    intro c_x
    (try simp only [Act.put, List.setIfInBounds_toArray, List.set_cons_zero, List.set_cons_succ, List.getElem_toArray, List.getElem_cons_zero, List.getElem_cons_succ])
    refine wpAnyG_store (i := 14) (fun w' => Below W3.heap.size W3 w' ∧ W3.heap.size ≤ c_x ∧ Box c_x ((raP alt la wd).1) ((raP alt la wd).2) w') rfl (by kernel_rfl) (⟨fun _ _ hx hy => ⟨hx.1.trans (hy.mono hx.1.size), hx.2.1, hx.2.2.below hy⟩, fun _ hx => ⟨al.below hx.1, cr.below hx.1⟩⟩) rfl ?_ ?_
    · rintro ww ⟨hB, hge, hal⟩
      obtain ⟨q0, q1, q2, q3, q4⟩ := hal
      refine ⟨((ww.setCell ⟨c_x, 0, none⟩ (.int .i64 ((raP alt la wd).1))).setCell ⟨c_x, 1, none⟩ (.int .i64 ((raP alt la wd).2))), ?_, ((hB.setCell hge _).setCell hge _), hge, Box.set ⟨q0, q1, q2, q3, q4⟩ _ _⟩
      go_simp
      try rfl
    (try simp only [Act.put, List.setIfInBounds_toArray, List.set_cons_zero, List.set_cons_succ, List.getElem_toArray, List.getElem_cons_zero, List.getElem_cons_succ])
    refine wpAnyG_done (by kernel_rfl) ?_ _
    rintro W4 ⟨hB, hge, hal⟩
    clear hR hG
    have wa := wa.below hB
    have cp := cp.below hB
    have ct := ct.below hB
    have al := al.below hB
    have hf := hf.below hB
    have dy := dy.below hB
    have se := se.below hB
    have eq := eq.below hB
    have cr := cr.below hB
    have hb := hb.trans (hB.mono hb.size)
    have x := hal
    clear hal
    have x_lb : A < c_x := Nat.lt_of_lt_of_le hlt4 hge
    clear hge
    clear hB
    have Hx := Lib.hid x
    obtain ⟨x_0, x_1, x_2, x_3, x_4⟩ := x
    have x_n : (c_x) ≠ W4.heap.size := Nat.ne_of_lt x_4
    go_wp2_with fail
    clear x_n x_0 x_1 x_2 x_3 x_4
    have x := Hx.out
    clear Hx
    refine (K1.out _).mono ?_
    rintro e v5 ⟨rfl, hq⟩
    have wa := wa.below hq
    have cp := cp.below hq
    have ct := ct.below hq
    have al := al.below hq
    have hf := hf.below hq
    have dy := dy.below hq
    have se := se.below hq
    have eq := eq.below hq
    have cr := cr.below hq
    have x := x.below hq
    have hb := hb.trans (hq.mono hb.size)
    clear hq
    go_wp2_with fail
    have hlt6 : A < v5.heap.size := wa.lt
    have hR : ∀ w', Below v5.heap.size v5 w' → Half (H) (m.1) (m.2) (rise) w' ∧ Box (c_x) ((raP alt la wd).1) ((raP alt la wd).2) w' := fun w' hq0 => ⟨hf.below hq0, x.below hq0⟩
    have hG := good_below hR
    refine wp_region_G (R := fun w' => Half (H) (m.1) (m.2) (rise) w' ∧ Box (c_x) ((raP alt la wd).1) ((raP alt la wd).2) w') (fun w' => Below v5.heap.size v5 w') (by kernel_rfl) (Below.refl _ _).drew ?_
    refine wpAnyG_take (i := 0) (v := ?_) rfl (by kernel_rfl) (by kernel_rfl) (by kernel_rfl) hG rfl ?_ ?_
    rotate_left
    (focus (intro ww hSw; obtain ⟨⟨r0_0, r0_1, r0_2, r0_3⟩, ⟨r1_0, r1_1, r1_2, r1_3, r1_4⟩⟩ := hSw; go_simp; (try with_reducible rfl)))
    (try simp only [Act.put, List.setIfInBounds_toArray, List.set_cons_zero, List.set_cons_succ, List.getElem_toArray, List.getElem_cons_zero, List.getElem_cons_succ])
    refine wpAnyG_take (i := 1) (v := ?_) rfl (by kernel_rfl) (by kernel_rfl) (by kernel_rfl) hG rfl ?_ ?_
    rotate_left
    (focus (intro ww hSw; obtain ⟨⟨r0_0, r0_1, r0_2, r0_3⟩, ⟨r1_0, r1_1, r1_2, r1_3, r1_4⟩⟩ := hSw; go_simp; (try with_reducible rfl)))
    (try simp only [Act.put, List.setIfInBounds_toArray, List.set_cons_zero, List.set_cons_succ, List.getElem_toArray, List.getElem_cons_zero, List.getElem_cons_succ])
    refine wpAnyG_call (i := 2) _ _ _ rfl (by kernel_rfl) (by kernel_rfl) (by kernel_rfl) hG rfl (by intro ww; go_simp; all_goals (first | rfl | exact ⟨rfl, rfl⟩)) (fun ww => P1.out ww) ?_
    (try simp only [Act.put, List.setIfInBounds_toArray, List.set_cons_zero, List.set_cons_succ, List.getElem_toArray, List.getElem_cons_zero, List.getElem_cons_succ])
    refine wpAnyG_take (i := 3) (v := ?_) rfl (by kernel_rfl) (by kernel_rfl) (by kernel_rfl) hG rfl ?_ ?_
    rotate_left
    (focus (intro ww hSw; obtain ⟨⟨r0_0, r0_1, r0_2, r0_3⟩, ⟨r1_0, r1_1, r1_2, r1_3, r1_4⟩⟩ := hSw; go_simp; (try with_reducible rfl)))
    (try simp only [Act.put, List.setIfInBounds_toArray, List.set_cons_zero, List.set_cons_succ, List.getElem_toArray, List.getElem_cons_zero, List.getElem_cons_succ])
    refine wpAnyG_take (i := 4) (v := ?_) rfl (by kernel_rfl) (by kernel_rfl) (by kernel_rfl) hG rfl ?_ ?_
    rotate_left
    (focus (intro ww hSw; obtain ⟨⟨r0_0, r0_1, r0_2, r0_3⟩, ⟨r1_0, r1_1, r1_2, r1_3, r1_4⟩⟩ := hSw; go_simp; (try with_reducible rfl)))
    (try simp only [Act.put, List.setIfInBounds_toArray, List.set_cons_zero, List.set_cons_succ, List.getElem_toArray, List.getElem_cons_zero, List.getElem_cons_succ])
    refine wpAnyG_call (i := 5) _ _ _ rfl (by kernel_rfl) (by kernel_rfl) (by kernel_rfl) hG rfl (by intro ww; go_simp; all_goals (first | rfl | exact ⟨rfl, rfl⟩)) (fun ww => P2.out ww) ?_
    (try simp only [Act.put, List.setIfInBounds_toArray, List.set_cons_zero, List.set_cons_succ, List.getElem_toArray, List.getElem_cons_zero, List.getElem_cons_succ])
    refine wpAnyG_call (i := 6) _ _ _ rfl (by kernel_rfl) (by kernel_rfl) (by kernel_rfl) hG rfl (by intro ww; go_simp; all_goals (first | rfl | exact ⟨rfl, rfl⟩)) (fun ww => P3.out ww) ?_
    (try simp only [Act.put, List.setIfInBounds_toArray, List.set_cons_zero, List.set_cons_succ, List.getElem_toArray, List.getElem_cons_zero, List.getElem_cons_succ])
    refine wpAnyG_new (i := 7) (fun b => .pointer (some ⟨b, 0, none⟩)) (fun c_ho => fun w' => Below v5.heap.size v5 w' ∧ v5.heap.size ≤ c_ho ∧ Box c_ho (0) (0) w') rfl (by kernel_rfl) (fun c_ho => ⟨fun _ _ hx hy => ⟨hx.1.trans (hy.mono hx.1.size), hx.2.1, hx.2.2.below hy⟩, fun _ hx => ⟨hf.below hx.1, x.below hx.1⟩⟩) rfl ?_ ?_
    · intro ww hS
      refine ⟨ww.alloc (.cells #[.int .i64 0, .int .i64 0] 51), ?_, hS.alloc hS.size _, hS.size, Box.fresh _ _ _ _⟩
      go_simp
      try rfl
    intro c_ho
    (try simp only [Act.put, List.setIfInBounds_toArray, List.set_cons_zero, List.set_cons_succ, List.getElem_toArray, List.getElem_cons_zero, List.getElem_cons_succ])
    refine wpAnyG_store (i := 8) (fun w' => Below v5.heap.size v5 w' ∧ v5.heap.size ≤ c_ho ∧ Box c_ho ((haP rise (acP (raP alt la wd))).1) ((haP rise (acP (raP alt la wd))).2) w') rfl (by kernel_rfl) (⟨fun _ _ hx hy => ⟨hx.1.trans (hy.mono hx.1.size), hx.2.1, hx.2.2.below hy⟩, fun _ hx => ⟨hf.below hx.1, x.below hx.1⟩⟩) rfl ?_ ?_
    · rintro ww ⟨hB, hge, hal⟩
      obtain ⟨q0, q1, q2, q3, q4⟩ := hal
      refine ⟨((ww.setCell ⟨c_ho, 0, none⟩ (.int .i64 ((haP rise (acP (raP alt la wd))).1))).setCell ⟨c_ho, 1, none⟩ (.int .i64 ((haP rise (acP (raP alt la wd))).2))), ?_, ((hB.setCell hge _).setCell hge _), hge, Box.set ⟨q0, q1, q2, q3, q4⟩ _ _⟩
      go_simp
      try rfl
    (try simp only [Act.put, List.setIfInBounds_toArray, List.set_cons_zero, List.set_cons_succ, List.getElem_toArray, List.getElem_cons_zero, List.getElem_cons_succ])
    refine wpAnyG_done (by kernel_rfl) ?_ _
    rintro W6 ⟨hB, hge, hal⟩
    clear hR hG
    have wa := wa.below hB
    have cp := cp.below hB
    have ct := ct.below hB
    have al := al.below hB
    have hf := hf.below hB
    have dy := dy.below hB
    have se := se.below hB
    have eq := eq.below hB
    have cr := cr.below hB
    have x := x.below hB
    have hb := hb.trans (hB.mono hb.size)
    have ho := hal
    clear hal
    have ho_lb : A < c_ho := Nat.lt_of_lt_of_le hlt6 hge
    clear hge
    clear hB
    go_wp2_with fail
    have hR : ∀ w', Below W6.heap.size W6 w' → One (D) (.int .i64 day) w' ∧ Box (c_ho) ((haP rise (acP (raP alt la wd))).1) ((haP rise (acP (raP alt la wd))).2) w' ∧ One (cB) (.pointer (some ⟨cb, 0, none⟩)) w' ∧ City (cb) (la) (lo) (zo) (alt.1) (alt.2) w' ∧ Box (v1.heap.size + 1) ((eM wd).1) ((eM wd).2) w' := fun w' hq0 => ⟨dy.below hq0, ho.below hq0, cp.below hq0, ct.below hq0, eq.below hq0⟩
    have hG := good_below hR
    refine wp_region_G (R := fun w' => One (D) (.int .i64 day) w' ∧ Box (c_ho) ((haP rise (acP (raP alt la wd))).1) ((haP rise (acP (raP alt la wd))).2) w' ∧ One (cB) (.pointer (some ⟨cb, 0, none⟩)) w' ∧ City (cb) (la) (lo) (zo) (alt.1) (alt.2) w' ∧ Box (v1.heap.size + 1) ((eM wd).1) ((eM wd).2) w') (fun w' => Below W6.heap.size W6 w') (by kernel_rfl) (Below.refl _ _).drew ?_
    refine wpAnyG_take (i := 0) (v := ?_) rfl (by kernel_rfl) (by kernel_rfl) (by kernel_rfl) hG rfl ?_ ?_
    rotate_left
    (focus (intro ww hSw; obtain ⟨⟨r0_0, r0_1, r0_2⟩, ⟨r1_0, r1_1, r1_2, r1_3, r1_4⟩, ⟨r2_0, r2_1, r2_2⟩, ⟨r3_0, r3_1, r3_2, r3_3, r3_4, r3_5⟩, ⟨r4_0, r4_1, r4_2, r4_3, r4_4⟩⟩ := hSw; go_simp; (try with_reducible rfl)))
    (try simp only [Act.put, List.setIfInBounds_toArray, List.set_cons_zero, List.set_cons_succ, List.getElem_toArray, List.getElem_cons_zero, List.getElem_cons_succ])
    refine wpAnyG_take (i := 1) (v := ?_) rfl (by kernel_rfl) (by kernel_rfl) (by kernel_rfl) hG rfl ?_ ?_
    rotate_left
    (focus (intro ww hSw; obtain ⟨⟨r0_0, r0_1, r0_2⟩, ⟨r1_0, r1_1, r1_2, r1_3, r1_4⟩, ⟨r2_0, r2_1, r2_2⟩, ⟨r3_0, r3_1, r3_2, r3_3, r3_4, r3_5⟩, ⟨r4_0, r4_1, r4_2, r4_3, r4_4⟩⟩ := hSw; go_simp; (try with_reducible rfl)))
    (try simp only [Act.put, List.setIfInBounds_toArray, List.set_cons_zero, List.set_cons_succ, List.getElem_toArray, List.getElem_cons_zero, List.getElem_cons_succ])
    refine wpAnyG_take (i := 2) (v := ?_) rfl (by kernel_rfl) (by kernel_rfl) (by kernel_rfl) hG rfl ?_ ?_
    rotate_left
    (focus (intro ww hSw; obtain ⟨⟨r0_0, r0_1, r0_2⟩, ⟨r1_0, r1_1, r1_2, r1_3, r1_4⟩, ⟨r2_0, r2_1, r2_2⟩, ⟨r3_0, r3_1, r3_2, r3_3, r3_4, r3_5⟩, ⟨r4_0, r4_1, r4_2, r4_3, r4_4⟩⟩ := hSw; go_simp; (try with_reducible rfl)))
    (try simp only [Act.put, List.setIfInBounds_toArray, List.set_cons_zero, List.set_cons_succ, List.getElem_toArray, List.getElem_cons_zero, List.getElem_cons_succ])
    refine wpAnyG_take (i := 3) (v := ?_) rfl (by kernel_rfl) (by kernel_rfl) (by kernel_rfl) hG rfl ?_ ?_
    rotate_left
    (focus (intro ww hSw; obtain ⟨⟨r0_0, r0_1, r0_2⟩, ⟨r1_0, r1_1, r1_2, r1_3, r1_4⟩, ⟨r2_0, r2_1, r2_2⟩, ⟨r3_0, r3_1, r3_2, r3_3, r3_4, r3_5⟩, ⟨r4_0, r4_1, r4_2, r4_3, r4_4⟩⟩ := hSw; go_simp; (try with_reducible rfl)))
    (try simp only [Act.put, List.setIfInBounds_toArray, List.set_cons_zero, List.set_cons_succ, List.getElem_toArray, List.getElem_cons_zero, List.getElem_cons_succ])
    refine wpAnyG_take (i := 4) (v := ?_) rfl (by kernel_rfl) (by kernel_rfl) (by kernel_rfl) hG rfl ?_ ?_
    rotate_left
    (focus (intro ww hSw; obtain ⟨⟨r0_0, r0_1, r0_2⟩, ⟨r1_0, r1_1, r1_2, r1_3, r1_4⟩, ⟨r2_0, r2_1, r2_2⟩, ⟨r3_0, r3_1, r3_2, r3_3, r3_4, r3_5⟩, ⟨r4_0, r4_1, r4_2, r4_3, r4_4⟩⟩ := hSw; go_simp; (try with_reducible rfl)))
    (try simp only [Act.put, List.setIfInBounds_toArray, List.set_cons_zero, List.set_cons_succ, List.getElem_toArray, List.getElem_cons_zero, List.getElem_cons_succ])
    refine wpAnyG_take (i := 5) (v := ?_) rfl (by kernel_rfl) (by kernel_rfl) (by kernel_rfl) hG rfl ?_ ?_
    rotate_left
    (focus (intro ww hSw; obtain ⟨⟨r0_0, r0_1, r0_2⟩, ⟨r1_0, r1_1, r1_2, r1_3, r1_4⟩, ⟨r2_0, r2_1, r2_2⟩, ⟨r3_0, r3_1, r3_2, r3_3, r3_4, r3_5⟩, ⟨r4_0, r4_1, r4_2, r4_3, r4_4⟩⟩ := hSw; go_simp; (try with_reducible rfl)))
    (try simp only [Act.put, List.setIfInBounds_toArray, List.set_cons_zero, List.set_cons_succ, List.getElem_toArray, List.getElem_cons_zero, List.getElem_cons_succ])
    refine wpAnyG_call (i := 6) _ _ _ rfl (by kernel_rfl) (by kernel_rfl) (by kernel_rfl) hG rfl (by intro ww; go_simp; all_goals (first | rfl | exact ⟨rfl, rfl⟩)) (fun ww => Q1.out ww) ?_
    (try simp only [Act.put, List.setIfInBounds_toArray, List.set_cons_zero, List.set_cons_succ, List.getElem_toArray, List.getElem_cons_zero, List.getElem_cons_succ])
    refine wpAnyG_call (i := 7) _ _ _ rfl (by kernel_rfl) (by kernel_rfl) (by kernel_rfl) hG rfl (by intro ww; go_simp; all_goals (first | rfl | exact ⟨rfl, rfl⟩)) (fun ww => Q2.out ww) ?_
    (try simp only [Act.put, List.setIfInBounds_toArray, List.set_cons_zero, List.set_cons_succ, List.getElem_toArray, List.getElem_cons_zero, List.getElem_cons_succ])
    refine wpAnyG_take (i := 8) (v := ?_) rfl (by kernel_rfl) (by kernel_rfl) (by kernel_rfl) hG rfl ?_ ?_
    rotate_left
    (focus (intro ww hSw; obtain ⟨⟨r0_0, r0_1, r0_2⟩, ⟨r1_0, r1_1, r1_2, r1_3, r1_4⟩, ⟨r2_0, r2_1, r2_2⟩, ⟨r3_0, r3_1, r3_2, r3_3, r3_4, r3_5⟩, ⟨r4_0, r4_1, r4_2, r4_3, r4_4⟩⟩ := hSw; go_simp; (try with_reducible rfl)))
    (try simp only [Act.put, List.setIfInBounds_toArray, List.set_cons_zero, List.set_cons_succ, List.getElem_toArray, List.getElem_cons_zero, List.getElem_cons_succ])
    refine wpAnyG_call (i := 9) _ _ _ rfl (by kernel_rfl) (by kernel_rfl) (by kernel_rfl) hG rfl (by intro ww; go_simp; all_goals (first | rfl | exact ⟨rfl, rfl⟩)) (fun ww => Q3.out ww) ?_
    (try simp only [Act.put, List.setIfInBounds_toArray, List.set_cons_zero, List.set_cons_succ, List.getElem_toArray, List.getElem_cons_zero, List.getElem_cons_succ])
    refine wpAnyG_call (i := 10) _ _ _ rfl (by kernel_rfl) (by kernel_rfl) (by kernel_rfl) hG rfl (by intro ww; go_simp; all_goals (first | rfl | exact ⟨rfl, rfl⟩)) (fun ww => Q4.out ww) ?_
    (try simp only [Act.put, List.setIfInBounds_toArray, List.set_cons_zero, List.set_cons_succ, List.getElem_toArray, List.getElem_cons_zero, List.getElem_cons_succ])
    refine wpAnyG_store (i := 11) (fun w' => But [A] W6 w' ∧ Box (A) ((nxP day lo rise (raP alt la wd) wd).1) ((nxP day lo rise (raP alt la wd) wd).2) w') rfl (by kernel_rfl) (⟨fun _ _ hx hy => ⟨hx.1.below hy, hx.2.below hy⟩, fun _ hx => ⟨hx.1.one dy (by simp only [List.mem_cons, List.not_mem_nil, or_false]; omega), hx.1.box ho (by simp only [List.mem_cons, List.not_mem_nil, or_false]; omega), hx.1.one cp (by simp only [List.mem_cons, List.not_mem_nil, or_false]; omega), hx.1.city ct (by simp only [List.mem_cons, List.not_mem_nil, or_false]; omega), hx.1.box eq (by simp only [List.mem_cons, List.not_mem_nil, or_false]; omega)⟩⟩) rfl ?_ ?_
    · rintro ww hB
      obtain ⟨q0, q1, q2, q3, q4⟩ := (wa.below hB)
      refine ⟨((ww.setCell ⟨A, 0, none⟩ (.int .i64 ((nxP day lo rise (raP alt la wd) wd).1))).setCell ⟨A, 1, none⟩ (.int .i64 ((nxP day lo rise (raP alt la wd) wd).2))), ?_, (((But.of hB).set (by simp) _ _).set (by simp) _ _), Box.set ⟨q0, q1, q2, q3, q4⟩ _ _⟩
      go_simp
      try rfl
    (try simp only [Act.put, List.setIfInBounds_toArray, List.set_cons_zero, List.set_cons_succ, List.getElem_toArray, List.getElem_cons_zero, List.getElem_cons_succ])
    refine wpAnyG_done (by kernel_rfl) ?_ _
    rintro W7 ⟨hB, ho_wa⟩
    clear hR hG
    have hz := hB.after hb
    have cp := hB.one cp (by simp only [List.mem_cons, List.not_mem_nil, or_false]; omega)
    have ct := hB.city ct (by simp only [List.mem_cons, List.not_mem_nil, or_false]; omega)
    have al := hB.box al (by simp only [List.mem_cons, List.not_mem_nil, or_false]; omega)
    have hf := hB.half hf (by simp only [List.mem_cons, List.not_mem_nil, or_false]; omega)
    have dy := hB.one dy (by simp only [List.mem_cons, List.not_mem_nil, or_false]; omega)
    have se := hB.box se (by simp only [List.mem_cons, List.not_mem_nil, or_false]; omega)
    have eq := hB.box eq (by simp only [List.mem_cons, List.not_mem_nil, or_false]; omega)
    have cr := hB.box4 cr (by simp only [List.mem_cons, List.not_mem_nil, or_false]; omega)
    have x := hB.box x (by simp only [List.mem_cons, List.not_mem_nil, or_false]; omega)
    have ho := hB.box ho (by simp only [List.mem_cons, List.not_mem_nil, or_false]; omega)
    have wa := ho_wa
    clear ho_wa
    clear hB
    go_wp2_with fail
    go_ret
    exact ⟨ret_int rfl, wa, hz⟩
  · have KN := Lib.hid hk
    have kt : (kiM (raP alt la wd) == 0) = false := by simp [hk]
    clear hw d0 d1 l0 l1 hk
    go_enter Tryd.func105, Tryd.ntmps105
    have Hwa := Lib.hid wa
    obtain ⟨wa_0, wa_1, wa_2, wa_3, wa_4⟩ := wa
    have wa_n : (A) ≠ w.heap.size := Nat.ne_of_lt wa_4
    go_wp2_with fail
    clear wa_n wa_0 wa_1 wa_2 wa_3 wa_4
    have wa := Hwa.out
    clear Hwa
    refine (M1.out _).mono ?_
    rintro e v1 ⟨rfl, hq⟩
    have wa := wa.below hq
    have cp := cp.below hq
    have ct := ct.below hq
    have al := al.below hq
    have hf := hf.below hq
    have dy := dy.below hq
    have hb := hb.trans (hq.mono hb.size)
    clear hq
    have se_lb : A < v1.heap.size := wa.lt
    go_wp2_with fail
    refine fresh_world (fun W => Box (A) ((wd).1) ((wd).2) W ∧ One (cB) (.pointer (some ⟨cb, 0, none⟩)) W ∧ City (cb) (la) (lo) (zo) (alt.1) (alt.2) W ∧ Box (B) ((siP alt).1) ((siP alt).2) W ∧ Half (H) (m.1) (m.2) (rise) W ∧ One (D) (.int .i64 day) W ∧ Box (v1.heap.size) ((sM wd).1) ((sM wd).2) W ∧ Box (v1.heap.size + 1) ((eM wd).1) ((eM wd).2) W ∧ Below w.heap.size w W) ⟨((wa).alloc _).alloc _, ((cp).alloc _).alloc _, ((ct).alloc _).alloc _, ((al).alloc _).alloc _, ((hf).alloc _).alloc _, ((dy).alloc _).alloc _, ((Box.fresh _ _ _ _)).alloc _, (Box.freshAt (by simp) _ _ _), ((hb.alloc hb.size _).alloc (by simp; have := hb.size; omega) _)⟩ ?_
    clear wa cp ct al hf dy hb
    rintro W2 ⟨wa, cp, ct, al, hf, dy, se, eq, hb⟩
    have hlt3 : A < W2.heap.size := wa.lt
    have hR : ∀ w', Below W2.heap.size W2 w' → One (cB) (.pointer (some ⟨cb, 0, none⟩)) w' ∧ City (cb) (la) (lo) (zo) (alt.1) (alt.2) w' ∧ Box (v1.heap.size) ((sM wd).1) ((sM wd).2) w' := fun w' hq0 => ⟨cp.below hq0, ct.below hq0, se.below hq0⟩
    have hG := good_below hR
    refine wp_region_G (R := fun w' => One (cB) (.pointer (some ⟨cb, 0, none⟩)) w' ∧ City (cb) (la) (lo) (zo) (alt.1) (alt.2) w' ∧ Box (v1.heap.size) ((sM wd).1) ((sM wd).2) w') (fun w' => Below W2.heap.size W2 w') (by kernel_rfl) (Below.refl _ _).drew ?_
    refine wpAnyG_take (i := 0) (v := ?_) rfl (by kernel_rfl) (by kernel_rfl) (by kernel_rfl) hG rfl ?_ ?_
    rotate_left
    (focus (intro ww hSw; obtain ⟨⟨r0_0, r0_1, r0_2⟩, ⟨r1_0, r1_1, r1_2, r1_3, r1_4, r1_5⟩, ⟨r2_0, r2_1, r2_2, r2_3, r2_4⟩⟩ := hSw; go_simp; (try with_reducible rfl)))
    (try simp only [Act.put, List.setIfInBounds_toArray, List.set_cons_zero, List.set_cons_succ, List.getElem_toArray, List.getElem_cons_zero, List.getElem_cons_succ])
    refine wpAnyG_take (i := 1) (v := ?_) rfl (by kernel_rfl) (by kernel_rfl) (by kernel_rfl) hG rfl ?_ ?_
    rotate_left
    (focus (intro ww hSw; obtain ⟨⟨r0_0, r0_1, r0_2⟩, ⟨r1_0, r1_1, r1_2, r1_3, r1_4, r1_5⟩, ⟨r2_0, r2_1, r2_2, r2_3, r2_4⟩⟩ := hSw; go_simp; (try with_reducible rfl)))
    (try simp only [Act.put, List.setIfInBounds_toArray, List.set_cons_zero, List.set_cons_succ, List.getElem_toArray, List.getElem_cons_zero, List.getElem_cons_succ])
    refine wpAnyG_take (i := 2) (v := ?_) rfl (by kernel_rfl) (by kernel_rfl) (by kernel_rfl) hG rfl ?_ ?_
    rotate_left
    (focus (intro ww hSw; obtain ⟨⟨r0_0, r0_1, r0_2⟩, ⟨r1_0, r1_1, r1_2, r1_3, r1_4, r1_5⟩, ⟨r2_0, r2_1, r2_2, r2_3, r2_4⟩⟩ := hSw; go_simp; (try with_reducible rfl)))
    (try simp only [Act.put, List.setIfInBounds_toArray, List.set_cons_zero, List.set_cons_succ, List.getElem_toArray, List.getElem_cons_zero, List.getElem_cons_succ])
    refine wpAnyG_take (i := 3) (v := ?_) rfl (by kernel_rfl) (by kernel_rfl) (by kernel_rfl) hG rfl ?_ ?_
    rotate_left
    (focus (intro ww hSw; obtain ⟨⟨r0_0, r0_1, r0_2⟩, ⟨r1_0, r1_1, r1_2, r1_3, r1_4, r1_5⟩, ⟨r2_0, r2_1, r2_2, r2_3, r2_4⟩⟩ := hSw; go_simp; (try with_reducible rfl)))
    (try simp only [Act.put, List.setIfInBounds_toArray, List.set_cons_zero, List.set_cons_succ, List.getElem_toArray, List.getElem_cons_zero, List.getElem_cons_succ])
    refine wpAnyG_take (i := 4) (v := ?_) rfl (by kernel_rfl) (by kernel_rfl) (by kernel_rfl) hG rfl ?_ ?_
    rotate_left
    (focus (intro ww hSw; obtain ⟨⟨r0_0, r0_1, r0_2⟩, ⟨r1_0, r1_1, r1_2, r1_3, r1_4, r1_5⟩, ⟨r2_0, r2_1, r2_2, r2_3, r2_4⟩⟩ := hSw; go_simp; (try with_reducible rfl)))
    (try simp only [Act.put, List.setIfInBounds_toArray, List.set_cons_zero, List.set_cons_succ, List.getElem_toArray, List.getElem_cons_zero, List.getElem_cons_succ])
    refine wpAnyG_call (i := 5) _ _ _ rfl (by kernel_rfl) (by kernel_rfl) (by kernel_rfl) hG rfl (by intro ww; go_simp; all_goals (first | rfl | exact ⟨rfl, rfl⟩)) (fun ww => C1.out ww) ?_
    (try simp only [Act.put, List.setIfInBounds_toArray, List.set_cons_zero, List.set_cons_succ, List.getElem_toArray, List.getElem_cons_zero, List.getElem_cons_succ])
    refine wpAnyG_new (i := 6) (fun b => .pointer (some ⟨b, 0, none⟩)) (fun c_cr => fun w' => Below W2.heap.size W2 w' ∧ W2.heap.size ≤ c_cr ∧ Box4 c_cr (0) (0) (0) (0) w') rfl (by kernel_rfl) (fun c_cr => ⟨fun _ _ hx hy => ⟨hx.1.trans (hy.mono hx.1.size), hx.2.1, hx.2.2.below hy⟩, fun _ hx => ⟨cp.below hx.1, ct.below hx.1, se.below hx.1⟩⟩) rfl ?_ ?_
    · intro ww hS
      refine ⟨ww.alloc (.cells #[.int .i64 0, .int .i64 0, .int .i64 0, .int .i64 0] 145), ?_, hS.alloc hS.size _, hS.size, Box4.fresh _ _ _ _ _ _⟩
      go_simp
      try rfl
    intro c_cr
    (try simp only [Act.put, List.setIfInBounds_toArray, List.set_cons_zero, List.set_cons_succ, List.getElem_toArray, List.getElem_cons_zero, List.getElem_cons_succ])
    refine wpAnyG_store (i := 7) (fun w' => Below W2.heap.size W2 w' ∧ W2.heap.size ≤ c_cr ∧ Box4 c_cr ((miP la (sM wd)).1) ((miP la (sM wd)).2) ((swP la (sM wd)).1) ((swP la (sM wd)).2) w') rfl (by kernel_rfl) (⟨fun _ _ hx hy => ⟨hx.1.trans (hy.mono hx.1.size), hx.2.1, hx.2.2.below hy⟩, fun _ hx => ⟨cp.below hx.1, ct.below hx.1, se.below hx.1⟩⟩) rfl ?_ ?_
    · rintro ww ⟨hB, hge, hal⟩
      obtain ⟨q0, q1, q2, q3, q4, q5, q6, q7, q8⟩ := hal
      refine ⟨((((ww.setCell ⟨c_cr, 0, none⟩ (.int .i64 ((miP la (sM wd)).1))).setCell ⟨c_cr, 1, none⟩ (.int .i64 ((miP la (sM wd)).2))).setCell ⟨c_cr, 2, none⟩ (.int .i64 ((swP la (sM wd)).1))).setCell ⟨c_cr, 3, none⟩ (.int .i64 ((swP la (sM wd)).2))), ?_, ((((hB.setCell hge _).setCell hge _).setCell hge _).setCell hge _), hge, Box4.set ⟨q0, q1, q2, q3, q4, q5, q6, q7, q8⟩ _ _ _ _⟩
      go_simp
      try rfl
    (try simp only [Act.put, List.setIfInBounds_toArray, List.set_cons_zero, List.set_cons_succ, List.getElem_toArray, List.getElem_cons_zero, List.getElem_cons_succ])
    refine wpAnyG_done (by kernel_rfl) ?_ _
    rintro W3 ⟨hB, hge, hal⟩
    clear hR hG
    have wa := wa.below hB
    have cp := cp.below hB
    have ct := ct.below hB
    have al := al.below hB
    have hf := hf.below hB
    have dy := dy.below hB
    have se := se.below hB
    have eq := eq.below hB
    have hb := hb.trans (hB.mono hb.size)
    have cr := hal
    clear hal
    have cr_lb : A < c_cr := Nat.lt_of_lt_of_le hlt3 hge
    clear hge
    clear hB
    go_wp2_with fail
    have hlt4 : A < W3.heap.size := wa.lt
    have hR : ∀ w', Below W3.heap.size W3 w' → Box (B) ((siP alt).1) ((siP alt).2) w' ∧ Box4 (c_cr) ((miP la (sM wd)).1) ((miP la (sM wd)).2) ((swP la (sM wd)).1) ((swP la (sM wd)).2) w' := fun w' hq0 => ⟨al.below hq0, cr.below hq0⟩
    have hG := good_below hR
    refine wp_region_G (R := fun w' => Box (B) ((siP alt).1) ((siP alt).2) w' ∧ Box4 (c_cr) ((miP la (sM wd)).1) ((miP la (sM wd)).2) ((swP la (sM wd)).1) ((swP la (sM wd)).2) w') (fun w' => Below W3.heap.size W3 w') (by kernel_rfl) (Below.refl _ _).drew ?_
    refine wpAnyG_take (i := 0) (v := ?_) rfl (by kernel_rfl) (by kernel_rfl) (by kernel_rfl) hG rfl ?_ ?_
    rotate_left
    (focus (intro ww hSw; obtain ⟨⟨r0_0, r0_1, r0_2, r0_3, r0_4⟩, ⟨r1_0, r1_1, r1_2, r1_3, r1_4, r1_5, r1_6, r1_7, r1_8⟩⟩ := hSw; go_simp; (try with_reducible rfl)))
    (try simp only [Act.put, List.setIfInBounds_toArray, List.set_cons_zero, List.set_cons_succ, List.getElem_toArray, List.getElem_cons_zero, List.getElem_cons_succ])
    refine wpAnyG_take (i := 1) (v := ?_) rfl (by kernel_rfl) (by kernel_rfl) (by kernel_rfl) hG rfl ?_ ?_
    rotate_left
    (focus (intro ww hSw; obtain ⟨⟨r0_0, r0_1, r0_2, r0_3, r0_4⟩, ⟨r1_0, r1_1, r1_2, r1_3, r1_4, r1_5, r1_6, r1_7, r1_8⟩⟩ := hSw; go_simp; (try with_reducible rfl)))
    (try simp only [Act.put, List.setIfInBounds_toArray, List.set_cons_zero, List.set_cons_succ, List.getElem_toArray, List.getElem_cons_zero, List.getElem_cons_succ])
    refine wpAnyG_take (i := 2) (v := ?_) rfl (by kernel_rfl) (by kernel_rfl) (by kernel_rfl) hG rfl ?_ ?_
    rotate_left
    (focus (intro ww hSw; obtain ⟨⟨r0_0, r0_1, r0_2, r0_3, r0_4⟩, ⟨r1_0, r1_1, r1_2, r1_3, r1_4, r1_5, r1_6, r1_7, r1_8⟩⟩ := hSw; go_simp; (try with_reducible rfl)))
    (try simp only [Act.put, List.setIfInBounds_toArray, List.set_cons_zero, List.set_cons_succ, List.getElem_toArray, List.getElem_cons_zero, List.getElem_cons_succ])
    refine wpAnyG_call (i := 3) _ _ _ rfl (by kernel_rfl) (by kernel_rfl) (by kernel_rfl) hG rfl (by intro ww; go_simp; all_goals (first | rfl | exact ⟨rfl, rfl⟩)) (fun ww => N1.out ww) ?_
    (try simp only [Act.put, List.setIfInBounds_toArray, List.set_cons_zero, List.set_cons_succ, List.getElem_toArray, List.getElem_cons_zero, List.getElem_cons_succ])
    refine wpAnyG_take (i := 4) (v := ?_) rfl (by kernel_rfl) (by kernel_rfl) (by kernel_rfl) hG rfl ?_ ?_
    rotate_left
    (focus (intro ww hSw; obtain ⟨⟨r0_0, r0_1, r0_2, r0_3, r0_4⟩, ⟨r1_0, r1_1, r1_2, r1_3, r1_4, r1_5, r1_6, r1_7, r1_8⟩⟩ := hSw; go_simp; (try with_reducible rfl)))
    (try simp only [Act.put, List.setIfInBounds_toArray, List.set_cons_zero, List.set_cons_succ, List.getElem_toArray, List.getElem_cons_zero, List.getElem_cons_succ])
    refine wpAnyG_take (i := 5) (v := ?_) rfl (by kernel_rfl) (by kernel_rfl) (by kernel_rfl) hG rfl ?_ ?_
    rotate_left
    (focus (intro ww hSw; obtain ⟨⟨r0_0, r0_1, r0_2, r0_3, r0_4⟩, ⟨r1_0, r1_1, r1_2, r1_3, r1_4, r1_5, r1_6, r1_7, r1_8⟩⟩ := hSw; go_simp; (try with_reducible rfl)))
    (try simp only [Act.put, List.setIfInBounds_toArray, List.set_cons_zero, List.set_cons_succ, List.getElem_toArray, List.getElem_cons_zero, List.getElem_cons_succ])
    refine wpAnyG_call (i := 6) _ _ _ rfl (by kernel_rfl) (by kernel_rfl) (by kernel_rfl) hG rfl (by intro ww; go_simp; all_goals (first | rfl | exact ⟨rfl, rfl⟩)) (fun ww => N2.out ww) ?_
    (try simp only [Act.put, List.setIfInBounds_toArray, List.set_cons_zero, List.set_cons_succ, List.getElem_toArray, List.getElem_cons_zero, List.getElem_cons_succ])
    refine wpAnyG_take (i := 7) (v := ?_) rfl (by kernel_rfl) (by kernel_rfl) (by kernel_rfl) hG rfl ?_ ?_
    rotate_left
    (focus (intro ww hSw; obtain ⟨⟨r0_0, r0_1, r0_2, r0_3, r0_4⟩, ⟨r1_0, r1_1, r1_2, r1_3, r1_4, r1_5, r1_6, r1_7, r1_8⟩⟩ := hSw; go_simp; (try with_reducible rfl)))
    (try simp only [Act.put, List.setIfInBounds_toArray, List.set_cons_zero, List.set_cons_succ, List.getElem_toArray, List.getElem_cons_zero, List.getElem_cons_succ])
    refine wpAnyG_take (i := 8) (v := ?_) rfl (by kernel_rfl) (by kernel_rfl) (by kernel_rfl) hG rfl ?_ ?_
    rotate_left
    (focus (intro ww hSw; obtain ⟨⟨r0_0, r0_1, r0_2, r0_3, r0_4⟩, ⟨r1_0, r1_1, r1_2, r1_3, r1_4, r1_5, r1_6, r1_7, r1_8⟩⟩ := hSw; go_simp; (try with_reducible rfl)))
    (try simp only [Act.put, List.setIfInBounds_toArray, List.set_cons_zero, List.set_cons_succ, List.getElem_toArray, List.getElem_cons_zero, List.getElem_cons_succ])
    refine wpAnyG_call (i := 9) _ _ _ rfl (by kernel_rfl) (by kernel_rfl) (by kernel_rfl) hG rfl (by intro ww; go_simp; all_goals (first | rfl | exact ⟨rfl, rfl⟩)) (fun ww => N3.out ww) ?_
    (try simp only [Act.put, List.setIfInBounds_toArray, List.set_cons_zero, List.set_cons_succ, List.getElem_toArray, List.getElem_cons_zero, List.getElem_cons_succ])
    refine wpAnyG_take (i := 10) (v := ?_) rfl (by kernel_rfl) (by kernel_rfl) (by kernel_rfl) hG rfl ?_ ?_
    rotate_left
    (focus (intro ww hSw; obtain ⟨⟨r0_0, r0_1, r0_2, r0_3, r0_4⟩, ⟨r1_0, r1_1, r1_2, r1_3, r1_4, r1_5, r1_6, r1_7, r1_8⟩⟩ := hSw; go_simp; (try with_reducible rfl)))
    (try simp only [Act.put, List.setIfInBounds_toArray, List.set_cons_zero, List.set_cons_succ, List.getElem_toArray, List.getElem_cons_zero, List.getElem_cons_succ])
    refine wpAnyG_take (i := 11) (v := ?_) rfl (by kernel_rfl) (by kernel_rfl) (by kernel_rfl) hG rfl ?_ ?_
    rotate_left
    (focus (intro ww hSw; obtain ⟨⟨r0_0, r0_1, r0_2, r0_3, r0_4⟩, ⟨r1_0, r1_1, r1_2, r1_3, r1_4, r1_5, r1_6, r1_7, r1_8⟩⟩ := hSw; go_simp; (try with_reducible rfl)))
    (try simp only [Act.put, List.setIfInBounds_toArray, List.set_cons_zero, List.set_cons_succ, List.getElem_toArray, List.getElem_cons_zero, List.getElem_cons_succ])
    refine wpAnyG_call (i := 12) _ _ _ rfl (by kernel_rfl) (by kernel_rfl) (by kernel_rfl) hG rfl (by intro ww; go_simp; all_goals (first | rfl | exact ⟨rfl, rfl⟩)) (fun ww => N4.out ww) ?_
    (try simp only [Act.put, List.setIfInBounds_toArray, List.set_cons_zero, List.set_cons_succ, List.getElem_toArray, List.getElem_cons_zero, List.getElem_cons_succ])
    refine wpAnyG_new (i := 13) (fun b => .pointer (some ⟨b, 0, none⟩)) (fun c_x => fun w' => Below W3.heap.size W3 w' ∧ W3.heap.size ≤ c_x ∧ Box c_x (0) (0) w') rfl (by kernel_rfl) (fun c_x => ⟨fun _ _ hx hy => ⟨hx.1.trans (hy.mono hx.1.size), hx.2.1, hx.2.2.below hy⟩, fun _ hx => ⟨al.below hx.1, cr.below hx.1⟩⟩) rfl ?_ ?_
    · intro ww hS
      refine ⟨ww.alloc (.cells #[.int .i64 0, .int .i64 0] 51), ?_, hS.alloc hS.size _, hS.size, Box.fresh _ _ _ _⟩
      go_simp
      try rfl
    intro c_x
    (try simp only [Act.put, List.setIfInBounds_toArray, List.set_cons_zero, List.set_cons_succ, List.getElem_toArray, List.getElem_cons_zero, List.getElem_cons_succ])
    refine wpAnyG_store (i := 14) (fun w' => Below W3.heap.size W3 w' ∧ W3.heap.size ≤ c_x ∧ Box c_x ((raP alt la wd).1) ((raP alt la wd).2) w') rfl (by kernel_rfl) (⟨fun _ _ hx hy => ⟨hx.1.trans (hy.mono hx.1.size), hx.2.1, hx.2.2.below hy⟩, fun _ hx => ⟨al.below hx.1, cr.below hx.1⟩⟩) rfl ?_ ?_
    · rintro ww ⟨hB, hge, hal⟩
      obtain ⟨q0, q1, q2, q3, q4⟩ := hal
      refine ⟨((ww.setCell ⟨c_x, 0, none⟩ (.int .i64 ((raP alt la wd).1))).setCell ⟨c_x, 1, none⟩ (.int .i64 ((raP alt la wd).2))), ?_, ((hB.setCell hge _).setCell hge _), hge, Box.set ⟨q0, q1, q2, q3, q4⟩ _ _⟩
      go_simp
      try rfl
    (try simp only [Act.put, List.setIfInBounds_toArray, List.set_cons_zero, List.set_cons_succ, List.getElem_toArray, List.getElem_cons_zero, List.getElem_cons_succ])
    refine wpAnyG_done (by kernel_rfl) ?_ _
    rintro W4 ⟨hB, hge, hal⟩
    clear hR hG
    have wa := wa.below hB
    have cp := cp.below hB
    have ct := ct.below hB
    have al := al.below hB
    have hf := hf.below hB
    have dy := dy.below hB
    have se := se.below hB
    have eq := eq.below hB
    have cr := cr.below hB
    have hb := hb.trans (hB.mono hb.size)
    have x := hal
    clear hal
    have x_lb : A < c_x := Nat.lt_of_lt_of_le hlt4 hge
    clear hge
    clear hB
    have Hx := Lib.hid x
    obtain ⟨x_0, x_1, x_2, x_3, x_4⟩ := x
    have x_n : (c_x) ≠ W4.heap.size := Nat.ne_of_lt x_4
    go_wp2_with fail
    clear x_n x_0 x_1 x_2 x_3 x_4
    have x := Hx.out
    clear Hx
    refine (K1.out _).mono ?_
    rintro e v5 ⟨rfl, hq⟩
    have wa := wa.below hq
    have cp := cp.below hq
    have ct := ct.below hq
    have al := al.below hq
    have hf := hf.below hq
    have dy := dy.below hq
    have se := se.below hq
    have eq := eq.below hq
    have cr := cr.below hq
    have x := x.below hq
    have hb := hb.trans (hq.mono hb.size)
    clear hq
    go_wp2_with fail
    go_ret
    exact ⟨ret_int rfl, wa, But.of hb⟩
end Go.Proofs.YtjcgojbfjefbcaaDoor
