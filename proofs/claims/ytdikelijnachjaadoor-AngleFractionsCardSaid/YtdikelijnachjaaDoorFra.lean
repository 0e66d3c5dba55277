/- The walk of AngleFractions. -/
import Derived.Test.YtdikelijnachjaaDoorAri
import Derived.Deep.QuietTactic
namespace Go.Proofs.YtdikelijnachjaaDoor
set_option linter.unusedSimpArgs false
set_option linter.unusedVariables false
open Go.RowKit SineNear

theorem below_drewN {B : Nat} {a w : World} (h : Below B a w) (n : Nat) : Below B a (w.drewN n) := ⟨h.os, h.tape, h.output, h.size, h.block⟩

/-- what Go's quotient and rest are, and what lies around them -/
theorem quo_parts (n d q0 q1 : Int) (hd : 0 < d) (h0 : q0 ≤ n / d) (h1 : upD n d ≤ q1) (n0 : -300000000000000000 ≤ n) (n1 : n ≤ 300000000000000000) : ∃ Q R : Int, n.tdiv d = Q ∧ n.tmod d = R ∧ -300000000000000000 ≤ Q ∧ Q ≤ 300000000000000000 ∧ -d < R ∧ R < d ∧
    ((R < 0 ∧ q0 ≤ Q - 1 ∧ Q ≤ q1) ∨ (R = 0 ∧ q1 = Q ∧ q0 ≤ Q) ∨ (0 ≤ R ∧ (q1 == Q) = false ∧ q0 ≤ Q ∧ Q ≤ q1)) := by
  by_cases hn : 0 ≤ n
  · obtain ⟨Q, R, e1, e2, e3, e4, e5⟩ := pos_parts n d hd
    have b0 := Int.ediv_nonneg hn (show 0 ≤ d by omega)
    have b1 := Int.ediv_le_self d hn
    refine ⟨Q, R, by rw [← e1, ← Int.tdiv_eq_ediv_of_nonneg hn], by rw [← e2, ← Int.tmod_eq_emod_of_nonneg hn], by omega, by omega, by omega, by omega, ?_⟩
    right
    rw [e1] at h0
    rw [e5] at h1
    by_cases hR : 0 < R
    · rw [if_pos hR] at h1
      exact .inr ⟨by omega, beq_no (by omega), h0, by omega⟩
    · rw [if_neg hR] at h1
      by_cases hq : q1 = Q
      · exact .inl ⟨by omega, hq, h0⟩
      · exact .inr ⟨by omega, beq_no hq, h0, h1⟩
  · obtain ⟨q, r, e1, e2, e3, e4, e5, e6⟩ := neg_parts n d hd
    have b0 := Int.ediv_nonneg (show 0 ≤ -n by omega) (show 0 ≤ d by omega)
    have b1 := Int.ediv_le_self d (show 0 ≤ -n by omega)
    have t1 : n.tdiv d = -q := by rw [← e1, ← Int.tdiv_eq_ediv_of_nonneg (by omega), Int.neg_tdiv, Int.neg_neg]
    have t2 : n.tmod d = -r := by rw [← e2, ← Int.tmod_eq_emod_of_nonneg (by omega), Int.neg_tmod, Int.neg_neg]
    have u : upD n d = -q := by unfold upD; rw [e1]
    rw [u] at h1
    rw [e6] at h0
    refine ⟨-q, -r, t1, t2, by omega, by omega, by omega, by omega, ?_⟩
    by_cases hR : 0 < r
    · rw [if_pos hR] at h0
      exact .inl ⟨by omega, by omega, by omega⟩
    · rw [if_neg hR] at h0
      right
      by_cases hq : q1 = -q
      · exact .inl ⟨by omega, hq, h0⟩
      · exact .inr ⟨by omega, beq_no hq, h0, h1⟩

set_option maxRecDepth 100000 in
set_option maxHeartbeats 2000000 in
theorem fra_in (x0 x1 y0 y1 u v p0 p1 e q0 q1 f a b : Int) (w : World) (t : Tabs w) (hx0 : -3000000000 ≤ x0) (hx : x0 ≤ x1) (hx1 : x1 ≤ 3000000000) (hy0 : -3000000000 ≤ y0) (hy : y0 ≤ y1) (hy1 : y1 ≤ 3000000000)
    (u0 : 0 ≤ u) (u1 : u ≤ 255) (v0 : 0 ≤ v) (v1 : v ≤ 255)
    (C1 : RetT 34 #[encl x0 x1, encl y0 y1] (enclE p0 p1 e)) (C2 : RetT 36 #[encl x0 x1, encl y0 y1] (enclE q0 q1 f)) 
    (mx0 : 0 ≤ (x1 - x0) * u) (mx1 : (x1 - x0) * u ≤ 1530000000000) (my0 : 0 ≤ (y1 - y0) * v) (my1 : (y1 - y0) * v ≤ 1530000000000) 
    (ha : x0 + (x1 - x0) * u / 255 = a) (hb : y0 + (y1 - y0) * v / 255 = b) (a0 : x0 ≤ a) (a1 : a ≤ x1) (b0 : y0 ≤ b) (b1 : b ≤ y1)
    (E : (e = 0 ∧ p0 * 100000000 ≤ a * b ∧ a * b ≤ p1 * 100000000 ∧ -3000000000 ≤ p0 ∧ p0 ≤ p1 ∧ p1 ≤ 3000000000) ∨ e = 7)
    (F : (f = 8 ∧ y0 ≤ 0 ∧ 0 ≤ y1) ∨ (f = 7 ∧ (0 < y0 ∨ y1 < 0)) ∨ (f = 0 ∧ (0 < y0 ∨ y1 < 0) ∧ q0 ≤ qLoQ (a * 100000000) b ∧ qHiQ (a * 100000000) b ≤ q1 ∧ -300000000000000001 ≤ q0 ∧ q1 ≤ 300000000000000001)) :
    Calls Tryd.prog 9 #[encl x0 x1, encl y0 y1, .agg #[.int .u8 u, .int .u8 v]] w fun e w' => e = .returned (.bool true) ∧ Below w.heap.size w w' := by
  have C1' := Lib.hid C1
  have C2' := Lib.hid C2
  have HA := Lib.hid ha
  have HB := Lib.hid hb
  clear C1 C2 ha hb
  go_enter Tryd.func9, Tryd.ntmps9
  go_wp2_with fail
  refine (C1'.out _).mono ?_
  rintro e' w1 ⟨rfl, hb1⟩
  obtain ⟨hc, hf⟩ := bcellB hb1
  have hz1 : w.heap.size + 1 + 1 < w1.heap.size := by have := hb1.size; simp at this; omega
  have hbw : Below w.heap.size w w1 := ((((Below.refl _ _).alloc (Nat.le_refl _) _).alloc (by simp) _).alloc (by simp; omega) _).trans (hb1.mono (by simp; omega))
  have z1 : w.heap.size < w1.heap.size := by omega
  have z2 : w.heap.size + 1 < w1.heap.size := by omega
  go_wp2_with fail
  refine (C2'.out _).mono ?_
  rintro e' w2 ⟨rfl, hb2⟩
  have hz2 := hb2.size
  simp at hz2
  have bp := (Box.fresh w1 p0 p1 23).below hb2
  have bx := (show Box w.heap.size x0 x1 w1 from by refine ⟨?_, ?_, ?_, ?_, by omega⟩ <;> simp [go_sem, hc, hf])
  have by' := (show Box (w.heap.size + 1) y0 y1 w1 from by refine ⟨?_, ?_, ?_, ?_, by omega⟩ <;> simp [go_sem, hc, hf])
  have c0 : w1.cell? ⟨w.heap.size + 1 + 1, 0, none⟩ = some (.int .u8 u) := by simp [go_sem, hc]
  have c1 : w1.cell? ⟨w.heap.size + 1 + 1, 1, none⟩ = some (.int .u8 v) := by simp [go_sem, hc]
  clear hc hf
  have bx := ((bx.alloc (.cells #[.int .i64 p0, .int .i64 p1] 23)).below hb2).alloc (.cells #[.int .i64 q0, .int .i64 q1] 23)
  have by' := ((by'.alloc (.cells #[.int .i64 p0, .int .i64 p1] 23)).below hb2).alloc (.cells #[.int .i64 q0, .int .i64 q1] 23)
  have bp := bp.alloc (.cells #[.int .i64 q0, .int .i64 q1] 23)
  have bq := Box.fresh w2 q0 q1 23
  have c0 : (w2.alloc (.cells #[.int .i64 q0, .int .i64 q1] 23)).cell? ⟨w.heap.size + 1 + 1, 0, none⟩ = some (.int .u8 u) := by
    rw [World.cell?_alloc_old _ _ _ (by simp; omega), hb2.cell (p := ⟨w.heap.size + 1 + 1, 0, none⟩) (by simp; omega), World.cell?_alloc_old _ _ _ (by simp; omega)]; exact c0
  have c1 : (w2.alloc (.cells #[.int .i64 q0, .int .i64 q1] 23)).cell? ⟨w.heap.size + 1 + 1, 1, none⟩ = some (.int .u8 v) := by
    rw [World.cell?_alloc_old _ _ _ (by simp; omega), hb2.cell (p := ⟨w.heap.size + 1 + 1, 1, none⟩) (by simp; omega), World.cell?_alloc_old _ _ _ (by simp; omega)]; exact c1
  have o2 : Below w.heap.size w (w2.alloc (.cells #[.int .i64 q0, .int .i64 q1] 23)) := ((hbw.alloc (by omega) _).trans (hb2.mono (by simp; omega))).alloc (by omega) _
  obtain ⟨x00, x01, _, _, xz⟩ := bx
  obtain ⟨y00, y01, _, _, yz⟩ := by'
  obtain ⟨p00, p01, _, _, pz⟩ := bp
  obtain ⟨q00, q01, _, _, qz⟩ := bq
  have tt := t.below o2
  clear hb1 hb2 hbw hz1 hz2 z1 z2 
  go_upto_region 5 with (fail)
  obtain ⟨W, hW⟩ : ∃ W, W = w2.alloc (.cells #[.int .i64 q0, .int .i64 q1] 23) := ⟨_, rfl⟩
  rw [← hW] at x00 x01 xz y00 y01 yz p00 p01 pz q00 q01 qz c0 c1 o2 tt ⊢
  clear hW
  have r1 : IntKind.i64.wrap (x1 - x0) = x1 - x0 := IntWalk.i64_in _ (by omega)
  have r2 : IntKind.i64.wrap ((x1 - x0) * u) = (x1 - x0) * u := IntWalk.i64_in _ (by omega)
  have r3 : ((x1 - x0) * u).tdiv 255 = (x1 - x0) * u / 255 := Int.tdiv_eq_ediv_of_nonneg mx0
  have r4 : IntKind.i64.wrap (x0 + (x1 - x0) * u / 255) = a := by rw [HA.out]; exact IntWalk.i64_in _ (by omega)
  have r5 : IntKind.i64.wrap (y1 - y0) = y1 - y0 := IntWalk.i64_in _ (by omega)
  have r6 : IntKind.i64.wrap ((y1 - y0) * v) = (y1 - y0) * v := IntWalk.i64_in _ (by omega)
  have r7 : ((y1 - y0) * v).tdiv 255 = (y1 - y0) * v / 255 := Int.tdiv_eq_ediv_of_nonneg my0
  have r8 : IntKind.i64.wrap (y0 + (y1 - y0) * v / 255) = b := by rw [HB.out]; exact IntWalk.i64_in _ (by omega)
  have r9 : IntKind.i64.wrap u = u := IntWalk.i64_in _ (by omega)
  have r10 : IntKind.i64.wrap v = v := IntWalk.i64_in _ (by omega)
  have r11 : IntKind.i64.wrap ((x1 - x0) * u / 255) = (x1 - x0) * u / 255 := IntWalk.i64_in _ (by omega)
  have r12 : IntKind.i64.wrap ((y1 - y0) * v / 255) = (y1 - y0) * v / 255 := IntWalk.i64_in _ (by omega)
  go_quiet (fail)
  clear r1 r2 r3 r4 r5 r6 r7 r8 r9 r10 r11 r12
  have hab := @prod_bd a b (by omega) (by omega) (by omega) (by omega)
  rcases E with ⟨rfl, e1, e2, e3, e4, e5⟩ | rfl
  · have t1 : ¬ (a * b < p0 * 100000000) := by omega
    have t2 : ¬ (p1 * 100000000 < a * b) := by omega
    rcases F with ⟨rfl, f1, f2⟩ | ⟨rfl, f1⟩ | ⟨rfl, f1, F⟩
    · go_wp2_with fail
      refine (awake_any _ (tt.below (below_drewN (Below.refl _ _) _))).mono ?_
      rintro e w4 ⟨rfl, hb4⟩
      go_wp2_with fail
      go_ret
      exact ⟨rfl, (below_drewN o2 _).trans (hb4.mono o2.size)⟩
    · have f2 : ¬ (y0 ≤ 0) ∨ (y0 ≤ 0 ∧ ¬ (0 ≤ y1)) := by omega
      clear f1
      rcases f2 with f2 | ⟨f2, f3⟩
      all_goals
        go_wp2_with fail
        refine (awake_any _ (tt.below (below_drewN (Below.refl _ _) _))).mono ?_
        rintro e w4 ⟨rfl, hb4⟩
        go_wp2_with fail
        go_ret
        exact ⟨rfl, (below_drewN o2 _).trans (hb4.mono o2.size)⟩
    · obtain ⟨F1, F2, F3, F4⟩ := F
      rcases f1 with f1 | f1
      · have hbn : ¬ (b < 0) := by omega
        have f2 : ¬ (y0 ≤ 0) := by omega
        unfold qLoQ at F1
        unfold qHiQ at F2
        rw [if_neg hbn] at F1 F2
        obtain ⟨Q, R, t3, t4, t5, t6, t7, t8, G⟩ := quo_parts _ _ _ _ (by omega) F1 F2 (by omega) (by omega)
        have hne : b ≠ 0 := by omega
        clear F1 F2 f1
        rcases G with ⟨g1, g2, g3⟩ | ⟨g1, rfl, g2⟩ | ⟨g1, g2, g3, g4⟩
        · have g4 : (q1 == Q - 1) = false := beq_no (by omega)
          go_wp2_with fail
          have t9 : IntKind.i64.wrap _ = _ := IntWalk.i64_in Q (by omega)
          go_quiet (fail)
          clear t9 t3 t4
          go_wp2_with fail
          refine (awake_any _ (tt.below (below_drewN (Below.refl _ _) _))).mono ?_
          rintro e w4 ⟨rfl, hb4⟩
          go_wp2_with fail
          go_ret
          first | exact ⟨rfl, (below_drewN o2 _).trans (hb4.mono o2.size)⟩ | exact ⟨ret_bool (by simp; omega), (below_drewN o2 _).trans (hb4.mono o2.size)⟩
        · go_wp2_with fail
          have t9 : IntKind.i64.wrap _ = _ := IntWalk.i64_in q1 (by omega)
          go_quiet (fail)
          clear t9 t3 t4
          go_wp2_with fail
          refine (awake_any _ (tt.below (below_drewN (Below.refl _ _) _))).mono ?_
          rintro e w4 ⟨rfl, hb4⟩
          go_wp2_with fail
          go_ret
          first | exact ⟨rfl, (below_drewN o2 _).trans (hb4.mono o2.size)⟩ | exact ⟨ret_bool (by simp; omega), (below_drewN o2 _).trans (hb4.mono o2.size)⟩
        · go_wp2_with fail
          have t9 : IntKind.i64.wrap _ = _ := IntWalk.i64_in Q (by omega)
          go_quiet (fail)
          clear t9 t3 t4
          go_wp2_with fail
          refine (awake_any _ (tt.below (below_drewN (Below.refl _ _) _))).mono ?_
          rintro e w4 ⟨rfl, hb4⟩
          go_wp2_with fail
          go_ret
          first | exact ⟨rfl, (below_drewN o2 _).trans (hb4.mono o2.size)⟩ | exact ⟨ret_bool (by simp; omega), (below_drewN o2 _).trans (hb4.mono o2.size)⟩
      · have hbn : b < 0 := by omega
        have f2 : ¬ (0 ≤ y1) := by omega
        have f3 : y0 ≤ 0 := by omega
        unfold qLoQ at F1
        unfold qHiQ at F2
        rw [if_pos hbn] at F1 F2
        obtain ⟨Q, R, t3, t4, t5, t6, t7, t8, G⟩ := quo_parts _ _ _ _ (by omega) F1 F2 (by omega) (by omega)
        have hne : -b ≠ 0 := by omega
        clear F1 F2 f1
        rcases G with ⟨g1, g2, g3⟩ | ⟨g1, rfl, g2⟩ | ⟨g1, g2, g3, g4⟩
        · have g4 : (q1 == Q - 1) = false := beq_no (by omega)
          go_wp2_with fail
          have t9 : IntKind.i64.wrap _ = _ := IntWalk.i64_in Q (by omega)
          go_quiet (fail)
          clear t9 t3 t4
          go_wp2_with fail
          refine (awake_any _ (tt.below (below_drewN (Below.refl _ _) _))).mono ?_
          rintro e w4 ⟨rfl, hb4⟩
          go_wp2_with fail
          go_ret
          first | exact ⟨rfl, (below_drewN o2 _).trans (hb4.mono o2.size)⟩ | exact ⟨ret_bool (by simp; omega), (below_drewN o2 _).trans (hb4.mono o2.size)⟩
        · go_wp2_with fail
          have t9 : IntKind.i64.wrap _ = _ := IntWalk.i64_in q1 (by omega)
          go_quiet (fail)
          clear t9 t3 t4
          go_wp2_with fail
          refine (awake_any _ (tt.below (below_drewN (Below.refl _ _) _))).mono ?_
          rintro e w4 ⟨rfl, hb4⟩
          go_wp2_with fail
          go_ret
          first | exact ⟨rfl, (below_drewN o2 _).trans (hb4.mono o2.size)⟩ | exact ⟨ret_bool (by simp; omega), (below_drewN o2 _).trans (hb4.mono o2.size)⟩
        · go_wp2_with fail
          have t9 : IntKind.i64.wrap _ = _ := IntWalk.i64_in Q (by omega)
          go_quiet (fail)
          clear t9 t3 t4
          go_wp2_with fail
          refine (awake_any _ (tt.below (below_drewN (Below.refl _ _) _))).mono ?_
          rintro e w4 ⟨rfl, hb4⟩
          go_wp2_with fail
          go_ret
          first | exact ⟨rfl, (below_drewN o2 _).trans (hb4.mono o2.size)⟩ | exact ⟨ret_bool (by simp; omega), (below_drewN o2 _).trans (hb4.mono o2.size)⟩
  · rcases F with ⟨rfl, f1, f2⟩ | ⟨rfl, f1⟩ | ⟨rfl, f1, F⟩
    · go_wp2_with fail
      refine (awake_any _ (tt.below (below_drewN (Below.refl _ _) _))).mono ?_
      rintro e w4 ⟨rfl, hb4⟩
      go_wp2_with fail
      go_ret
      exact ⟨rfl, (below_drewN o2 _).trans (hb4.mono o2.size)⟩
    · have f2 : ¬ (y0 ≤ 0) ∨ (y0 ≤ 0 ∧ ¬ (0 ≤ y1)) := by omega
      clear f1
      rcases f2 with f2 | ⟨f2, f3⟩
      all_goals
        go_wp2_with fail
        refine (awake_any _ (tt.below (below_drewN (Below.refl _ _) _))).mono ?_
        rintro e w4 ⟨rfl, hb4⟩
        go_wp2_with fail
        go_ret
        exact ⟨rfl, (below_drewN o2 _).trans (hb4.mono o2.size)⟩
    · obtain ⟨F1, F2, F3, F4⟩ := F
      rcases f1 with f1 | f1
      · have hbn : ¬ (b < 0) := by omega
        have f2 : ¬ (y0 ≤ 0) := by omega
        unfold qLoQ at F1
        unfold qHiQ at F2
        rw [if_neg hbn] at F1 F2
        obtain ⟨Q, R, t3, t4, t5, t6, t7, t8, G⟩ := quo_parts _ _ _ _ (by omega) F1 F2 (by omega) (by omega)
        have hne : b ≠ 0 := by omega
        clear F1 F2 f1
        rcases G with ⟨g1, g2, g3⟩ | ⟨g1, rfl, g2⟩ | ⟨g1, g2, g3, g4⟩
        · have g4 : (q1 == Q - 1) = false := beq_no (by omega)
          go_wp2_with fail
          have t9 : IntKind.i64.wrap _ = _ := IntWalk.i64_in Q (by omega)
          go_quiet (fail)
          clear t9 t3 t4
          go_wp2_with fail
          refine (awake_any _ (tt.below (below_drewN (Below.refl _ _) _))).mono ?_
          rintro e w4 ⟨rfl, hb4⟩
          go_wp2_with fail
          go_ret
          first | exact ⟨rfl, (below_drewN o2 _).trans (hb4.mono o2.size)⟩ | exact ⟨ret_bool (by simp; omega), (below_drewN o2 _).trans (hb4.mono o2.size)⟩
        · go_wp2_with fail
          have t9 : IntKind.i64.wrap _ = _ := IntWalk.i64_in q1 (by omega)
          go_quiet (fail)
          clear t9 t3 t4
          go_wp2_with fail
          refine (awake_any _ (tt.below (below_drewN (Below.refl _ _) _))).mono ?_
          rintro e w4 ⟨rfl, hb4⟩
          go_wp2_with fail
          go_ret
          first | exact ⟨rfl, (below_drewN o2 _).trans (hb4.mono o2.size)⟩ | exact ⟨ret_bool (by simp; omega), (below_drewN o2 _).trans (hb4.mono o2.size)⟩
        · go_wp2_with fail
          have t9 : IntKind.i64.wrap _ = _ := IntWalk.i64_in Q (by omega)
          go_quiet (fail)
          clear t9 t3 t4
          go_wp2_with fail
          refine (awake_any _ (tt.below (below_drewN (Below.refl _ _) _))).mono ?_
          rintro e w4 ⟨rfl, hb4⟩
          go_wp2_with fail
          go_ret
          first | exact ⟨rfl, (below_drewN o2 _).trans (hb4.mono o2.size)⟩ | exact ⟨ret_bool (by simp; omega), (below_drewN o2 _).trans (hb4.mono o2.size)⟩
      · have hbn : b < 0 := by omega
        have f2 : ¬ (0 ≤ y1) := by omega
        have f3 : y0 ≤ 0 := by omega
        unfold qLoQ at F1
        unfold qHiQ at F2
        rw [if_pos hbn] at F1 F2
        obtain ⟨Q, R, t3, t4, t5, t6, t7, t8, G⟩ := quo_parts _ _ _ _ (by omega) F1 F2 (by omega) (by omega)
        have hne : -b ≠ 0 := by omega
        clear F1 F2 f1
        rcases G with ⟨g1, g2, g3⟩ | ⟨g1, rfl, g2⟩ | ⟨g1, g2, g3, g4⟩
        · have g4 : (q1 == Q - 1) = false := beq_no (by omega)
          go_wp2_with fail
          have t9 : IntKind.i64.wrap _ = _ := IntWalk.i64_in Q (by omega)
          go_quiet (fail)
          clear t9 t3 t4
          go_wp2_with fail
          refine (awake_any _ (tt.below (below_drewN (Below.refl _ _) _))).mono ?_
          rintro e w4 ⟨rfl, hb4⟩
          go_wp2_with fail
          go_ret
          first | exact ⟨rfl, (below_drewN o2 _).trans (hb4.mono o2.size)⟩ | exact ⟨ret_bool (by simp; omega), (below_drewN o2 _).trans (hb4.mono o2.size)⟩
        · go_wp2_with fail
          have t9 : IntKind.i64.wrap _ = _ := IntWalk.i64_in q1 (by omega)
          go_quiet (fail)
          clear t9 t3 t4
          go_wp2_with fail
          refine (awake_any _ (tt.below (below_drewN (Below.refl _ _) _))).mono ?_
          rintro e w4 ⟨rfl, hb4⟩
          go_wp2_with fail
          go_ret
          first | exact ⟨rfl, (below_drewN o2 _).trans (hb4.mono o2.size)⟩ | exact ⟨ret_bool (by simp; omega), (below_drewN o2 _).trans (hb4.mono o2.size)⟩
        · go_wp2_with fail
          have t9 : IntKind.i64.wrap _ = _ := IntWalk.i64_in Q (by omega)
          go_quiet (fail)
          clear t9 t3 t4
          go_wp2_with fail
          refine (awake_any _ (tt.below (below_drewN (Below.refl _ _) _))).mono ?_
          rintro e w4 ⟨rfl, hb4⟩
          go_wp2_with fail
          go_ret
          first | exact ⟨rfl, (below_drewN o2 _).trans (hb4.mono o2.size)⟩ | exact ⟨ret_bool (by simp; omega), (below_drewN o2 _).trans (hb4.mono o2.size)⟩
end Go.Proofs.YtdikelijnachjaaDoor
