/- Fractions of enclosures: plain facts; and the walk of AngleFractions outside of the range. -/
import Derived.Test.YtdikelijnachjaaDoorAri
namespace Go.Proofs.YtdikelijnachjaaDoor
set_option linter.unusedSimpArgs false
set_option linter.unusedVariables false
open Go.RowKit SineNear

theorem lo4_le (a b c d : Int) : lo4 a b c d ≤ a ∧ lo4 a b c d ≤ b ∧ lo4 a b c d ≤ c ∧ lo4 a b c d ≤ d := by unfold lo4; omega
theorem hi4_le (a b c d : Int) : a ≤ hi4 a b c d ∧ b ≤ hi4 a b c d ∧ c ≤ hi4 a b c d ∧ d ≤ hi4 a b c d := by unfold hi4; omega

theorem corner_lo {x0 x1 y0 y1 a b : Int} (h0 : x0 ≤ a) (h1 : a ≤ x1) (h2 : y0 ≤ b) (h3 : b ≤ y1) : x0 * y0 ≤ a * b ∨ x0 * y1 ≤ a * b ∨ x1 * y0 ≤ a * b ∨ x1 * y1 ≤ a * b := by
  by_cases hb : 0 ≤ b
  · have m := Int.mul_le_mul_of_nonneg_right h0 hb
    by_cases hx : 0 ≤ x0
    · have := Int.mul_le_mul_of_nonneg_left h2 hx; exact .inl (by omega)
    · have := Int.mul_le_mul_of_nonpos_left (show x0 ≤ 0 by omega) h3; exact .inr (.inl (by omega))
  · have m := Int.mul_le_mul_of_nonpos_right h1 (show b ≤ 0 by omega)
    by_cases hx : 0 ≤ x1
    · have := Int.mul_le_mul_of_nonneg_left h2 hx; exact .inr (.inr (.inl (by omega)))
    · have := Int.mul_le_mul_of_nonpos_left (show x1 ≤ 0 by omega) h3; exact .inr (.inr (.inr (by omega)))
theorem corner_hi {x0 x1 y0 y1 a b : Int} (h0 : x0 ≤ a) (h1 : a ≤ x1) (h2 : y0 ≤ b) (h3 : b ≤ y1) : a * b ≤ x0 * y0 ∨ a * b ≤ x0 * y1 ∨ a * b ≤ x1 * y0 ∨ a * b ≤ x1 * y1 := by
  have h := corner_lo (x0 := -x1) (x1 := -x0) (a := -a) (show -x1 ≤ -a by omega) (show -a ≤ -x0 by omega) h2 h3
  simp only [Int.neg_mul] at h
  omega

theorem fl_le (c t : Int) (h : t ≤ c / 100000000) : t * 100000000 ≤ c := by omega
theorem up_ge (c t : Int) (h : upD c 100000000 ≤ t) : c ≤ t * 100000000 := by unfold upD at h; omega

theorem times_holds {x0 x1 y0 y1 a b : Int} (h0 : x0 ≤ a) (h1 : a ≤ x1) (h2 : y0 ≤ b) (h3 : b ≤ y1) : tLo x0 x1 y0 y1 * 100000000 ≤ a * b ∧ a * b ≤ tHi x0 x1 y0 y1 * 100000000 := by
  obtain ⟨l1, l2, l3, l4⟩ := lo4_le (x0 * y0 / 100000000) (x0 * y1 / 100000000) (x1 * y0 / 100000000) (x1 * y1 / 100000000)
  obtain ⟨g1, g2, g3, g4⟩ := hi4_le (upD (x0 * y0) 100000000) (upD (x0 * y1) 100000000) (upD (x1 * y0) 100000000) (upD (x1 * y1) 100000000)
  change tLo x0 x1 y0 y1 ≤ _ at l1 l2 l3 l4
  change _ ≤ tHi x0 x1 y0 y1 at g1 g2 g3 g4
  constructor
  · rcases corner_lo h0 h1 h2 h3 with h | h | h | h
    · exact Int.le_trans (fl_le _ _ l1) h
    · exact Int.le_trans (fl_le _ _ l2) h
    · exact Int.le_trans (fl_le _ _ l3) h
    · exact Int.le_trans (fl_le _ _ l4) h
  · rcases corner_hi h0 h1 h2 h3 with h | h | h | h
    · exact Int.le_trans h (up_ge _ _ g1)
    · exact Int.le_trans h (up_ge _ _ g2)
    · exact Int.le_trans h (up_ge _ _ g3)
    · exact Int.le_trans h (up_ge _ _ g4)
theorem times_order {x0 x1 y0 y1 : Int} (hx : x0 ≤ x1) (hy : y0 ≤ y1) : tLo x0 x1 y0 y1 ≤ tHi x0 x1 y0 y1 := by
  have := times_holds (Int.le_refl x0) hx (Int.le_refl y0) hy
  omega

theorem div_lo {n0 n d0 d d1 : Int} (hn : n0 ≤ n) (h0 : 0 < d0) (h1 : d0 ≤ d) (h2 : d ≤ d1) : n0 / d0 ≤ n / d ∨ n0 / d1 ≤ n / d := by
  have m : n0 / d ≤ n / d := Int.ediv_le_ediv (by omega) hn
  by_cases c : 0 ≤ n0
  · right
    refine Int.le_trans ?_ m
    refine Int.le_ediv_of_mul_le (by omega) ?_
    have := Int.mul_le_mul_of_nonneg_left h2 (Int.ediv_nonneg c (show 0 ≤ d1 by omega))
    have := Int.ediv_mul_le n0 (show d1 ≠ 0 by omega)
    omega
  · left
    refine Int.le_trans ?_ m
    refine Int.le_ediv_of_mul_le (by omega) ?_
    have := Int.mul_le_mul_of_nonpos_left (show n0 / d0 ≤ 0 from Int.le_of_lt (Int.ediv_neg_of_neg_of_pos (by omega) h0)) h1
    have := Int.ediv_mul_le n0 (show d0 ≠ 0 by omega)
    omega

theorem over_holds {x0 x1 y0 y1 a b : Int} (h0 : x0 ≤ a) (h1 : a ≤ x1) (h2 : y0 ≤ b) (h3 : b ≤ y1) (hz : 0 < y0 ∨ y1 < 0) : oLo x0 x1 y0 y1 ≤ qLoQ (a * 100000000) b ∧ qHiQ (a * 100000000) b ≤ oHi x0 x1 y0 y1 := by
  obtain ⟨l1, l2, l3, l4⟩ := lo4_le (qLoQ (x0 * 100000000) y0) (qLoQ (x0 * 100000000) y1) (qLoQ (x1 * 100000000) y0) (qLoQ (x1 * 100000000) y1)
  obtain ⟨g1, g2, g3, g4⟩ := hi4_le (qHiQ (x0 * 100000000) y0) (qHiQ (x0 * 100000000) y1) (qHiQ (x1 * 100000000) y0) (qHiQ (x1 * 100000000) y1)
  change oLo x0 x1 y0 y1 ≤ _ at l1 l2 l3 l4
  change _ ≤ oHi x0 x1 y0 y1 at g1 g2 g3 g4
  rcases hz with hz | hz
  · have nb : ¬ b < 0 := by omega
    have n0 : ¬ y0 < 0 := by omega
    have n1 : ¬ y1 < 0 := by omega
    unfold qLoQ at *
    unfold qHiQ upD at *
    simp only [if_neg nb, if_neg n0, if_neg n1] at *
    have p := div_lo (n0 := x0 * 100000000) (n := a * 100000000) (by omega) hz h2 h3
    have q := div_lo (n0 := -(x1 * 100000000)) (n := -(a * 100000000)) (by omega) hz h2 h3
    constructor
    · rcases p with p | p
      · exact Int.le_trans l1 p
      · exact Int.le_trans l2 p
    · rcases q with q | q
      · exact Int.le_trans (Int.neg_le_neg q) g3
      · exact Int.le_trans (Int.neg_le_neg q) g4
  · have nb : b < 0 := by omega
    have n0 : y0 < 0 := by omega
    unfold qLoQ at *
    unfold qHiQ upD at *
    simp only [if_pos nb, if_pos n0, if_pos hz, Int.neg_neg] at *
    have p := div_lo (n0 := -(x1 * 100000000)) (n := -(a * 100000000)) (d0 := -y1) (d := -b) (d1 := -y0) (by omega) (by omega) (by omega) (by omega)
    have q := div_lo (n0 := x0 * 100000000) (n := a * 100000000) (d0 := -y1) (d := -b) (d1 := -y0) (by omega) (by omega) (by omega) (by omega)
    constructor
    · rcases p with p | p
      · exact Int.le_trans l4 p
      · exact Int.le_trans l3 p
    · rcases q with q | q
      · exact Int.le_trans (Int.neg_le_neg q) g2
      · exact Int.le_trans (Int.neg_le_neg q) g1
theorem frac_between {x0 x1 u : Int} (h : x0 ≤ x1) (u0 : 0 ≤ u) (u1 : u ≤ 255) (hb : x1 - x0 ≤ 6000000000) : 0 ≤ (x1 - x0) * u ∧ (x1 - x0) * u ≤ 1530000000000 ∧ x0 ≤ x0 + (x1 - x0) * u / 255 ∧ x0 + (x1 - x0) * u / 255 ≤ x1 := by
  have m0 := Int.mul_nonneg (show 0 ≤ x1 - x0 by omega) u0
  have m1 := Int.mul_le_mul_of_nonneg_left u1 (show 0 ≤ x1 - x0 by omega)
  generalize (x1 - x0) * u = t at *
  omega

set_option maxRecDepth 100000 in
set_option maxHeartbeats 4000000 in
theorem fra_out (x0 x1 y0 y1 u v : Int) (w : World) (t : Tabs w) (h : (valB x0 x1 && valB y0 y1) = false)
    (C1 : RetT 34 #[encl x0 x1, encl y0 y1] (enclE 0 0 7)) (C2 : RetT 36 #[encl x0 x1, encl y0 y1] (enclE 0 0 7)) :
    Calls Tryd.prog 9 #[encl x0 x1, encl y0 y1, .agg #[.int .u8 u, .int .u8 v]] w fun e w' => e = .returned (.bool true) ∧ Below w.heap.size w w' := by
  have C1' := Lib.hid C1
  have C2' := Lib.hid C2
  clear C1 C2
  have hh : x1 < x0 ∨ (¬ x1 < x0 ∧ y1 < y0) ∨ (¬ x1 < x0 ∧ ¬ y1 < y0 ∧ x0 < -3000000000) ∨ (¬ x1 < x0 ∧ ¬ y1 < y0 ∧ ¬ x0 < -3000000000 ∧ 3000000000 < x1) ∨ (¬ x1 < x0 ∧ ¬ y1 < y0 ∧ ¬ x0 < -3000000000 ∧ ¬ 3000000000 < x1 ∧ y0 < -3000000000) ∨ (¬ x1 < x0 ∧ ¬ y1 < y0 ∧ ¬ x0 < -3000000000 ∧ ¬ 3000000000 < x1 ∧ ¬ y0 < -3000000000 ∧ 3000000000 < y1) := by
    rcases and_no h with h | h
    · have : ¬ (-3000000000 ≤ x0 ∧ x0 ≤ x1 ∧ x1 ≤ 3000000000) := of_decide_eq_false h
      omega
    · have : ¬ (-3000000000 ≤ y0 ∧ y0 ≤ y1 ∧ y1 ≤ 3000000000) := of_decide_eq_false h
      omega
  clear h
  rcases hh with h1 | ⟨h1, h2⟩ | ⟨h1, h2, h3⟩ | ⟨h1, h2, h3, h4⟩ | ⟨h1, h2, h3, h4, h5⟩ | ⟨h1, h2, h3, h4, h5, h6⟩
  all_goals
    go_enter Tryd.func9, Tryd.ntmps9
    go_wp2_with fail
    refine (C1'.out _).mono ?_
    rintro e' w1 ⟨rfl, hb1⟩
    obtain ⟨hc, hf⟩ := bcellB hb1
    have hz1 : w.heap.size + 1 + 1 < w1.heap.size := by have := hb1.size; simp at this; omega
    have hbw : Below w.heap.size w w1 := ((((Below.refl _ _).alloc (Nat.le_refl _) _).alloc (by simp) _).alloc (by simp; omega) _).trans (hb1.mono (by simp; omega))
    have z1 : w.heap.size < w1.heap.size := by omega
    have z2 : w.heap.size + 1 < w1.heap.size := by omega
    go_wp2_with fail
    refine (C2'.out _).mono ?_
    rintro e' w2 ⟨rfl, hb2⟩
    have hz2 := hb2.size
    simp at hz2
    have bx := (show Box w.heap.size x0 x1 w1 from by refine ⟨?_, ?_, ?_, ?_, by omega⟩ <;> simp [go_sem, hc, hf])
    have by' := (show Box (w.heap.size + 1) y0 y1 w1 from by refine ⟨?_, ?_, ?_, ?_, by omega⟩ <;> simp [go_sem, hc, hf])
    clear hc hf
    have bx := ((bx.alloc (.cells #[.int .i64 0, .int .i64 0] 23)).below hb2).alloc (.cells #[.int .i64 0, .int .i64 0] 23)
    have by' := ((by'.alloc (.cells #[.int .i64 0, .int .i64 0] 23)).below hb2).alloc (.cells #[.int .i64 0, .int .i64 0] 23)
    have o2 : Below w.heap.size w (w2.alloc (.cells #[.int .i64 0, .int .i64 0] 23)) := ((hbw.alloc (by omega) _).trans (hb2.mono (by simp; omega))).alloc (by omega) _
    obtain ⟨x00, x01, _, _, xz⟩ := bx
    obtain ⟨y00, y01, _, _, yz⟩ := by'
    have tt := t.below o2
    clear hb1 hb2 hbw hz1 hz2 z1 z2
    go_wp2_with fail
    refine (awake_any _ tt).mono ?_
    rintro e w4 ⟨rfl, hb4⟩
    go_wp2_with fail
    go_ret
    exact ⟨rfl, o2.trans (hb4.mono o2.size)⟩
end Go.Proofs.YtdikelijnachjaaDoor
