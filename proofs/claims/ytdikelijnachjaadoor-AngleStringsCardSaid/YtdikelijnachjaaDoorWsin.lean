/- The sine of an angle, as the code computes it. -/
import Derived.Test.YtdikelijnachjaaDoorWnum
import Derived.Deep.QuietTactic
import Derived.BigQuiet
namespace Go.Proofs.YtdikelijnachjaaDoor
set_option linter.unusedSimpArgs false
set_option linter.unusedVariables false
open Go.RowKit SineNear

/-- an enclosure as a value -/
abbrev encl (lo hi : Int) : Value := .agg #[.int .i64 lo, .int .i64 hi]

set_option maxHeartbeats 400000 in
theorem only_any (a : Int) (w : World) :
    Calls Tryd.prog 62 #[.int .i64 a] w fun e w' => e = .returned (encl a a) ∧ Own w.heap.size w w' := by
  go_enter Tryd.func62, Tryd.ntmps62
  go_wp2
  refine bodyPost_ret (v := encl a a) (by simp [results, Tryd.results62, go_sem]) rfl ⟨rfl, ?_⟩
  exact (Own.refl _ _).alloc (Nat.le_refl _) _

set_option maxHeartbeats 400000 in
theorem right_open (a : Int) (w : World) (h0 : 0 < a) (h1 : a < 90000000) (h2 : a ≠ 30000000) :
    Calls Tryd.prog 100 #[.int .i64 a] w fun e w' => e = .returned (encl (cSeries a * 100000000 / 9223372036854775808) (cSeries a * 100000000 / 9223372036854775808 + 1)) ∧ Own w.heap.size w w' := by
  obtain ⟨s0, s1⟩ := cSeries_bd a (by omega) (by omega)
  have e1 : (a == 0) = false := beq_no (by omega)
  have e2 : (a == 30000000) = false := beq_no h2
  have e3 : (a == 90000000) = false := beq_no (by omega)
  go_enter Tryd.func100, Tryd.ntmps100
  go_wp2_with fail
  refine (series_any a _ (by omega) (by omega)).mono ?_
  rintro e w' ⟨rfl, rfl⟩
  go_wp2_with fail
  refine (hundred_any (cSeries a) _ (by omega) (by omega)).mono ?_
  rintro e w' ⟨rfl, rfl⟩
  go_wp2_with fail
  refine bodyPost_ret (v := encl (cSeries a * 100000000 / 9223372036854775808) (cSeries a * 100000000 / 9223372036854775808 + 1)) (by simp [results, Tryd.results100, go_sem]) rfl ⟨rfl, ?_⟩
  exact (Own.refl _ _).alloc (Nat.le_refl _) _

set_option maxHeartbeats 400000 in
theorem right_exact (a v : Int) (w : World) (h : (a = 0 ∧ v = 0) ∨ (a = 30000000 ∧ v = 50000000) ∨ (a = 90000000 ∧ v = 100000000)) :
    Calls Tryd.prog 100 #[.int .i64 a] w fun e w' => e = .returned (encl v v) ∧ Own w.heap.size w w' := by
  rcases h with ⟨rfl, rfl⟩ | ⟨rfl, rfl⟩ | ⟨rfl, rfl⟩
  all_goals
    go_enter Tryd.func100, Tryd.ntmps100
    go_wp2_with fail
    refine (only_any _ _).mono ?_
    rintro e w' ⟨rfl, hb⟩
    obtain ⟨hc, hf⟩ := bcell hb
    have hz := hb.size
    simp at hz
    go_wp2_with fail
    refine bodyPost_ret (v := encl _ _) (by simp [results, Tryd.results100, go_sem, hc]) rfl ⟨rfl, ?_⟩
    exact ((((Own.refl _ _).alloc (Nat.le_refl _) _).trans (hb.mono (by simp))).setCell (by simp) _).setCell (by simp) _

theorem sineToRight_any (a : Int) (w : World) (h0 : 0 ≤ a) (h1 : a ≤ 90000000) :
    Calls Tryd.prog 100 #[.int .i64 a] w fun e w' => e = .returned (encl (sLo a) (sHi a)) ∧ Own w.heap.size w w' := by
  by_cases c1 : a = 0
  · subst c1; exact right_exact 0 0 w (Or.inl ⟨rfl, rfl⟩)
  · by_cases c2 : a = 30000000
    · subst c2; exact right_exact 30000000 50000000 w (Or.inr (Or.inl ⟨rfl, rfl⟩))
    · by_cases c3 : a = 90000000
      · subst c3; exact right_exact 90000000 100000000 w (Or.inr (Or.inr ⟨rfl, rfl⟩))
      · have e1 : sLo a = cSeries a * 100000000 / 9223372036854775808 := by unfold sLo; rw [if_neg c1, if_neg c2, if_neg c3]
        have e2 : sHi a = cSeries a * 100000000 / 9223372036854775808 + 1 := by unfold sHi; rw [if_neg c1, if_neg c2, if_neg c3]
        rw [e1, e2]; exact right_open a w (by omega) (by omega) c2

set_option maxHeartbeats 400000 in
theorem sine_low (a : Int) (w : World) (h0 : -9000000000000 ≤ a) (h1 : a ≤ 9000000000000) (hl : a % 360000000 < 180000000) :
    Calls Tryd.prog 79 #[.int .i64 a] w fun e w' => e = .returned (encl (sLo (min (a % 360000000) (180000000 - a % 360000000))) (sHi (min (a % 360000000) (180000000 - a % 360000000)))) ∧ Own w.heap.size w w' := by
  go_enter Tryd.func79, Tryd.ntmps79
  go_wp2_with fail
  refine (reduced_any a _ h0 h1).mono ?_
  rintro e w' ⟨rfl, rfl⟩
  go_wp2_with fail
  refine (mirrored_any (a % 360000000) _ (by omega) (by omega)).mono ?_
  rintro e w' ⟨rfl, rfl⟩
  go_wp2_with fail
  refine (sineToRight_any (min (a % 360000000) (180000000 - a % 360000000)) _ (by omega) (by omega)).mono ?_
  rintro e w' ⟨rfl, hb⟩
  obtain ⟨hc, hf⟩ := bcell hb
  go_wp2_with fail
  refine bodyPost_ret (v := encl _ _) (by simp [results, Tryd.results79, go_sem, hc]) rfl ⟨rfl, ?_⟩
  exact ((((Own.refl _ _).alloc (Nat.le_refl _) _).trans (hb.mono (by simp))).setCell (by simp) _).setCell (by simp) _

set_option maxHeartbeats 400000 in
theorem sine_high (a : Int) (w : World) (h0 : -9000000000000 ≤ a) (h1 : a ≤ 9000000000000) (hl : ¬ a % 360000000 < 180000000) :
    Calls Tryd.prog 79 #[.int .i64 a] w fun e w' => e = .returned (encl (- sHi (min (a % 360000000 - 180000000) (180000000 - (a % 360000000 - 180000000)))) (- sLo (min (a % 360000000 - 180000000) (180000000 - (a % 360000000 - 180000000))))) ∧ Own w.heap.size w w' := by
  have b1 := sLo_bd (min (a % 360000000 - 180000000) (180000000 - (a % 360000000 - 180000000))) (by omega) (by omega)
  have b2 := sHi_bd (min (a % 360000000 - 180000000) (180000000 - (a % 360000000 - 180000000))) (by omega) (by omega)
  go_enter Tryd.func79, Tryd.ntmps79
  go_wp2_with fail
  refine (reduced_any a _ h0 h1).mono ?_
  rintro e w' ⟨rfl, rfl⟩
  go_wp2_with fail
  refine (mirrored_any (a % 360000000 - 180000000) _ (by omega) (by omega)).mono ?_
  rintro e w' ⟨rfl, rfl⟩
  go_wp2_with fail
  refine (sineToRight_any (min (a % 360000000 - 180000000) (180000000 - (a % 360000000 - 180000000))) _ (by omega) (by omega)).mono ?_
  rintro e w' ⟨rfl, hb⟩
  obtain ⟨hc, hf⟩ := bcell hb
  have hz : w.heap.size < w'.heap.size := by have := hb.size; simp at this; omega
  go_wp2_with fail
  refine bodyPost_ret (v := encl _ _) (by simp [results, Tryd.results79, go_sem, hc, hz]) rfl ⟨rfl, ?_⟩
  repeat' (first | exact Own.refl _ _ | exact Nat.le_refl _ | refine Own.setCell ?_ ?_ _ | refine Own.alloc ?_ ?_ _ | refine Own.trans ?_ (hb.mono ?_))
  all_goals (first | (simp; done) | (simp; omega))

theorem sine_any (a : Int) (w : World) (h0 : -9000000000000 ≤ a) (h1 : a ≤ 9000000000000) :
    Calls Tryd.prog 79 #[.int .i64 a] w fun e w' => e = .returned (encl (sinLo a) (sinHi a)) ∧ Own w.heap.size w w' := by
  by_cases hl : a % 360000000 < 180000000
  · have e1 : sinLo a = sLo (min (a % 360000000) (180000000 - a % 360000000)) := by unfold sinLo; rw [if_pos hl]
    have e2 : sinHi a = sHi (min (a % 360000000) (180000000 - a % 360000000)) := by unfold sinHi; rw [if_pos hl]
    rw [e1, e2]; exact sine_low a w h0 h1 hl
  · have e1 : sinLo a = - sHi (min (a % 360000000 - 180000000) (180000000 - (a % 360000000 - 180000000))) := by unfold sinLo; rw [if_neg hl]
    have e2 : sinHi a = - sLo (min (a % 360000000 - 180000000) (180000000 - (a % 360000000 - 180000000))) := by unfold sinHi; rw [if_neg hl]
    rw [e1, e2]; exact sine_high a w h0 h1 hl

set_option maxHeartbeats 400000 in
/-- a, or a and some whole turns, is from lo to hi -/
theorem passes_any (lo hi a : Int) (w : World) (b1 : -8000000000 ≤ lo) (b2 : lo ≤ 8000000000) (b5 : -8000000000 ≤ a) (b6 : a ≤ 8000000000) :
    Calls Tryd.prog 80 #[.int .i64 lo, .int .i64 hi, .int .i64 a] w fun e w' => e = .returned (.bool (decide (lo + (a - lo) % 360000000 ≤ hi))) ∧ w = w' := by
  go_enter Tryd.func80, Tryd.ntmps80
  go_wp2_with fail
  refine (reduced_any (a - lo) _ (by omega) (by omega)).mono ?_
  rintro e w' ⟨rfl, rfl⟩
  go_wp2_with fail
  go_ret
  exact ⟨rfl, rfl⟩

set_option maxHeartbeats 400000 in
theorem isWithin_any (lo hi least most : Int) (w : World) :
    Calls Tryd.prog 50 #[encl lo hi, .int .i64 least, .int .i64 most] w fun e w' => e = .returned (.bool (inB lo hi least most)) ∧ Own w.heap.size w w' := by
  have hb : Own w.heap.size w (w.alloc (.cells #[.int .i64 lo, .int .i64 hi] 23)) := (Own.refl _ _).alloc (Nat.le_refl _) _
  by_cases c1 : least ≤ lo
  · by_cases c2 : lo ≤ hi
    · go_enter Tryd.func50, Tryd.ntmps50
      go_wp2_with fail
      go_ret
      exact ⟨ret_bool (by unfold inB; simp [c1, c2]), hb⟩
    · go_enter Tryd.func50, Tryd.ntmps50
      go_wp2_with fail
      go_ret
      exact ⟨ret_bool (by unfold inB; exact (decide_eq_false (by omega)).symm), hb⟩
  · go_enter Tryd.func50, Tryd.ntmps50
    go_wp2_with fail
    go_ret
    exact ⟨ret_bool (by unfold inB; exact (decide_eq_false (by omega)).symm), hb⟩
end Go.Proofs.YtdikelijnachjaaDoor
