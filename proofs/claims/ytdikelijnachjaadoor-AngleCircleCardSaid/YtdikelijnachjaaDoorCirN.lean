/- AngleCircle, at all of its arguments. -/
import Derived.Test.YtdikelijnachjaaDoorCirB
import Derived.Test.YtdikelijnachjaaDoorEnclN
namespace Go.Proofs.YtdikelijnachjaaDoor
set_option linter.unusedSimpArgs false
set_option linter.unusedVariables false
open Go.RowKit SineNear

theorem bd8 {a b : Int} (h0 : -100000000 ≤ a) (h1 : a ≤ 100000000) (h2 : -100000000 ≤ b) (h3 : b ≤ 100000000) : -10000000000000000 ≤ a * b ∧ a * b ≤ 10000000000000000 := by
  have p1 := Int.mul_nonneg (show 0 ≤ 100000000 - a by omega) (show 0 ≤ 100000000 - b by omega)
  have p2 := Int.mul_nonneg (show 0 ≤ 100000000 + a by omega) (show 0 ≤ 100000000 + b by omega)
  have p3 := Int.mul_nonneg (show 0 ≤ 100000000 - a by omega) (show 0 ≤ 100000000 + b by omega)
  have p4 := Int.mul_nonneg (show 0 ≤ 100000000 + a by omega) (show 0 ≤ 100000000 - b by omega)
  simp only [Int.sub_mul, Int.mul_sub, Int.add_mul, Int.mul_add] at p1 p2 p3 p4
  omega
theorem pBd {a b c d : Int} (h0 : -100000000 ≤ a) (h1 : b ≤ 100000000) (h : a ≤ b) (h2 : -100000000 ≤ c) (h3 : d ≤ 100000000) (h' : c ≤ d) :
    (-10000000000000000 ≤ pLo a b c d ∧ pLo a b c d ≤ 10000000000000000) ∧ (-10000000000000000 ≤ pHi a b c d ∧ pHi a b c d ≤ 10000000000000000) := by
  have e1 := @bd8 a c (by omega) (by omega) (by omega) (by omega)
  have e2 := @bd8 a d (by omega) (by omega) (by omega) (by omega)
  have e3 := @bd8 b c (by omega) (by omega) (by omega) (by omega)
  have e4 := @bd8 b d (by omega) (by omega) (by omega) (by omega)
  unfold pLo pHi
  generalize a * c = p at *
  generalize a * d = q at *
  generalize b * c = r at *
  generalize b * d = s at *
  omega
theorem pRet {a b c d : Int} (h0 : -100000000 ≤ a) (h1 : b ≤ 100000000) (h : a ≤ b) (h2 : -100000000 ≤ c) (h3 : d ≤ 100000000) (h' : c ≤ d) :
    Ret1 45 #[encl a b, encl c d] (encl (pLo a b c d) (pHi a b c d)) := by
  have e1 := @bd8 a c (by omega) (by omega) (by omega) (by omega)
  have e2 := @bd8 a d (by omega) (by omega) (by omega) (by omega)
  have e3 := @bd8 b c (by omega) (by omega) (by omega) (by omega)
  have e4 := @bd8 b d (by omega) (by omega) (by omega) (by omega)
  exact fun w => product_val a b c d (by omega) (by omega) (by omega) (by omega) w
theorem qRet {a b : Int} (h0 : -100000000 ≤ a) (h1 : b ≤ 100000000) (h : a ≤ b) : Ret1 44 #[encl a b] (encl (qLo a b) (qHi a b)) ∧ (-10000000000000000 ≤ qLo a b ∧ qLo a b ≤ 10000000000000000) ∧ (-10000000000000000 ≤ qHi a b ∧ qHi a b ≤ 10000000000000000) := by
  have e1 := @bd8 a b (by omega) (by omega) (by omega) (by omega)
  have e2 := @bd8 a a (by omega) (by omega) (by omega) (by omega)
  have e3 := @bd8 b b (by omega) (by omega) (by omega) (by omega)
  have z2 : 0 ≤ a * a := by rcases Int.le_total 0 a with h | h; exact Int.mul_nonneg h h; exact Int.mul_nonneg_of_nonpos_of_nonpos h h
  have z3 : 0 ≤ b * b := by rcases Int.le_total 0 b with h | h; exact Int.mul_nonneg h h; exact Int.mul_nonneg_of_nonpos_of_nonpos h h
  have p := pBd h0 h1 h h0 h1 h
  refine ⟨fun w => square_val a b (by omega) (by omega) (by omega) w, ?_⟩
  unfold qLo qHi
  generalize a * a = x at *
  generalize b * b = y at *
  split
  · exact ⟨by omega, p.2⟩
  · omega

set_option maxRecDepth 100000 in
set_option maxHeartbeats 1000000 in
theorem circ_out (a b : Int) (w : World) (t : Tabs w) (h : a < -1800000000 ∨ (¬ a < -1800000000 ∧ 1800000000 < a) ∨ (¬ a < -1800000000 ∧ ¬ 1800000000 < a ∧ b < -1800000000) ∨ (¬ a < -1800000000 ∧ ¬ 1800000000 < a ∧ ¬ b < -1800000000 ∧ 1800000000 < b)) :
    Calls Tryd.prog 7 #[.int .i64 a, .int .i64 b] w fun e w' => e = .returned (.bool true) ∧ Below w.heap.size w w' := by
  rcases h with h1 | ⟨h1, h2⟩ | ⟨h1, h2, h3⟩ | ⟨h1, h2, h3, h4⟩
  all_goals
    go_enter Tryd.func7, Tryd.ntmps7
    go_wp2_with fail
    refine (awake_any _ t).mono ?_
    rintro e w4 ⟨rfl, hb4⟩
    go_wp2_with fail
    go_ret
    exact ⟨rfl, hb4⟩

theorem circ_any (a b : Int) (w : World) (t : Tabs w) :
    Calls Tryd.prog 7 #[.int .i64 a, .int .i64 b] w fun e w' => e = .returned (.bool true) ∧ Below w.heap.size w w' := by
  by_cases h : a < -1800000000 ∨ (¬ a < -1800000000 ∧ 1800000000 < a) ∨ (¬ a < -1800000000 ∧ ¬ 1800000000 < a ∧ b < -1800000000) ∨ (¬ a < -1800000000 ∧ ¬ 1800000000 < a ∧ ¬ b < -1800000000 ∧ 1800000000 < b)
  · exact circ_out a b w t h
  · have a0 : -1800000000 ≤ a := by omega
    have a1 : a ≤ 1800000000 := by omega
    have b0 : -1800000000 ≤ b := by omega
    have b1 : b ≤ 1800000000 := by omega
    clear h
    obtain ⟨⟨k1, k2⟩, ⟨k3, k4⟩, k5, k6⟩ := circle_says a b
    have sa := sin_bd a
    have wa := sin_le a
    have sc := sin_bd (a + 90000000)
    have wc := sin_le (a + 90000000)
    have sb := sin_bd b
    have wb := sin_le b
    have sd := sin_bd (b + 90000000)
    have wd := sin_le (b + 90000000)
    have su := sin_bd (a + b)
    have wu := sin_le (a + b)
    have sv := sin_bd (a + b + 90000000)
    have wv := sin_le (a + b + 90000000)
    have q1 := qRet sa.1 sa.2 wa.1
    have q2 := qRet sc.1 sc.2 wc.1
    have p1 := pBd sa.1 sa.2 wa.1 sd.1 sd.2 wd.1
    have p2 := pBd sc.1 sc.2 wc.1 sb.1 sb.2 wb.1
    have p3 := pBd sc.1 sc.2 wc.1 sd.1 sd.2 wd.1
    have p4 := pBd sa.1 sa.2 wa.1 sb.1 sb.2 wb.1
    have C7 : RetE 15 #[.int .i64 (a + 360000000)] (sinLo a) (sinHi a) := fun w => by
      have h := sin_val (a + 360000000) (by omega) (by omega) w
      have e := sin_turn a 1
      rw [show a + 360000000 * 1 = a + 360000000 by omega] at e
      rw [e.1, e.2] at h
      exact h
    exact circ_walk a b (sinLo a) (sinHi a) (sinLo (a + 90000000)) (sinHi (a + 90000000)) (sinLo b) (sinHi b) (sinLo (b + 90000000)) (sinHi (b + 90000000)) (sinLo (a + b)) (sinHi (a + b)) (sinLo (a + b + 90000000)) (sinHi (a + b + 90000000)) _ _ _ _ _ _ _ _ _ _ _ _ w t a0 a1 b0 b1
      (fun w => sin_val a (by omega) (by omega) w) (cos_val2 a (by omega) (by omega)) (fun w => sin_val b (by omega) (by omega) w) (cos_val2 b (by omega) (by omega)) (fun w => sin_val (a + b) (by omega) (by omega) w) (cos_val2 (a + b) (by omega) (by omega))
      q1.1 q2.1 (fun w => sum_val _ _ _ _ (by omega) (by omega) (by omega) (by omega) w) (fun w => meet_yes _ _ _ _ k1 k2 w)
      (pRet sa.1 sa.2 wa.1 sd.1 sd.2 wd.1) (pRet sc.1 sc.2 wc.1 sb.1 sb.2 wb.1) (fun w => sum_val _ _ _ _ (by omega) (by omega) (by omega) (by omega) w) (fun w => meet_yes _ _ _ _ k3 k4 w)
      (pRet sc.1 sc.2 wc.1 sd.1 sd.2 wd.1) (pRet sa.1 sa.2 wa.1 sb.1 sb.2 wb.1) (fun w => meet_yes _ _ _ _ k5 k6 w) C7 (fun w => sin_val (a + 90000000) (by omega) (by omega) w)
      (by omega) (by omega) (by omega) (by omega) su.1 wu.1 su.2 sv.1 wv.1 sv.2 wa.1 wa.2 wc.1 wc.2 sa.1 sa.2 sc.1 sc.2
end Go.Proofs.YtdikelijnachjaaDoor
