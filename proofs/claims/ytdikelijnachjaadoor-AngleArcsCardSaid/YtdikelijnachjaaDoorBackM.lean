/- Angles back from their sines: plain facts. -/
import Derived.Test.YtdikelijnachjaaDoorArcs
namespace Go.Proofs.YtdikelijnachjaaDoor
set_option linter.unusedSimpArgs false
set_option linter.unusedVariables false
open Go.RowKit SineNear

theorem sin_90 : sinLo 90000000 = 100000000 ∧ sinHi 90000000 = 100000000 := by
  have := sin_up 90000000 (by decide) (by decide)
  have h := s_90
  omega
theorem sin_m90 : sinLo (-90000000) = -100000000 ∧ sinHi (-90000000) = -100000000 := by
  have := sin_down (-90000000) (by decide) (by decide)
  have h := s_90
  rw [show - (-90000000 : Int) = 90000000 from rfl] at this
  omega

/-- of one angle alone -/
theorem si_one (l : Int) : siLo l l = sinLo l ∧ siHi l l = sinHi l := by
  have j1 : jLo (sinLo l) (fun _ => sinLo l) 1 = sinLo l := by
    show (if sinLo l < sinLo l then sinLo l else sinLo l) = sinLo l
    split <;> rfl
  have j2 : jHi (sinHi l) (fun _ => sinHi l) 1 = sinHi l := by
    show (if sinHi l < sinHi l then sinHi l else sinHi l) = sinHi l
    split <;> rfl
  constructor
  · unfold siLo
    by_cases c : pas l l (-90000000) = true
    · rw [if_pos c]
      have h : l + (-90000000 - l) % 360000000 ≤ l := of_decide_eq_true c
      have e : l = -90000000 + 360000000 * ((l + 90000000) / 360000000) := by omega
      rw [e, (sin_turn _ _).1]; exact sin_m90.1.symm
    · rw [if_neg c]; exact j1
  · unfold siHi
    by_cases c : pas l l 90000000 = true
    · rw [if_pos c]
      have h : l + (90000000 - l) % 360000000 ≤ l := of_decide_eq_true c
      have e : l = 90000000 + 360000000 * ((l - 90000000) / 360000000) := by omega
      rw [e, (sin_turn _ _).2]; exact sin_90.2.symm
    · rw [if_neg c]; exact j2

theorem inB_yes {lo hi l m : Int} (h1 : l ≤ lo) (h2 : lo ≤ hi) (h3 : hi ≤ m) : inB lo hi l m = true := decide_eq_true ⟨h1, h2, h3⟩

/-- Sin and Cos of an angle -/
theorem sof_one (a : Int) (h0 : -3600000000 ≤ a) (h1 : a ≤ 3600000000) : sofLo a a = sinLo a ∧ sofHi a a = sinHi a ∧ angE a a = 0 := by
  have h := inB_yes h0 (Int.le_refl a) h1
  unfold sofLo sofHi angE
  rw [if_pos h, if_pos h, if_pos h]
  exact ⟨(si_one a).1, (si_one a).2, rfl⟩
theorem cof_one (a : Int) (h0 : -3600000000 ≤ a) (h1 : a ≤ 3600000000) : cofLo a a = sinLo (90000000 - a) ∧ cofHi a a = sinHi (90000000 - a) ∧ angE a a = 0 := by
  have h := inB_yes h0 (Int.le_refl a) h1
  have e := sin_half (90000000 - a)
  rw [show 180000000 - (90000000 - a) = a + 90000000 from by omega] at e
  unfold cofLo cofHi angE
  rw [if_pos h, if_pos h, if_pos h]
  exact ⟨(si_one _).1.trans e.1, (si_one _).2.trans e.2, rfl⟩

theorem sin_val (a : Int) (h0 : -3600000000 ≤ a) (h1 : a ≤ 3600000000) (w : World) :
    Calls Tryd.prog 15 #[.int .i64 a] w fun e w' => e = .returned (enclE (sinLo a) (sinHi a) 0) ∧ Own w.heap.size w w' := by
  have h := sin_any a w
  obtain ⟨e1, e2, e3⟩ := sof_one a h0 h1
  rw [e1, e2, e3] at h
  exact h
theorem cos_val (a : Int) (h0 : -3600000000 ≤ a) (h1 : a ≤ 3600000000) (w : World) :
    Calls Tryd.prog 17 #[.int .i64 a] w fun e w' => e = .returned (enclE (sinLo (90000000 - a)) (sinHi (90000000 - a)) 0) ∧ Own w.heap.size w w' := by
  have h := cos_any a w
  obtain ⟨e1, e2, e3⟩ := cof_one a h0 h1
  rw [e1, e2, e3] at h
  exact h

theorem arcA_ge (t : Int) (h0 : -90000000 ≤ t) (h1 : t ≤ 90000000) : t ≤ arcA (sinHi t) := by
  have b := arcA_bd (sinHi t)
  obtain ⟨_, h2⟩ := arcA_has (sinHi t)
  by_cases c : arcA (sinHi t) < t
  · have m := sin_mono (arcA (sinHi t)) t b.1 c h1
    omega
  · omega
theorem arcA_up (v : Int) (h1 : v ≤ 100000000) : v ≤ sinHi (arcA v) := by
  obtain ⟨_, h2⟩ := arcA_has v
  rcases h2 with h | h
  · rw [h, sin_90.2]; exact h1
  · exact Int.le_trans h (sin_le _).1
theorem arcA_one (v : Int) (h0 : -100000000 ≤ v) (h1 : v ≤ 100000000) : arcA v + arcA (-v) ≤ 1 := by
  have b1 := arcA_bd v
  have b2 := arcA_bd (-v)
  obtain ⟨p1, _⟩ := arcA_has v
  obtain ⟨p2, _⟩ := arcA_has (-v)
  by_cases c : arcA v + arcA (-v) ≤ 1
  · exact c
  · exfalso
    have q1 : sinLo (arcA v - 1) < v := by rcases p1 with h | h; omega; exact h
    have q2 : sinLo (arcA (-v) - 1) < -v := by rcases p2 with h | h; omega; exact h
    have o := sin_odd (arcA (-v) - 1)
    have l1 := sin_le (arcA v - 1)
    by_cases e : -(arcA (-v) - 1) = arcA v - 1
    · rw [e] at o; omega
    · have m := sin_mono (-(arcA (-v) - 1)) (arcA v - 1) (by omega) (by omega) (by omega)
      omega

/-- what the statement asks, in numbers -/
theorem back_cos (a : Int) (h0 : 0 ≤ a) (h1 : a ≤ 180000000) : 90000000 - arcA (sinHi (90000000 - a)) ≤ a ∧ a ≤ 90000000 - - arcA (- sinLo (90000000 - a)) := by
  have g1 := arcA_ge (90000000 - a) (by omega) (by omega)
  have g2 := arcA_ge (-(90000000 - a)) (by omega) (by omega)
  rw [(sin_odd _).2] at g2
  omega
theorem back_sin (s : Int) (h0 : -90000000 ≤ s) (h1 : s ≤ 90000000) : - arcA (- sinLo s) ≤ s ∧ s ≤ arcA (sinHi s) := by
  have g1 := arcA_ge s h0 h1
  have g2 := arcA_ge (-s) (by omega) (by omega)
  rw [(sin_odd _).2] at g2
  omega
theorem back_value (v : Int) (h0 : -100000000 ≤ v) (h1 : v ≤ 100000000) :
    v ≤ sinHi (90000000 - (90000000 - arcA v)) ∧ sinLo (90000000 - (90000000 - - arcA (-v))) ≤ v := by
  have u1 := arcA_up v h1
  have u2 := arcA_up (-v) (by omega)
  have o := sin_odd (arcA (-v))
  rw [show 90000000 - (90000000 - arcA v) = arcA v from by omega, show 90000000 - (90000000 - - arcA (-v)) = - arcA (-v) from by omega]
  omega
theorem sin_ok (a : Int) : inB (sinLo a) (sinHi a) (-100000000) 100000000 = true := inB_yes (sin_bd a).1 (sin_le a).1 (sin_bd a).2
end Go.Proofs.YtdikelijnachjaaDoor
