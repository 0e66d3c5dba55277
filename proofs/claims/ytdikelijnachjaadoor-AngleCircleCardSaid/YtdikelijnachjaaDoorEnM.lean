import Derived.Test.YtdikelijnachjaaDoorAng
/- Enclosures of sines hold the sines of all angles between. -/
namespace SineNear
set_option linter.unusedSimpArgs false
set_option linter.unusedVariables false

theorem si_below (l a h : Int) (h0 : l ≤ a) (h1 : a ≤ h) : siLo l h ≤ sinLo a := by
  unfold siLo
  by_cases c : pas l h (-90000000) = true
  · rw [if_pos c]; exact (sin_bd a).1
  · rw [if_neg c]
    have hc : ¬ l + (-90000000 - l) % 360000000 ≤ h := fun x => c (decide_eq_true x)
    -- all whole turns less
    obtain ⟨k, hk⟩ : ∃ k, k = (l + 90000000) / 360000000 := ⟨_, rfl⟩
    have el := (sin_turn (l - 360000000 * k) k).1
    have ea := (sin_turn (a - 360000000 * k) k).1
    have eh := (sin_turn (h - 360000000 * k) k).1
    rw [show l - 360000000 * k + 360000000 * k = l by omega] at el
    rw [show a - 360000000 * k + 360000000 * k = a by omega] at ea
    rw [show h - 360000000 * k + 360000000 * k = h by omega] at eh
    rw [el, ea, eh]
    have b0 : -90000000 < l - 360000000 * k := by omega
    have b1 : h - 360000000 * k < 270000000 := by omega
    have b2 : l - 360000000 * k ≤ a - 360000000 * k := by omega
    have b3 : a - 360000000 * k ≤ h - 360000000 * k := by omega
    clear hc hk el ea eh c h0 h1
    generalize l - 360000000 * k = l' at *
    generalize a - 360000000 * k = a' at *
    generalize h - 360000000 * k = h' at *
    show (if sinLo h' < sinLo l' then sinLo h' else sinLo l') ≤ sinLo a'
    by_cases ca : a' ≤ 90000000
    · have : sinLo l' ≤ sinLo a' := by
        by_cases e : l' = a'
        · rw [e]; exact Int.le_refl _
        · exact (sin_mono l' a' (by omega) (by omega) ca).1
      split <;> omega
    · have g1 := (sin_half a').1
      have g2 := (sin_half h').1
      have : sinLo h' ≤ sinLo a' := by
        rw [← g1, ← g2]
        by_cases e : h' = a'
        · rw [e]; exact Int.le_refl _
        · exact (sin_mono (180000000 - h') (180000000 - a') (by omega) (by omega) (by omega)).1
      split <;> omega

theorem si_odd (l h : Int) : siHi l h = - siLo (-h) (-l) := by
  unfold siHi siLo
  have e : pas l h 90000000 = pas (-h) (-l) (-90000000) := by
    unfold pas
    rw [decide_eq_decide]
    omega
  rw [e]
  cases pas (-h) (-l) (-90000000) with
  | true => rfl
  | false =>
    have o1 := (sin_odd l).1
    have o2 := (sin_odd h).1
    show (if sinHi l < sinHi h then sinHi h else sinHi l) = - (if sinLo (-l) < sinLo (-h) then sinLo (-l) else sinLo (-h))
    rw [o1, o2]
    split <;> split <;> omega
theorem si_above (l a h : Int) (h0 : l ≤ a) (h1 : a ≤ h) : sinHi a ≤ siHi l h := by
  have := si_below (-h) (-a) (-l) (by omega) (by omega)
  rw [si_odd, ← Int.neg_neg a, (sin_odd (-a)).2]
  omega
theorem si_turn (l h : Int) (h0 : 360000000 ≤ h - l) : siLo l h = -100000000 ∧ siHi l h = 100000000 := by
  unfold siLo siHi pas
  rw [if_pos (decide_eq_true (by omega)), if_pos (decide_eq_true (by omega))]
  exact ⟨rfl, rfl⟩
theorem si_reach (l h : Int) : (siLo l h = -100000000 ∨ siLo l h = if sinLo h < sinLo l then sinLo h else sinLo l) ∧ (siHi l h = 100000000 ∨ siHi l h = if sinHi l < sinHi h then sinHi h else sinHi l) := by
  unfold siLo siHi
  constructor
  · cases pas l h (-90000000) with
    | true => exact Or.inl rfl
    | false => exact Or.inr rfl
  · cases pas l h 90000000 with
    | true => exact Or.inl rfl
    | false => exact Or.inr rfl
end SineNear
