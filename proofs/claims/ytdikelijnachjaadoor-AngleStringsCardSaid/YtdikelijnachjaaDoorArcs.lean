/- Where the least angle lies whose sine is not below a number. -/
import Derived.Test.YtdikelijnachjaaDoorWarc
namespace Go.Proofs.YtdikelijnachjaaDoor
set_option linter.unusedSimpArgs false
set_option linter.unusedVariables false
open Go.RowKit SineNear

theorem count_from (q : Nat → Bool) (r n : Nat) (h0 : ∀ i, i < r → i < n → q i = true) (h1 : ∀ i, r ≤ i → i < n → q i = false) : (List.range n).countP q = min r n := by
  induction n with
  | zero => simp
  | succ n ih =>
    rw [List.range_succ, List.countP_append, ih (fun i a b => h0 i a (by omega)) (fun i a b => h1 i a (by omega))]
    by_cases c : n < r
    · rw [List.countP_cons_of_pos (h0 n c (by omega)), List.countP_nil]; omega
    · rw [List.countP_cons_of_neg (by rw [h1 n (by omega) (by omega)]; decide), List.countP_nil]; omega

/-- the angle a is the least one: its sine is not below x, that of the one before is -/
theorem arcA_is (x a : Int) (h0 : -90000000 ≤ a) (h1 : a ≤ 90000000) (hlo : a = -90000000 ∨ sinLo (a - 1) < x) (hhi : a = 90000000 ∨ x ≤ sinLo a) : arcA x = a := by
  have key : arcN 180000000 x = min (a + 90000000).toNat 180000000 := by
    refine count_from _ _ _ (fun i hi hn => ?_) (fun i hi hn => ?_)
    · unfold arcP
      simp only [Bool.not_eq_true', decide_eq_false_iff_not]
      rcases hlo with hlo | hlo
      · omega
      · by_cases e : (i:Int) - 90000000 = a - 1
        · rw [e]; omega
        · have := sin_mono ((i:Int) - 90000000) (a - 1) (by omega) (by omega) (by omega)
          omega
    · unfold arcP
      simp only [Bool.not_eq_false', decide_eq_true_eq]
      rcases hhi with hhi | hhi
      · omega
      · by_cases e : (i:Int) - 90000000 = a
        · rw [e]; exact hhi
        · have := sin_mono a ((i:Int) - 90000000) (by omega) (by omega) (by omega)
          omega
  unfold arcA
  rw [key]
  omega

/-- and such an angle there is -/
theorem arcA_has (x : Int) : (arcA x = -90000000 ∨ sinLo (arcA x - 1) < x) ∧ (arcA x = 90000000 ∨ x ≤ sinLo (arcA x)) := by
  -- the least number for which it holds, or the end
  have ex : ∃ r : Nat, r ≤ 180000000 ∧ (r = 0 ∨ sinLo ((r:Int) - 90000000 - 1) < x) ∧ (r = 180000000 ∨ x ≤ sinLo ((r:Int) - 90000000)) := by
    have step : ∀ n : Nat, n ≤ 180000000 → (∃ r : Nat, r ≤ n ∧ (r = 0 ∨ sinLo ((r:Int) - 90000000 - 1) < x) ∧ (r = 180000000 ∨ x ≤ sinLo ((r:Int) - 90000000))) ∨ (n = 0 ∨ sinLo ((n:Int) - 90000000 - 1) < x) := by
      intro n
      induction n with
      | zero => intro _; exact Or.inr (Or.inl rfl)
      | succ n ih =>
        intro hn
        rcases ih (by omega) with ⟨r, h1, h2, h3⟩ | h
        · exact Or.inl ⟨r, by omega, h2, h3⟩
        · by_cases c : x ≤ sinLo ((n:Int) - 90000000)
          · exact Or.inl ⟨n, by omega, h, Or.inr c⟩
          · refine Or.inr (Or.inr ?_)
            rw [show (((n+1:Nat):Int) - 90000000 - 1) = (n:Int) - 90000000 from by omega]
            omega
    rcases step 180000000 (Nat.le_refl _) with ⟨r, h1, h2, h3⟩ | h
    · exact ⟨r, h1, h2, h3⟩
    · exact ⟨180000000, Nat.le_refl _, h, Or.inl rfl⟩
  obtain ⟨r, hr, h1, h2⟩ := ex
  have e : arcA x = (r:Int) - 90000000 := by
    refine arcA_is x _ (by omega) (by omega) ?_ ?_
    · rcases h1 with h | h
      · exact Or.inl (by omega)
      · exact Or.inr h
    · rcases h2 with h | h
      · exact Or.inl (by omega)
      · exact Or.inr h
  rw [e]
  refine ⟨?_, ?_⟩
  · rcases h1 with h | h
    · exact Or.inl (by omega)
    · exact Or.inr h
  · rcases h2 with h | h
    · exact Or.inl (by omega)
    · exact Or.inr h
end Go.Proofs.YtdikelijnachjaaDoor
