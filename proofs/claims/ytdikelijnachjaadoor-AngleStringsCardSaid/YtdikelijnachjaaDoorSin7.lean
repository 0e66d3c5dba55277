import Derived.Test.YtdikelijnachjaaDoorSin6
/- No sine of the angles is near a multiple of a hundred-millionth, but for three; and they rise. -/
namespace SineNear
set_option linter.unusedSimpArgs false
set_option linter.unusedVariables false

theorem run0 : chunk H 1 500 8192 = true := by decide +kernel
theorem run1 : chunk H 4096001 500 8192 = true := by decide +kernel
theorem run2 : chunk H 8192001 500 8192 = true := by decide +kernel
theorem run3 : chunk H 12288001 500 8192 = true := by decide +kernel
theorem run4 : chunk H 16384001 500 8192 = true := by decide +kernel
theorem run5 : chunk H 20480001 500 8192 = true := by decide +kernel
theorem run6 : chunk H 24576001 500 8192 = true := by decide +kernel
theorem run7 : chunk H 28672001 162 8192 = true := by decide +kernel
theorem run8 : chunk H 29991808 1 8192 = true := by decide +kernel
theorem run9 : chunk H 30000001 500 8192 = true := by decide +kernel
theorem run10 : chunk H 34096001 500 8192 = true := by decide +kernel
theorem run11 : chunk H 38192001 500 8192 = true := by decide +kernel
theorem run12 : chunk H 42288001 500 8192 = true := by decide +kernel
theorem run13 : chunk H 46384001 500 8192 = true := by decide +kernel
theorem run14 : chunk H 50480001 500 8192 = true := by decide +kernel
theorem run15 : chunk H 54576001 500 8192 = true := by decide +kernel
theorem run16 : chunk H 58672001 500 8192 = true := by decide +kernel
theorem run17 : chunk H 62768001 500 8192 = true := by decide +kernel
theorem run18 : chunk H 66864001 500 8192 = true := by decide +kernel
theorem run19 : chunk H 70960001 500 8192 = true := by decide +kernel
theorem run20 : chunk H 75056001 500 8192 = true := by decide +kernel
theorem run21 : chunk H 79152001 500 8192 = true := by decide +kernel
theorem run22 : chunk H 83248001 500 8192 = true := by decide +kernel
theorem run23 : chunk H 87344001 323 8192 = true := by decide +kernel
theorem run24 : chunk H 89983600 2 8192 = true := by decide +kernel

def Near (a : Nat) : Prop := 2^89 ≤ H a % 2^120 ∧ H a % 2^120 + 2^89 ≤ 2^120 ∧ H a + 2^89 ≤ H (a+1)

theorem near_of (start n : Nat) (h : chunk H start n 8192 = true) (ht : start + 8192 * n ≤ 90000000) (a : Nat) (h1 : start ≤ a) (h2 : a < start + 8192 * n) : Near a := by
  have e : start + 8192 * ((a - start) / 8192) + (a - start) % 8192 = a := by omega
  have := chunk_says H start n 8192 90000000 (by decide) smooth h ((a - start) / 8192) ((a - start) % 8192) (by omega) (by omega) (by omega)
  rw [e] at this
  exact this

def nearB (a : Nat) : Bool := both (Nat.ble (2^89) (H a % 2^120)) (both (Nat.ble (H a % 2^120 + 2^89) (2^120)) (Nat.ble (H a + 2^89) (H (a+1))))
theorem nearB_says (a : Nat) (h : nearB a = true) : Near a := by
  obtain ⟨h1, h⟩ := both_says h
  obtain ⟨h2, h3⟩ := both_says h
  exact ⟨Nat.le_of_ble_eq_true h1, Nat.le_of_ble_eq_true h2, Nat.le_of_ble_eq_true h3⟩
theorem last16 : allB (fun i => nearB (89999984 + i)) 16 = true := by decide +kernel

theorem near (a : Nat) (h0 : 0 < a) (h1 : a < 90000000) (h2 : a ≠ 30000000) : Near a := by
  by_cases c0 : a < 4096001 ∧ 1 ≤ a
  · exact near_of 1 500 run0 (by decide) a c0.2 c0.1
  by_cases c1 : a < 8192001 ∧ 4096001 ≤ a
  · exact near_of 4096001 500 run1 (by decide) a c1.2 c1.1
  by_cases c2 : a < 12288001 ∧ 8192001 ≤ a
  · exact near_of 8192001 500 run2 (by decide) a c2.2 c2.1
  by_cases c3 : a < 16384001 ∧ 12288001 ≤ a
  · exact near_of 12288001 500 run3 (by decide) a c3.2 c3.1
  by_cases c4 : a < 20480001 ∧ 16384001 ≤ a
  · exact near_of 16384001 500 run4 (by decide) a c4.2 c4.1
  by_cases c5 : a < 24576001 ∧ 20480001 ≤ a
  · exact near_of 20480001 500 run5 (by decide) a c5.2 c5.1
  by_cases c6 : a < 28672001 ∧ 24576001 ≤ a
  · exact near_of 24576001 500 run6 (by decide) a c6.2 c6.1
  by_cases c7 : a < 29999105 ∧ 28672001 ≤ a
  · exact near_of 28672001 162 run7 (by decide) a c7.2 c7.1
  by_cases c8 : a < 30000000 ∧ 29991808 ≤ a
  · exact near_of 29991808 1 run8 (by decide) a c8.2 c8.1
  by_cases c9 : a < 34096001 ∧ 30000001 ≤ a
  · exact near_of 30000001 500 run9 (by decide) a c9.2 c9.1
  by_cases c10 : a < 38192001 ∧ 34096001 ≤ a
  · exact near_of 34096001 500 run10 (by decide) a c10.2 c10.1
  by_cases c11 : a < 42288001 ∧ 38192001 ≤ a
  · exact near_of 38192001 500 run11 (by decide) a c11.2 c11.1
  by_cases c12 : a < 46384001 ∧ 42288001 ≤ a
  · exact near_of 42288001 500 run12 (by decide) a c12.2 c12.1
  by_cases c13 : a < 50480001 ∧ 46384001 ≤ a
  · exact near_of 46384001 500 run13 (by decide) a c13.2 c13.1
  by_cases c14 : a < 54576001 ∧ 50480001 ≤ a
  · exact near_of 50480001 500 run14 (by decide) a c14.2 c14.1
  by_cases c15 : a < 58672001 ∧ 54576001 ≤ a
  · exact near_of 54576001 500 run15 (by decide) a c15.2 c15.1
  by_cases c16 : a < 62768001 ∧ 58672001 ≤ a
  · exact near_of 58672001 500 run16 (by decide) a c16.2 c16.1
  by_cases c17 : a < 66864001 ∧ 62768001 ≤ a
  · exact near_of 62768001 500 run17 (by decide) a c17.2 c17.1
  by_cases c18 : a < 70960001 ∧ 66864001 ≤ a
  · exact near_of 66864001 500 run18 (by decide) a c18.2 c18.1
  by_cases c19 : a < 75056001 ∧ 70960001 ≤ a
  · exact near_of 70960001 500 run19 (by decide) a c19.2 c19.1
  by_cases c20 : a < 79152001 ∧ 75056001 ≤ a
  · exact near_of 75056001 500 run20 (by decide) a c20.2 c20.1
  by_cases c21 : a < 83248001 ∧ 79152001 ≤ a
  · exact near_of 79152001 500 run21 (by decide) a c21.2 c21.1
  by_cases c22 : a < 87344001 ∧ 83248001 ≤ a
  · exact near_of 83248001 500 run22 (by decide) a c22.2 c22.1
  by_cases c23 : a < 89990017 ∧ 87344001 ≤ a
  · exact near_of 87344001 323 run23 (by decide) a c23.2 c23.1
  by_cases c24 : a < 89999984 ∧ 89983600 ≤ a
  · exact near_of 89983600 2 run24 (by decide) a c24.2 c24.1
  · have := nearB_says (89999984 + (a - 89999984)) (allB_says _ 16 last16 (a - 89999984) (by omega))
    rwa [show 89999984 + (a - 89999984) = a from by omega] at this

theorem rise (a : Nat) (h1 : a < 90000000) : H a + 2^89 ≤ H (a+1) := by
  by_cases h0 : a = 0
  · subst h0; decide +kernel
  · by_cases h2 : a = 30000000
    · subst h2; decide +kernel
    · exact (near a (by omega) h1 h2).2.2
theorem rises (a b : Nat) (h : a < b) (hb : b ≤ 90000000) : H a + 2^89 ≤ H b := by
  induction b with
  | zero => omega
  | succ b ih =>
    have := rise b (by omega)
    by_cases e : a = b
    · subst e; exact this
    · have := ih (by omega) (by omega)
      omega
theorem at30 : H 30000000 + 15 ≥ 50000000 * 2^120 ∧ H 30000000 ≤ 50000000 * 2^120 + 15 := by decide +kernel
theorem at90 : H 90000000 + 15 ≥ 100000000 * 2^120 ∧ H 90000000 ≤ 100000000 * 2^120 + 15 := by decide +kernel
theorem at0 : H 0 = 0 := by decide +kernel
end SineNear
