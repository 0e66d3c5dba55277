/- The calendar in plain numbers. -/
import Derived.Test.YtjcgojbfjefbcaaDoorA2
namespace Go.Proofs.YtjcgojbfjefbcaaDoor
set_option linter.unusedSimpArgs false
set_option linter.unusedVariables false
open Go.RowKit

/-- the first date of a year; a leap day; a month's length; the days of the months before -/
def ny (y : Int) : Int := 365 * y + (y - 1) / 4 - (y - 1) / 100 + (y - 1) / 400 - 730484
def lp (y : Int) : Int := ny (y + 1) - ny y - 365
def ln (y m : Int) : Int := if m = 2 then lp y + 28 else if m = 4 ∨ m = 6 ∨ m = 9 ∨ m = 11 then 30 else 31
def cu (y m : Int) : Int := if m ≤ 1 then 0 else if m = 2 then 31 else lp y + (if m = 3 then 59 else if m = 4 then 90 else if m = 5 then 120 else if m = 6 then 151 else if m = 7 then 181 else if m = 8 then 212 else if m = 9 then 243 else if m = 10 then 273 else if m = 11 then 304 else if m = 12 then 334 else 365)
theorem ny_step (y : Int) : ny (y + 1) = ny y + 365 + lp y := by unfold lp; omega
theorem lp_01 (y : Int) : lp y = 0 ∨ lp y = 1 := by unfold lp ny; omega
theorem lp_leap (y : Int) : (lp y = 1 ∧ y % 4 = 0 ∧ (y % 100 ≠ 0 ∨ y % 400 = 0)) ∨ (lp y = 0 ∧ ¬ (y % 4 = 0 ∧ (y % 100 ≠ 0 ∨ y % 400 = 0))) := by unfold lp ny; omega
theorem cu_succ (y m : Int) (h1 : 1 ≤ m) (h2 : m ≤ 12) : cu y (m + 1) = cu y m + ln y m := by
  have : m = 1 ∨ m = 2 ∨ m = 3 ∨ m = 4 ∨ m = 5 ∨ m = 6 ∨ m = 7 ∨ m = 8 ∨ m = 9 ∨ m = 10 ∨ m = 11 ∨ m = 12 := by omega
  rcases this with rfl | rfl | rfl | rfl | rfl | rfl | rfl | rfl | rfl | rfl | rfl | rfl <;> simp [cu, ln] <;> omega
theorem cu_year (y : Int) : cu y 13 = 365 + lp y := by simp [cu]; omega
theorem cu_one (y : Int) : cu y 1 = 0 := by simp [cu]
theorem ln_bd (y m : Int) : 28 ≤ ln y m ∧ ln y m ≤ 31 := by have := lp_01 y; unfold ln; split <;> (try split) <;> omega
theorem cu_bd (y m : Int) : 0 ≤ cu y m ∧ cu y m ≤ 366 := by have := lp_01 y; unfold cu; repeat' split <;> omega
theorem ny_bd (y : Int) (h0 : 1990 ≤ y) (h1 : y ≤ 2120) : -4000 ≤ ny y ∧ ny y ≤ 44000 := by unfold ny; omega
theorem ny_mono {a b : Int} (h : a ≤ b) : ny a ≤ ny b := by unfold ny; omega
theorem cu_mono (y : Int) {a b : Int} (h0 : 1 ≤ a) (h : a < b) (h1 : b ≤ 13) : cu y a + ln y a ≤ cu y b := by
  have step : ∀ n : Nat, a + 1 + n ≤ 13 → cu y (a + 1) ≤ cu y (a + 1 + n) := by
    intro n
    induction n with
    | zero => intro _; simp
    | succ n ih =>
      intro hn
      have := ih (by omega)
      have s := cu_succ y (a + 1 + n) (by omega) (by omega)
      have l := ln_bd y (a + 1 + n)
      rw [show a + 1 + ((n + 1 : Nat) : Int) = a + 1 + n + 1 by omega, s]
      omega
  have := step (b - a - 1).toNat (by omega)
  rw [show a + 1 + ((b - a - 1).toNat : Int) = b by omega, cu_succ y a h0 (by omega)] at this
  exact this

/-- a date, and the day that it is -/
def IsDate (y m d : Int) : Prop := 1 ≤ m ∧ m ≤ 12 ∧ 1 ≤ d ∧ d ≤ ln y m
instance (y m d : Int) : Decidable (IsDate y m d) := by unfold IsDate; infer_instance
def num (y m d : Int) : Int := ny y + cu y m + d - 1
theorem num_year {y m d : Int} (h : IsDate y m d) : ny y ≤ num y m d ∧ num y m d < ny (y + 1) := by
  obtain ⟨h1, h2, h3, h4⟩ := h
  have b := cu_bd y m
  have s := ny_step y
  have e := cu_year y
  unfold num
  refine ⟨by omega, ?_⟩
  by_cases c : m = 12
  · subst c
    have q := cu_succ y 12 (by omega) (by omega)
    have : cu y (12 + 1) = 365 + lp y := e
    omega
  · have q := cu_mono y (a := m) (b := 13) (by omega) (by omega) (by omega)
    omega
/-- a day has one date -/
theorem num_inj {y m d p q r : Int} (h : IsDate y m d) (k : IsDate p q r) (e : num y m d = num p q r) : y = p ∧ m = q ∧ d = r := by
  have a := num_year h
  have b := num_year k
  have hy : y = p := by
    by_cases c : y < p
    · have := ny_mono (show y + 1 ≤ p by omega); omega
    · by_cases c2 : p < y
      · have := ny_mono (show p + 1 ≤ y by omega); omega
      · omega
  subst hy
  obtain ⟨h1, h2, h3, h4⟩ := h
  obtain ⟨k1, k2, k3, k4⟩ := k
  unfold num at e
  have hm : m = q := by
    by_cases c : m < q
    · have := cu_mono y (a := m) (b := q) (by omega) (by omega) (by omega); omega
    · by_cases c2 : q < m
      · have := cu_mono y (a := q) (b := m) (by omega) (by omega) (by omega); omega
      · omega
  subst hm
  exact ⟨rfl, rfl, by omega⟩
/-- dates have the order of their days -/
theorem num_lt {y m d p q r : Int} (h : IsDate y m d) (k : IsDate p q r) : num y m d < num p q r ↔ (y < p ∨ (y = p ∧ (m < q ∨ (m = q ∧ d < r)))) := by
  have a := num_year h
  have b := num_year k
  obtain ⟨h1, h2, h3, h4⟩ := h
  obtain ⟨k1, k2, k3, k4⟩ := k
  by_cases c : y < p
  · have := ny_mono (show y + 1 ≤ p by omega)
    exact ⟨fun _ => Or.inl c, fun _ => by omega⟩
  · by_cases c2 : p < y
    · have := ny_mono (show p + 1 ≤ y by omega)
      exact ⟨fun hh => by omega, fun hh => by omega⟩
    · have : y = p := by omega
      subst this
      by_cases c : m < q
      · have := cu_mono y (a := m) (b := q) (by omega) (by omega) (by omega)
        exact ⟨fun _ => Or.inr ⟨rfl, Or.inl c⟩, fun _ => by unfold num; omega⟩
      · by_cases c2 : q < m
        · have := cu_mono y (a := q) (b := m) (by omega) (by omega) (by omega)
          exact ⟨fun hh => by unfold num at hh; omega, fun hh => by omega⟩
        · have : m = q := by omega
          subst this
          unfold num
          exact ⟨fun hh => Or.inr ⟨rfl, Or.inr ⟨rfl, by omega⟩⟩, fun hh => by omega⟩

/-- Easter -/
def esH (y : Int) : Int := (19 * (y % 19) + y / 100 - y / 100 / 4 - (y / 100 - (y / 100 + 8) / 25 + 1) / 3 + 15) % 30
def esL (y : Int) : Int := (32 + 2 * (y / 100 % 4) + 2 * (y % 100 / 4) - esH y - y % 100 % 4) % 7
def esM (y : Int) : Int := (y % 19 + 11 * esH y + 22 * esL y) / 451
def esN (y : Int) : Int := esH y + esL y - 7 * esM y + 114
theorem easter_date : ∀ k : Nat, k < 110 → IsDate (1999 + k) (esN (1999 + k) / 31) (esN (1999 + k) % 31 + 1) ∧ 3 ≤ esN (1999 + k) / 31 ∧ esN (1999 + k) / 31 ≤ 4 ∧ num (1999 + k) (esN (1999 + k) / 31) (esN (1999 + k) % 31 + 1) ≤ 40000 := by decide +kernel
end Go.Proofs.YtjcgojbfjefbcaaDoor
