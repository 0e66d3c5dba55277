/- The reference's decimals are the code's: plain facts. -/
import Derived.Test.YtdikelijnachjaaDoorSg2
import Derived.Test.YtdikelijnachjaaDoorRdm
namespace Go.Proofs.YtdikelijnachjaaDoor
set_option linter.unusedSimpArgs false
set_option linter.unusedVariables false
open Go.RowKit

theorem dgc_mod {a b : Nat} (h : a % 10 = b % 10) : dgc a = dgc b := by unfold dgc; rw [h]
theorem dec_dgf : ∀ K n, n / 10 ^ (K + 1) = 0 → (∀ j, 1 ≤ j → j < K + 1 → n / 10 ^ j ≠ 0) → Lib.decDigits n = dgf n (K + 1)
  | 0, n, h, _ => by
    have hn : n < 10 := by rw [Nat.zero_add, Nat.pow_one] at h; omega
    rw [Lib.decDigits, dif_pos hn]
    show _ = [dgc (n / 10 ^ 0)]
    rw [Nat.pow_zero, Nat.div_one]
    unfold dgc
    rw [Nat.mod_eq_of_lt hn]
  | K + 1, n, h, hj => by
    have hn : ¬ n < 10 := by
      have := hj 1 (by omega) (by omega)
      rw [Nat.pow_one] at this
      omega
    rw [Lib.decDigits, dif_neg hn, dgf_back]
    rw [dec_dgf K (n / 10) (by rw [Nat.div_div_eq_div_mul, Nat.mul_comm, ← Nat.pow_succ]; exact h) (fun j h1 h2 => by
      rw [Nat.div_div_eq_div_mul, Nat.mul_comm, ← Nat.pow_succ]
      exact hj (j + 1) (by omega) (by omega))]
    rfl
theorem dec_itoa {n K : Nat} (h : DecOf n 1 K) : dgf n K = Lib.itoa n := by
  obtain ⟨h1, h2, h3, h4⟩ := h
  unfold Lib.itoa
  rw [if_neg (by omega), Int.toNat_natCast]
  obtain ⟨k, rfl⟩ : ∃ k, K = k + 1 := ⟨K - 1, by omega⟩
  exact (dec_dgf k n h3 h4).symm
theorem frac_itoa (r : Nat) (h : r < 1000000) : (Lib.itoa ((r : Int) + 1000000)).tail = dgf r 6 := by
  unfold Lib.itoa
  rw [if_neg (by omega), show ((r : Int) + 1000000).toNat = r + 1000000 from by omega]
  rw [dec_dgf 6 (r + 1000000) (Nat.div_eq_of_lt (by omega)) (fun j h1 h2 => by
    rcases (by omega : j = 1 ∨ j = 2 ∨ j = 3 ∨ j = 4 ∨ j = 5 ∨ j = 6) with rfl | rfl | rfl | rfl | rfl | rfl <;> omega)]
  show [dgc ((r + 1000000) / 10 ^ 5), dgc ((r + 1000000) / 10 ^ 4), dgc ((r + 1000000) / 10 ^ 3), dgc ((r + 1000000) / 10 ^ 2), dgc ((r + 1000000) / 10 ^ 1), dgc ((r + 1000000) / 10 ^ 0)] = [dgc (r / 10 ^ 5), dgc (r / 10 ^ 4), dgc (r / 10 ^ 3), dgc (r / 10 ^ 2), dgc (r / 10 ^ 1), dgc (r / 10 ^ 0)]
  rw [dgc_mod (a := (r + 1000000) / 10 ^ 5) (b := r / 10 ^ 5) (by omega), dgc_mod (a := (r + 1000000) / 10 ^ 4) (b := r / 10 ^ 4) (by omega), dgc_mod (a := (r + 1000000) / 10 ^ 3) (b := r / 10 ^ 3) (by omega), dgc_mod (a := (r + 1000000) / 10 ^ 2) (b := r / 10 ^ 2) (by omega), dgc_mod (a := (r + 1000000) / 10 ^ 1) (b := r / 10 ^ 1) (by omega), dgc_mod (a := (r + 1000000) / 10 ^ 0) (b := r / 10 ^ 0) (by omega)]
theorem dgc_zero {q : Nat} (h : dgc q = 48) : q % 10 = 0 := by
  have := dgc_toNat q
  rw [h] at this
  have h2 : (48 : UInt8).toNat = 48 := rfl
  omega
theorem trim_all {l : List UInt8} (h : Lib.trimRightB l 48 = []) : ∀ c ∈ l, c = 48 := by
  have := trim_back l
  rw [h, List.nil_append] at this
  intro c hc
  rw [← this] at hc
  exact List.eq_of_mem_replicate hc
theorem trim_zero (r : Nat) (h : r < 1000000) : Lib.trimRightB (dgf r 6) 48 = [] ↔ r = 0 := by
  constructor
  · intro e
    have a := trim_all e
    have m : dgf r 6 = [dgc (r / 10 ^ 5), dgc (r / 10 ^ 4), dgc (r / 10 ^ 3), dgc (r / 10 ^ 2), dgc (r / 10 ^ 1), dgc (r / 10 ^ 0)] := rfl
    rw [m] at a
    have a5 := dgc_zero (a (dgc (r / 10 ^ 5)) (by simp))
    have a4 := dgc_zero (a (dgc (r / 10 ^ 4)) (by simp))
    have a3 := dgc_zero (a (dgc (r / 10 ^ 3)) (by simp))
    have a2 := dgc_zero (a (dgc (r / 10 ^ 2)) (by simp))
    have a1 := dgc_zero (a (dgc (r / 10 ^ 1)) (by simp))
    have a0 := dgc_zero (a (dgc (r / 10 ^ 0)) (by simp))
    omega
  · rintro rfl; decide
/-- what the reference writes of a size -/
def rsz (n K : Nat) : List UInt8 := if n % 1000000 = 0 then dgf (n / 1000000) K else dgf (n / 1000000) K ++ [46] ++ Lib.trimRightB (dgf (n % 1000000) 6) 48
theorem rsz_is {n K : Nat} (h : DecOf (n / 1000000) 1 K) : rsz n K = wsz n := by
  unfold rsz wsz
  rw [dec_itoa h]
  have e1 : (((n / 1000000 : Nat) : Nat) : Int) = (n : Int) / 1000000 := rfl
  have e2 : ((n : Int) % 1000000) = ((n % 1000000 : Nat) : Int) := rfl
  rw [e1, e2, frac_itoa _ (by omega)]
  by_cases c : n % 1000000 = 0
  · rw [if_pos c, if_pos (by omega)]
  · rw [if_neg c, if_neg (by omega)]
theorem trim_snoc_zero (B : List UInt8) : Lib.trimRightB (B ++ [48]) 48 = Lib.trimRightB B 48 := by
  unfold Lib.trimRightB
  rw [List.reverse_append]
  show (List.dropWhile _ (48 :: B.reverse)).reverse = _
  rw [List.dropWhile_cons, if_pos (by decide)]
theorem trim_snoc_other (B : List UInt8) (c : UInt8) (h : c ≠ 48) : Lib.trimRightB (B ++ [c]) 48 = B ++ [c] := by
  unfold Lib.trimRightB
  rw [List.reverse_append]
  show (List.dropWhile _ (c :: B.reverse)).reverse = _
  have hf : (c == 48) = false := by rw [beq_eq_false_iff_ne]; exact h
  rw [List.dropWhile_cons, hf, if_neg (by decide)]
  simp
end Go.Proofs.YtdikelijnachjaaDoor
