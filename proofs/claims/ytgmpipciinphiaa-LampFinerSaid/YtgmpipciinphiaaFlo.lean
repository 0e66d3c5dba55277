/- The first guess of a root: a float's square root is not too great (plain). -/
import Derived.Test.YtgmpipciinphiaaProg
import Ieee.Arith
namespace Go.Proofs.Ytgmpipciinphiaa
set_option linter.unusedSimpArgs false
set_option linter.unusedVariables false
open Ieee

abbrev D : Format := Ieee.double
theorem D_bin : D.binade = 2^52 := rfl
theorem D_least : D.leastPlace = -1074 := by decide
theorem D_inf : D.infRung = 2047 * 2^52 := by decide
theorem D_sign : D.signWeight = 2^63 := rfl
theorem D_frac : D.fractionBits = 52 := rfl

theorem log2_le {n : Nat} (h : n ≠ 0) : 2 ^ n.log2 ≤ n := Nat.log2_self_le h
theorem lt_log2 (n : Nat) : n < 2 ^ (n.log2 + 1) := Nat.lt_log2_self

/-- what is kept of a magnitude: 53 digits, or one more unit of them -/
theorem kept_bd (mag : Nat) (h : mag ≠ 0) (up drop : Nat) (e : (mag.log2 : Int) + up = 52 + drop) (hz : up = 0 ∨ drop = 0) :
    2^52 ≤ Toward.even.cut false (mag <<< up) drop ∧ Toward.even.cut false (mag <<< up) drop ≤ 2^53 := by
  have l0 := log2_le h
  have l1 := lt_log2 mag
  rcases hz with rfl | rfl
  · -- digits are dropped
    have hl : mag.log2 = 52 + drop := by omega
    rw [Nat.shiftLeft_zero]
    unfold Toward.cut
    dsimp only
    have hm : min drop (mag.log2 + 2) = drop := by omega
    rw [hm, Nat.one_shiftLeft]
    rw [hl] at l0 l1
    have q0 : 2^52 ≤ mag / 2^drop := by
      rw [Nat.le_div_iff_mul_le (Nat.two_pow_pos _), ← Nat.pow_add]; exact l0
    have q1 : mag / 2^drop < 2^53 := by
      rw [Nat.div_lt_iff_lt_mul (Nat.two_pow_pos _), ← Nat.pow_add, show 53 + drop = 52 + drop + 1 by omega]; exact l1
    generalize mag / 2^drop = q at *
    have : ∀ b : Bool, b.toNat ≤ 1 := fun b => by cases b <;> simp
    have := this (decide (2^drop < 2 * (mag % 2^drop)) || (2^drop == 2 * (mag % 2^drop)) && q % 2 == 1)
    omega
  · have hl : mag.log2 + up = 52 := by omega
    have e1 : Toward.even.cut false (mag <<< up) 0 = mag <<< up := by
      unfold Toward.cut
      simp [Nat.mod_one]
    rw [e1, Nat.shiftLeft_eq]
    have p0 := Nat.mul_le_mul_right (2^up) l0
    have p1 := Nat.mul_lt_mul_of_pos_right l1 (Nat.two_pow_pos up)
    rw [← Nat.pow_add] at p0 p1
    rw [show mag.log2 + 1 + up = 53 by omega] at p1
    rw [hl] at p0
    omega

/-- a number that is written, and read again -/
theorem read_write (mag : Nat) (place : Int) (h : mag ≠ 0) (h0 : -1000 ≤ place + mag.log2 - 52) (h1 : place + mag.log2 - 52 ≤ 900) :
    ∃ (M : Nat) (P : Int), D.read (D.nearest false mag place) = .number false M P ∧ 2^52 ≤ M ∧ M < 2^53 ∧ (P = place + mag.log2 - 52 ∨ (P = place + mag.log2 - 52 + 1 ∧ M = 2^52)) := by
  unfold Format.nearest
  rw [if_neg h]
  dsimp only
  rw [D_least, D_frac]
  have em : max (place + (mag.log2 : Int) - (52 : Nat)) (-1074) = place + mag.log2 - 52 := by omega
  rw [em]
  obtain ⟨k0, k1⟩ := kept_bd mag h (place - (place + mag.log2 - 52)).toNat (place + mag.log2 - 52 - place).toNat (by omega) (by omega)
  generalize Toward.even.cut false (mag <<< (place - (place + mag.log2 - 52)).toNat) (place + mag.log2 - 52 - place).toNat = k at *
  generalize hL : place + (mag.log2 : Int) - 52 = L at *
  rw [D_bin, D_inf]
  obtain ⟨n, hn⟩ : ∃ n : Nat, (L - -1074).toNat = n := ⟨_, rfl⟩
  have hn' : (n : Int) = L + 1074 := by omega
  rw [hn]
  have hmin : min (n * 2^52 + k) (2047 * 2^52) = n * 2^52 + k := by omega
  rw [hmin]
  unfold Format.word Format.read
  simp only [Bool.false_eq_true, if_false]
  rw [D_sign, D_bin, D_inf, D_least]
  have hs : n * 2^52 + k < 2^63 := by omega
  have e1 : (n * 2^52 + k) / 2^63 % 2 = 0 := by omega
  have e2 : (n * 2^52 + k) % 2^63 = n * 2^52 + k := by omega
  rw [e1, e2, if_neg (by omega), if_pos (by omega)]
  refine ⟨_, _, rfl, ?_, ?_, ?_⟩
  · omega
  · omega
  · by_cases hk : k = 2^53
    · right
      subst hk
      constructor <;> omega
    · left
      omega

theorem rootFrom_sq (n : Nat) : ∀ (t r : Nat), r * r ≤ n → Datum.rootFrom n t r * Datum.rootFrom n t r ≤ n := by
  intro t
  induction t with
  | zero => intro r h; exact h
  | succ t ih =>
    intro r h
    unfold Datum.rootFrom
    dsimp only
    split
    · exact ih _ (by assumption)
    · exact ih _ h

theorem log2_is (M : Nat) (h0 : 2^52 ≤ M) (h1 : M < 2^53) : M.log2 = 52 := by
  have hne : M ≠ 0 := by omega
  have l0 := log2_le hne
  have l1 := lt_log2 M
  have a : M.log2 < 53 := (Nat.log2_lt hne).2 h1
  have b : ¬ M.log2 < 52 := fun h => by
    have := (Nat.log2_lt hne).1 h
    omega
  omega
theorem log2_up (M k : Nat) (hne : M ≠ 0) (h1 : M < 2^k) : M.log2 < k := (Nat.log2_lt hne).2 h1

/-- the root of a number that is read -/
theorem root_read (M : Nat) (P : Int) (h0 : 2^52 ≤ M) (h1 : M < 2^53) (hP : P ≤ 6 ∨ (P ≤ 7 ∧ M = 2^52)) (hP0 : -60 ≤ P) :
    ∃ (m : Nat) (p : Int), (Datum.number false M P).root 54 = some (.number false m p) ∧ m ≠ 0 ∧ m < 2^56 ∧ p ≤ -26 ∧ -100 ≤ p := by
  unfold Datum.root
  have hM : M ≠ 0 := by omega
  simp only [if_neg hM, Bool.false_eq_true, if_false]
  rw [log2_is M h0 h1]
  obtain ⟨b, hb⟩ : ∃ b : Nat, ((P - ((2 * 54 - 52 : Nat) : Int)) % 2).toNat = b := ⟨_, rfl⟩
  have hb1 : b = 0 ∨ b = 1 := by omega
  rw [hb]
  have hsq := rootFrom_sq (M <<< (2 * 54 - 52 + b)) ((M <<< (2 * 54 - 52 + b)).log2 / 2 + 1) 0 (Nat.zero_le _)
  generalize Datum.rootFrom (M <<< (2 * 54 - 52 + b)) ((M <<< (2 * 54 - 52 + b)).log2 / 2 + 1) 0 = r at *
  rw [Nat.shiftLeft_eq] at hsq
  refine ⟨_, _, rfl, ?_, ?_, ?_, ?_⟩
  · intro h
    have h2 : r = 0 := by omega
    subst h2
    have h3 : (0 * 0 != M <<< (2 * 54 - 52 + b)) = true := by
      rw [Nat.shiftLeft_eq]
      have := Nat.mul_pos (show 0 < M by omega) (Nat.two_pow_pos (2 * 54 - 52 + b))
      rw [bne_iff_ne]
      exact Nat.ne_of_lt this
    rw [h3] at h
    simp at h
  · have hr : r < 2^55 := by
      by_cases c : r < 2^55
      · exact c
      · exfalso
        have := Nat.mul_le_mul (show 2^55 ≤ r by omega) (show 2^55 ≤ r by omega)
        rcases hb1 with rfl | rfl
        · have e : (2:Nat) ^ (2 * 54 - 52 + 0) = 72057594037927936 := rfl
          rw [e] at hsq
          omega
        · have e : (2:Nat) ^ (2 * 54 - 52 + 1) = 144115188075855872 := rfl
          rw [e] at hsq
          omega
    have : ∀ b : Bool, b.toNat ≤ 1 := fun b => by cases b <;> simp
    have := this (r * r != M <<< (2 * 54 - 52 + b))
    omega
  · omega
  · omega

/-- cut to a whole number -/
theorem int_read (M : Nat) (P : Int) (h1 : M < 2^53) (hP : P ≤ -22) : ∃ n : Int, (Datum.number false M P).toInt .zero = some n ∧ 0 ≤ n ∧ n ≤ 2147483648 := by
  unfold Datum.toInt Datum.integral signed
  have e0 : P.toNat = 0 := by omega
  simp only [e0, Nat.shiftLeft_zero, Bool.false_eq_true, if_false]
  refine ⟨_, rfl, by omega, ?_⟩
  unfold Toward.cut
  dsimp only
  rw [Nat.one_shiftLeft]
  obtain ⟨d, hd⟩ : ∃ d : Nat, (-P).toNat = d := ⟨_, rfl⟩
  rw [hd]
  have hd' : 22 ≤ d := by omega
  by_cases hc : d ≤ M.log2 + 2
  · rw [Nat.min_eq_left hc]
    have e : 2^d = 2^22 * 2^(d - 22) := by rw [← Nat.pow_add]; congr 1; omega
    have : M / 2^d ≤ M / 2^22 := Nat.div_le_div_left (Nat.pow_le_pow_right (by decide) hd') (by decide)
    have : M / 2^22 < 2^31 := by omega
    rw [Bool.toNat_false, Nat.add_zero]
    omega
  · rw [Nat.min_eq_right (by omega)]
    have : M / 2^(M.log2 + 2) = 0 := Nat.div_eq_of_lt (Nat.lt_trans (lt_log2 M) (Nat.pow_lt_pow_right (by decide) (by omega)))
    rw [this, Bool.toNat_false]
    decide

/-- the first guess: the square root of a float of a, cut to a whole number -/
theorem guess_bd (a : Nat) (ha : a < 2^59) : ∃ (y : Nat) (n : Int), D.sqrt (D.nearest false a 0) = some y ∧ (D.read y).toInt .zero = some n ∧ 0 ≤ n ∧ n ≤ 2147483648 := by
  by_cases h0 : a = 0
  · subst h0
    exact ⟨0, 0, by decide +kernel, by decide +kernel, by decide, by decide⟩
  · have l := log2_up a 59 h0 ha
    obtain ⟨M, P, e, m0, m1, hp⟩ := read_write a 0 h0 (by omega) (by omega)
    obtain ⟨m, p, e2, n0, n1, n2, n3⟩ := root_read M P m0 m1 (by omega) (by omega)
    have l2 := log2_up m 56 n0 n1
    obtain ⟨M2, P2, e3, q0, q1, hq⟩ := read_write m p n0 (by omega) (by omega)
    obtain ⟨n, e4, r0, r1⟩ := int_read M2 P2 q1 (by omega)
    refine ⟨D.nearest false m p, n, ?_, by rw [e3]; exact e4, r0, r1⟩
    unfold Format.sqrt
    rw [e]
    show (((Datum.number false M P).root 54).map D.write) = _
    rw [e2]
    rfl
end Go.Proofs.Ytgmpipciinphiaa
