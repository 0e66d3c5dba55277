import Derived.Test.YtdikelijnachjaaDoorSin7
/- The code's series, and how near it is to the polynomial. -/
namespace SineNear
set_option linter.unusedSimpArgs false
set_option linter.unusedVariables false

/-- the series: its rounds -/
def cLoop (sq : Int) : Nat → Int
  | 0 => 9223372036854775808
  | i+1 => 9223372036854775808 - sq * cLoop sq i / 9223372036854775808 / ((12 - i) * (2 * (12 - i) + 1))
def cX (a : Int) : Int := a * 10803064813898918630 / 67108864
def cQ (a : Int) : Int := cX a * cX a / 18446744073709551616
def cSeries (a : Int) : Int := cX a * cLoop (cQ a) 12 / 9223372036854775808

theorem cX_bd (a : Int) (h0 : 0 ≤ a) (h1 : a ≤ 90000000) : 0 ≤ cX a ∧ cX a ≤ 14488038916154245685 := by unfold cX; omega
theorem cQ_bd (a : Int) (h0 : 0 ≤ a) (h1 : a ≤ 90000000) : 0 ≤ cQ a ∧ cQ a ≤ 11378889920000000000 := by
  obtain ⟨x0, x1⟩ := cX_bd a h0 h1
  have h := Int.mul_le_mul x1 x1 x0 (by omega)
  have h2 := Int.mul_nonneg x0 x0
  unfold cQ; omega
theorem cLoop_bd (sq : Int) (h0 : 0 ≤ sq) (h1 : sq ≤ 11378889920000000000) (i : Nat) (hi : i ≤ 12) : 0 ≤ cLoop sq i ∧ cLoop sq i ≤ 9223372036854775808 := by
  induction i with
  | zero => show (0:Int) ≤ 9223372036854775808 ∧ (9223372036854775808:Int) ≤ 9223372036854775808; omega
  | succ i ih =>
    obtain ⟨a, b⟩ := ih (by omega)
    have m1 := Int.mul_le_mul h1 b a (by omega)
    have m0 := Int.mul_nonneg h0 a
    show 0 ≤ 9223372036854775808 - sq * cLoop sq i / 9223372036854775808 / ((12 - i) * (2 * (12 - i) + 1)) ∧ 9223372036854775808 - sq * cLoop sq i / 9223372036854775808 / ((12 - i) * (2 * (12 - i) + 1)) ≤ 9223372036854775808
    have hd : (3:Int) ≤ (12 - i) * (2 * (12 - i) + 1) := by
      have := Int.mul_le_mul (show (1:Int) ≤ 12 - i by omega) (show (3:Int) ≤ 2 * (12 - i) + 1 by omega) (by omega) (by omega)
      omega
    generalize ((12 - i) * (2 * (12 - i) + 1) : Int) = d at *
    generalize sq * cLoop sq i = t at *
    have t0 : 0 ≤ t / 9223372036854775808 := by omega
    have t1 : t / 9223372036854775808 ≤ 11378889920000000000 := by omega
    generalize t / 9223372036854775808 = u at *
    have q0 : 0 ≤ u / d := Int.ediv_nonneg t0 (by omega)
    have q1 : u / d * d ≤ u := Int.ediv_mul_le u (by omega)
    have q2 : u / d * 3 ≤ u / d * d := Int.mul_le_mul_of_nonneg_left hd q0
    omega

/-- a quotient, rounded down, as fractions -/
theorem div_near (y d : Int) (hd : 0 < d) : (d:Rat) * ((y / d : Int) : Rat) ≤ (y:Rat) ∧ (y:Rat) ≤ (d:Rat) * ((y / d : Int) : Rat) + (d:Rat) := by
  have h1 : d * (y / d) ≤ y := Int.mul_ediv_self_le (by omega)
  have h2 : y ≤ d * (y / d) + d := Int.le_of_lt (Int.lt_mul_ediv_self_add hd)
  have h1' : ((d * (y / d) : Int) : Rat) ≤ (y : Rat) := Rat.intCast_le_intCast.2 h1
  have h2' : (y : Rat) ≤ ((d * (y / d) + d : Int) : Rat) := Rat.intCast_le_intCast.2 h2
  rw [Rat.intCast_mul] at h1'
  rw [Rat.intCast_add, Rat.intCast_mul] at h2'
  exact ⟨h1', h2'⟩

def Zq : Rat := 9223372036854775808

theorem cX_near (n : Nat) (h : n ≤ 90000000) : (cX n : Rat) - Zq * arc n ≤ 17/10 ∧ Zq * arc n - (cX n : Rat) ≤ 17/10 := by
  obtain ⟨h1, h2⟩ := div_near ((n:Int) * 10803064813898918630) 67108864 (by decide)
  have e : ((67108864 : Int) : Rat) = 67108864 := rfl
  have e2 : (((n:Int) * 10803064813898918630 : Int) : Rat) = (n:Rat) * 10803064813898918630 := by rw [Rat.intCast_mul]; rfl
  rw [e, e2] at h1 h2
  have hn0 : (0:Rat) ≤ (n:Rat) := Rat.natCast_nonneg
  have hn : (n:Rat) ≤ 90000000 := Rat.natCast_le_natCast.2 h
  have k1 : (10803064813898918630 - 67108864 * Zq * theta : Rat) ≤ 1/2 := by decide +kernel
  have k2 : (67108864 * Zq * theta - 10803064813898918630 : Rat) ≤ 1/2 := by decide +kernel
  have m1 : (n:Rat) * (10803064813898918630 - 67108864 * Zq * theta) ≤ (n:Rat) * (1/2) := Rat.mul_le_mul_of_nonneg_left k1 hn0
  have m2 : (n:Rat) * (67108864 * Zq * theta - 10803064813898918630) ≤ (n:Rat) * (1/2) := Rat.mul_le_mul_of_nonneg_left k2 hn0
  have ec : ((cX n : Int) : Rat) = (((n:Int) * 10803064813898918630 / 67108864 : Int) : Rat) := rfl
  rw [ec]
  generalize (((n:Int) * 10803064813898918630 / 67108864 : Int) : Rat) = X at *
  have ea : (n:Rat) * (67108864 * Zq * theta) = 67108864 * (Zq * arc n) := by unfold arc; grind
  have m1' : (n:Rat) * 10803064813898918630 - 67108864 * (Zq * arc n) ≤ (n:Rat) * (1/2) := by rw [← ea]; grind
  have m2' : 67108864 * (Zq * arc n) - (n:Rat) * 10803064813898918630 ≤ (n:Rat) * (1/2) := by rw [← ea]; grind
  generalize Zq * arc n = z at *
  constructor <;> grind

theorem cQ_near (n : Nat) (h : n ≤ 90000000) : (cQ n : Rat) - Zq / 2 * (arc n * arc n) ≤ 4 ∧ Zq / 2 * (arc n * arc n) - (cQ n : Rat) ≤ 4 := by
  obtain ⟨x1, x2⟩ := cX_near n h
  obtain ⟨h1, h2⟩ := div_near (cX n * cX n) 18446744073709551616 (by decide)
  have ha := arc_le n (by omega)
  have ha0 := arc_nonneg n
  obtain ⟨b0, _⟩ := cX_bd n (by omega) (by omega)
  have b0' : (0:Rat) ≤ (cX n : Rat) := Rat.intCast_le_intCast.2 b0
  have e : ((18446744073709551616 : Int) : Rat) = 2 * Zq := by decide +kernel
  rw [e, Rat.intCast_mul] at h1 h2
  have ec : ((cQ n : Int) : Rat) = ((cX n * cX n / 18446744073709551616 : Int) : Rat) := rfl
  rw [ec]
  have Z0 : (0:Rat) < Zq := by decide +kernel
  generalize ((cX n * cX n / 18446744073709551616 : Int) : Rat) = Q at *
  generalize (cX n : Rat) = X at *
  generalize arc n = x at *
  -- X X - (Z x)(Z x) = (X - Z x) X + (Z x)(X - Z x)
  have u1 : (X - Zq * x) * X ≤ 17/10 * X := Rat.mul_le_mul_of_nonneg_right x1 b0'
  have zx0 : 0 ≤ Zq * x := Rat.mul_nonneg (Rat.le_of_lt Z0) ha0
  have u2 : (Zq * x) * (X - Zq * x) ≤ (Zq * x) * (17/10) := Rat.mul_le_mul_of_nonneg_left x1 zx0
  have v1 : (Zq * x - X) * X ≤ 17/10 * X := Rat.mul_le_mul_of_nonneg_right x2 b0'
  have v2 : (Zq * x) * (Zq * x - X) ≤ (Zq * x) * (17/10) := Rat.mul_le_mul_of_nonneg_left x2 zx0
  have s1 : X * X - (Zq * x) * (Zq * x) ≤ 17/10 * (X + Zq * x) := by grind
  have s2 : (Zq * x) * (Zq * x) - X * X ≤ 17/10 * (X + Zq * x) := by grind
  have w1 : Zq * x ≤ Zq * (1571/1000) := Rat.mul_le_mul_of_nonneg_left ha (Rat.le_of_lt Z0)
  have w2 : X + Zq * x ≤ Zq * (31421/10000) := by
    have : (17/10 : Rat) ≤ Zq * (1/10000) := by decide +kernel
    grind
  have e3 : 2 * Zq * (Zq / 2 * (x * x)) = (Zq * x) * (Zq * x) := by grind
  constructor
  · refine Rat.le_of_mul_le_mul_left (c := 2 * Zq) ?_ (by grind)
    have : 2 * Zq * (Q - Zq / 2 * (x * x)) = 2 * Zq * Q - (Zq * x) * (Zq * x) := by rw [← e3]; grind
    rw [this]
    generalize (Zq * x) * (Zq * x) = p at *
    generalize X * X = q at *
    grind
  · refine Rat.le_of_mul_le_mul_left (c := 2 * Zq) ?_ (by grind)
    have : 2 * Zq * (Zq / 2 * (x * x) - Q) = (Zq * x) * (Zq * x) - 2 * Zq * Q := by rw [← e3]; grind
    rw [this]
    generalize (Zq * x) * (Zq * x) = p at *
    generalize X * X = q at *
    grind

/-- the nested factors -/
def nq (a : Nat) : Nat → Nat → Rat
  | _, 0 => 1
  | k, f+1 => 1 - arc a * arc a / ((2 * k * (2 * k + 1) : Nat) : Rat) * nq a (k+1) f

theorem nq_bd (a : Nat) (h : a ≤ 90000000) (f : Nat) : ∀ k, 1 ≤ k → 0 ≤ nq a k f ∧ nq a k f ≤ 1 := by
  induction f with
  | zero => intro k _; show (0:Rat) ≤ 1 ∧ (1:Rat) ≤ 1; decide
  | succ f ih =>
    intro k hk
    obtain ⟨i0, i1⟩ := ih (k+1) (by omega)
    show 0 ≤ 1 - arc a * arc a / ((2 * k * (2 * k + 1) : Nat) : Rat) * nq a (k+1) f ∧ 1 - arc a * arc a / ((2 * k * (2 * k + 1) : Nat) : Rat) * nq a (k+1) f ≤ 1
    have x2 := arc2_le a (by omega)
    have x0 : 0 ≤ arc a * arc a := Rat.mul_nonneg (arc_nonneg a) (arc_nonneg a)
    have hm : 6 ≤ 2 * k * (2 * k + 1) := by
      have := Nat.mul_le_mul (show 2 ≤ 2 * k by omega) (show 3 ≤ 2 * k + 1 by omega)
      omega
    have m6 : (6:Rat) ≤ ((2 * k * (2 * k + 1) : Nat) : Rat) := Rat.natCast_le_natCast.2 hm
    generalize ((2 * k * (2 * k + 1) : Nat) : Rat) = m at *
    generalize arc a * arc a = y at *
    generalize nq a (k+1) f = n at *
    have c0 : 0 ≤ y / m := by rw [Rat.div_def]; exact Rat.mul_nonneg x0 (Rat.le_of_lt (Rat.inv_pos.2 (by grind)))
    have c1 : y / m * m = y := Rat.div_mul_cancel (by grind)
    have c2 : y / m ≤ 1 := by
      refine Rat.le_of_mul_le_mul_right (c := m) ?_ (by grind)
      rw [c1]; grind
    have p0 : 0 ≤ y / m * n := Rat.mul_nonneg c0 i0
    have p1 : y / m * n ≤ y / m * 1 := Rat.mul_le_mul_of_nonneg_left i1 c0
    constructor <;> grind

/-- the alternating sum is nested -/
theorem alt_nest (a : Nat) (m : Nat) : ∀ j, alt tq (j+m+1) a = alt tq j a + (if j % 2 = 0 then tq j a * nq a (j+1) m else - (tq j a * nq a (j+1) m)) := by
  induction m with
  | zero =>
    intro j
    show alt tq j a + (if j % 2 = 0 then tq j a else - tq j a) = alt tq j a + (if j % 2 = 0 then tq j a * 1 else - (tq j a * 1))
    rw [show tq j a * 1 = tq j a from by grind]
  | succ m ih =>
    intro j
    have h := ih (j+1)
    rw [show j + (m+1) + 1 = j + 1 + m + 1 from by omega, h]
    have e := tq_succ j a
    have hm : ((2 * (j+1) * (2 * (j+1) + 1) : Nat) : Rat) ≠ 0 := by
      intro h
      have := Rat.natCast_eq_zero_iff.1 h
      have h1 := Nat.mul_pos (show 0 < 2 * (j+1) by omega) (show 0 < 2 * (j+1) + 1 by omega)
      omega
    have e1 : nq a (j+1) (m+1) = 1 - arc a * arc a / ((2 * (j+1) * (2 * (j+1) + 1) : Nat) : Rat) * nq a (j+1+1) m := rfl
    have e2 : tq j a * nq a (j+1) (m+1) = tq j a - tq (j+1) a * nq a (j+1+1) m := by
      rw [e1]
      generalize ((2 * (j+1) * (2 * (j+1) + 1) : Nat) : Rat) = M at *
      have c1 : arc a * arc a / M * M = arc a * arc a := Rat.div_mul_cancel hm
      have c2 : tq (j+1) a = tq j a * (arc a * arc a / M) := by
        have : M * (tq (j+1) a) = M * (tq j a * (arc a * arc a / M)) := by rw [e]; grind
        have h2 : M⁻¹ * (M * tq (j+1) a) = M⁻¹ * (M * (tq j a * (arc a * arc a / M))) := by rw [this]
        have h3 : M⁻¹ * M = 1 := Rat.inv_mul_cancel _ hm
        rw [← Rat.mul_assoc, ← Rat.mul_assoc, h3, Rat.one_mul, Rat.one_mul] at h2
        exact h2
      rw [c2]; grind
    have e3 : alt tq (j+1) a = alt tq j a + (if j % 2 = 0 then tq j a else - tq j a) := rfl
    rw [e2, e3]
    by_cases hj : j % 2 = 0
    · rw [if_pos hj, if_pos hj, if_neg (by omega)]; grind
    · rw [if_neg hj, if_neg hj, if_pos (by omega)]; grind

/-- how far a round is off -/
def Dq : Nat → Rat
  | 0 => Zq * (36/10000)
  | i+1 => (4 + 5/4 * Dq i) / (((12 - i) * (2 * (12 - i) + 1) : Int) : Rat) + 1

theorem Dq_nonneg (i : Nat) (hi : i ≤ 12) : 0 ≤ Dq i := by
  induction i with
  | zero => decide +kernel
  | succ i ih =>
    have h := ih (by omega)
    show 0 ≤ (4 + 5/4 * Dq i) / (((12 - i) * (2 * (12 - i) + 1) : Int) : Rat) + 1
    have hd : (3:Int) ≤ (12 - i) * (2 * (12 - i) + 1) := by
      have := Int.mul_le_mul (show (1:Int) ≤ 12 - i by omega) (show (3:Int) ≤ 2 * (12 - i) + 1 by omega) (by omega) (by omega)
      omega
    have hd' : ((3:Int):Rat) ≤ (((12 - i) * (2 * (12 - i) + 1) : Int) : Rat) := Rat.intCast_le_intCast.2 hd
    have c3 : ((3:Int):Rat) = 3 := rfl
    rw [Rat.div_def]
    have : 0 ≤ (4 + 5/4 * Dq i) * ((((12 - i) * (2 * (12 - i) + 1) : Int) : Rat))⁻¹ := Rat.mul_nonneg (by grind) (Rat.le_of_lt (Rat.inv_pos.2 (by grind)))
    grind

theorem cLoop_near (a : Nat) (h : a ≤ 90000000) (i : Nat) (hi : i ≤ 12) :
    (cLoop (cQ a) i : Rat) - Zq * nq a (13 - i) (8 + i) ≤ Dq i ∧ Zq * nq a (13 - i) (8 + i) - (cLoop (cQ a) i : Rat) ≤ Dq i := by
  obtain ⟨q1, q2⟩ := cQ_near a h
  obtain ⟨qb0, qb1⟩ := cQ_bd a (by omega) (by omega)
  have x2 := arc2_le a (by omega)
  have x0 : 0 ≤ arc a * arc a := Rat.mul_nonneg (arc_nonneg a) (arc_nonneg a)
  have Z0 : (0:Rat) < Zq := by decide +kernel
  induction i with
  | zero =>
    obtain ⟨n0, n1⟩ := nq_bd a h 7 14 (by omega)
    have e : nq a 13 8 = 1 - arc a * arc a / ((2 * 13 * (2 * 13 + 1) : Nat) : Rat) * nq a 14 7 := rfl
    have c : ((2 * 13 * (2 * 13 + 1) : Nat) : Rat) = 702 := rfl
    have e0 : ((cLoop (cQ a) 0 : Int) : Rat) = Zq := rfl
    show ((cLoop (cQ a) 0 : Int) : Rat) - Zq * nq a 13 8 ≤ Zq * (36/10000) ∧ Zq * nq a 13 8 - ((cLoop (cQ a) 0 : Int) : Rat) ≤ Zq * (36/10000)
    rw [e0, e, c]
    generalize nq a 14 7 = n at *
    generalize arc a * arc a = y at *
    have p0 : 0 ≤ y * n := Rat.mul_nonneg x0 n0
    have p1 : y * n ≤ y * 1 := Rat.mul_le_mul_of_nonneg_left n1 x0
    have e2 : y / 702 * n = (y * n) * (1/702) := by grind
    have r1 : Zq * ((y * n) * (1/702)) ≤ Zq * (36/10000) := Rat.mul_le_mul_of_nonneg_left (by grind) (Rat.le_of_lt Z0)
    have r0 : 0 ≤ Zq * ((y * n) * (1/702)) := Rat.mul_nonneg (Rat.le_of_lt Z0) (by grind)
    have r2 : 0 ≤ Zq * (36/10000) := by decide +kernel
    rw [e2]
    constructor <;> grind
  | succ i ih =>
    obtain ⟨h1, h2⟩ := ih (by omega)
    obtain ⟨s0, s1⟩ := cLoop_bd (cQ a) qb0 qb1 i (by omega)
    obtain ⟨n0, n1⟩ := nq_bd a h (8+i) (13-i) (by omega)
    have D0 := Dq_nonneg i (by omega)
    have hd : (3:Int) ≤ (12 - i) * (2 * (12 - i) + 1) := by
      have := Int.mul_le_mul (show (1:Int) ≤ 12 - i by omega) (show (3:Int) ≤ 2 * (12 - i) + 1 by omega) (by omega) (by omega)
      omega
    have ed : cLoop (cQ a) (i+1) = 9223372036854775808 - cQ a * cLoop (cQ a) i / (9223372036854775808 * ((12 - i) * (2 * (12 - i) + 1))) := by
      show 9223372036854775808 - cQ a * cLoop (cQ a) i / 9223372036854775808 / ((12 - i) * (2 * (12 - i) + 1)) = _
      rw [Int.ediv_ediv_of_nonneg (by omega)]
    have en : nq a (13 - (i+1)) (8 + (i+1)) = 1 - arc a * arc a / ((2 * (12 - i) * (2 * (12 - i) + 1) : Nat) : Rat) * nq a (13 - i) (8 + i) := by
      rw [show 13 - (i+1) = 12 - i from by omega, show 8 + (i+1) = (8 + i) + 1 from by omega]
      show 1 - arc a * arc a / ((2 * (12 - i) * (2 * (12 - i) + 1) : Nat) : Rat) * nq a (12 - i + 1) (8 + i) = _
      rw [show 12 - i + 1 = 13 - i from by omega]
    have em : ((2 * (12 - i) * (2 * (12 - i) + 1) : Nat) : Rat) = 2 * (((12 - i) * (2 * (12 - i) + 1) : Int) : Rat) := by
      have : ((2 * (12 - i) * (2 * (12 - i) + 1) : Nat) : Int) = 2 * ((12 - i) * (2 * (12 - i) + 1) : Int) := by
        have hh : ((12 - i : Nat) : Int) = 12 - (i:Int) := by omega
        push_cast
        rw [hh, Int.mul_assoc]
      have h3 : (((2 * (12 - i) * (2 * (12 - i) + 1) : Nat) : Int) : Rat) = ((2 * ((12 - i) * (2 * (12 - i) + 1) : Int) : Int) : Rat) := by rw [this]
      rw [Rat.intCast_mul] at h3
      exact h3
    have eD : Dq (i+1) = (4 + 5/4 * Dq i) / (((12 - i) * (2 * (12 - i) + 1) : Int) : Rat) + 1 := rfl
    have dn := div_near (cQ a * cLoop (cQ a) i) (9223372036854775808 * ((12 - i) * (2 * (12 - i) + 1))) (by omega)
    rw [en, em, eD, ed, Rat.intCast_sub]
    have hd' : ((3:Int):Rat) ≤ (((12 - i) * (2 * (12 - i) + 1) : Int) : Rat) := Rat.intCast_le_intCast.2 hd
    have c3 : ((3:Int):Rat) = 3 := rfl
    have s0' : ((0:Int):Rat) ≤ (cLoop (cQ a) i : Rat) := Rat.intCast_le_intCast.2 s0
    have s1' : (cLoop (cQ a) i : Rat) ≤ ((9223372036854775808:Int):Rat) := Rat.intCast_le_intCast.2 s1
    have cz : ((9223372036854775808:Int):Rat) = Zq := rfl
    have c0 : ((0:Int):Rat) = 0 := rfl
    rw [Rat.intCast_mul 9223372036854775808 ((12 - (i:Int)) * (2 * (12 - (i:Int)) + 1)), Rat.intCast_mul (cQ a) (cLoop (cQ a) i), cz] at dn
    obtain ⟨dn1, dn2⟩ := dn
    rw [cz] at s1' ⊢
    rw [c0] at s0'
    rw [c3] at hd'
    clear en em eD ed hd s0 s1 qb0 qb1 ih cz c0 c3
    generalize ((cQ a * cLoop (cQ a) i / (9223372036854775808 * ((12 - (i:Int)) * (2 * (12 - (i:Int)) + 1))) : Int) : Rat) = q at *
    generalize (((12 - (i:Int)) * (2 * (12 - (i:Int)) + 1) : Int) : Rat) = d at *
    generalize (cLoop (cQ a) i : Rat) = s at *
    generalize (cQ a : Rat) = Q at *
    generalize nq a (13 - i) (8 + i) = n at *
    generalize arc a * arc a = y at *
    generalize Dq i = D at *
    have d0 : 0 < d := by grind
    -- Q s near (Z/2) y Z n
    have t1 : (Q - Zq / 2 * y) * s ≤ 4 * s := Rat.mul_le_mul_of_nonneg_right q1 s0'
    have t2 : (Zq / 2 * y - Q) * s ≤ 4 * s := Rat.mul_le_mul_of_nonneg_right q2 s0'
    have zy0 : 0 ≤ Zq / 2 * y := Rat.mul_nonneg (by grind) x0
    have t3 : (Zq / 2 * y) * (s - Zq * n) ≤ (Zq / 2 * y) * D := Rat.mul_le_mul_of_nonneg_left h1 zy0
    have t4 : (Zq / 2 * y) * (Zq * n - s) ≤ (Zq / 2 * y) * D := Rat.mul_le_mul_of_nonneg_left h2 zy0
    have t5 : y * D ≤ 5/2 * D := Rat.mul_le_mul_of_nonneg_right x2 D0
    have t6 : Zq / 2 * (y * D) ≤ Zq / 2 * (5/2 * D) := Rat.mul_le_mul_of_nonneg_left t5 (by grind)
    have e1 : Zq * d * q = Zq * (d * q) := by grind
    have e2 : Q * s = (Q - Zq / 2 * y) * s + (Zq / 2 * y) * (s - Zq * n) + Zq * (Zq / 2 * (y * n)) := by grind
    have e3 : Q * s = Zq * (Zq / 2 * (y * n)) - (Zq / 2 * y - Q) * s - (Zq / 2 * y) * (Zq * n - s) := by grind
    have e4 : (Zq / 2 * y) * D = Zq / 2 * (y * D) := by grind
    have e5 : Zq / 2 * (5/2 * D) = Zq * (5/4 * D) := by grind
    have u1 : Zq * (d * q) ≤ Zq * (Zq / 2 * (y * n) + 4 + 5/4 * D) := by
      have : Zq * (Zq / 2 * (y * n) + 4 + 5/4 * D) = Zq * (Zq / 2 * (y * n)) + 4 * Zq + Zq * (5/4 * D) := by grind
      rw [this, ← e1]
      generalize Zq * (Zq / 2 * (y * n)) = p1 at *
      generalize (Q - Zq / 2 * y) * s = p2 at *
      generalize (Zq / 2 * y) * (s - Zq * n) = p3 at *
      generalize Zq * (5/4 * D) = p4 at *
      generalize Zq / 2 * (y * D) = p5 at *
      clear e3 t2 t4
      grind
    have u2 : Zq * (Zq / 2 * (y * n) - 4 - 5/4 * D - d) ≤ Zq * (d * q) := by
      have : Zq * (Zq / 2 * (y * n) - 4 - 5/4 * D - d) = Zq * (Zq / 2 * (y * n)) - 4 * Zq - Zq * (5/4 * D) - Zq * d := by grind
      rw [this, ← e1]
      generalize Zq * (Zq / 2 * (y * n)) = p1 at *
      generalize (Zq / 2 * y - Q) * s = p2 at *
      generalize (Zq / 2 * y) * (Zq * n - s) = p3 at *
      generalize Zq * (5/4 * D) = p4 at *
      generalize Zq / 2 * (y * D) = p5 at *
      clear e2 t1 t3
      grind
    have v1 := Rat.le_of_mul_le_mul_left u1 Z0
    have v2 := Rat.le_of_mul_le_mul_left u2 Z0
    have f1 : d * (y / (2 * d) * n) = y * n * (1/2) := by
      have : y / (2 * d) * (2 * d) = y := Rat.div_mul_cancel (by grind)
      grind
    have f2 : d * ((4 + 5/4 * D) / d) = 4 + 5/4 * D := by rw [Rat.mul_comm]; exact Rat.div_mul_cancel (by grind)
    have f3 : d * (Zq * (1 - y / (2 * d) * n)) = d * Zq - Zq / 2 * (y * n) := by
      have : d * (Zq * (1 - y / (2 * d) * n)) = d * Zq - Zq * (d * (y / (2 * d) * n)) := by grind
      rw [this, f1]; grind
    constructor
    · refine Rat.le_of_mul_le_mul_left (c := d) ?_ d0
      have : d * (Zq - q - Zq * (1 - y / (2 * d) * n)) = Zq / 2 * (y * n) - d * q := by
        have : d * (Zq - q - Zq * (1 - y / (2 * d) * n)) = d * Zq - d * q - d * (Zq * (1 - y / (2 * d) * n)) := by grind
        rw [this, f3]; grind
      rw [this, show d * ((4 + 5/4 * D) / d + 1) = d * ((4 + 5/4 * D) / d) + d from by grind, f2]
      generalize Zq / 2 * (y * n) = p1 at *
      generalize d * q = p2 at *
      grind
    · refine Rat.le_of_mul_le_mul_left (c := d) ?_ d0
      have : d * (Zq * (1 - y / (2 * d) * n) - (Zq - q)) = d * q - Zq / 2 * (y * n) := by
        have : d * (Zq * (1 - y / (2 * d) * n) - (Zq - q)) = d * (Zq * (1 - y / (2 * d) * n)) - d * Zq + d * q := by grind
        rw [this, f3]; grind
      rw [this, show d * ((4 + 5/4 * D) / d + 1) = d * ((4 + 5/4 * D) / d) + d from by grind, f2]
      generalize Zq / 2 * (y * n) = p1 at *
      generalize d * q = p2 at *
      grind

theorem P_nest (a : Nat) : P a = arc a * nq a 1 20 := by
  have := alt_nest a 20 0
  rw [show 0 + 20 + 1 = 21 from rfl, if_pos rfl, tq_zero] at this
  unfold P
  rw [this]
  show 0 + _ = _
  grind

theorem cSeries_near (a : Nat) (h : a ≤ 90000000) : (cSeries a : Rat) - Zq * P a ≤ 10 ∧ Zq * P a - (cSeries a : Rat) ≤ 10 := by
  obtain ⟨x1, x2⟩ := cX_near a h
  obtain ⟨l1, l2⟩ := cLoop_near a h 12 (by omega)
  obtain ⟨qb0, qb1⟩ := cQ_bd a (by omega) (by omega)
  obtain ⟨s0, s1⟩ := cLoop_bd (cQ a) qb0 qb1 12 (by omega)
  obtain ⟨d1, d2⟩ := div_near (cX a * cLoop (cQ a) 12) 9223372036854775808 (by decide)
  have D12 : Dq 12 ≤ 4 := by decide +kernel
  have ha := arc_le a (by omega)
  have ha0 := arc_nonneg a
  have s0' : ((0:Int):Rat) ≤ (cLoop (cQ a) 12 : Rat) := Rat.intCast_le_intCast.2 s0
  have s1' : (cLoop (cQ a) 12 : Rat) ≤ ((9223372036854775808:Int):Rat) := Rat.intCast_le_intCast.2 s1
  have cz : ((9223372036854775808:Int):Rat) = Zq := rfl
  have c0 : ((0:Int):Rat) = 0 := rfl
  have ec : ((cSeries a : Int) : Rat) = ((cX a * cLoop (cQ a) 12 / 9223372036854775808 : Int) : Rat) := rfl
  rw [P_nest, ec]
  rw [show 13 - 12 = 1 from rfl, show 8 + 12 = 20 from rfl] at l1 l2
  rw [cz, Rat.intCast_mul] at d1 d2
  rw [cz] at s1'
  rw [c0] at s0'
  have Z0 : (0:Rat) < Zq := by decide +kernel
  generalize ((cX a * cLoop (cQ a) 12 / 9223372036854775808 : Int) : Rat) = r at *
  generalize (cLoop (cQ a) 12 : Rat) = s at *
  generalize (cX a : Rat) = X at *
  generalize nq a 1 20 = n at *
  generalize arc a = x at *
  generalize Dq 12 = D at *
  have t1 : (X - Zq * x) * s ≤ 17/10 * s := Rat.mul_le_mul_of_nonneg_right x1 s0'
  have t2 : (Zq * x - X) * s ≤ 17/10 * s := Rat.mul_le_mul_of_nonneg_right x2 s0'
  have zx0 : 0 ≤ Zq * x := Rat.mul_nonneg (Rat.le_of_lt Z0) ha0
  have t3 : (Zq * x) * (s - Zq * n) ≤ (Zq * x) * 4 := Rat.mul_le_mul_of_nonneg_left (by grind) zx0
  have t4 : (Zq * x) * (Zq * n - s) ≤ (Zq * x) * 4 := Rat.mul_le_mul_of_nonneg_left (by grind) zx0
  have t5 : Zq * x ≤ Zq * (1571/1000) := Rat.mul_le_mul_of_nonneg_left ha (Rat.le_of_lt Z0)
  have e1 : X * s = (X - Zq * x) * s + (Zq * x) * (s - Zq * n) + Zq * (Zq * (x * n)) := by grind
  have e2 : X * s = Zq * (Zq * (x * n)) - (Zq * x - X) * s - (Zq * x) * (Zq * n - s) := by grind
  constructor
  · refine Rat.le_of_mul_le_mul_left (c := Zq) ?_ Z0
    have : Zq * (r - Zq * (x * n)) = Zq * r - Zq * (Zq * (x * n)) := by grind
    rw [this]
    generalize Zq * (Zq * (x * n)) = p1 at *
    generalize (X - Zq * x) * s = p2 at *
    generalize (Zq * x) * (s - Zq * n) = p3 at *
    clear e2 t2 t4
    grind
  · refine Rat.le_of_mul_le_mul_left (c := Zq) ?_ Z0
    have : Zq * (Zq * (x * n) - r) = Zq * (Zq * (x * n)) - Zq * r := by grind
    rw [this]
    generalize Zq * (Zq * (x * n)) = p1 at *
    generalize (Zq * x - X) * s = p2 at *
    generalize (Zq * x) * (Zq * n - s) = p3 at *
    clear e1 t1 t3
    grind

/-- the code's series, rounded down, is that of the specification -/
theorem code_is_ref (a : Nat) (h0 : 0 < a) (h1 : a < 90000000) (h2 : a ≠ 30000000) : cSeries a * 100000000 / 9223372036854775808 = ((H a / 2^120 : Nat) : Int) := by
  obtain ⟨s1, s2⟩ := cSeries_near a (by omega)
  obtain ⟨g1, g2⟩ := H_near a (by omega)
  obtain ⟨n1, n2, _⟩ := near a h0 h1 h2
  have c3 : cq = 132922799578491587290380706028034457600000000 := by decide +kernel
  have cZ : Zq = 9223372036854775808 := rfl
  rw [cZ] at s1 s2
  rw [c3] at g1 g2
  have u1 : (cSeries a : Rat) * 132922799578491587290380706028034457600000000 ≤ 9223372036854775808 * (hI H a : Rat) + 1329227995784915872903807060280344576000000000 + 119903836479112085504 := by
    generalize (hI H a : Rat) = g at *
    generalize (cSeries a : Rat) = s at *
    grind
  have u2 : 9223372036854775808 * (hI H a : Rat) ≤ (cSeries a : Rat) * 132922799578491587290380706028034457600000000 + 1329227995784915872903807060280344576000000000 + 119903836479112085504 := by
    generalize (hI H a : Rat) = g at *
    generalize (cSeries a : Rat) = s at *
    grind
  have v1 : ((cSeries a * 132922799578491587290380706028034457600000000 : Int) : Rat) ≤ ((9223372036854775808 * hI H a + 1329227995784915872903807060280344576000000000 + 119903836479112085504 : Int) : Rat) := by
    rw [Rat.intCast_mul, Rat.intCast_add, Rat.intCast_add, Rat.intCast_mul]; exact u1
  have v2 : ((9223372036854775808 * hI H a : Int) : Rat) ≤ ((cSeries a * 132922799578491587290380706028034457600000000 + 1329227995784915872903807060280344576000000000 + 119903836479112085504 : Int) : Rat) := by
    rw [Rat.intCast_mul, Rat.intCast_add, Rat.intCast_add, Rat.intCast_mul]; exact u2
  have w1 := Rat.intCast_le_intCast.1 v1
  have w2 := Rat.intCast_le_intCast.1 v2
  unfold hI at w1 w2
  generalize H a = g at *
  generalize cSeries a = s at *
  omega
end SineNear
