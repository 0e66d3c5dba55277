import Derived.Test.YtdikelijnachjaaDoorSin4
/- The power series of the sine in 45 digits, and how near it is to the polynomial. -/
namespace SineNear
set_option linter.unusedSimpArgs false
set_option linter.unusedVariables false

def PI45 : Nat := 3141592653589793238462643383279502884197169399
def U : Nat := 1000000000000000000000000000000000000000000000
def term (t sq k : Nat) : Nat := Nat.div (Nat.div (Nat.mul t sq) U) (Nat.mul (Nat.mul 2 k) (Nat.succ (Nat.mul 2 k)))
/-- two terms a round -/
def go (sq : Nat) : Nat → Nat → Nat → Nat → Nat → Nat :=
  fun n => Nat.rec (motive := fun _ => Nat → Nat → Nat → Nat → Nat) (fun _ _ up down => Nat.sub up down)
    (fun _ ih k t up down =>
      (fun t1 => (fun t2 => ih (Nat.add k 2) t2 (Nat.add up t2) (Nat.add down t1)) (term t1 sq (Nat.succ k))) (term t sq k)) n
def refX (a : Nat) : Nat := Nat.div (Nat.mul PI45 a) 180000000
def refQ (a : Nat) : Nat := Nat.div (Nat.mul (refX a) (refX a)) U
def refS (a : Nat) : Nat := go (refQ a) 10 1 (refX a) (refX a) 0
def H (a : Nat) : Nat := Nat.div (Nat.mul (refS a) (2^120)) (10^37)

theorem go_succ (sq n k t up down : Nat) : go sq (n+1) k t up down =
    go sq n (k+2) (term (term t sq k) sq (k+1)) (up + term (term t sq k) sq (k+1)) (down + term t sq k) := rfl
theorem go_zero (sq k t up down : Nat) : go sq 0 k t up down = up - down := rfl

/-- the angle as an arc: a fraction -/
def theta : Rat := (PI45 : Rat) / ((180000000 : Nat) * (U : Rat))
def arc (a : Nat) : Rat := theta * a
def Uq : Rat := 1000000000000000000000000000000000000000000000

theorem Uq_nat : ((U : Nat) : Rat) = Uq := rfl
theorem Uq_pos : 0 < Uq := by decide +kernel

theorem arc_le (a : Nat) (h : a ≤ 90000010) : arc a ≤ 1571/1000 := by
  have h1 : (a:Rat) ≤ ((90000010:Nat):Rat) := Rat.natCast_le_natCast.2 h
  have h2 : theta * (a:Rat) ≤ theta * ((90000010:Nat):Rat) := Rat.mul_le_mul_of_nonneg_left h1 (by decide +kernel)
  have h3 : theta * ((90000010:Nat):Rat) ≤ 1571/1000 := by decide +kernel
  exact Rat.le_trans h2 h3
theorem arc_nonneg (a : Nat) : 0 ≤ arc a := Rat.mul_nonneg (by decide +kernel) Rat.natCast_nonneg

/-- X is the arc, rounded down -/
theorem refX_near (a : Nat) : (refX a : Rat) ≤ Uq * arc a ∧ Uq * arc a - 1 ≤ (refX a : Rat) := by
  have h1 : 180000000 * refX a ≤ PI45 * a := Nat.mul_div_le (PI45 * a) 180000000
  have h2 : PI45 * a ≤ 180000000 * refX a + 180000000 := by
    have := Nat.lt_mul_div_succ (PI45 * a) (show 0 < 180000000 by decide)
    show PI45 * a ≤ 180000000 * (PI45 * a / 180000000) + 180000000
    omega
  have e : Uq * arc a * ((180000000:Nat):Rat) = (PI45:Rat) * a := by
    unfold arc
    have : Uq * theta * ((180000000:Nat):Rat) = (PI45:Rat) := by decide +kernel
    grind
  have h1' : ((180000000 * refX a : Nat) : Rat) ≤ ((PI45 * a : Nat) : Rat) := Rat.natCast_le_natCast.2 h1
  have h2' : ((PI45 * a : Nat) : Rat) ≤ ((180000000 * refX a + 180000000 : Nat) : Rat) := Rat.natCast_le_natCast.2 h2
  rw [Rat.natCast_mul, Rat.natCast_mul, ← e] at h1'
  rw [Rat.natCast_add, Rat.natCast_mul, Rat.natCast_mul, ← e] at h2'
  have c : ((180000000:Nat):Rat) = 180000000 := rfl
  rw [c] at h1' h2'
  constructor <;> grind

theorem refQ_near (a : Nat) (h : a ≤ 90000010) : (refQ a : Rat) ≤ Uq * (arc a * arc a) ∧ Uq * (arc a * arc a) - 5 ≤ (refQ a : Rat) := by
  obtain ⟨x1, x2⟩ := refX_near a
  have ha := arc_le a h
  have ha0 := arc_nonneg a
  have q1 : U * refQ a ≤ refX a * refX a := Nat.mul_div_le (refX a * refX a) U
  have q2 : refX a * refX a ≤ U * refQ a + U := by
    have := Nat.lt_mul_div_succ (refX a * refX a) (show 0 < U by decide)
    show refX a * refX a ≤ U * (refX a * refX a / U) + U
    rw [Nat.mul_add, Nat.mul_one] at this
    omega
  have q1' : ((U * refQ a : Nat) : Rat) ≤ ((refX a * refX a : Nat) : Rat) := Rat.natCast_le_natCast.2 q1
  have q2' : ((refX a * refX a : Nat) : Rat) ≤ ((U * refQ a + U : Nat) : Rat) := Rat.natCast_le_natCast.2 q2
  rw [Rat.natCast_mul, Rat.natCast_mul, Uq_nat] at q1'
  rw [Rat.natCast_add, Rat.natCast_mul, Rat.natCast_mul, Uq_nat] at q2'
  have X0 : 0 ≤ (refX a : Rat) := Rat.natCast_nonneg
  generalize (refX a : Rat) = X at *
  generalize (refQ a : Rat) = Q at *
  generalize arc a = x at *
  have U0 := Uq_pos
  constructor
  · -- U Q ≤ X X ≤ (U x)(U x)
    have s1 : X * X ≤ (Uq * x) * X := Rat.mul_le_mul_of_nonneg_right x1 X0
    have s2 : (Uq * x) * X ≤ (Uq * x) * (Uq * x) := Rat.mul_le_mul_of_nonneg_left x1 (Rat.mul_nonneg (Rat.le_of_lt U0) ha0)
    have s3 : Uq * Q ≤ Uq * (Uq * (x * x)) := by grind
    exact Rat.le_of_mul_le_mul_left s3 U0
  · -- X X ≥ X (U x - 1) ≥ U x (U x - 1) - X ...
    have s1 : X * (Uq * x - 1) ≤ X * X := Rat.mul_le_mul_of_nonneg_left x2 X0
    have s2 : (Uq * x) * (Uq * x - 1) ≤ (Uq * x) * X := Rat.mul_le_mul_of_nonneg_left x2 (Rat.mul_nonneg (Rat.le_of_lt U0) ha0)
    have s4 : Uq * x ≤ Uq * (1571/1000) := Rat.mul_le_mul_of_nonneg_left ha (Rat.le_of_lt U0)
    have s3 : Uq * (Uq * (x * x) - 5) ≤ Uq * Q := by grind
    exact Rat.le_of_mul_le_mul_left s3 U0

/-- one more term: at most 4 units too small, if the one before is -/
theorem term_near (t sq k : Nat) (T x : Rat) (hk : 1 ≤ k) (hx : x ≤ 5/2) (hx0 : 0 ≤ x) (hT0 : 0 ≤ T) (hT : T ≤ 1571/1000)
    (t1 : (t:Rat) ≤ Uq * T) (t2 : Uq * T - 4 ≤ (t:Rat)) (s1 : (sq:Rat) ≤ Uq * x) (s2 : Uq * x - 5 ≤ (sq:Rat))
    (T' : Rat) (hT' : ((2 * k * (2 * k + 1) : Nat) : Rat) * T' = T * x) :
    (term t sq k : Rat) ≤ Uq * T' ∧ Uq * T' - 4 ≤ (term t sq k : Rat) := by
  have hm : 6 ≤ 2 * k * (2 * k + 1) := by
    have := Nat.mul_le_mul (show 2 ≤ 2 * k by omega) (show 3 ≤ 2 * k + 1 by omega)
    omega
  have e : term t sq k = t * sq / (U * (2 * k * (2 * k + 1))) := by
    show t * sq / U / (2 * k * (2 * k + 1)) = _
    rw [Nat.div_div_eq_div_mul]
  generalize 2 * k * (2 * k + 1) = m at *
  have hUm : 0 < U * m := Nat.mul_pos (by decide) (by omega)
  have q1 : U * m * term t sq k ≤ t * sq := by rw [e]; exact Nat.mul_div_le _ _
  have q2 : t * sq ≤ U * m * term t sq k + U * m := by
    have := Nat.lt_mul_div_succ (t * sq) hUm
    rw [Nat.mul_add, Nat.mul_one, ← e] at this
    omega
  have q1' : ((U * m * term t sq k : Nat) : Rat) ≤ ((t * sq : Nat) : Rat) := Rat.natCast_le_natCast.2 q1
  have q2' : ((t * sq : Nat) : Rat) ≤ ((U * m * term t sq k + U * m : Nat) : Rat) := Rat.natCast_le_natCast.2 q2
  rw [Rat.natCast_mul, Rat.natCast_mul, Rat.natCast_mul, Uq_nat] at q1'
  rw [Rat.natCast_add, Rat.natCast_mul, Rat.natCast_mul, Rat.natCast_mul, Uq_nat] at q2'
  have t0 : 0 ≤ (t:Rat) := Rat.natCast_nonneg
  have sq0 : 0 ≤ (sq:Rat) := Rat.natCast_nonneg
  have m6 : (6:Rat) ≤ (m:Rat) := Rat.natCast_le_natCast.2 hm
  generalize (term t sq k : Rat) = t' at *
  generalize (t:Rat) = t at *
  generalize (sq:Rat) = s at *
  generalize (m:Rat) = m at *
  have U0 := Uq_pos
  have Um0 : 0 < Uq * m := Rat.mul_pos U0 (by grind)
  constructor
  · have a1 : t * s ≤ (Uq * T) * s := Rat.mul_le_mul_of_nonneg_right t1 sq0
    have a2 : (Uq * T) * s ≤ (Uq * T) * (Uq * x) := Rat.mul_le_mul_of_nonneg_left s1 (Rat.mul_nonneg (Rat.le_of_lt U0) hT0)
    have e3 : (Uq * m) * (Uq * T') = (Uq * T) * (Uq * x) := by grind
    have a3 : (Uq * m) * t' ≤ (Uq * m) * (Uq * T') := by rw [e3]; exact Rat.le_trans q1' (Rat.le_trans a1 a2)
    exact Rat.le_of_mul_le_mul_left a3 Um0
  · have a1 : t * (Uq * x - 5) ≤ t * s := Rat.mul_le_mul_of_nonneg_left s2 t0
    have a2 : (Uq * x) * (Uq * T - 4) ≤ (Uq * x) * t := Rat.mul_le_mul_of_nonneg_left t2 (Rat.mul_nonneg (Rat.le_of_lt U0) hx0)
    have a4 : Uq * x ≤ Uq * (5/2) := Rat.mul_le_mul_of_nonneg_left hx (Rat.le_of_lt U0)
    have a5 : Uq * T ≤ Uq * (1571/1000) := Rat.mul_le_mul_of_nonneg_left hT (Rat.le_of_lt U0)
    have a6 : Uq * 6 ≤ Uq * m := Rat.mul_le_mul_of_nonneg_left m6 (Rat.le_of_lt U0)
    have e3 : (Uq * m) * (Uq * T' - 4) = (Uq * T) * (Uq * x) - 4 * (Uq * m) := by grind
    have e4 : t * (Uq * x - 5) = t * (Uq * x) - 5 * t := by grind
    have e5 : (Uq * x) * (Uq * T - 4) = (Uq * T) * (Uq * x) - 4 * (Uq * x) := by grind
    have e6 : (Uq * x) * t = t * (Uq * x) := by grind
    rw [e4] at a1
    rw [e5, e6] at a2
    clear hT' e
    generalize (Uq * T) * (Uq * x) = v1 at *
    generalize t * (Uq * x) = v2 at *
    generalize t * s = v3 at *
    have a3 : (Uq * m) * (Uq * T' - 4) ≤ (Uq * m) * t' := by rw [e3]; grind
    exact Rat.le_of_mul_le_mul_left a3 Um0

/-- the terms of the power series -/
def fq : Nat → Rat
  | 0 => 1
  | k+1 => fq k / ((2 * (k+1) * (2 * (k+1) + 1) : Nat) : Rat)
def tq (k a : Nat) : Rat := fq k * arc a ^ (2*k+1)

theorem tq_zero (a : Nat) : tq 0 a = arc a := by show 1 * arc a ^ 1 = arc a; rw [Rat.pow_one]; grind
theorem tq_succ (k a : Nat) : ((2 * (k+1) * (2 * (k+1) + 1) : Nat) : Rat) * tq (k+1) a = tq k a * (arc a * arc a) := by
  have h0 : ((2 * (k+1) * (2 * (k+1) + 1) : Nat) : Rat) ≠ 0 := by
    intro h
    have := Rat.natCast_eq_zero_iff.1 h
    have h1 := Nat.mul_pos (show 0 < 2 * (k+1) by omega) (show 0 < 2 * (k+1) + 1 by omega)
    omega
  have e : ((2 * (k+1) * (2 * (k+1) + 1) : Nat) : Rat) * fq (k+1) = fq k := by
    show _ * (fq k / _) = fq k
    rw [Rat.mul_comm]; exact Rat.div_mul_cancel h0
  have e2 : arc a ^ (2*(k+1)+1) = arc a ^ (2*k+1) * (arc a * arc a) := by
    rw [show 2*(k+1)+1 = 2*k+1+1+1 from by omega, Rat.pow_succ, Rat.pow_succ]; grind
  unfold tq
  rw [e2, ← e]; grind
theorem fq_nonneg (k : Nat) : 0 ≤ fq k := by
  induction k with
  | zero => show (0:Rat) ≤ 1; decide
  | succ k ih =>
    show 0 ≤ fq k / _
    rw [Rat.div_def]
    refine Rat.mul_nonneg ih (Rat.le_of_lt (Rat.inv_pos.2 (Rat.natCast_pos.2 (Nat.mul_pos (by omega) (by omega)))))
theorem tq_nonneg (k a : Nat) : 0 ≤ tq k a := Rat.mul_nonneg (fq_nonneg k) (Rat.pow_nonneg (arc_nonneg a))
theorem arc2_le (a : Nat) (h : a ≤ 90000010) : arc a * arc a ≤ 5/2 := by
  have h1 := arc_le a h
  have h0 := arc_nonneg a
  have h2 : arc a * arc a ≤ arc a * (1571/1000) := Rat.mul_le_mul_of_nonneg_left h1 h0
  grind
theorem tq_le (k a : Nat) (h : a ≤ 90000010) : tq (k+1) a ≤ tq k a := by
  have e := tq_succ k a
  have h2 := arc2_le a h
  have h3 := tq_nonneg k a
  have h5 := tq_nonneg (k+1) a
  have h6 : (6:Rat) ≤ ((2 * (k+1) * (2 * (k+1) + 1) : Nat) : Rat) := by
    have := Nat.mul_le_mul (show 2 ≤ 2 * (k+1) by omega) (show 3 ≤ 2 * (k+1) + 1 by omega)
    exact Rat.natCast_le_natCast.2 (by omega)
  have h7 : tq k a * (arc a * arc a) ≤ tq k a * (5/2) := Rat.mul_le_mul_of_nonneg_left h2 h3
  have h8 : 6 * tq (k+1) a ≤ ((2 * (k+1) * (2 * (k+1) + 1) : Nat) : Rat) * tq (k+1) a := Rat.mul_le_mul_of_nonneg_right h6 h5
  grind
theorem tq_le_all (k a : Nat) (h : a ≤ 90000010) : tq k a ≤ 1571/1000 := by
  induction k with
  | zero => rw [tq_zero]; exact arc_le a h
  | succ k ih => exact Rat.le_trans (tq_le k a h) ih

/-- all rounds -/
theorem go_near (a : Nat) (h : a ≤ 90000010) (n : Nat) : ∀ (k t up down : Nat) (e : Rat), (t:Rat) ≤ Uq * tq (2*k) a → Uq * tq (2*k) a - 4 ≤ (t:Rat) → down + t ≤ up →
    (up:Rat) - (down:Rat) - Uq * alt tq (2*k+1) a ≤ e → Uq * alt tq (2*k+1) a - ((up:Rat) - (down:Rat)) ≤ e →
    (go (refQ a) n (2*k+1) t up down : Rat) - Uq * alt tq (2*(k+n)+1) a ≤ e + 8 * n ∧ Uq * alt tq (2*(k+n)+1) a - (go (refQ a) n (2*k+1) t up down : Rat) ≤ e + 8 * n := by
  induction n with
  | zero =>
    intro k t up down e t1 t2 hd h1 h2
    rw [go_zero]
    have : ((up - down : Nat) : Rat) = (up:Rat) - (down:Rat) := by
      have h : up - down + down = up := by omega
      have h' : ((up - down + down : Nat) : Rat) = (up:Rat) := by rw [h]
      rw [Rat.natCast_add] at h'
      grind
    rw [this]
    have c : ((0:Nat):Rat) = 0 := rfl
    rw [c, Nat.add_zero]
    grind
  | succ n ih =>
    intro k t up down e t1 t2 hd h1 h2
    rw [go_succ]
    obtain ⟨q1, q2⟩ := refQ_near a h
    have x2 := arc2_le a h
    have x0 : 0 ≤ arc a * arc a := Rat.mul_nonneg (arc_nonneg a) (arc_nonneg a)
    obtain ⟨a1, a2⟩ := term_near t (refQ a) (2*k+1) (tq (2*k) a) (arc a * arc a) (by omega) x2 x0 (tq_nonneg _ a) (tq_le_all _ a h) t1 t2 q1 q2 (tq (2*k+1) a) (tq_succ (2*k) a)
    obtain ⟨b1, b2⟩ := term_near (term t (refQ a) (2*k+1)) (refQ a) (2*k+1+1) (tq (2*k+1) a) (arc a * arc a) (by omega) x2 x0 (tq_nonneg _ a) (tq_le_all _ a h) a1 a2 q1 q2 (tq (2*k+1+1) a) (tq_succ (2*k+1) a)
    have l1 : term t (refQ a) (2*k+1) ≤ t := by
      have hq : t * refQ a ≤ t * (6 * U) := by
        refine Nat.mul_le_mul_left _ ?_
        have : (refQ a : Rat) ≤ ((6 * U : Nat) : Rat) := by
          rw [Rat.natCast_mul, Uq_nat]
          have u0 := Uq_pos
          have : Uq * (arc a * arc a) ≤ Uq * (5/2) := Rat.mul_le_mul_of_nonneg_left x2 (Rat.le_of_lt u0)
          have c : ((6:Nat):Rat) = 6 := rfl
          rw [c]
          grind
        exact Rat.natCast_le_natCast.1 this
      show t * refQ a / U / (2 * (2*k+1) * (2 * (2*k+1) + 1)) ≤ t
      have hm : 6 ≤ 2 * (2*k+1) * (2 * (2*k+1) + 1) := by
        have := Nat.mul_le_mul (show 2 ≤ 2 * (2*k+1) by omega) (show 3 ≤ 2 * (2*k+1) + 1 by omega)
        omega
      have h1 : t * refQ a / U ≤ 6 * t := by
        refine Nat.div_le_of_le_mul ?_
        have : U * (6 * t) = t * (6 * U) := by rw [Nat.mul_comm t, Nat.mul_assoc, Nat.mul_left_comm]
        rw [this]; exact hq
      refine Nat.div_le_of_le_mul ?_
      exact Nat.le_trans h1 (Nat.mul_le_mul_right _ hm)
    generalize term t (refQ a) (2*k+1) = u1 at *
    generalize hu2 : term u1 (refQ a) (2*k+1+1) = u2 at *
    have s1 : alt tq (2*k+1+1) a = alt tq (2*k+1) a - tq (2*k+1) a := by
      show alt tq (2*k+1) a + (if (2*k+1) % 2 = 0 then tq (2*k+1) a else - tq (2*k+1) a) = _
      rw [if_neg (by omega)]; grind
    have s2 : alt tq (2*k+1+1+1) a = alt tq (2*k+1+1) a + tq (2*k+1+1) a := by
      show alt tq (2*k+1+1) a + (if (2*k+1+1) % 2 = 0 then tq (2*k+1+1) a else - tq (2*k+1+1) a) = _
      rw [if_pos (by omega)]
    have := ih (k+1) u2 (up + u2) (down + u1) (e+8) (by rw [show 2*(k+1) = 2*k+1+1 from by omega]; exact b1) (by rw [show 2*(k+1) = 2*k+1+1 from by omega]; exact b2) (by omega)
      (by rw [show 2*(k+1)+1 = 2*k+1+1+1 from by omega, s2, s1, Rat.natCast_add, Rat.natCast_add]; grind)
      (by rw [show 2*(k+1)+1 = 2*k+1+1+1 from by omega, s2, s1, Rat.natCast_add, Rat.natCast_add]; grind)
    rw [show 2*(k+1)+1 = 2*k+1+2 from by omega, show k+1+n = k+(n+1) from by omega] at this
    have c : ((n+1:Nat):Rat) = (n:Rat) + 1 := by rw [Rat.natCast_add]; rfl
    rw [c]
    constructor <;> grind

def P (a : Nat) : Rat := alt tq 21 a

theorem refS_near (a : Nat) (h : a ≤ 90000010) : (refS a : Rat) - Uq * P a ≤ 84 ∧ Uq * P a - (refS a : Rat) ≤ 84 := by
  obtain ⟨x1, x2⟩ := refX_near a
  have s1 : alt tq (2*0+1) a = arc a := by
    show 0 + (if 0 % 2 = 0 then tq 0 a else - tq 0 a) = _
    rw [if_pos rfl, tq_zero]; grind
  have c : ((0:Nat):Rat) = 0 := rfl
  have := go_near a h 10 0 (refX a) (refX a) 0 4 (by rw [show 2*0 = 0 from rfl, tq_zero]; exact x1) (by rw [show 2*0 = 0 from rfl, tq_zero]; grind) (by omega) (by rw [s1, c]; grind) (by rw [s1, c]; grind)
  have c10 : ((10:Nat):Rat) = 10 := rfl
  rw [c10] at this
  have e : refS a = go (refQ a) 10 (2*0+1) (refX a) (refX a) 0 := rfl
  rw [e]
  unfold P
  rw [show 2*(0+10)+1 = 21 from rfl] at this
  constructor <;> grind
end SineNear
