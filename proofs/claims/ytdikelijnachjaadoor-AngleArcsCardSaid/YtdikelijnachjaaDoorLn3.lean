/- The reference's series, round by round. Plain facts. -/
import Derived.Test.YtdikelijnachjaaDoorLn2
namespace SineNear
set_option linter.unusedSimpArgs false
set_option linter.unusedVariables false

def tT (sq x : Nat) : Nat → Nat
  | 0 => x
  | k+1 => term (tT sq x k) sq (k+1)
def upS (sq x : Nat) : Nat → Nat
  | 0 => x
  | k+1 => if (k+1) % 2 = 0 then upS sq x k + tT sq x (k+1) else upS sq x k
def dnS (sq x : Nat) : Nat → Nat
  | 0 => 0
  | k+1 => if (k+1) % 2 = 0 then dnS sq x k else dnS sq x k + tT sq x (k+1)

theorem go_is (sq x n : Nat) : ∀ j, go sq n (2*j+1) (tT sq x (2*j)) (upS sq x (2*j)) (dnS sq x (2*j)) = upS sq x (2*(j+n)) - dnS sq x (2*(j+n)) := by
  induction n with
  | zero => intro j; rw [go_zero]; rfl
  | succ n ih =>
    intro j
    have h := ih (j+1)
    have e : 2*(j+1) = 2*j+1+1 := by omega
    have u1 : upS sq x (2*j+1) = upS sq x (2*j) := by show (if (2*j+1) % 2 = 0 then _ else _) = _; rw [if_neg (by omega)]
    have d1 : dnS sq x (2*j+1) = dnS sq x (2*j) + tT sq x (2*j+1) := by show (if (2*j+1) % 2 = 0 then _ else _) = _; rw [if_neg (by omega)]
    have u2 : upS sq x (2*j+1+1) = upS sq x (2*j) + tT sq x (2*j+1+1) := by show (if (2*j+1+1) % 2 = 0 then _ else _) = _; rw [if_pos (by omega), u1]
    have d2 : dnS sq x (2*j+1+1) = dnS sq x (2*j) + tT sq x (2*j+1) := by show (if (2*j+1+1) % 2 = 0 then _ else _) = _; rw [if_pos (by omega), d1]
    rw [e, u2, d2] at h
    rw [go_succ]
    rw [show 2*(j+1+n) = 2*(j+(n+1)) from by omega] at h
    exact h
theorem refS_is (a : Nat) : refS a = upS (refQ a) (refX a) 20 - dnS (refQ a) (refX a) 20 := go_is (refQ a) (refX a) 10 0

theorem refX_le (a : Nat) (h : a ≤ 90000000) : refX a ≤ 1570796326794896619231321691639751442098584700 := by
  have : refX a = 3141592653589793238462643383279502884197169399 * a / 180000000 := rfl
  rw [this]
  omega
theorem refQ_le (a : Nat) (h : a ≤ 90000000) : refQ a ≤ 3 * U := by
  have hx := refX_le a h
  have hm := Nat.mul_le_mul hx hx
  have e : refQ a = refX a * refX a / 1000000000000000000000000000000000000000000000 := rfl
  rw [e]
  show _ ≤ 3 * 1000000000000000000000000000000000000000000000
  generalize refX a * refX a = t at *
  omega
theorem term_le (t sq k : Nat) (hq : sq ≤ 3 * U) (hk : 1 ≤ k) : term t sq k ≤ t := by
  show t * sq / U / (2 * k * (2 * k + 1)) ≤ t
  have hm : 6 ≤ 2 * k * (2 * k + 1) := Nat.mul_le_mul (show 2 ≤ 2 * k by omega) (show 3 ≤ 2 * k + 1 by omega)
  have h1 : t * sq / U ≤ 3 * t := by
    refine Nat.div_le_of_le_mul ?_
    have := Nat.mul_le_mul_left t hq
    have e : U * (3 * t) = t * (3 * U) := by rw [Nat.mul_comm t, Nat.mul_assoc, Nat.mul_left_comm]
    omega
  refine Nat.div_le_of_le_mul ?_
  have := Nat.mul_le_mul_right t hm
  omega
theorem tT_le (sq x : Nat) (hq : sq ≤ 3 * U) : ∀ k, tT sq x k ≤ x
  | 0 => Nat.le_refl _
  | k+1 => Nat.le_trans (term_le _ _ _ hq (by omega)) (tT_le sq x hq k)
theorem ud_le (sq x : Nat) (hq : sq ≤ 3 * U) : ∀ k, upS sq x k ≤ (k+1) * x ∧ dnS sq x k ≤ k * x ∧ (k % 2 = 0 → dnS sq x k + tT sq x k ≤ upS sq x k) ∧ (k % 2 = 1 → dnS sq x k ≤ upS sq x k)
  | 0 => by
    refine ⟨by show x ≤ _; omega, by show 0 ≤ _; omega, fun _ => ?_, fun h => absurd h (by decide)⟩
    show 0 + x ≤ x
    omega
  | k+1 => by
    obtain ⟨a, b, c, d⟩ := ud_le sq x hq k
    have t1 := tT_le sq x hq (k+1)
    have t2 : tT sq x (k+1) ≤ tT sq x k := term_le _ _ _ hq (by omega)
    have e1 : (k+1+1) * x = (k+1) * x + x := Nat.succ_mul _ _
    have e2 : (k+1) * x = k * x + x := Nat.succ_mul _ _
    show (if (k+1) % 2 = 0 then upS sq x k + tT sq x (k+1) else upS sq x k) ≤ _ ∧ (if (k+1) % 2 = 0 then dnS sq x k else dnS sq x k + tT sq x (k+1)) ≤ _ ∧ (_ → (if (k+1) % 2 = 0 then dnS sq x k else dnS sq x k + tT sq x (k+1)) + _ ≤ (if (k+1) % 2 = 0 then upS sq x k + tT sq x (k+1) else upS sq x k)) ∧ (_ → (if (k+1) % 2 = 0 then dnS sq x k else dnS sq x k + tT sq x (k+1)) ≤ (if (k+1) % 2 = 0 then upS sq x k + tT sq x (k+1) else upS sq x k))
    by_cases h : (k+1) % 2 = 0
    · simp only [if_pos h]
      have := d (by omega)
      refine ⟨by omega, by omega, fun _ => by omega, fun _ => by omega⟩
    · simp only [if_neg h]
      have := c (by omega)
      refine ⟨by omega, by omega, fun _ => by omega, fun _ => by omega⟩

theorem H_ref (a : Nat) : H a / 2^120 = refS a / 10^37 := by
  show refS a * 2^120 / 10^37 / 2^120 = refS a / 10^37
  rw [Nat.div_div_eq_div_mul, Nat.mul_div_mul_right _ _ (Nat.two_pow_pos 120)]
/-- the sine in hundred-millionths, by the parts of the sum -/
theorem n_ref (a : Nat) (s : Nat → Int) (hs : Nm s) (hv : V6 s = (refS a : Int)) : s 0 * 100000000 + s 1 / 10 = ((H a / 2^120 : Nat) : Int) := by
  rw [H_ref]
  obtain ⟨s0, s1, s2, s3, s4, s5⟩ := hs.six
  unfold V6 at hv
  have : (10:Nat)^37 = 10000000000000000000000000000000000000 := by decide
  rw [this]
  omega
end SineNear
