import Derived.Test.YtdikelijnachjaaDoorSin1
/- Differences, and how far the five rows are from them. -/
namespace SineNear
set_option linter.unusedSimpArgs false
set_option linter.unusedVariables false

def dif : Nat → (Nat → Int) → Nat → Int
  | 0, f, a => f a
  | j+1, f, a => dif j f (a+1) - dif j f a

structure Good (h : Nat → Int) (K : Int) (c : Nat) (r : Row) (i t : Nat) : Prop where
  g4 : r.f4 i - dif 4 h (c+t) ≤ K * t ∧ dif 4 h (c+t) - r.f4 i ≤ K * t
  g3 : 2 * (r.f3 i - dif 3 h (c+t)) ≤ K * t^2 ∧ 2 * (dif 3 h (c+t) - r.f3 i) ≤ K * t^2
  g2 : 6 * (r.f2 i - dif 2 h (c+t)) ≤ K * t^3 ∧ 6 * (dif 2 h (c+t) - r.f2 i) ≤ K * t^3
  g1 : 24 * (r.f1 i - dif 1 h (c+t)) ≤ K * t^4 ∧ 24 * (dif 1 h (c+t) - r.f1 i) ≤ K * t^4
  g0 : 120 * (r.f0 i - dif 0 h (c+t)) ≤ K * t^5 ∧ 120 * (dif 0 h (c+t) - r.f0 i) ≤ K * t^5

theorem Good.next {h : Nat → Int} {K : Int} {c : Nat} {r : Row} {i t : Nat} (hK : 0 ≤ K) (g : Good h K c r i t)
    (h5 : dif 5 h (c+t) ≤ K ∧ -K ≤ dif 5 h (c+t)) : Good h K c r.next i (t+1) := by
  have e4 : dif 4 h (c+(t+1)) = dif 5 h (c+t) + dif 4 h (c+t) := by show _ = (dif 4 h (c+t+1) - dif 4 h (c+t)) + _; rw [Nat.add_assoc]; omega
  have e3 : dif 3 h (c+(t+1)) = dif 4 h (c+t) + dif 3 h (c+t) := by show _ = (dif 3 h (c+t+1) - dif 3 h (c+t)) + _; rw [Nat.add_assoc]; omega
  have e2 : dif 2 h (c+(t+1)) = dif 3 h (c+t) + dif 2 h (c+t) := by show _ = (dif 2 h (c+t+1) - dif 2 h (c+t)) + _; rw [Nat.add_assoc]; omega
  have e1 : dif 1 h (c+(t+1)) = dif 2 h (c+t) + dif 1 h (c+t) := by show _ = (dif 1 h (c+t+1) - dif 1 h (c+t)) + _; rw [Nat.add_assoc]; omega
  have e0 : dif 0 h (c+(t+1)) = dif 1 h (c+t) + dif 0 h (c+t) := by show _ = (dif 0 h (c+t+1) - dif 0 h (c+t)) + _; rw [Nat.add_assoc]; omega
  obtain ⟨g4, g3, g2, g1, g0⟩ := g
  have p1 : 0 ≤ K * (t:Int) := Int.mul_nonneg hK (by omega)
  have p2 : 0 ≤ K * (t:Int)^2 := Int.mul_nonneg hK (Int.pow_nonneg (by omega))
  have p3 : 0 ≤ K * (t:Int)^3 := Int.mul_nonneg hK (Int.pow_nonneg (by omega))
  have p4 : 0 ≤ K * (t:Int)^4 := Int.mul_nonneg hK (Int.pow_nonneg (by omega))
  have q1 : K * ((t+1 : Nat) : Int) = K * t + K := by push_cast; grind
  have q2 : K * ((t+1 : Nat) : Int)^2 = K * (t:Int)^2 + 2 * (K * t) + K := by push_cast; grind
  have q3 : K * ((t+1 : Nat) : Int)^3 = K * (t:Int)^3 + 3 * (K * (t:Int)^2) + 3 * (K * t) + K := by push_cast; grind
  have q4 : K * ((t+1 : Nat) : Int)^4 = K * (t:Int)^4 + 4 * (K * (t:Int)^3) + 6 * (K * (t:Int)^2) + 4 * (K * t) + K := by push_cast; grind
  have q5 : K * ((t+1 : Nat) : Int)^5 = K * (t:Int)^5 + 5 * (K * (t:Int)^4) + 10 * (K * (t:Int)^3) + 10 * (K * (t:Int)^2) + 5 * (K * t) + K := by push_cast; grind
  refine ⟨?_, ?_, ?_, ?_, ?_⟩
  · rw [e4, q1]; show r.f4 i - _ ≤ _ ∧ _ - r.f4 i ≤ _; omega
  · rw [e3, q2]; show 2 * (r.f3 i + r.f4 i - _) ≤ _ ∧ 2 * (_ - (r.f3 i + r.f4 i)) ≤ _; omega
  · rw [e2, q3]; show 6 * (r.f2 i + r.f3 i - _) ≤ _ ∧ 6 * (_ - (r.f2 i + r.f3 i)) ≤ _; omega
  · rw [e1, q4]; show 24 * (r.f1 i + r.f2 i - _) ≤ _ ∧ 24 * (_ - (r.f1 i + r.f2 i)) ≤ _; omega
  · rw [e0, q5]; show 120 * (r.f0 i + r.f1 i - _) ≤ _ ∧ 120 * (_ - (r.f0 i + r.f1 i)) ≤ _; omega

theorem Good.after {h : Nat → Int} {K : Int} {c i : Nat} (hK : 0 ≤ K) (s : Nat) : ∀ (t : Nat) (r : Row), Good h K c r i t →
    (∀ u, u < t + s → dif 5 h (c+u) ≤ K ∧ -K ≤ dif 5 h (c+u)) → Good h K c (r.after s) i (t+s) := by
  induction s with
  | zero => intro t r g _; exact g
  | succ s ih =>
    intro t r g h5
    have := ih (t+1) r.next (g.next hK (h5 t (by omega))) (fun u hu => h5 u (by omega))
    rw [show t + (s+1) = t+1+s from by omega]
    exact this
end SineNear
