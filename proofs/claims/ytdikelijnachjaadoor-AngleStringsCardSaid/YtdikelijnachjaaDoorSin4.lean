/- Functions whose differences are all at least 0, and polynomials below them. -/
namespace SineNear
set_option linter.unusedSimpArgs false
set_option linter.unusedVariables false

def difQ : Nat → (Nat → Rat) → Nat → Rat
  | 0, f, a => f a
  | j+1, f, a => difQ j f (a+1) - difQ j f a

def step (f : Nat → Rat) (a : Nat) : Rat := f (a+1) - f a

theorem difQ_step (j : Nat) (f : Nat → Rat) : ∀ a, difQ (j+1) f a = difQ j (step f) a := by
  induction j with
  | zero => intro a; rfl
  | succ j ih =>
    intro a
    show difQ (j+1) f (a+1) - difQ (j+1) f a = difQ j (step f) (a+1) - difQ j (step f) a
    rw [ih, ih]

theorem difQ_congr (j : Nat) {f g : Nat → Rat} (h : ∀ a, f a = g a) : ∀ a, difQ j f a = difQ j g a := by
  induction j with
  | zero => exact h
  | succ j ih => intro a; show difQ j f (a+1) - difQ j f a = _; rw [ih, ih]; rfl

theorem difQ_add (j : Nat) (f g : Nat → Rat) : ∀ a, difQ j (fun b => f b + g b) a = difQ j f a + difQ j g a := by
  induction j with
  | zero => intro a; rfl
  | succ j ih =>
    intro a
    show difQ j (fun b => f b + g b) (a+1) - difQ j (fun b => f b + g b) a = (difQ j f (a+1) - difQ j f a) + (difQ j g (a+1) - difQ j g a)
    rw [ih, ih]; grind

theorem difQ_mul (j : Nat) (c : Rat) (f : Nat → Rat) : ∀ a, difQ j (fun b => c * f b) a = c * difQ j f a := by
  induction j with
  | zero => intro a; rfl
  | succ j ih =>
    intro a
    show difQ j (fun b => c * f b) (a+1) - difQ j (fun b => c * f b) a = c * (difQ j f (a+1) - difQ j f a)
    rw [ih, ih]; grind

theorem difQ_shift (j : Nat) (f : Nat → Rat) (k : Nat) : ∀ a, difQ j (fun b => f (b+k)) a = difQ j f (a+k) := by
  induction j with
  | zero => intro a; rfl
  | succ j ih =>
    intro a
    show difQ j (fun b => f (b+k)) (a+1) - difQ j (fun b => f (b+k)) a = difQ j f (a+k+1) - difQ j f (a+k)
    rw [ih, ih, show a+1+k = a+k+1 from by omega]

/-- all differences are at least 0 -/
def AM (f : Nat → Rat) : Prop := ∀ j a, 0 ≤ difQ j f a

theorem AM.step {f : Nat → Rat} (h : AM f) : AM (step f) := fun j a => by rw [← difQ_step]; exact h (j+1) a
theorem AM.add {f g : Nat → Rat} (h : AM f) (k : AM g) : AM (fun b => f b + g b) := fun j a => by rw [difQ_add]; have := h j a; have := k j a; grind
theorem AM.scale {f : Nat → Rat} (h : AM f) {c : Rat} (hc : 0 ≤ c) : AM (fun b => c * f b) := fun j a => by rw [difQ_mul]; exact Rat.mul_nonneg hc (h j a)
theorem AM.nonneg {f : Nat → Rat} (h : AM f) (a : Nat) : 0 ≤ f a := h 0 a
theorem AM.mono {f : Nat → Rat} (h : AM f) (a : Nat) : ∀ k, f a ≤ f (a+k) := by
  intro k
  induction k with
  | zero => exact Rat.le_refl
  | succ k ih =>
    have := h 1 (a+k)
    have e : difQ 1 f (a+k) = f (a+k+1) - f (a+k) := rfl
    rw [e] at this
    rw [show a + (k+1) = a+k+1 from rfl]
    grind

theorem AM.one : AM (fun _ => 1) := by
  have h : ∀ j, ∀ a, difQ (j+1) (fun _ => (1:Rat)) a = 0 := by
    intro j
    induction j with
    | zero => intro a; show (1:Rat) - 1 = 0; grind
    | succ j ih => intro a; show difQ (j+1) _ (a+1) - difQ (j+1) _ a = 0; rw [ih, ih]; grind
  intro j a
  cases j with
  | zero => show (0:Rat) ≤ 1; decide
  | succ j => rw [h]; exact Rat.le_refl

theorem AM.times {g : Nat → Rat} (h : AM g) : AM (fun b => (b:Rat) * g b) := by
  intro j
  induction j generalizing g with
  | zero => intro a; exact Rat.mul_nonneg (Rat.natCast_nonneg) (h.nonneg a)
  | succ j ih =>
    intro a
    rw [difQ_step]
    have e : ∀ b : Nat, SineNear.step (fun b => (b:Rat) * g b) b = (fun b : Nat => (b:Rat) * SineNear.step g b) b + (fun b => g (b+1)) b := by
      intro b
      show ((b+1 : Nat) : Rat) * g (b+1) - (b:Rat) * g b = (b:Rat) * (g (b+1) - g b) + g (b+1)
      rw [Rat.natCast_add]; grind
    rw [difQ_congr j e, difQ_add, difQ_shift]
    have h1 := ih h.step a
    have h2 := h j (a+1)
    grind

theorem AM.pow (n : Nat) : AM (fun b => (b:Rat)^n) := by
  induction n with
  | zero => exact AM.one
  | succ n ih =>
    intro j a
    have := ih.times j a
    rwa [difQ_congr j (g := fun b : Nat => (b:Rat)^(n+1)) (fun b => by show (b:Rat) * (b:Rat)^n = (b:Rat)^(n+1); rw [Rat.pow_succ]; grind)] at this

theorem AM.climb {f : Nat → Rat} (h : AM f) (a : Nat) : ∀ k : Nat, (k:Rat) * SineNear.step f a ≤ f (a+k) - f a := by
  intro k
  induction k with
  | zero => have e : ((0:Nat):Rat) = 0 := rfl; show ((0:Nat):Rat) * _ ≤ f a - f a; rw [e]; grind
  | succ k ih =>
    have h1 := h.step.mono a k
    have e : SineNear.step f (a+k) = f (a+(k+1)) - f (a+k) := rfl
    rw [Rat.natCast_add]
    rw [e] at h1
    have : ((1:Nat):Rat) = 1 := rfl
    grind

theorem AM.wide {f : Nat → Rat} (h : AM f) (M : Nat) (j : Nat) : ∀ a, (M:Rat)^j * difQ j f a ≤ f (a+j*M) := by
  induction j generalizing f with
  | zero => intro a; show (M:Rat)^0 * f a ≤ f (a + 0*M); rw [Nat.zero_mul, Nat.add_zero, Rat.pow_zero]; grind
  | succ j ih =>
    intro a
    rw [difQ_step]
    have h1 := ih h.step a
    have h2 := h.climb (a+j*M) M
    have h3 := h.nonneg (a+j*M)
    have h4 : (M:Rat) * ((M:Rat)^j * difQ j (SineNear.step f) a) ≤ (M:Rat) * SineNear.step f (a+j*M) := Rat.mul_le_mul_of_nonneg_left h1 Rat.natCast_nonneg
    rw [show a + (j+1)*M = a+j*M+M from by rw [Nat.add_mul]; omega, Rat.pow_succ]
    grind

/-- an alternating sum, and the sum without signs -/
def alt (t : Nat → Nat → Rat) : Nat → Nat → Rat
  | 0, _ => 0
  | k+1, a => alt t k a + (if k % 2 = 0 then t k a else - t k a)
def tot (t : Nat → Nat → Rat) : Nat → Nat → Rat
  | 0, _ => 0
  | k+1, a => tot t k a + t k a

theorem AM.zero : AM (fun _ => 0) := by
  intro j
  induction j with
  | zero => intro a; exact Rat.le_refl
  | succ j ih =>
    intro a
    rw [difQ_step]
    rw [difQ_congr j (g := fun _ => 0) (fun b => by show (0:Rat) - 0 = 0; grind)]
    exact ih a

theorem AM.tot {t : Nat → Nat → Rat} (h : ∀ k, AM (t k)) : ∀ K, AM (tot t K) := by
  intro K
  induction K with
  | zero => exact AM.zero
  | succ K ih => exact (ih.add (h K))

theorem difQ_zero (j : Nat) : ∀ a, difQ j (fun _ => 0) a = 0 := by
  induction j with
  | zero => intro a; rfl
  | succ j ih => intro a; show difQ j _ (a+1) - difQ j _ a = 0; rw [ih, ih]; grind

theorem alt_le {t : Nat → Nat → Rat} (h : ∀ k, AM (t k)) (j : Nat) : ∀ K a, difQ j (alt t K) a ≤ difQ j (tot t K) a ∧ - difQ j (tot t K) a ≤ difQ j (alt t K) a := by
  intro K
  induction K with
  | zero => intro a; show difQ j (fun _ => 0) a ≤ difQ j (fun _ => 0) a ∧ - difQ j (fun _ => 0) a ≤ difQ j (fun _ => 0) a; rw [difQ_zero]; grind
  | succ K ih =>
    intro a
    have e1 : difQ j (tot t (K+1)) a = difQ j (tot t K) a + difQ j (t K) a := difQ_add j _ _ a
    have h1 := h K j a
    have h2 := ih a
    by_cases hk : K % 2 = 0
    · have e2 : difQ j (alt t (K+1)) a = difQ j (alt t K) a + difQ j (t K) a := by
        rw [← difQ_add]; exact difQ_congr j (fun b => by show alt t K b + (if K % 2 = 0 then t K b else - t K b) = _; rw [if_pos hk]) a
      rw [e1, e2]; grind
    · have e2 : difQ j (alt t (K+1)) a = difQ j (alt t K) a + (-1) * difQ j (t K) a := by
        rw [← difQ_mul, ← difQ_add]; exact difQ_congr j (fun b => by show alt t K b + (if K % 2 = 0 then t K b else - t K b) = _; rw [if_neg hk]; grind) a
      rw [e1, e2]; grind

end SineNear
