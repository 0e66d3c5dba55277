import Derived.Test.YtdikelijnachjaaDoorSin3
import Derived.Test.YtdikelijnachjaaDoorSin5
/- The series is smooth: its fifth differences are small. -/
namespace SineNear
set_option linter.unusedSimpArgs false
set_option linter.unusedVariables false

theorem AM.congr {f g : Nat → Rat} (h : AM f) (e : ∀ a, f a = g a) : AM g := fun j a => by rw [← difQ_congr j e]; exact h j a

theorem tq_am (k : Nat) : AM (tq k) := by
  have h0 : 0 ≤ fq k * theta ^ (2*k+1) := Rat.mul_nonneg (fq_nonneg k) (Rat.pow_nonneg (by decide +kernel))
  refine ((AM.pow (2*k+1)).scale h0).congr fun a => ?_
  show fq k * theta ^ (2*k+1) * (a:Rat) ^ (2*k+1) = fq k * (theta * a) ^ (2*k+1)
  have : ∀ n : Nat, (theta * (a:Rat))^n = theta^n * (a:Rat)^n := by
    intro n
    induction n with
    | zero => rw [Rat.pow_zero, Rat.pow_zero, Rat.pow_zero]; grind
    | succ n ih => rw [Rat.pow_succ, Rat.pow_succ, Rat.pow_succ, ih]; grind
  rw [this]; grind

theorem tot_am : AM (tot tq 21) := AM.tot tq_am 21

def M : Nat := 57295780

theorem tot_five (a : Nat) (h : a ≤ 90000000) : difQ 5 (tot tq 21) a ≤ 361 / (M:Rat)^5 := by
  have h1 := tot_am.wide M 5 a
  have h2 := tot_am.mono (a+5*M) (90000000 - a)
  rw [show a+5*M+(90000000-a) = 90000000+5*M from by omega] at h2
  have h3 : tot tq 21 (90000000+5*M) ≤ 361 := by decide +kernel
  have h4 : (0:Rat) < (M:Rat)^5 := by decide +kernel
  have h5 : (M:Rat)^5 * difQ 5 (tot tq 21) a ≤ 361 := by grind
  have h6 : (M:Rat)^5 * (361 / (M:Rat)^5) = 361 := by rw [Rat.mul_comm, Rat.div_mul_cancel (by grind)]
  exact Rat.le_of_mul_le_mul_left (by rw [h6]; exact h5) h4
theorem tot_one (a : Nat) (h : a ≤ 90000000) : difQ 1 (tot tq 21) a ≤ 7 / (M:Rat) := by
  have h1 := tot_am.wide M 1 a
  have h2 := tot_am.mono (a+1*M) (90000000 - a)
  rw [show a+1*M+(90000000-a) = 90000000+1*M from by omega] at h2
  have h3 : tot tq 21 (90000000+1*M) ≤ 7 := by decide +kernel
  have h4 : (0:Rat) < (M:Rat) := by decide +kernel
  have h5 : (M:Rat) * difQ 1 (tot tq 21) a ≤ 7 := by rw [Rat.pow_one] at h1; grind
  have h6 : (M:Rat) * (7 / (M:Rat)) = 7 := by rw [Rat.mul_comm, Rat.div_mul_cancel (by grind)]
  exact Rat.le_of_mul_le_mul_left (by rw [h6]; exact h5) h4
theorem tot_size (a : Nat) (h : a ≤ 90000000) : tot tq 21 a ≤ 3 := by
  have h2 := tot_am.mono a (90000000 - a)
  rw [show a+(90000000-a) = 90000000 from by omega] at h2
  have h3 : tot tq 21 90000000 ≤ 3 := by decide +kernel
  grind

def cq : Rat := 2^120 * 100000000

theorem H_near (a : Nat) (h : a ≤ 90000010) : (hI H a : Rat) - cq * P a ≤ 13 ∧ cq * P a - (hI H a : Rat) ≤ 13 := by
  obtain ⟨s1, s2⟩ := refS_near a h
  have q1 : 10^37 * H a ≤ refS a * 2^120 := Nat.mul_div_le (refS a * 2^120) (10^37)
  have q2 : refS a * 2^120 ≤ 10^37 * H a + 10^37 := by
    have := Nat.lt_mul_div_succ (refS a * 2^120) (show 0 < 10^37 by decide)
    have e : H a = refS a * 2^120 / 10^37 := rfl
    rw [Nat.mul_add, Nat.mul_one, ← e] at this
    omega
  have q1' : ((10^37 * H a : Nat) : Rat) ≤ ((refS a * 2^120 : Nat) : Rat) := Rat.natCast_le_natCast.2 q1
  have q2' : ((refS a * 2^120 : Nat) : Rat) ≤ ((10^37 * H a + 10^37 : Nat) : Rat) := Rat.natCast_le_natCast.2 q2
  rw [Rat.natCast_mul, Rat.natCast_mul] at q1'
  rw [Rat.natCast_add, Rat.natCast_mul, Rat.natCast_mul] at q2'
  have e : (hI H a : Rat) = ((H a : Nat) : Rat) := rfl
  rw [e]
  have c1 : ((10^37 : Nat) : Rat) = 10000000000000000000000000000000000000 := by decide +kernel
  have c2 : ((2^120 : Nat) : Rat) = 1329227995784915872903807060280344576 := by decide +kernel
  have c3 : cq = 132922799578491587290380706028034457600000000 := by decide +kernel
  have c4 : Uq = 1000000000000000000000000000000000000000000000 := rfl
  rw [c1, c2] at q1' q2'
  rw [c4] at s1 s2
  rw [c3]
  generalize (refS a : Rat) = r at *
  generalize ((H a : Nat) : Rat) = g at *
  generalize P a = p at *
  constructor <;> grind

theorem dif_cast (j : Nat) (f : Nat → Int) : ∀ a, ((dif j f a : Int) : Rat) = difQ j (fun b => (f b : Rat)) a := by
  induction j with
  | zero => intro a; rfl
  | succ j ih =>
    intro a
    show ((dif j f (a+1) - dif j f a : Int) : Rat) = difQ j _ (a+1) - difQ j _ a
    rw [Rat.intCast_sub, ih, ih]

theorem difQ_near (j : Nat) (f g : Nat → Rat) (e : Rat) : ∀ a, (∀ b, a ≤ b → b ≤ a+j → f b - g b ≤ e ∧ g b - f b ≤ e) →
    difQ j f a - difQ j g a ≤ 2^j * e ∧ difQ j g a - difQ j f a ≤ 2^j * e := by
  induction j with
  | zero => intro a h; have := h a (by omega) (by omega); rw [Rat.pow_zero]; show f a - g a ≤ 1 * e ∧ g a - f a ≤ 1 * e; grind
  | succ j ih =>
    intro a h
    have h1 := ih (a+1) (fun b hb hb2 => h b (by omega) (by omega))
    have h2 := ih a (fun b hb hb2 => h b (by omega) (by omega))
    show (difQ j f (a+1) - difQ j f a) - (difQ j g (a+1) - difQ j g a) ≤ _ ∧ (difQ j g (a+1) - difQ j g a) - (difQ j f (a+1) - difQ j f a) ≤ _
    rw [Rat.pow_succ]
    have e2 : (2:Rat)^j * 2 * e = 2^j * e + 2^j * e := by grind
    rw [e2]
    grind

theorem cq_pos : 0 < cq := by decide +kernel

theorem smooth : Smooth H 90000000 := by
  refine ⟨?_, ?_, ?_⟩
  · intro a h
    have h1 := difQ_near 5 (fun b => (hI H b : Rat)) (fun b => cq * P b) 13 a (fun b _ hb => H_near b (by omega))
    rw [← dif_cast, difQ_mul] at h1
    have h2 := alt_le tq_am 5 21 a
    have h3 := tot_five a h
    have e : difQ 5 (alt tq 21) a = difQ 5 P a := rfl
    rw [e] at h2
    have h4 : cq * difQ 5 P a ≤ cq * (361 / (M:Rat)^5) := Rat.mul_le_mul_of_nonneg_left (by grind) (Rat.le_of_lt cq_pos)
    have h5 : cq * (-(361 / (M:Rat)^5)) ≤ cq * difQ 5 P a := Rat.mul_le_mul_of_nonneg_left (by grind) (Rat.le_of_lt cq_pos)
    have h6 : cq * (361 / (M:Rat)^5) + 2^5 * 13 ≤ 134217728 := by decide +kernel
    have c5 : (2:Rat)^5 * 13 = 416 := by decide +kernel
    rw [c5] at h1 h6
    have u : ((dif 5 (hI H) a : Int) : Rat) ≤ ((134217728 : Int) : Rat) := by
      show _ ≤ (134217728:Rat)
      grind
    have l : ((-134217728 : Int) : Rat) ≤ ((dif 5 (hI H) a : Int) : Rat) := by
      show (-134217728:Rat) ≤ _
      grind
    exact ⟨Rat.intCast_le_intCast.1 u, Rat.intCast_le_intCast.1 l⟩
  · intro a h
    have h1 := difQ_near 1 (fun b => (hI H b : Rat)) (fun b => cq * P b) 13 a (fun b _ hb => H_near b (by omega))
    rw [← dif_cast, difQ_mul] at h1
    have h2 := alt_le tq_am 1 21 a
    have h3 := tot_one a h
    have e : difQ 1 (alt tq 21) a = difQ 1 P a := rfl
    rw [e] at h2
    have h4 : cq * difQ 1 P a ≤ cq * (7 / (M:Rat)) := Rat.mul_le_mul_of_nonneg_left (by grind) (Rat.le_of_lt cq_pos)
    have h5 : cq * (-(7 / (M:Rat))) ≤ cq * difQ 1 P a := Rat.mul_le_mul_of_nonneg_left (by grind) (Rat.le_of_lt cq_pos)
    have h6 : cq * (7 / (M:Rat)) + 2^1 * 13 ≤ 42535295865117307932921825928971026432 := by decide +kernel
    have c5 : (2:Rat)^1 * 13 = 26 := by decide +kernel
    rw [c5] at h1 h6
    have e1 := dif1 (hI H) a
    have u : ((dif 1 (hI H) a : Int) : Rat) ≤ ((42535295865117307932921825928971026432 : Int) : Rat) := by
      show _ ≤ (42535295865117307932921825928971026432:Rat)
      grind
    have l : ((-42535295865117307932921825928971026432 : Int) : Rat) ≤ ((dif 1 (hI H) a : Int) : Rat) := by
      show (-42535295865117307932921825928971026432:Rat) ≤ _
      grind
    have u' := Rat.intCast_le_intCast.1 u
    have l' := Rat.intCast_le_intCast.1 l
    rw [e1] at u' l'
    omega
  · intro a h
    have h1 := H_near a (by omega)
    have h2 := alt_le tq_am 0 21 a
    have h3 := tot_size a h
    have e : difQ 0 (alt tq 21) a = P a := rfl
    have e' : difQ 0 (tot tq 21) a = tot tq 21 a := rfl
    rw [e, e'] at h2
    have h4 : cq * P a ≤ cq * 3 := Rat.mul_le_mul_of_nonneg_left (by grind) (Rat.le_of_lt cq_pos)
    have h6 : cq * 3 + 13 ≤ 713623846352979940529142984724747568191373311 := by decide +kernel
    have u : ((hI H a : Int) : Rat) ≤ ((713623846352979940529142984724747568191373311 : Int) : Rat) := by
      show _ ≤ (713623846352979940529142984724747568191373311:Rat)
      grind
    have u' := Rat.intCast_le_intCast.1 u
    unfold hI at u'
    omega
end SineNear
