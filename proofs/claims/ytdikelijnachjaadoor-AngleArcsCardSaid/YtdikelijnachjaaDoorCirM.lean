/- The circle: sines and cosines of sums of angles of whole millionths of a degree, by cut power series; what the law of the circle looks at. -/
import Derived.Test.YtdikelijnachjaaDoorAdd
import Derived.Test.YtdikelijnachjaaDoorSin7
import Derived.Test.YtdikelijnachjaaDoorAng
namespace SineNear
set_option linter.unusedSimpArgs false
set_option linter.unusedVariables false
def sg (n : Nat) : Rat := if n % 4 = 1 then 1 else if n % 4 = 3 then -1 else 0
def cg (n : Nat) : Rat := if n % 4 = 0 then 1 else if n % 4 = 2 then -1 else 0
theorem sg_add (i j : Nat) : sg i * cg j + cg i * sg j = sg (i+j) := by
  have hi : i % 4 < 4 := Nat.mod_lt _ (by decide)
  have hj : j % 4 < 4 := Nat.mod_lt _ (by decide)
  unfold sg cg
  rw [Nat.add_mod]
  generalize i % 4 = a at *
  generalize j % 4 = b at *
  have ha : a = 0 ∨ a = 1 ∨ a = 2 ∨ a = 3 := by omega
  have hb : b = 0 ∨ b = 1 ∨ b = 2 ∨ b = 3 := by omega
  rcases ha with rfl | rfl | rfl | rfl <;> rcases hb with rfl | rfl | rfl | rfl <;> decide +kernel
theorem cg_add (i j : Nat) : cg i * cg j - sg i * sg j = cg (i+j) := by
  have hi : i % 4 < 4 := Nat.mod_lt _ (by decide)
  have hj : j % 4 < 4 := Nat.mod_lt _ (by decide)
  unfold sg cg
  rw [Nat.add_mod]
  generalize i % 4 = a at *
  generalize j % 4 = b at *
  have ha : a = 0 ∨ a = 1 ∨ a = 2 ∨ a = 3 := by omega
  have hb : b = 0 ∨ b = 1 ∨ b = 2 ∨ b = 3 := by omega
  rcases ha with rfl | rfl | rfl | rfl <;> rcases hb with rfl | rfl | rfl | rfl <;> decide +kernel
theorem sg_one (n : Nat) : sg n ≤ 1 ∧ -1 ≤ sg n := by
  unfold sg
  split
  · decide +kernel
  · split <;> decide +kernel
theorem cg_one (n : Nat) : cg n ≤ 1 ∧ -1 ≤ cg n := by
  unfold cg
  split
  · decide +kernel
  · split <;> decide +kernel
theorem amul (a A c B : Rat) (a1 : a ≤ A) (a2 : -A ≤ a) (c1 : c ≤ B) (c2 : -B ≤ c) : a * c ≤ A * B ∧ -(A * B) ≤ a * c := by
  have q1 : 0 ≤ (A - a) * (B + c) := Rat.mul_nonneg (by grind) (by grind)
  have q2 : 0 ≤ (A + a) * (B - c) := Rat.mul_nonneg (by grind) (by grind)
  have q3 : 0 ≤ (A - a) * (B - c) := Rat.mul_nonneg (by grind) (by grind)
  have q4 : 0 ≤ (A + a) * (B + c) := Rat.mul_nonneg (by grind) (by grind)
  constructor <;> grind
theorem tail_term (k : Nat → Rat) (hk : ∀ n, k n ≤ 1 ∧ -1 ≤ k n) (x y : Rat) (x1 : x ≤ 32/10) (x2 : -(32/10) ≤ x) (y1 : y ≤ 32/10) (y2 : -(32/10) ≤ y) (i j : Nat) (hij : 81 ≤ i + j) :
    k (i+j) * (E x i * E y j) ≤ E (64/10) 81 ∧ -(E (64/10) 81) ≤ k (i+j) * (E x i * E y j) := by
  have a1 := E_abs x (32/10) x1 x2 i
  have a2 := E_abs y (32/10) y1 y2 j
  have t := E_two (32/10) (32/10) (by decide +kernel) (by decide +kernel) i j
  have f := E_falls (64/10) (by decide +kernel) 81 (by decide +kernel) (i + j - 81)
  rw [show 81 + (i + j - 81) = i + j from by omega] at f
  rw [show (32/10 + 32/10 : Rat) = 64/10 from by decide +kernel] at t
  have hk' := hk (i+j)
  have p := amul _ _ _ _ a1.1 a1.2 a2.1 a2.2
  have q := amul _ _ _ _ hk'.1 hk'.2 p.1 p.2
  rw [Rat.one_mul] at q
  have tf := Rat.le_trans t f
  exact ⟨Rat.le_trans q.1 tf, Rat.le_trans (Rat.neg_le_neg tf) q.2⟩
def fct : Nat → Nat
  | 0 => 1
  | n+1 => fct n * (n+1)
theorem E_is (n : Nat) : ((5^n * fct n : Nat) : Rat) * E (64/10) n = ((32^n : Nat) : Rat) := by
  induction n with
  | zero => show ((5^0 * 1 : Nat) : Rat) * 1 = ((32^0 : Nat) : Rat); decide +kernel
  | succ n ih =>
    have e := E_succ (64/10) n
    have c1 : ((5^(n+1) * fct (n+1) : Nat) : Rat) = ((5^n * fct n : Nat) : Rat) * 5 * ((n+1 : Nat) : Rat) := by
      rw [show 5^(n+1) * fct (n+1) = (5^n * fct n) * 5 * (n+1) from by show 5^n * 5 * (fct n * (n+1)) = _; simp [Nat.mul_assoc, Nat.mul_left_comm, Nat.mul_comm], Rat.natCast_mul, Rat.natCast_mul]; rfl
    have c2 : ((32^(n+1) : Nat) : Rat) = ((32^n : Nat) : Rat) * 32 := by
      rw [show 32^(n+1) = 32^n * 32 from rfl, Rat.natCast_mul]; rfl
    rw [c1, c2, ← ih]
    generalize ((5^n * fct n : Nat) : Rat) = A at *
    generalize ((n+1 : Nat) : Rat) = B at *
    generalize E (64/10) (n+1) = C at *
    generalize E (64/10) n = D at *
    grind
/-- what is cut off is less -/
def eps : Rat := 1 / 100000000000000000000000000000000000000000000000000
theorem E_eps : ((81:Nat):Rat) * (((81:Nat):Rat) * E (64/10) 81) ≤ eps := by
  have e := E_is 81
  have n1 : (6561 * 100000000000000000000000000000000000000000000000000 * 32^81 : Nat) ≤ 5^81 * fct 81 := by decide +kernel
  have n2 : ((6561 * 100000000000000000000000000000000000000000000000000 * 32^81 : Nat) : Rat) ≤ ((5^81 * fct 81 : Nat) : Rat) := Rat.natCast_le_natCast.2 n1
  have p : (0 : Rat) < ((5^81 * fct 81 : Nat) : Rat) := Rat.natCast_pos.2 (by decide +kernel)
  have c : ((6561 * 100000000000000000000000000000000000000000000000000 * 32^81 : Nat) : Rat) = 6561 * 100000000000000000000000000000000000000000000000000 * ((32^81 : Nat) : Rat) := by
    rw [Rat.natCast_mul, Rat.natCast_mul]; rfl
  rw [c, ← e] at n2
  rw [show ((81:Nat):Rat) = 81 from rfl]
  generalize ((5^81 * fct 81 : Nat) : Rat) = A at *
  generalize E (64/10) 81 = X at *
  have h : A * (6561 * 100000000000000000000000000000000000000000000000000 * X) ≤ A * 1 := by grind
  have := Rat.le_of_mul_le_mul_left h p
  unfold eps
  grind

def Sn (x : Rat) : Rat := sm (fun n => sg n * E x n) 81
def Cn (x : Rat) : Rat := sm (fun n => cg n * E x n) 81

theorem diag (k : Nat → Rat) (hk : ∀ n, k n ≤ 1 ∧ -1 ≤ k n) (x y : Rat) (x1 : x ≤ 32/10) (x2 : -(32/10) ≤ x) (y1 : y ≤ 32/10) (y2 : -(32/10) ≤ y) :
    sm (fun i => sm (fun j => k (i+j) * (E x i * E y j)) 81) 81 - sm (fun n => k n * E (x+y) n) 81 ≤ eps ∧ sm (fun n => k n * E (x+y) n) 81 - sm (fun i => sm (fun j => k (i+j) * (E x i * E y j)) 81) 81 ≤ eps := by
  have r := rest (fun i j => k (i+j) * (E x i * E y j)) 81
  have d : sm (fun n => sm (fun i => k (i+(n-i)) * (E x i * E y (n-i))) (n+1)) 81 = sm (fun n => k n * E (x+y) n) 81 := by
    refine sm_congr _ fun n _ => ?_
    rw [← E_add, ← sm_mul]
    refine sm_congr _ fun i hi => ?_
    rw [show i + (n - i) = n from by omega]
  have b := rest_le (fun i j => k (i+j) * (E x i * E y j)) 81 (E (64/10) 81) (E_nonneg _ (by decide +kernel) _) (fun i j _ _ hij => tail_term k hk x y x1 x2 y1 y2 i j hij)
  have e := E_eps
  rw [d] at r
  rw [r]
  obtain ⟨b1, b2⟩ := b
  generalize sm (fun i => sm (fun j => (fun i j => k (i+j) * (E x i * E y j)) i (81 - i + j)) i) 81 = R at *
  generalize ((81:Nat):Rat) * (((81:Nat):Rat) * E (64/10) 81) = U at *
  generalize sm (fun n => k n * E (x+y) n) 81 = V at *
  constructor <;> grind
theorem add_sin (x y : Rat) (x1 : x ≤ 32/10) (x2 : -(32/10) ≤ x) (y1 : y ≤ 32/10) (y2 : -(32/10) ≤ y) :
    Sn x * Cn y + Cn x * Sn y - Sn (x+y) ≤ eps ∧ Sn (x+y) - (Sn x * Cn y + Cn x * Sn y) ≤ eps := by
  have h : Sn x * Cn y + Cn x * Sn y = sm (fun i => sm (fun j => sg (i+j) * (E x i * E y j)) 81) 81 := by
    unfold Sn Cn
    rw [sm_prod, sm_prod, ← sm_add]
    refine sm_congr _ fun i _ => ?_
    rw [← sm_add]
    refine sm_congr _ fun j _ => ?_
    rw [← sg_add]; grind
  rw [h]
  exact diag sg sg_one x y x1 x2 y1 y2
theorem add_cos (x y : Rat) (x1 : x ≤ 32/10) (x2 : -(32/10) ≤ x) (y1 : y ≤ 32/10) (y2 : -(32/10) ≤ y) :
    Cn x * Cn y - Sn x * Sn y - Cn (x+y) ≤ eps ∧ Cn (x+y) - (Cn x * Cn y - Sn x * Sn y) ≤ eps := by
  have h : Cn x * Cn y - Sn x * Sn y = sm (fun i => sm (fun j => cg (i+j) * (E x i * E y j)) 81) 81 := by
    unfold Sn Cn
    rw [sm_prod, sm_prod]
    have : ∀ a b : Rat, a - b = a + (-1) * b := fun a b => by grind
    rw [this, ← sm_mul, ← sm_add]
    refine sm_congr _ fun i _ => ?_
    rw [← sm_mul, ← sm_add]
    refine sm_congr _ fun j _ => ?_
    rw [← cg_add]; grind
  rw [h]
  exact diag cg cg_one x y x1 x2 y1 y2
theorem E_neg (x : Rat) (n : Nat) : E (-x) n = (if n % 2 = 0 then 1 else -1) * E x n := by
  induction n with
  | zero => show (1:Rat) = 1 * 1; grind
  | succ n ih =>
    show E (-x) n * (-x) / _ = _ * (E x n * x / _)
    rw [ih, Rat.div_def, Rat.div_def]
    by_cases c : n % 2 = 0
    · rw [if_pos c, if_neg (by omega)]; grind
    · rw [if_neg c, if_pos (by omega)]; grind
theorem Sn_neg (x : Rat) : Sn (-x) = - Sn x := by
  have : - Sn x = (-1) * Sn x := by grind
  rw [this]; unfold Sn
  rw [← sm_mul]
  refine sm_congr _ fun i _ => ?_
  rw [E_neg]
  by_cases c : i % 2 = 0
  · have : sg i = 0 := by unfold sg; rw [if_neg (by omega), if_neg (by omega)]
    rw [this]; grind
  · rw [if_neg c]; grind
theorem Cn_neg (x : Rat) : Cn (-x) = Cn x := by
  unfold Cn
  refine sm_congr _ fun i _ => ?_
  rw [E_neg]
  by_cases c : i % 2 = 0
  · rw [if_pos c]; grind
  · have : cg i = 0 := by unfold cg; rw [if_neg (by omega), if_neg (by omega)]
    rw [this]; grind
theorem Cn_zero : Cn 0 = 1 := by
  have z : ∀ n, E 0 (n+1) = 0 := fun n => by show E 0 n * 0 / _ = 0; rw [Rat.mul_zero, Rat.div_def, Rat.zero_mul]
  unfold Cn
  rw [show (81:Nat) = 80 + 1 from rfl, sm_front]
  have : sm (fun i => cg (i+1) * E 0 (i+1)) 80 = sm (fun i => 0 * E 0 i) 80 := sm_congr _ fun i _ => by rw [z]; grind
  rw [this, sm_mul]
  show cg 0 * 1 + _ = _
  rw [show cg 0 = 1 from rfl]; grind
theorem squares (x : Rat) (x1 : x ≤ 32/10) (x2 : -(32/10) ≤ x) : Cn x * Cn x + Sn x * Sn x - 1 ≤ eps ∧ 1 - (Cn x * Cn x + Sn x * Sn x) ≤ eps := by
  have h := add_cos x (-x) x1 x2 (by grind) (by grind)
  rw [Sn_neg, Cn_neg, show x + -x = 0 from by grind, Cn_zero] at h
  constructor <;> grind
theorem size (s : Rat) (h : s * s ≤ 1 + eps) : s ≤ 2 ∧ -2 ≤ s := by
  have e : eps ≤ 1 := by decide +kernel
  constructor
  · refine Rat.not_lt.1 fun c => ?_
    have : 0 ≤ (s - 2) * (s + 2) := Rat.mul_nonneg (by grind) (by grind)
    have : 0 < (s - 2) := by grind
    grind
  · refine Rat.not_lt.1 fun c => ?_
    have : 0 ≤ (-s - 2) * (-s + 2) := Rat.mul_nonneg (by grind) (by grind)
    grind
theorem sq_nonneg' (s : Rat) : 0 ≤ s * s := by
  by_cases c : 0 ≤ s
  · exact Rat.mul_nonneg c c
  · have := Rat.mul_nonneg (show (0:Rat) ≤ -s by grind) (show (0:Rat) ≤ -s by grind)
    grind
theorem sizes (x : Rat) (x1 : x ≤ 32/10) (x2 : -(32/10) ≤ x) : (Sn x ≤ 2 ∧ -2 ≤ Sn x) ∧ (Cn x ≤ 2 ∧ -2 ≤ Cn x) := by
  have h := squares x x1 x2
  have h1 := sq_nonneg' (Sn x)
  have h2 := sq_nonneg' (Cn x)
  exact ⟨size _ (by grind), size _ (by grind)⟩

/-- the reference's series and this one -/
theorem tq_E (a k : Nat) : tq k a = E (arc a) (2*k+1) := by
  induction k with
  | zero => rw [tq_zero]; show arc a = 1 * arc a / ((0+1 : Nat) : Rat); have : ((0+1 : Nat) : Rat) = 1 := rfl; rw [this]; grind
  | succ k ih =>
    have h := tq_succ k a
    have e1 := E_succ (arc a) (2*k+1)
    have e2 := E_succ (arc a) (2*k+1+1)
    rw [show 2 * (k+1) + 1 = 2*k+1+1+1 from by omega]
    have w : ((2 * (k+1) * (2 * (k+1) + 1) : Nat) : Rat) = ((2*k+1+1 : Nat) : Rat) * ((2*k+1+1+1 : Nat) : Rat) := by
      rw [← Rat.natCast_mul]; rfl
    have p : (0:Rat) < ((2 * (k+1) * (2 * (k+1) + 1) : Nat) : Rat) := Rat.natCast_pos.2 (Nat.mul_pos (by omega) (by omega))
    have key : ((2 * (k+1) * (2 * (k+1) + 1) : Nat) : Rat) * tq (k+1) a = ((2 * (k+1) * (2 * (k+1) + 1) : Nat) : Rat) * E (arc a) (2*k+1+1+1) := by
      rw [h, ih, w]
      generalize ((2*k+1+1 : Nat) : Rat) = A at *
      generalize ((2*k+1+1+1 : Nat) : Rat) = B at *
      generalize E (arc a) (2*k+1+1+1) = X at *
      generalize E (arc a) (2*k+1+1) = Y at *
      generalize E (arc a) (2*k+1) = Z at *
      generalize arc a = x at *
      grind
    exact Rat.le_antisymm (Rat.le_of_mul_le_mul_left (by rw [key]; exact Rat.le_refl) p) (Rat.le_of_mul_le_mul_left (by rw [key]; exact Rat.le_refl) p)
theorem alt_sm (a k : Nat) : alt tq k a = sm (fun n => sg n * E (arc a) n) (2*k) := by
  induction k with
  | zero => rfl
  | succ k ih =>
    show alt tq k a + (if k % 2 = 0 then tq k a else - tq k a) = sm (fun n => sg n * E (arc a) n) (2*k) + sg (2*k) * E (arc a) (2*k) + sg (2*k+1) * E (arc a) (2*k+1)
    rw [ih, tq_E]
    have e0 : sg (2*k) = 0 := by unfold sg; rw [if_neg (by omega), if_neg (by omega)]
    rw [e0]
    by_cases c : k % 2 = 0
    · have e1 : sg (2*k+1) = 1 := by unfold sg; rw [if_pos (by omega)]
      rw [if_pos c, e1]; grind
    · have e1 : sg (2*k+1) = -1 := by unfold sg; rw [if_neg (by omega), if_pos (by omega)]
      rw [if_neg c, e1]; grind
theorem E2_is (n : Nat) : ((fct n : Nat) : Rat) * E 2 n = ((2^n : Nat) : Rat) := by
  induction n with
  | zero => show ((1 : Nat) : Rat) * 1 = ((2^0 : Nat) : Rat); decide +kernel
  | succ n ih =>
    have e := E_succ 2 n
    have c1 : ((fct (n+1) : Nat) : Rat) = ((fct n : Nat) : Rat) * ((n+1 : Nat) : Rat) := by
      rw [← Rat.natCast_mul]; rfl
    have c2 : ((2^(n+1) : Nat) : Rat) = ((2^n : Nat) : Rat) * 2 := by
      rw [show 2^(n+1) = 2^n * 2 from rfl, Rat.natCast_mul]; rfl
    rw [c1, c2, ← ih]
    generalize ((fct n : Nat) : Rat) = A at *
    generalize ((n+1 : Nat) : Rat) = B at *
    generalize E 2 (n+1) = C at *
    generalize E 2 n = D at *
    grind
def tiny : Rat := 1 / 5000000000000000000000000000000000000
theorem E2_tiny : ((39:Nat):Rat) * E 2 42 ≤ tiny := by
  have e := E2_is 42
  have n1 : (39 * 5000000000000000000000000000000000000 * 2^42 : Nat) ≤ fct 42 := by decide +kernel
  have n2 : ((39 * 5000000000000000000000000000000000000 * 2^42 : Nat) : Rat) ≤ ((fct 42 : Nat) : Rat) := Rat.natCast_le_natCast.2 n1
  have p : (0 : Rat) < ((fct 42 : Nat) : Rat) := Rat.natCast_pos.2 (by decide +kernel)
  have c : ((39 * 5000000000000000000000000000000000000 * 2^42 : Nat) : Rat) = 39 * 5000000000000000000000000000000000000 * ((2^42 : Nat) : Rat) := by
    rw [Rat.natCast_mul, Rat.natCast_mul]; rfl
  rw [c, ← e] at n2
  rw [show ((39:Nat):Rat) = 39 from rfl]
  generalize ((fct 42 : Nat) : Rat) = A at *
  generalize E 2 42 = X at *
  have h : A * (39 * 5000000000000000000000000000000000000 * X) ≤ A * 1 := by grind
  have := Rat.le_of_mul_le_mul_left h p
  unfold tiny
  grind
theorem P_Sn (a : Nat) (h : a ≤ 90000000) : Sn (arc a) - P a ≤ tiny ∧ P a - Sn (arc a) ≤ tiny := by
  have h1 := arc_le a (by omega)
  have h0 := arc_nonneg a
  have q : (1571/1000 : Rat) ≤ 2 := by decide +kernel
  have s := sm_split (fun n => sg n * E (arc a) n) 42 39
  have b := sm_le (fun i => sg (42+i) * E (arc a) (42+i)) (E 2 42) 39 (fun i _ => by
    have e := E_abs (arc a) 2 (Rat.le_trans h1 q) (by grind) (42+i)
    have f := E_falls 2 (by decide +kernel) 42 (by decide +kernel) i
    have g := amul _ _ _ _ (sg_one (42+i)).1 (sg_one (42+i)).2 e.1 e.2
    rw [Rat.one_mul] at g
    exact ⟨Rat.le_trans g.1 f, Rat.le_trans (Rat.neg_le_neg f) g.2⟩)
  have t := E2_tiny
  have e1 : P a = sm (fun n => sg n * E (arc a) n) 42 := alt_sm a 21
  have e2 : Sn (arc a) = sm (fun n => sg n * E (arc a) n) (42+39) := rfl
  rw [e1, e2, s]
  generalize sm (fun n => sg n * E (arc a) n) 42 = A at *
  generalize sm (fun i => sg (42+i) * E (arc a) (42+i)) 39 = B at *
  generalize ((39:Nat):Rat) * E 2 42 = C at *
  constructor <;> grind
/-- the right angle -/
def hh : Rat := arc 90000000
def kap : Rat := 1 / 1000000000000000000
theorem hh_bd : hh ≤ 1571/1000 ∧ 0 ≤ hh := ⟨arc_le _ (by omega), arc_nonneg _⟩
theorem hh_sin : Sn hh - 1 ≤ 2 * tiny ∧ 1 - Sn hh ≤ 2 * tiny := by
  have p := P_Sn 90000000 (by omega)
  have n := H_near 90000000 (by omega)
  have c : (hI H 90000000 : Rat) ≤ cq + 15 ∧ cq ≤ (hI H 90000000 : Rat) + 15 := by
    have a := at90
    have a1 : hI H 90000000 ≤ 100000000 * 2^120 + 15 := by unfold hI; omega
    have a2 : 100000000 * 2^120 ≤ hI H 90000000 + 15 := by unfold hI; omega
    have r1 : ((hI H 90000000 : Int) : Rat) ≤ ((100000000 * 2^120 + 15 : Int) : Rat) := Rat.intCast_le_intCast.2 a1
    have r2 : ((100000000 * 2^120 : Int) : Rat) ≤ ((hI H 90000000 + 15 : Int) : Rat) := Rat.intCast_le_intCast.2 a2
    rw [Rat.intCast_add] at r2
    have e1 : ((100000000 * 2^120 + 15 : Int) : Rat) = cq + 15 := by decide +kernel
    have e2 : ((100000000 * 2^120 : Int) : Rat) = cq := by decide +kernel
    have e3 : ((15 : Int) : Rat) = 15 := by decide +kernel
    rw [e1] at r1; rw [e2, e3] at r2
    exact ⟨r1, r2⟩
  have g : 28 ≤ cq * tiny := by decide +kernel
  show Sn (arc 90000000) - 1 ≤ _ ∧ 1 - Sn (arc 90000000) ≤ _
  have cp := cq_pos
  generalize (hI H 90000000 : Rat) = Z at *
  generalize P 90000000 = Q at *
  generalize Sn (arc 90000000) = S at *
  have k1 : cq * (Q - 1) ≤ cq * tiny := by grind
  have k2 : cq * (1 - Q) ≤ cq * tiny := by grind
  have k3 := Rat.le_of_mul_le_mul_left k1 cp
  have k4 := Rat.le_of_mul_le_mul_left k2 cp
  constructor <;> grind
theorem hh_cos : Cn hh ≤ kap ∧ -kap ≤ Cn hh := by
  have s := squares hh (Rat.le_trans hh_bd.1 (by decide +kernel)) (Rat.le_trans (by decide +kernel) hh_bd.2)
  have h := hh_sin
  have k : 4 * tiny + eps ≤ kap * kap := by decide +kernel
  have kp : 0 < kap := by decide +kernel
  have tp : 0 < tiny ∧ tiny ≤ 1/8 := by decide +kernel
  generalize Cn hh = C at *
  generalize Sn hh = S at *
  have q : C * C ≤ kap * kap := by
    have : 0 ≤ (S - (1 - 2 * tiny)) * (S + (1 - 2*tiny)) := Rat.mul_nonneg (by grind) (by grind)
    have := sq_nonneg' tiny
    grind
  constructor
  · refine Rat.not_lt.1 fun c => ?_
    have : 0 < (C - kap) * (C + kap) := Rat.mul_pos (by grind) (by grind)
    grind
  · refine Rat.not_lt.1 fun c => ?_
    have : 0 < (-C - kap) * (-C + kap) := Rat.mul_pos (by grind) (by grind)
    grind
theorem arc_add (a b : Nat) : arc (a+b) = arc a + arc b := by
  unfold arc; rw [Rat.natCast_add]; grind
theorem arc_small (a : Nat) (h : a ≤ 90000000) : arc a ≤ 32/10 ∧ -(32/10) ≤ arc a := 
  ⟨Rat.le_trans (arc_le a (by omega)) (by decide +kernel), Rat.le_trans (by decide +kernel) (arc_nonneg a)⟩
def tau : Rat := 3 / 1000000000000000000
def mu : Rat := 5 / 2000000000000000000
theorem nums : 0 < tiny ∧ 0 < kap ∧ 0 < eps ∧ 2 * kap + 8 * tiny + 2 * eps ≤ mu ∧ mu + eps ≤ tau ∧ 0 < mu := by decide +kernel
/-- a right angle more -/
theorem more (x : Rat) (x1 : x ≤ 32/10) (x2 : -(32/10) ≤ x) : (Sn (x+hh) - Cn x ≤ mu ∧ Cn x - Sn (x+hh) ≤ mu) ∧ (Cn (x+hh) + Sn x ≤ mu ∧ -(Cn (x+hh) + Sn x) ≤ mu) := by
  have b1 : hh ≤ 32/10 := Rat.le_trans hh_bd.1 (by decide +kernel)
  have b2 : -(32/10) ≤ hh := Rat.le_trans (by decide +kernel) hh_bd.2
  have s := add_sin x hh x1 x2 b1 b2
  have c := add_cos x hh x1 x2 b1 b2
  have z := sizes x x1 x2
  have h1 := hh_sin
  have h2 := hh_cos
  have n := nums
  have p1 := amul (Sn x) 2 (Cn hh) kap z.1.1 z.1.2 h2.1 h2.2
  have p2 := amul (Cn x) 2 (Cn hh) kap z.2.1 z.2.2 h2.1 h2.2
  have p3 := amul (Sn x) 2 (Sn hh - 1) (2 * tiny) z.1.1 z.1.2 h1.1 (by grind)
  have p4 := amul (Cn x) 2 (Sn hh - 1) (2 * tiny) z.2.1 z.2.2 h1.1 (by grind)
  generalize Sn (x+hh) = A at *
  generalize Cn (x+hh) = B at *
  generalize Sn x = C at *
  generalize Cn x = D at *
  generalize Sn hh = F at *
  generalize Cn hh = G at *
  refine ⟨⟨?_, ?_⟩, ?_, ?_⟩ <;> grind
/-- the angle that is missing to a right one -/
theorem co (x : Rat) (x1 : x ≤ 32/10) (x2 : -(32/10) ≤ x) : Sn (hh - x) - Cn x ≤ mu ∧ Cn x - Sn (hh - x) ≤ mu := by
  have h := more (-x) (by grind) (by grind)
  rw [Cn_neg, show -x + hh = hh - x from by grind] at h
  exact h.1

def sR (a : Int) : Rat := if a / 90000000 % 4 = 0 then Sn (arc (a % 90000000).toNat) else if a / 90000000 % 4 = 1 then Cn (arc (a % 90000000).toNat) else if a / 90000000 % 4 = 2 then - Sn (arc (a % 90000000).toNat) else - Cn (arc (a % 90000000).toNat)
def cR (a : Int) : Rat := sR (a + 90000000)
theorem sR_two (a : Int) : cR (a + 90000000) = - sR a := by
  unfold cR sR
  have e1 : (a + 90000000 + 90000000) / 90000000 = a / 90000000 + 2 := by omega
  have e2 : (a + 90000000 + 90000000) % 90000000 = a % 90000000 := by omega
  rw [e1, e2]
  generalize a / 90000000 = q
  generalize Sn (arc (a % 90000000).toNat) = S
  generalize Cn (arc (a % 90000000).toNat) = C
  have : q % 4 = 0 ∨ q % 4 = 1 ∨ q % 4 = 2 ∨ q % 4 = 3 := by omega
  rcases this with c | c | c | c
  · rw [if_neg (by omega), if_neg (by omega), if_pos (by omega), if_pos c]
  · rw [if_neg (by omega), if_neg (by omega), if_neg (by omega), if_neg (by omega), if_pos c]
  · rw [if_pos (by omega), if_neg (by omega), if_neg (by omega), if_pos c]; grind
  · rw [if_neg (by omega), if_pos (by omega), if_neg (by omega), if_neg (by omega), if_neg (by omega)]; grind
theorem sR_one (a : Int) : sR (a + 90000000) = cR a := rfl
theorem sR_0 (a : Int) (h0 : 0 ≤ a) (h1 : a < 90000000) : sR a = Sn (arc a.toNat) := by
  unfold sR; rw [if_pos (by omega), show a % 90000000 = a from by omega]
theorem cR_0 (a : Int) (h0 : 0 ≤ a) (h1 : a < 90000000) : cR a = Cn (arc a.toNat) := by
  unfold cR sR; rw [if_neg (by omega), if_pos (by omega), show (a + 90000000) % 90000000 = a from by omega]

def Vs (a b : Int) : Prop := (sR (a+b) - (sR a * cR b + cR a * sR b) ≤ tau ∧ (sR a * cR b + cR a * sR b) - sR (a+b) ≤ tau) ∧
  (cR (a+b) - (cR a * cR b - sR a * sR b) ≤ tau ∧ (cR a * cR b - sR a * sR b) - cR (a+b) ≤ tau)
theorem Vs.comm {a b : Int} (h : Vs a b) : Vs b a := by
  unfold Vs at *
  rw [Int.add_comm b a]
  generalize sR (a+b) = A at *
  generalize cR (a+b) = B at *
  generalize sR a = C at *
  generalize cR a = D at *
  generalize sR b = F at *
  generalize cR b = G at *
  refine ⟨⟨?_, ?_⟩, ?_, ?_⟩ <;> grind
theorem Vs_up (a b : Int) : Vs (a + 90000000) b ↔ Vs a b := by
  unfold Vs
  rw [show a + 90000000 + b = (a + b) + 90000000 from by omega, sR_one, sR_one, sR_two, sR_two]
  generalize sR (a+b) = A at *
  generalize cR (a+b) = B at *
  generalize sR a = C at *
  generalize cR a = D at *
  generalize sR b = F at *
  generalize cR b = G at *
  constructor
  · intro h; refine ⟨⟨?_, ?_⟩, ?_, ?_⟩ <;> grind
  · intro h; refine ⟨⟨?_, ?_⟩, ?_, ?_⟩ <;> grind
theorem Vs_ups (a b : Int) (n : Nat) : Vs (a + 90000000 * n) b ↔ Vs a b := by
  induction n with
  | zero => rw [show a + 90000000 * ((0:Nat):Int) = a from by omega]
  | succ n ih => rw [show a + 90000000 * ((n+1:Nat):Int) = (a + 90000000 * (n:Int)) + 90000000 from by omega, Vs_up, ih]
theorem Vs_mod (a b : Int) (h : Vs (a % 90000000) b) : Vs a b := by
  by_cases c : 0 ≤ a
  · rw [show a = a % 90000000 + 90000000 * ((a / 90000000).toNat : Int) from by omega]
    exact (Vs_ups _ _ _).2 h
  · refine (Vs_ups a b (-(a / 90000000)).toNat).1 ?_
    rw [show a + 90000000 * ((-(a / 90000000)).toNat : Int) = a % 90000000 from by omega]
    exact h
theorem Vs_base (a b : Int) (a0 : 0 ≤ a) (a1 : a < 90000000) (b0 : 0 ≤ b) (b1 : b < 90000000) : Vs a b := by
  have ea := arc_small a.toNat (by omega)
  have eb := arc_small b.toNat (by omega)
  have s := add_sin (arc a.toNat) (arc b.toNat) ea.1 ea.2 eb.1 eb.2
  have c := add_cos (arc a.toNat) (arc b.toNat) ea.1 ea.2 eb.1 eb.2
  have n := nums
  unfold Vs
  rw [sR_0 a a0 a1, sR_0 b b0 b1, cR_0 a a0 a1, cR_0 b b0 b1]
  by_cases h : a + b < 90000000
  · rw [sR_0 _ (by omega) h, cR_0 _ (by omega) h, show (a+b).toNat = a.toNat + b.toNat from by omega, arc_add]
    generalize Sn (arc a.toNat + arc b.toNat) = A at *
    generalize Cn (arc a.toNat + arc b.toNat) = B at *
    refine ⟨⟨?_, ?_⟩, ?_, ?_⟩ <;> grind
  · have em := arc_small (a + b - 90000000).toNat (by omega)
    have m := more (arc (a + b - 90000000).toNat) em.1 em.2
    have e : arc (a + b - 90000000).toNat + hh = arc a.toNat + arc b.toNat := by
      unfold hh; rw [← arc_add, ← arc_add]; congr 1; omega
    rw [e] at m
    have q1 : sR (a + b) = Cn (arc (a + b - 90000000).toNat) := by
      rw [show a + b = (a + b - 90000000) + 90000000 from by omega, sR_one, cR_0 _ (by omega) (by omega)]
      rw [show a + b - 90000000 + 90000000 - 90000000 = a + b - 90000000 from by omega]
    have q2 : cR (a + b) = - Sn (arc (a + b - 90000000).toNat) := by
      rw [show a + b = (a + b - 90000000) + 90000000 from by omega, sR_two, sR_0 _ (by omega) (by omega)]
      rw [show a + b - 90000000 + 90000000 - 90000000 = a + b - 90000000 from by omega]
    rw [q1, q2]
    generalize Sn (arc a.toNat + arc b.toNat) = A at *
    generalize Cn (arc a.toNat + arc b.toNat) = B at *
    generalize Sn (arc (a + b - 90000000).toNat) = A' at *
    generalize Cn (arc (a + b - 90000000).toNat) = B' at *
    refine ⟨⟨?_, ?_⟩, ?_, ?_⟩ <;> grind
theorem Vs_all (a b : Int) : Vs a b :=
  Vs_mod a b (Vs.comm (Vs_mod b (a % 90000000) (Vs_base (b % 90000000) (a % 90000000) (by omega) (by omega) (by omega) (by omega))))
theorem Vs_self (a : Int) : sR a * sR a + cR a * cR a - 1 ≤ eps ∧ 1 - (sR a * sR a + cR a * cR a) ≤ eps := by
  have e := arc_small (a % 90000000).toNat (by omega)
  have h := squares (arc (a % 90000000).toNat) e.1 e.2
  unfold cR sR
  rw [show (a + 90000000) / 90000000 = a / 90000000 + 1 from by omega, show (a + 90000000) % 90000000 = a % 90000000 from by omega]
  generalize a / 90000000 = q at *
  generalize Sn (arc (a % 90000000).toNat) = S at *
  generalize Cn (arc (a % 90000000).toNat) = C at *
  have : q % 4 = 0 ∨ q % 4 = 1 ∨ q % 4 = 2 ∨ q % 4 = 3 := by omega
  rcases this with c | c | c | c
  · rw [if_pos c, if_neg (show ¬ (q+1) % 4 = 0 by omega), if_pos (show (q+1) % 4 = 1 by omega)]; constructor <;> grind
  · rw [if_neg (show ¬ q % 4 = 0 by omega), if_pos c, if_neg (show ¬ (q+1) % 4 = 0 by omega), if_neg (show ¬ (q+1) % 4 = 1 by omega), if_pos (show (q+1) % 4 = 2 by omega)]; constructor <;> grind
  · rw [if_neg (show ¬ q % 4 = 0 by omega), if_neg (show ¬ q % 4 = 1 by omega), if_pos c, if_neg (show ¬ (q+1) % 4 = 0 by omega), if_neg (show ¬ (q+1) % 4 = 1 by omega), if_neg (show ¬ (q+1) % 4 = 2 by omega)]; constructor <;> grind
  · rw [if_neg (show ¬ q % 4 = 0 by omega), if_neg (show ¬ q % 4 = 1 by omega), if_neg (show ¬ q % 4 = 2 by omega), if_pos (show (q+1) % 4 = 0 by omega)]; constructor <;> grind

/-- what the code returns encloses them, but for a little -/
theorem s_Sn (a : Nat) (h : a ≤ 90000000) : (sLo a : Rat) - 100000000 * Sn (arc a) ≤ 1 / 1000000000000 ∧ 100000000 * Sn (arc a) - (sHi a : Rat) ≤ 1 / 1000000000000 := by
  have i := s_in a h
  have n := H_near a (by omega)
  have p := P_Sn a h
  have r1 : ((sLo a * 2^120 : Int) : Rat) ≤ ((hI H a + 15 : Int) : Rat) := Rat.intCast_le_intCast.2 (by unfold hI; exact i.1)
  have r2 : ((hI H a : Int) : Rat) ≤ ((sHi a * 2^120 + 15 : Int) : Rat) := Rat.intCast_le_intCast.2 (by unfold hI; exact i.2.1)
  rw [Rat.intCast_add, Rat.intCast_mul] at r1 r2
  have e1 : ((2^120 : Int) : Rat) = 2^120 := by decide +kernel
  have e3 : ((15 : Int) : Rat) = 15 := by decide +kernel
  rw [e1, e3] at r1 r2
  have cp : (0 : Rat) < 2^120 := by decide +kernel
  have g : (28 : Rat) + 2^120 * (100000000 * tiny) ≤ 2^120 * (1 / 1000000000000) := by decide +kernel
  have ce : cq = 2^120 * 100000000 := rfl
  rw [ce] at n
  generalize (hI H a : Rat) = Z at *
  generalize P a = Q at *
  generalize Sn (arc a) = S at *
  generalize (sLo a : Rat) = L at *
  generalize (sHi a : Rat) = U at *
  generalize (2^120 : Rat) = K at *
  have t1 : K * (100000000 * (Q - S)) ≤ K * (100000000 * tiny) := Rat.mul_le_mul_of_nonneg_left (by grind) (Rat.le_of_lt cp)
  have t2 : K * (100000000 * (S - Q)) ≤ K * (100000000 * tiny) := Rat.mul_le_mul_of_nonneg_left (by grind) (Rat.le_of_lt cp)
  have k1 : K * (L - 100000000 * S) ≤ K * (1 / 1000000000000) := by grind
  have k2 : K * (100000000 * S - U) ≤ K * (1 / 1000000000000) := by grind
  exact ⟨Rat.le_of_mul_le_mul_left k1 cp, Rat.le_of_mul_le_mul_left k2 cp⟩
def del : Rat := 3 / 10000000000
theorem near_all (a : Int) : (sinLo a : Rat) - 100000000 * sR a ≤ del ∧ 100000000 * sR a - (sinHi a : Rat) ≤ del := by
  have d : 1 / 1000000000000 + 100000000 * mu ≤ del ∧ 0 < mu := by decide +kernel
  have r0 : 0 ≤ a % 90000000 ∧ a % 90000000 < 90000000 := by omega
  have h1 := s_Sn (a % 90000000).toNat (by omega)
  have h2 := s_Sn (90000000 - a % 90000000).toNat (by omega)
  have e := arc_small (a % 90000000).toNat (by omega)
  have h3 := co (arc (a % 90000000).toNat) e.1 e.2
  have e2 : hh - arc (a % 90000000).toNat = arc (90000000 - a % 90000000).toNat := by
    have : hh = arc (90000000 - a % 90000000).toNat + arc (a % 90000000).toNat := by
      unfold hh; rw [← arc_add]; congr 1; omega
    grind
  rw [e2] at h3
  rw [show (((a % 90000000).toNat : Nat) : Int) = a % 90000000 from by omega] at h1
  rw [show (((90000000 - a % 90000000).toNat : Nat) : Int) = 90000000 - a % 90000000 from by omega] at h2
  unfold sR sinLo sinHi
  generalize Sn (arc (90000000 - a % 90000000).toNat) = S' at *
  generalize Sn (arc (a % 90000000).toNat) = S at *
  generalize Cn (arc (a % 90000000).toNat) = C at *
  have : a / 90000000 % 4 = 0 ∨ a / 90000000 % 4 = 1 ∨ a / 90000000 % 4 = 2 ∨ a / 90000000 % 4 = 3 := by omega
  rcases this with c | c | c | c
  · rw [if_pos c, if_pos (show a % 360000000 < 180000000 by omega), if_pos (show a % 360000000 < 180000000 by omega), show min (a % 360000000) (180000000 - a % 360000000) = a % 90000000 from by omega]
    constructor <;> grind
  · rw [if_neg (show ¬ a / 90000000 % 4 = 0 by omega), if_pos c, if_pos (show a % 360000000 < 180000000 by omega), if_pos (show a % 360000000 < 180000000 by omega), show min (a % 360000000) (180000000 - a % 360000000) = 90000000 - a % 90000000 from by omega]
    constructor <;> grind
  · rw [if_neg (show ¬ a / 90000000 % 4 = 0 by omega), if_neg (show ¬ a / 90000000 % 4 = 1 by omega), if_pos c, if_neg (show ¬ a % 360000000 < 180000000 by omega), if_neg (show ¬ a % 360000000 < 180000000 by omega), show min (a % 360000000 - 180000000) (180000000 - (a % 360000000 - 180000000)) = a % 90000000 from by omega, Rat.intCast_neg, Rat.intCast_neg]
    constructor <;> grind
  · rw [if_neg (show ¬ a / 90000000 % 4 = 0 by omega), if_neg (show ¬ a / 90000000 % 4 = 1 by omega), if_neg (show ¬ a / 90000000 % 4 = 2 by omega), if_neg (show ¬ a % 360000000 < 180000000 by omega), if_neg (show ¬ a % 360000000 < 180000000 by omega), show min (a % 360000000 - 180000000) (180000000 - (a % 360000000 - 180000000)) = 90000000 - a % 90000000 from by omega, Rat.intCast_neg, Rat.intCast_neg]
    constructor <;> grind
theorem clamp (l h : Int) (x : Rat) (lh : l ≤ h) (h1 : (l:Rat) - x ≤ del) (h2 : x - (h:Rat) ≤ del) : ∃ s : Rat, (l:Rat) ≤ s ∧ s ≤ (h:Rat) ∧ s - x ≤ del ∧ x - s ≤ del := by
  have lh' : (l:Rat) ≤ (h:Rat) := Rat.intCast_le_intCast.2 lh
  have d : 0 < del := by decide +kernel
  by_cases c : x < (l:Rat)
  · exact ⟨l, Rat.le_refl, lh', h1, by grind⟩
  · by_cases c2 : (h:Rat) < x
    · exact ⟨h, lh', Rat.le_refl, by grind, h2⟩
    · exact ⟨x, by grind, by grind, by grind, by grind⟩
theorem sin_at (a : Int) : ∃ s : Rat, (sinLo a : Rat) ≤ s ∧ s ≤ (sinHi a : Rat) ∧ s - 100000000 * sR a ≤ del ∧ 100000000 * sR a - s ≤ del :=
  clamp _ _ _ (sin_le a).1 (near_all a).1 (near_all a).2
theorem sR_size (a : Int) : sR a ≤ 2 ∧ -2 ≤ sR a := by
  have h := Vs_self a
  have := sq_nonneg' (cR a)
  exact size _ (by grind)
/-- one product, when both sides are a little off -/
theorem prod_off (x y s t : Rat) (x1 : x ≤ 2 ∧ -2 ≤ x) (y1 : y ≤ 2 ∧ -2 ≤ y) (hs : s - 100000000 * x ≤ del ∧ 100000000 * x - s ≤ del) (ht : t - 100000000 * y ≤ del ∧ 100000000 * y - t ≤ del) :
    s * t - 10000000000000000 * (x * y) ≤ 13/100 ∧ 10000000000000000 * (x * y) - s * t ≤ 13/100 := by
  have d : 400000000 * del + del * del ≤ 13/100 := by decide +kernel
  have p1 := amul x 2 (t - 100000000 * y) del x1.1 x1.2 ht.1 (by grind)
  have p2 := amul y 2 (s - 100000000 * x) del y1.1 y1.2 hs.1 (by grind)
  have p3 := amul (s - 100000000 * x) del (t - 100000000 * y) del hs.1 (by grind) ht.1 (by grind)
  generalize del = δ at *
  constructor <;> grind
theorem circle (a b : Int) : ∃ s c t d u v : Rat,
    ((sinLo a : Rat) ≤ s ∧ s ≤ (sinHi a : Rat)) ∧ ((sinLo (a + 90000000) : Rat) ≤ c ∧ c ≤ (sinHi (a + 90000000) : Rat)) ∧
    ((sinLo b : Rat) ≤ t ∧ t ≤ (sinHi b : Rat)) ∧ ((sinLo (b + 90000000) : Rat) ≤ d ∧ d ≤ (sinHi (b + 90000000) : Rat)) ∧
    ((sinLo (a + b) : Rat) ≤ u ∧ u ≤ (sinHi (a + b) : Rat)) ∧ ((sinLo (a + b + 90000000) : Rat) ≤ v ∧ v ≤ (sinHi (a + b + 90000000) : Rat)) ∧
    (s * s + c * c - 10000000000000000 < 1 ∧ 10000000000000000 - (s * s + c * c) < 1) ∧
    (100000000 * u - (s * d + c * t) < 1 ∧ (s * d + c * t) - 100000000 * u < 1) ∧
    (100000000 * v - (c * d - s * t) < 1 ∧ (c * d - s * t) - 100000000 * v < 1) := by
  obtain ⟨s, s1, s2, s3⟩ := sin_at a
  obtain ⟨c, c1, c2, c3⟩ := sin_at (a + 90000000)
  obtain ⟨t, t1, t2, t3⟩ := sin_at b
  obtain ⟨d, d1, d2, d3⟩ := sin_at (b + 90000000)
  obtain ⟨u, u1, u2, u3⟩ := sin_at (a + b)
  obtain ⟨v, v1, v2, v3⟩ := sin_at (a + b + 90000000)
  have V := Vs_all a b
  have W := Vs_self a
  have zs := sR_size a
  have zc := sR_size (a + 90000000)
  have zt := sR_size b
  have zd := sR_size (b + 90000000)
  have ss := prod_off _ _ _ _ zs zs s3 s3
  have cc := prod_off _ _ _ _ zc zc c3 c3
  have sd := prod_off _ _ _ _ zs zd s3 d3
  have ct := prod_off _ _ _ _ zc zt c3 t3
  have cd := prod_off _ _ _ _ zc zd c3 d3
  have st := prod_off _ _ _ _ zs zt s3 t3
  have n : 10000000000000000 * eps ≤ 1/100 ∧ 10000000000000000 * tau ≤ 4/100 ∧ 100000000 * del ≤ 4/100 := by decide +kernel
  refine ⟨s, c, t, d, u, v, ⟨s1, s2⟩, ⟨c1, c2⟩, ⟨t1, t2⟩, ⟨d1, d2⟩, ⟨u1, u2⟩, ⟨v1, v2⟩, ?_⟩
  unfold Vs cR at V
  unfold cR at W
  clear zs zc zt zd s1 s2 c1 c2 t1 t2 d1 d2 u1 u2 v1 v2 s3 c3 t3 d3
  generalize sR (a + b + 90000000) = V' at *
  generalize sR (a + b) = U' at *
  generalize sR (a + 90000000) = C at *
  generalize sR a = S at *
  generalize sR (b + 90000000) = D at *
  generalize sR b = T at *
  generalize eps = e1 at *
  generalize tau = e2 at *
  generalize del = e3 at *
  generalize s * s = x1 at *
  generalize c * c = x2 at *
  generalize s * d = x3 at *
  generalize c * t = x4 at *
  generalize c * d = x5 at *
  generalize s * t = x6 at *
  generalize S * S = y1 at *
  generalize C * C = y2 at *
  generalize S * D = y3 at *
  generalize C * T = y4 at *
  generalize C * D = y5 at *
  generalize S * T = y6 at *
  obtain ⟨⟨V1, V2⟩, V3, V4⟩ := V
  refine ⟨⟨?_, ?_⟩, ⟨?_, ?_⟩, ?_, ?_⟩ <;> grind
def pLo (a b c d : Int) : Int := min (min (min (a*c) (a*d)) (b*c)) (b*d)
def pHi (a b c d : Int) : Int := max (max (max (a*c) (a*d)) (b*c)) (b*d)
def qLo (a b : Int) : Int := if a ≤ 0 ∧ 0 ≤ b then 0 else min (a*a) (b*b)
def qHi (a b : Int) : Int := if a ≤ 0 ∧ 0 ≤ b then pHi a b a b else max (a*a) (b*b)
theorem pLo_le (a b c d : Int) : pLo a b c d ≤ a*c ∧ pLo a b c d ≤ a*d ∧ pLo a b c d ≤ b*c ∧ pLo a b c d ≤ b*d := by
  unfold pLo; generalize a*c = p; generalize a*d = q; generalize b*c = r; generalize b*d = s; omega
theorem pHi_ge (a b c d : Int) : a*c ≤ pHi a b c d ∧ a*d ≤ pHi a b c d ∧ b*c ≤ pHi a b c d ∧ b*d ≤ pHi a b c d := by
  unfold pHi; generalize a*c = p; generalize a*d = q; generalize b*c = r; generalize b*d = s; omega
theorem cast_mul_le {p a b : Int} (h : p ≤ a * b) : (p:Rat) ≤ (a:Rat) * (b:Rat) := by
  rw [← Rat.intCast_mul]; exact Rat.intCast_le_intCast.2 h
theorem cast_mul_ge {p a b : Int} (h : a * b ≤ p) : (a:Rat) * (b:Rat) ≤ (p:Rat) := by
  rw [← Rat.intCast_mul]; exact Rat.intCast_le_intCast.2 h
theorem low (a b c d s t p : Rat) (h1 : a ≤ s) (h2 : s ≤ b) (h3 : c ≤ t) (h4 : t ≤ d) (k1 : p ≤ a*c) (k2 : p ≤ a*d) (k3 : p ≤ b*c) (k4 : p ≤ b*d) : p ≤ s * t := by
  by_cases ct : 0 ≤ t
  · have m1 : 0 ≤ (s - a) * t := Rat.mul_nonneg (by grind) ct
    by_cases ca : 0 ≤ a
    · have m2 : 0 ≤ a * (t - c) := Rat.mul_nonneg ca (by grind)
      grind
    · have m2 : 0 ≤ (-a) * (d - t) := Rat.mul_nonneg (by grind) (by grind)
      grind
  · have m1 : 0 ≤ (b - s) * (-t) := Rat.mul_nonneg (by grind) (by grind)
    by_cases cb : 0 ≤ b
    · have m2 : 0 ≤ b * (t - c) := Rat.mul_nonneg cb (by grind)
      grind
    · have m2 : 0 ≤ (-b) * (d - t) := Rat.mul_nonneg (by grind) (by grind)
      grind
theorem high (a b c d s t p : Rat) (h1 : a ≤ s) (h2 : s ≤ b) (h3 : c ≤ t) (h4 : t ≤ d) (k1 : a*c ≤ p) (k2 : a*d ≤ p) (k3 : b*c ≤ p) (k4 : b*d ≤ p) : s * t ≤ p := by
  have := low (-b) (-a) c d (-s) t (-p) (by grind) (by grind) h3 h4 (by grind) (by grind) (by grind) (by grind)
  grind
theorem prod_in (a b c d : Int) (s t : Rat) (hs : (a:Rat) ≤ s ∧ s ≤ (b:Rat)) (ht : (c:Rat) ≤ t ∧ t ≤ (d:Rat)) : ((pLo a b c d : Int) : Rat) ≤ s * t ∧ s * t ≤ ((pHi a b c d : Int) : Rat) := by
  have l := pLo_le a b c d
  have g := pHi_ge a b c d
  exact ⟨low _ _ _ _ _ _ _ hs.1 hs.2 ht.1 ht.2 (cast_mul_le l.1) (cast_mul_le l.2.1) (cast_mul_le l.2.2.1) (cast_mul_le l.2.2.2),
    high _ _ _ _ _ _ _ hs.1 hs.2 ht.1 ht.2 (cast_mul_ge g.1) (cast_mul_ge g.2.1) (cast_mul_ge g.2.2.1) (cast_mul_ge g.2.2.2)⟩
theorem sq_in (a b : Int) (s : Rat) (hs : (a:Rat) ≤ s ∧ s ≤ (b:Rat)) : ((qLo a b : Int) : Rat) ≤ s * s ∧ s * s ≤ ((qHi a b : Int) : Rat) := by
  have p := prod_in a b a b s s hs hs
  unfold qLo qHi
  by_cases c : a ≤ 0 ∧ 0 ≤ b
  · rw [if_pos c, if_pos c]
    exact ⟨sq_nonneg' s, p.2⟩
  · rw [if_neg c, if_neg c]
    have l1 : min (a*a) (b*b) ≤ a*a := by generalize a*a = x; generalize b*b = y; omega
    have l2 : min (a*a) (b*b) ≤ b*b := by generalize a*a = x; generalize b*b = y; omega
    have g1 : a*a ≤ max (a*a) (b*b) := by generalize a*a = x; generalize b*b = y; omega
    have g2 : b*b ≤ max (a*a) (b*b) := by generalize a*a = x; generalize b*b = y; omega
    have l1' := cast_mul_le l1
    have l2' := cast_mul_le l2
    have g1' := cast_mul_ge g1
    have g2' := cast_mul_ge g2
    generalize ((min (a*a) (b*b) : Int) : Rat) = m at *
    generalize ((max (a*a) (b*b) : Int) : Rat) = M at *
    by_cases ca : 0 < a
    · have ca' : (0:Rat) < (a:Rat) := Rat.intCast_pos.2 ca
      have m1 : 0 ≤ (s - a) * (s + a) := Rat.mul_nonneg (by grind) (by grind)
      have m2 : 0 ≤ (b - s) * (b + s) := Rat.mul_nonneg (by grind) (by grind)
      constructor <;> grind
    · have cb' : (b:Rat) < 0 := Rat.intCast_neg_iff.2 (by omega)
      have m1 : 0 ≤ (s - a) * (-s - a) := Rat.mul_nonneg (by grind) (by grind)
      have m2 : 0 ≤ (b - s) * (-b - s) := Rat.mul_nonneg (by grind) (by grind)
      constructor <;> grind
theorem whole_lt (a b : Int) (h : (a:Rat) - (b:Rat) < 1) : a ≤ b := by
  refine Int.not_lt.1 fun c => ?_
  have h2 : ((b + 1 : Int) : Rat) ≤ ((a : Int) : Rat) := Rat.intCast_le_intCast.2 (by omega)
  rw [Rat.intCast_add] at h2
  have : ((1:Int):Rat) = 1 := rfl
  grind
/-- what the law looks at -/
theorem circle_says (a b : Int) :
    (qLo (sinLo a) (sinHi a) + qLo (sinLo (a+90000000)) (sinHi (a+90000000)) ≤ 10000000000000000 ∧ 10000000000000000 ≤ qHi (sinLo a) (sinHi a) + qHi (sinLo (a+90000000)) (sinHi (a+90000000))) ∧
    (sinLo (a+b) * 100000000 ≤ pHi (sinLo a) (sinHi a) (sinLo (b+90000000)) (sinHi (b+90000000)) + pHi (sinLo (a+90000000)) (sinHi (a+90000000)) (sinLo b) (sinHi b) ∧
      pLo (sinLo a) (sinHi a) (sinLo (b+90000000)) (sinHi (b+90000000)) + pLo (sinLo (a+90000000)) (sinHi (a+90000000)) (sinLo b) (sinHi b) ≤ sinHi (a+b) * 100000000) ∧
    (sinLo (a+b+90000000) * 100000000 ≤ pHi (sinLo (a+90000000)) (sinHi (a+90000000)) (sinLo (b+90000000)) (sinHi (b+90000000)) - pLo (sinLo a) (sinHi a) (sinLo b) (sinHi b) ∧
      pLo (sinLo (a+90000000)) (sinHi (a+90000000)) (sinLo (b+90000000)) (sinHi (b+90000000)) - pHi (sinLo a) (sinHi a) (sinLo b) (sinHi b) ≤ sinHi (a+b+90000000) * 100000000) := by
  obtain ⟨s, c, t, d, u, v, hs, hc, ht, hd, hu, hv, ⟨w1, w2⟩, ⟨w3, w4⟩, w5, w6⟩ := circle a b
  have q1 := sq_in _ _ s hs
  have q2 := sq_in _ _ c hc
  have p1 := prod_in _ _ _ _ s d hs hd
  have p2 := prod_in _ _ _ _ c t hc ht
  have p3 := prod_in _ _ _ _ c d hc hd
  have p4 := prod_in _ _ _ _ s t hs ht
  have e8 : ((100000000 : Int) : Rat) = 100000000 := rfl
  have e16 : ((10000000000000000 : Int) : Rat) = 10000000000000000 := rfl
  generalize s * s = x1 at *
  generalize c * c = x2 at *
  generalize s * d = x3 at *
  generalize c * t = x4 at *
  generalize c * d = x5 at *
  generalize s * t = x6 at *
  refine ⟨⟨whole_lt _ _ ?_, whole_lt _ _ ?_⟩, ⟨whole_lt _ _ ?_, whole_lt _ _ ?_⟩, whole_lt _ _ ?_, whole_lt _ _ ?_⟩
  · rw [Rat.intCast_add, e16]; grind
  · rw [Rat.intCast_add, e16]; grind
  · rw [Rat.intCast_add, Rat.intCast_mul, e8]; grind
  · rw [Rat.intCast_add, Rat.intCast_mul, e8]; grind
  · rw [Rat.intCast_sub, Rat.intCast_mul, e8]; grind
  · rw [Rat.intCast_sub, Rat.intCast_mul, e8]; grind
end SineNear
