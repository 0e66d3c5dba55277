/- Sines in plain numbers. -/


/- Packed numbers: many fields of one width in one natural number. -/
namespace SineNear
set_option linter.unusedSimpArgs false
set_option linter.unusedVariables false

theorem land_join (k a b c d : Nat) (hb : b < 2^k) (hd : d < 2^k) :
    (2^k * a + b) &&& (2^k * c + d) = 2^k * (a &&& c) + (b &&& d) := by
  have h : b &&& d < 2^k := Nat.lt_of_le_of_lt Nat.and_le_left hb
  apply Nat.eq_of_testBit_eq
  intro j
  rw [Nat.testBit_and, Nat.testBit_two_pow_mul_add _ hb, Nat.testBit_two_pow_mul_add _ hd, Nat.testBit_two_pow_mul_add _ h]
  split <;> simp

def pk (f : Nat → Nat) (n : Nat) : Nat := Nat.rec 0 (fun i acc => Nat.add acc (Nat.mul (f i) (Nat.pow 2 (Nat.mul 160 i)))) n

theorem pk_zero (f : Nat → Nat) : pk f 0 = 0 := rfl
theorem pk_succ (f : Nat → Nat) (n : Nat) : pk f (n+1) = 2^(160*n) * f n + pk f n := by
  show pk f n + f n * 2^(160*n) = _
  rw [Nat.mul_comm, Nat.add_comm]

theorem pk_lt (f : Nat → Nat) (n : Nat) (h : ∀ i, i < n → f i < 2^160) : pk f n < 2^(160*n) := by
  induction n with
  | zero => simp [pk_zero]
  | succ n ih =>
    have h1 := ih (fun i hi => h i (by omega))
    have h2 := h n (by omega)
    rw [pk_succ]
    have e : 2^(160*(n+1)) = 2^(160*n) * 2^160 := by rw [← Nat.pow_add]; rfl
    rw [e]
    have h3 : 2^(160*n) * (f n + 1) ≤ 2^(160*n) * 2^160 := Nat.mul_le_mul_left _ h2
    rw [Nat.mul_add, Nat.mul_one] at h3
    omega

theorem pk_land (f g : Nat → Nat) (n : Nat) (hf : ∀ i, i < n → f i < 2^160) (hg : ∀ i, i < n → g i < 2^160) :
    pk f n &&& pk g n = pk (fun i => f i &&& g i) n := by
  induction n with
  | zero => simp [pk_zero]
  | succ n ih =>
    have h1 := ih (fun i hi => hf i (by omega)) (fun i hi => hg i (by omega))
    rw [pk_succ, pk_succ, pk_succ, land_join _ _ _ _ _ (pk_lt f n fun i hi => hf i (by omega)) (pk_lt g n fun i hi => hg i (by omega)), h1]

theorem pk_add (f g : Nat → Nat) (n : Nat) : pk f n + pk g n = pk (fun i => f i + g i) n := by
  induction n with
  | zero => rfl
  | succ n ih =>
    rw [pk_succ, pk_succ, pk_succ, ← ih, Nat.mul_add]; omega

theorem pk_inj (f g : Nat → Nat) (n : Nat) (hf : ∀ i, i < n → f i < 2^160) (hg : ∀ i, i < n → g i < 2^160) (h : pk f n = pk g n) :
    ∀ i, i < n → f i = g i := by
  induction n with
  | zero => intro i hi; omega
  | succ n ih =>
    rw [pk_succ, pk_succ] at h
    have hf' := pk_lt f n fun i hi => hf i (by omega)
    have hg' := pk_lt g n fun i hi => hg i (by omega)
    have e1 : f n = g n := by
      have := congrArg (· / 2^(160*n)) h
      rwa [Nat.mul_add_div (Nat.two_pow_pos _), Nat.mul_add_div (Nat.two_pow_pos _), Nat.div_eq_of_lt hf', Nat.div_eq_of_lt hg'] at this
    have e2 : pk f n = pk g n := by rw [e1] at h; omega
    intro i hi
    rcases Nat.lt_succ_iff_lt_or_eq.1 hi with h | h
    · exact ih (fun i hi => hf i (by omega)) (fun i hi => hg i (by omega)) e2 i h
    · rw [h]; exact e1

def big (X M T : Nat) : Bool := Nat.beq (Nat.land (Nat.add (Nat.land X M) M) T) T

/-- what the test of a packed number says of its fields -/
theorem big_says (x : Nat → Nat) (m b n : Nat) (hx : ∀ i, i < n → x i < 2^160) (hm : m < 2^159) (hb : b < 160)
    (h : big (pk x n) (pk (fun _ => m) n) (pk (fun _ => 2^b) n) = true) : ∀ i, i < n → 2^b ≤ (x i &&& m) + m := by
  have h1 : (pk x n &&& pk (fun _ => m) n) + pk (fun _ => m) n &&& pk (fun _ => 2^b) n = pk (fun _ => 2^b) n := Nat.eq_of_beq_eq_true h
  have hm' : ∀ i, i < n → (fun _ : Nat => m) i < 2^160 := fun _ _ => Nat.lt_trans hm (by decide)
  have hb' : ∀ i, i < n → (fun _ : Nat => 2^b) i < 2^160 := fun _ _ => Nat.pow_lt_pow_right (by decide) hb
  rw [pk_land x _ n hx hm', pk_add, pk_land _ _ n ?_ hb'] at h1
  · intro i hi
    have := pk_inj _ _ n ?_ hb' h1 i hi
    · have h2 : ((x i &&& m) + m) &&& 2^b ≤ (x i &&& m) + m := Nat.and_le_left
      omega
    · intro i hi
      exact Nat.lt_of_le_of_lt Nat.and_le_right (hb' i hi)
  · intro i hi
    have h2 : x i &&& m ≤ m := Nat.and_le_right
    have : (2:Nat)^160 = 2 * 2^159 := rfl
    show (x i &&& m) + m < 2^160
    omega

def sets (X T : Nat) : Bool := Nat.beq (Nat.land X T) T

theorem sets_says (x : Nat → Nat) (b n : Nat) (hx : ∀ i, i < n → x i < 2^160) (hb : b < 160)
    (h : sets (pk x n) (pk (fun _ => 2^b) n) = true) : ∀ i, i < n → 2^b ≤ x i := by
  have h1 : pk x n &&& pk (fun _ => 2^b) n = pk (fun _ => 2^b) n := Nat.eq_of_beq_eq_true h
  have hb' : ∀ i, i < n → (fun _ : Nat => 2^b) i < 2^160 := fun _ _ => Nat.pow_lt_pow_right (by decide) hb
  rw [pk_land _ _ n hx hb'] at h1
  intro i hi
  have := pk_inj _ _ n (fun i hi => Nat.lt_of_le_of_lt Nat.and_le_right (hb' i hi)) hb' h1 i hi
  have h2 : x i &&& 2^b ≤ x i := Nat.and_le_left
  omega

/-- fields that are integers -/
def pkI (f : Nat → Int) : Nat → Int
  | 0 => 0
  | n+1 => pkI f n + f n * 2^(160*n)

theorem pk_cast (f : Nat → Nat) (n : Nat) : ((pk f n : Nat) : Int) = pkI (fun i => (f i : Int)) n := by
  induction n with
  | zero => rfl
  | succ n ih =>
    rw [pk_succ, pkI, ← ih]
    push_cast
    rw [Int.mul_comm, Int.add_comm]

theorem pkI_congr {f g : Nat → Int} (n : Nat) (h : ∀ i, i < n → f i = g i) : pkI f n = pkI g n := by
  induction n with
  | zero => rfl
  | succ n ih => rw [pkI, pkI, ih (fun i hi => h i (by omega)), h n (by omega)]

theorem pkI_add (f g : Nat → Int) (n : Nat) : pkI f n + pkI g n = pkI (fun i => f i + g i) n := by
  induction n with
  | zero => rfl
  | succ n ih => rw [pkI, pkI, pkI, ← ih, Int.add_mul]; omega

theorem pkI_neg (f : Nat → Int) (n : Nat) : - pkI f n = pkI (fun i => - f i) n := by
  induction n with
  | zero => rfl
  | succ n ih => rw [pkI, pkI, ← ih, Int.neg_add, Int.neg_mul]

theorem pkI_nat (f : Nat → Int) (n X : Nat) (h : ∀ i, i < n → 0 ≤ f i) (hX : (X : Int) = pkI f n) : X = pk (fun i => (f i).toNat) n := by
  have h1 := pk_cast (fun i => (f i).toNat) n
  rw [pkI_congr (g := f) n (fun i hi => Int.toNat_of_nonneg (h i hi)), ← hX] at h1
  omega

/-- the five rows of differences, step by step -/
structure Row where
  f0 : Nat → Int
  f1 : Nat → Int
  f2 : Nat → Int
  f3 : Nat → Int
  f4 : Nat → Int
def Row.next (r : Row) : Row := ⟨fun i => r.f0 i + r.f1 i, fun i => r.f1 i + r.f2 i, fun i => r.f2 i + r.f3 i, fun i => r.f3 i + r.f4 i, r.f4⟩
def Row.after (r : Row) : Nat → Row
  | 0 => r
  | s+1 => (r.next).after s

def loop (B M0 T0 B1 T1 : Nat) : Nat → Nat → Nat → Nat → Nat → Nat → Bool :=
  fun n => Nat.rec (motive := fun _ => Nat → Nat → Nat → Nat → Nat → Bool) (fun _ _ _ _ _ => true)
   (fun _ ih d0 d1 e2 e3 d4 =>
     match Nat.ble e2 d1, Nat.ble d4 e3, big (Nat.add d0 B) M0 T0, sets (Nat.add d1 B1) T1 with
     | true, true, true, true => ih (Nat.add d0 d1) (Nat.sub d1 e2) (Nat.add e2 e3) (Nat.sub e3 d4) d4
     | _, _, _, _ => false) n

theorem loop_succ (B M0 T0 B1 T1 S d0 d1 e2 e3 d4 : Nat) (h : loop B M0 T0 B1 T1 (S+1) d0 d1 e2 e3 d4 = true) :
    e2 ≤ d1 ∧ d4 ≤ e3 ∧ big (d0 + B) M0 T0 = true ∧ sets (d1 + B1) T1 = true ∧ loop B M0 T0 B1 T1 S (d0 + d1) (d1 - e2) (e2 + e3) (e3 - d4) d4 = true := by
  have h' : (match Nat.ble e2 d1, Nat.ble d4 e3, big (Nat.add d0 B) M0 T0, sets (Nat.add d1 B1) T1 with
     | true, true, true, true => loop B M0 T0 B1 T1 S (Nat.add d0 d1) (Nat.sub d1 e2) (Nat.add e2 e3) (Nat.sub e3 d4) d4
     | _, _, _, _ => false) = true := h
  revert h'
  split
  · rename_i h1 h2 h3 h4
    intro h5
    exact ⟨Nat.le_of_ble_eq_true h1, Nat.le_of_ble_eq_true h2, h3, h4, h5⟩
  · intro h; cases h

theorem loop_says (B M0 T0 B1 T1 n : Nat) (S : Nat) : ∀ (d0 d1 e2 e3 d4 : Nat) (r : Row),
    (d0 : Int) = pkI r.f0 n → (d1 : Int) = pkI r.f1 n → (e2 : Int) = - pkI r.f2 n → (e3 : Int) = - pkI r.f3 n → (d4 : Int) = pkI r.f4 n →
    loop B M0 T0 B1 T1 S d0 d1 e2 e3 d4 = true →
    ∀ s, s < S → ∃ D0 D1 : Nat, (D0 : Int) = pkI (r.after s).f0 n ∧ (D1 : Int) = pkI (r.after s).f1 n ∧ big (D0 + B) M0 T0 = true ∧ sets (D1 + B1) T1 = true := by
  induction S with
  | zero => intro _ _ _ _ _ _ _ _ _ _ _ _ s hs; omega
  | succ S ih =>
    intro d0 d1 e2 e3 d4 r h0 h1 h2 h3 h4 h s hs
    obtain ⟨a, b, c, d, e⟩ := loop_succ _ _ _ _ _ _ _ _ _ _ _ h
    cases s with
    | zero => exact ⟨d0, d1, h0, h1, c, d⟩
    | succ s =>
      refine ih (d0 + d1) (d1 - e2) (e2 + e3) (e3 - d4) d4 r.next ?_ ?_ ?_ ?_ h4 e s (by omega)
      · show ((d0 + d1 : Nat) : Int) = pkI (fun i => r.f0 i + r.f1 i) n
        rw [← pkI_add]; omega
      · show ((d1 - e2 : Nat) : Int) = pkI (fun i => r.f1 i + r.f2 i) n
        rw [← pkI_add]; omega
      · show ((e2 + e3 : Nat) : Int) = - pkI (fun i => r.f2 i + r.f3 i) n
        rw [← pkI_add]; omega
      · show ((e3 - d4 : Nat) : Int) = - pkI (fun i => r.f3 i + r.f4 i) n
        rw [← pkI_add]; omega
end SineNear

/- Differences, and how far the five rows are from them. -/
namespace SineNear
set_option linter.unusedSimpArgs false
set_option linter.unusedVariables false

def dif : Nat → (Nat → Int) → Nat → Int
  | 0, f, a => f a
  | j+1, f, a => dif j f (a+1) - dif j f a

structure Good (h : Nat → Int) (K : Int) (c : Nat) (r : Row) (i t : Nat) : Prop where
  g4 : r.f4 i - dif 4 h (c+t) ≤ K * t ∧ dif 4 h (c+t) - r.f4 i ≤ K * t
  g3 : 2 * (r.f3 i - dif 3 h (c+t)) ≤ K * t^2 ∧ 2 * (dif 3 h (c+t) - r.f3 i) ≤ K * t^2
  g2 : 6 * (r.f2 i - dif 2 h (c+t)) ≤ K * t^3 ∧ 6 * (dif 2 h (c+t) - r.f2 i) ≤ K * t^3
  g1 : 24 * (r.f1 i - dif 1 h (c+t)) ≤ K * t^4 ∧ 24 * (dif 1 h (c+t) - r.f1 i) ≤ K * t^4
  g0 : 120 * (r.f0 i - dif 0 h (c+t)) ≤ K * t^5 ∧ 120 * (dif 0 h (c+t) - r.f0 i) ≤ K * t^5

theorem Good.next {h : Nat → Int} {K : Int} {c : Nat} {r : Row} {i t : Nat} (hK : 0 ≤ K) (g : Good h K c r i t)
    (h5 : dif 5 h (c+t) ≤ K ∧ -K ≤ dif 5 h (c+t)) : Good h K c r.next i (t+1) := by
  have e4 : dif 4 h (c+(t+1)) = dif 5 h (c+t) + dif 4 h (c+t) := by show _ = (dif 4 h (c+t+1) - dif 4 h (c+t)) + _; rw [Nat.add_assoc]; omega
  have e3 : dif 3 h (c+(t+1)) = dif 4 h (c+t) + dif 3 h (c+t) := by show _ = (dif 3 h (c+t+1) - dif 3 h (c+t)) + _; rw [Nat.add_assoc]; omega
  have e2 : dif 2 h (c+(t+1)) = dif 3 h (c+t) + dif 2 h (c+t) := by show _ = (dif 2 h (c+t+1) - dif 2 h (c+t)) + _; rw [Nat.add_assoc]; omega
  have e1 : dif 1 h (c+(t+1)) = dif 2 h (c+t) + dif 1 h (c+t) := by show _ = (dif 1 h (c+t+1) - dif 1 h (c+t)) + _; rw [Nat.add_assoc]; omega
  have e0 : dif 0 h (c+(t+1)) = dif 1 h (c+t) + dif 0 h (c+t) := by show _ = (dif 0 h (c+t+1) - dif 0 h (c+t)) + _; rw [Nat.add_assoc]; omega
  obtain ⟨g4, g3, g2, g1, g0⟩ := g
  have p1 : 0 ≤ K * (t:Int) := Int.mul_nonneg hK (by omega)
  have p2 : 0 ≤ K * (t:Int)^2 := Int.mul_nonneg hK (Int.pow_nonneg (by omega))
  have p3 : 0 ≤ K * (t:Int)^3 := Int.mul_nonneg hK (Int.pow_nonneg (by omega))
  have p4 : 0 ≤ K * (t:Int)^4 := Int.mul_nonneg hK (Int.pow_nonneg (by omega))
  have q1 : K * ((t+1 : Nat) : Int) = K * t + K := by push_cast; grind
  have q2 : K * ((t+1 : Nat) : Int)^2 = K * (t:Int)^2 + 2 * (K * t) + K := by push_cast; grind
  have q3 : K * ((t+1 : Nat) : Int)^3 = K * (t:Int)^3 + 3 * (K * (t:Int)^2) + 3 * (K * t) + K := by push_cast; grind
  have q4 : K * ((t+1 : Nat) : Int)^4 = K * (t:Int)^4 + 4 * (K * (t:Int)^3) + 6 * (K * (t:Int)^2) + 4 * (K * t) + K := by push_cast; grind
  have q5 : K * ((t+1 : Nat) : Int)^5 = K * (t:Int)^5 + 5 * (K * (t:Int)^4) + 10 * (K * (t:Int)^3) + 10 * (K * (t:Int)^2) + 5 * (K * t) + K := by push_cast; grind
  refine ⟨?_, ?_, ?_, ?_, ?_⟩
  · rw [e4, q1]; show r.f4 i - _ ≤ _ ∧ _ - r.f4 i ≤ _; omega
  · rw [e3, q2]; show 2 * (r.f3 i + r.f4 i - _) ≤ _ ∧ 2 * (_ - (r.f3 i + r.f4 i)) ≤ _; omega
  · rw [e2, q3]; show 6 * (r.f2 i + r.f3 i - _) ≤ _ ∧ 6 * (_ - (r.f2 i + r.f3 i)) ≤ _; omega
  · rw [e1, q4]; show 24 * (r.f1 i + r.f2 i - _) ≤ _ ∧ 24 * (_ - (r.f1 i + r.f2 i)) ≤ _; omega
  · rw [e0, q5]; show 120 * (r.f0 i + r.f1 i - _) ≤ _ ∧ 120 * (_ - (r.f0 i + r.f1 i)) ≤ _; omega

theorem Good.after {h : Nat → Int} {K : Int} {c i : Nat} (hK : 0 ≤ K) (s : Nat) : ∀ (t : Nat) (r : Row), Good h K c r i t →
    (∀ u, u < t + s → dif 5 h (c+u) ≤ K ∧ -K ≤ dif 5 h (c+u)) → Good h K c (r.after s) i (t+s) := by
  induction s with
  | zero => intro t r g _; exact g
  | succ s ih =>
    intro t r g h5
    have := ih (t+1) r.next (g.next hK (h5 t (by omega))) (fun u hu => h5 u (by omega))
    rw [show t + (s+1) = t+1+s from by omega]
    exact this
end SineNear

/- A test of many angles at once, over any function. -/
namespace SineNear
set_option linter.unusedSimpArgs false
set_option linter.unusedVariables false

def allB (f : Nat → Bool) (n : Nat) : Bool := Nat.rec true (fun i acc => match f i with | true => acc | false => false) n

theorem allB_succ (f : Nat → Bool) (n : Nat) (h : allB f (n+1) = true) : f n = true ∧ allB f n = true := by
  have h' : (match f n with | true => allB f n | false => false) = true := h
  cases hn : f n with
  | true => rw [hn] at h'; exact ⟨rfl, h'⟩
  | false => rw [hn] at h'; cases h'

theorem allB_says (f : Nat → Bool) (n : Nat) (h : allB f n = true) : ∀ i, i < n → f i = true := by
  induction n with
  | zero => intro i hi; omega
  | succ n ih =>
    obtain ⟨h1, h2⟩ := allB_succ f n h
    intro i hi
    rcases Nat.lt_succ_iff_lt_or_eq.1 hi with h | h
    · exact ih h2 i h
    · rw [h]; exact h1

section
variable (H : Nat → Nat)
def d1 (a : Nat) : Nat := Nat.sub (H (Nat.add a 1)) (H a)
def e2 (a : Nat) : Nat := Nat.sub (Nat.mul 2 (H (Nat.add a 1))) (Nat.add (H a) (H (Nat.add a 2)))
def e3 (a : Nat) : Nat := Nat.sub (Nat.add (H a) (Nat.mul 3 (H (Nat.add a 2)))) (Nat.add (Nat.mul 3 (H (Nat.add a 1))) (H (Nat.add a 3)))
def d4 (a : Nat) : Nat := Nat.sub (Nat.add (Nat.add (H a) (Nat.mul 6 (H (Nat.add a 2)))) (H (Nat.add a 4))) (Nat.add (Nat.mul 4 (H (Nat.add a 1))) (Nat.mul 4 (H (Nat.add a 3))))
def both (a b : Bool) : Bool := match a with | true => b | false => false
def ok (a : Nat) : Bool :=
  both (Nat.ble (H a) (H (Nat.add a 1))) (both (Nat.ble (Nat.add (H a) (H (Nat.add a 2))) (Nat.mul 2 (H (Nat.add a 1))))
    (both (Nat.ble (Nat.add (Nat.mul 3 (H (Nat.add a 1))) (H (Nat.add a 3))) (Nat.add (H a) (Nat.mul 3 (H (Nat.add a 2)))))
    (Nat.ble (Nat.add (Nat.mul 4 (H (Nat.add a 1))) (Nat.mul 4 (H (Nat.add a 3)))) (Nat.add (Nat.add (H a) (Nat.mul 6 (H (Nat.add a 2)))) (H (Nat.add a 4))))))
def chunk (start n S : Nat) : Bool :=
  both (allB (fun i => ok H (Nat.add start (Nat.mul S i))) n)
    (loop (pk (fun _ => 2^150+2^90) n) (pk (fun _ => 2^120-2^91) n) (pk (fun _ => 2^120) n) (pk (fun _ => 2^126-2^90) n) (pk (fun _ => 2^126) n) S
     (pk (fun i => H (Nat.add start (Nat.mul S i))) n) (pk (fun i => d1 H (Nat.add start (Nat.mul S i))) n) (pk (fun i => e2 H (Nat.add start (Nat.mul S i))) n)
     (pk (fun i => e3 H (Nat.add start (Nat.mul S i))) n) (pk (fun i => d4 H (Nat.add start (Nat.mul S i))) n))

theorem both_says {a b : Bool} (h : both a b = true) : a = true ∧ b = true := by
  cases a <;> simp_all [both]

theorem ok_says (a : Nat) (h : ok H a = true) : H a ≤ H (a+1) ∧ H a + H (a+2) ≤ 2 * H (a+1) ∧ 3 * H (a+1) + H (a+3) ≤ H a + 3 * H (a+2) ∧
    4 * H (a+1) + 4 * H (a+3) ≤ H a + 6 * H (a+2) + H (a+4) := by
  obtain ⟨h1, h⟩ := both_says h
  obtain ⟨h2, h⟩ := both_says h
  obtain ⟨h3, h4⟩ := both_says h
  exact ⟨Nat.le_of_ble_eq_true h1, Nat.le_of_ble_eq_true h2, Nat.le_of_ble_eq_true h3, Nat.le_of_ble_eq_true h4⟩

/-- H as integers -/
def hI (a : Nat) : Int := H a

/-- what is known of H, up to an angle -/
structure Smooth (top : Nat) : Prop where
  five : ∀ a, a ≤ top → dif 5 (hI H) a ≤ 2^27 ∧ -2^27 ≤ dif 5 (hI H) a
  one : ∀ a, a ≤ top → hI H (a+1) - hI H a ≤ 2^125 ∧ -2^125 ≤ hI H (a+1) - hI H a
  size : ∀ a, a ≤ top → H a < 2^149

theorem dif1 (h : Nat → Int) (a : Nat) : dif 1 h a = h (a+1) - h a := rfl
theorem dif2 (h : Nat → Int) (a : Nat) : dif 2 h a = h (a+2) - 2 * h (a+1) + h a := by
  show (h (a+1+1) - h (a+1)) - (h (a+1) - h a) = _
  rw [show a+1+1 = a+2 from rfl]; omega
theorem dif3 (h : Nat → Int) (a : Nat) : dif 3 h a = h (a+3) - 3 * h (a+2) + 3 * h (a+1) - h a := by
  show dif 2 h (a+1) - dif 2 h a = _
  rw [dif2, dif2, show a+1+1 = a+2 from rfl, show a+1+2 = a+3 from rfl]; omega
theorem dif4 (h : Nat → Int) (a : Nat) : dif 4 h a = h (a+4) - 4 * h (a+3) + 6 * h (a+2) - 4 * h (a+1) + h a := by
  show dif 3 h (a+1) - dif 3 h a = _
  rw [dif3, dif3, show a+1+1 = a+2 from rfl, show a+1+2 = a+3 from rfl, show a+1+3 = a+4 from rfl]; omega

def row0 (start S : Nat) : Row := ⟨fun i => dif 0 (hI H) (start + S * i), fun i => dif 1 (hI H) (start + S * i), fun i => dif 2 (hI H) (start + S * i), fun i => dif 3 (hI H) (start + S * i), fun i => dif 4 (hI H) (start + S * i)⟩

theorem good0 (start S i : Nat) : Good (hI H) (2^27) (start + S * i) (row0 H start S) i 0 := by
  refine ⟨?_, ?_, ?_, ?_, ?_⟩ <;> simp [row0]

theorem pow_cast_le (s b k : Nat) (h : s ≤ b) : (s : Int)^k ≤ (b : Int)^k := by
  have := Nat.pow_le_pow_left h k
  rw [← Int.natCast_pow, ← Int.natCast_pow]; omega

theorem off (start S top : Nat) (hS : S ≤ 8192) (sm : Smooth H top) (s : Nat) (hs : s < S) (j : Nat) (hjt : start + S * j + s ≤ top) :
      ((row0 H start S).after s).f0 j - hI H (start + S * j + s) ≤ 2^86 ∧ hI H (start + S * j + s) - ((row0 H start S).after s).f0 j ≤ 2^86 ∧
      ((row0 H start S).after s).f1 j - (hI H (start + S * j + s + 1) - hI H (start + S * j + s)) ≤ 2^86 ∧ (hI H (start + S * j + s + 1) - hI H (start + S * j + s)) - ((row0 H start S).after s).f1 j ≤ 2^86 := by
  have g' := (good0 H start S j).after (by decide) s 0 _ (fun u hu => sm.five _ (by omega))
  obtain ⟨_, _, _, g1, g0⟩ := g'
  rw [Nat.zero_add] at g1 g0
  have hs' : (s : Int) ≤ 8192 := by omega
  have b4 : (s : Int)^4 ≤ 8192^4 := pow_cast_le s 8192 4 (by omega)
  have b5 : (s : Int)^5 ≤ 8192^5 := pow_cast_le s 8192 5 (by omega)
  have c0 : dif 0 (hI H) (start + S * j + s) = hI H (start + S * j + s) := rfl
  have c1 := dif1 (hI H) (start + S * j + s)
  rw [c0] at g0
  rw [c1] at g1
  generalize (s:Int)^4 = p4 at *
  generalize (s:Int)^5 = p5 at *
  omega

theorem rows (start n S : Nat) (h : chunk H start n S = true) : ∀ s, s < S → ∃ D0 D1 : Nat, (D0 : Int) = pkI ((row0 H start S).after s).f0 n ∧ (D1 : Int) = pkI ((row0 H start S).after s).f1 n ∧
      big (D0 + pk (fun _ => 2^150+2^90) n) (pk (fun _ => 2^120-2^91) n) (pk (fun _ => 2^120) n) = true ∧ sets (D1 + (pk (fun _ => 2^126-2^90) n)) (pk (fun _ => 2^126) n) = true := by
  obtain ⟨hok, hl⟩ := both_says h
  have hk : ∀ j, j < n → _ := fun j hj => ok_says H _ (allB_says _ n hok j hj)
  refine loop_says _ _ _ _ _ n S _ _ _ _ _ (row0 H start S) ?_ ?_ ?_ ?_ ?_ hl
  · exact pk_cast _ n
  · rw [pk_cast]
    refine pkI_congr n fun j hj => ?_
    have := hk j hj
    show ((H (start + S * j + 1) - H (start + S * j) : Nat) : Int) = (H (start + S * j + 1) : Int) - (H (start + S * j) : Int)
    simp only [Nat.add_eq, Nat.mul_eq] at this
    omega
  · rw [pk_cast, pkI_neg]
    refine pkI_congr n fun j hj => ?_
    have := hk j hj
    show ((2 * H (start + S * j + 1) - (H (start + S * j) + H (start + S * j + 2)) : Nat) : Int) = - dif 2 (hI H) _
    simp only [Nat.add_eq, Nat.mul_eq] at this
    rw [dif2]; unfold hI; omega
  · rw [pk_cast, pkI_neg]
    refine pkI_congr n fun j hj => ?_
    have := hk j hj
    show ((H (start + S * j) + 3 * H (start + S * j + 2) - (3 * H (start + S * j + 1) + H (start + S * j + 3)) : Nat) : Int) = - dif 3 (hI H) _
    simp only [Nat.add_eq, Nat.mul_eq] at this
    rw [dif3]; unfold hI; omega
  · rw [pk_cast]
    refine pkI_congr n fun j hj => ?_
    have := hk j hj
    show ((H (start + S * j) + 6 * H (start + S * j + 2) + H (start + S * j + 4) - (4 * H (start + S * j + 1) + 4 * H (start + S * j + 3)) : Nat) : Int) = dif 4 (hI H) _
    simp only [Nat.add_eq, Nat.mul_eq] at this
    rw [dif4]; unfold hI; omega

theorem land_mod (x m b : Nat) (hm : m < 2^b) : x &&& m ≤ x % 2^b := by
  have : x &&& m = (x % 2^b) &&& m := by
    apply Nat.eq_of_testBit_eq
    intro j
    rw [Nat.testBit_and, Nat.testBit_and, Nat.testBit_mod_two_pow]
    by_cases hj : j < b
    · simp [hj]
    · have : m < 2^j := Nat.lt_of_lt_of_le hm (Nat.pow_le_pow_right (by decide) (by omega))
      simp [Nat.testBit_lt_two_pow this]
  rw [this]; exact Nat.and_le_left

theorem chunk_says (start n S top : Nat) (hS : S ≤ 8192) (sm : Smooth H top) (h : chunk H start n S = true) (i s : Nat) (hi : i < n) (hs : s < S)
    (ht : start + S * (n - 1) + s ≤ top) :
    2^89 ≤ H (start + S * i + s) % 2^120 ∧ H (start + S * i + s) % 2^120 + 2^89 ≤ 2^120 ∧ H (start + S * i + s) + 2^89 ≤ H (start + S * i + s + 1) := by
  obtain ⟨D0, D1, hD0, hD1, t0, t1⟩ := rows H start n S h s hs
  have hj : ∀ j, j < n → start + S * j + s ≤ top := fun j hj => by
    have : S * j ≤ S * (n - 1) := Nat.mul_le_mul_left _ (by omega)
    omega
  have of : ∀ j, j < n → _ := fun j hjn => off H start S top hS sm s hs j (hj j hjn)
  -- the first row
  have x0 : D0 + pk (fun _ => 2^150+2^90) n = pk (fun j => (((row0 H start S).after s).f0 j + (2^150+2^90)).toNat) n := by
    apply pkI_nat
    · intro j hjn; have := of j hjn; unfold hI at this; omega
    · push_cast
      rw [hD0, pk_cast, pkI_add]; rfl
  have x1 : D1 + pk (fun _ => 2^126-2^90) n = pk (fun j => (((row0 H start S).after s).f1 j + (2^126-2^90)).toNat) n := by
    apply pkI_nat
    · intro j hjn; have := of j hjn; have := sm.one _ (hj j hjn); omega
    · push_cast
      rw [hD1, pk_cast, pkI_add]; rfl
  rw [x0] at t0
  rw [x1] at t1
  have r0 := big_says _ (2^120-2^91) 120 n ?_ (by decide) (by decide) t0 i hi
  have r1 := sets_says _ 126 n ?_ (by decide) t1 i hi
  · have m0 := land_mod (((row0 H start S).after s).f0 i + (2^150+2^90)).toNat (2^120-2^91) 120 (by decide)
    have o := of i hi
    unfold hI at o
    generalize H (start + S * i + s) = h0 at *
    generalize H (start + S * i + s + 1) = h1 at *
    generalize ((row0 H start S).after s).f0 i = f0 at *
    generalize ((row0 H start S).after s).f1 i = f1 at *
    omega
  · intro j hjn; have := of j hjn; have := sm.one _ (hj j hjn); omega
  · intro j hjn; have := of j hjn; have := sm.size _ (hj j hjn); unfold hI at *; omega
end
end SineNear

/- Functions whose differences are all at least 0, and polynomials below them. -/
namespace SineNear
set_option linter.unusedSimpArgs false
set_option linter.unusedVariables false

def difQ : Nat → (Nat → Rat) → Nat → Rat
  | 0, f, a => f a
  | j+1, f, a => difQ j f (a+1) - difQ j f a

def step (f : Nat → Rat) (a : Nat) : Rat := f (a+1) - f a

theorem difQ_step (j : Nat) (f : Nat → Rat) : ∀ a, difQ (j+1) f a = difQ j (step f) a := by
  induction j with
  | zero => intro a; rfl
  | succ j ih =>
    intro a
    show difQ (j+1) f (a+1) - difQ (j+1) f a = difQ j (step f) (a+1) - difQ j (step f) a
    rw [ih, ih]

theorem difQ_congr (j : Nat) {f g : Nat → Rat} (h : ∀ a, f a = g a) : ∀ a, difQ j f a = difQ j g a := by
  induction j with
  | zero => exact h
  | succ j ih => intro a; show difQ j f (a+1) - difQ j f a = _; rw [ih, ih]; rfl

theorem difQ_add (j : Nat) (f g : Nat → Rat) : ∀ a, difQ j (fun b => f b + g b) a = difQ j f a + difQ j g a := by
  induction j with
  | zero => intro a; rfl
  | succ j ih =>
    intro a
    show difQ j (fun b => f b + g b) (a+1) - difQ j (fun b => f b + g b) a = (difQ j f (a+1) - difQ j f a) + (difQ j g (a+1) - difQ j g a)
    rw [ih, ih]; grind

theorem difQ_mul (j : Nat) (c : Rat) (f : Nat → Rat) : ∀ a, difQ j (fun b => c * f b) a = c * difQ j f a := by
  induction j with
  | zero => intro a; rfl
  | succ j ih =>
    intro a
    show difQ j (fun b => c * f b) (a+1) - difQ j (fun b => c * f b) a = c * (difQ j f (a+1) - difQ j f a)
    rw [ih, ih]; grind

theorem difQ_shift (j : Nat) (f : Nat → Rat) (k : Nat) : ∀ a, difQ j (fun b => f (b+k)) a = difQ j f (a+k) := by
  induction j with
  | zero => intro a; rfl
  | succ j ih =>
    intro a
    show difQ j (fun b => f (b+k)) (a+1) - difQ j (fun b => f (b+k)) a = difQ j f (a+k+1) - difQ j f (a+k)
    rw [ih, ih, show a+1+k = a+k+1 from by omega]

/-- all differences are at least 0 -/
def AM (f : Nat → Rat) : Prop := ∀ j a, 0 ≤ difQ j f a

theorem AM.step {f : Nat → Rat} (h : AM f) : AM (step f) := fun j a => by rw [← difQ_step]; exact h (j+1) a
theorem AM.add {f g : Nat → Rat} (h : AM f) (k : AM g) : AM (fun b => f b + g b) := fun j a => by rw [difQ_add]; have := h j a; have := k j a; grind
theorem AM.scale {f : Nat → Rat} (h : AM f) {c : Rat} (hc : 0 ≤ c) : AM (fun b => c * f b) := fun j a => by rw [difQ_mul]; exact Rat.mul_nonneg hc (h j a)
theorem AM.nonneg {f : Nat → Rat} (h : AM f) (a : Nat) : 0 ≤ f a := h 0 a
theorem AM.mono {f : Nat → Rat} (h : AM f) (a : Nat) : ∀ k, f a ≤ f (a+k) := by
  intro k
  induction k with
  | zero => exact Rat.le_refl
  | succ k ih =>
    have := h 1 (a+k)
    have e : difQ 1 f (a+k) = f (a+k+1) - f (a+k) := rfl
    rw [e] at this
    rw [show a + (k+1) = a+k+1 from rfl]
    grind

theorem AM.one : AM (fun _ => 1) := by
  have h : ∀ j, ∀ a, difQ (j+1) (fun _ => (1:Rat)) a = 0 := by
    intro j
    induction j with
    | zero => intro a; show (1:Rat) - 1 = 0; grind
    | succ j ih => intro a; show difQ (j+1) _ (a+1) - difQ (j+1) _ a = 0; rw [ih, ih]; grind
  intro j a
  cases j with
  | zero => show (0:Rat) ≤ 1; decide
  | succ j => rw [h]; exact Rat.le_refl

theorem AM.times {g : Nat → Rat} (h : AM g) : AM (fun b => (b:Rat) * g b) := by
  intro j
  induction j generalizing g with
  | zero => intro a; exact Rat.mul_nonneg (Rat.natCast_nonneg) (h.nonneg a)
  | succ j ih =>
    intro a
    rw [difQ_step]
    have e : ∀ b : Nat, SineNear.step (fun b => (b:Rat) * g b) b = (fun b : Nat => (b:Rat) * SineNear.step g b) b + (fun b => g (b+1)) b := by
      intro b
      show ((b+1 : Nat) : Rat) * g (b+1) - (b:Rat) * g b = (b:Rat) * (g (b+1) - g b) + g (b+1)
      rw [Rat.natCast_add]; grind
    rw [difQ_congr j e, difQ_add, difQ_shift]
    have h1 := ih h.step a
    have h2 := h j (a+1)
    grind

theorem AM.pow (n : Nat) : AM (fun b => (b:Rat)^n) := by
  induction n with
  | zero => exact AM.one
  | succ n ih =>
    intro j a
    have := ih.times j a
    rwa [difQ_congr j (g := fun b : Nat => (b:Rat)^(n+1)) (fun b => by show (b:Rat) * (b:Rat)^n = (b:Rat)^(n+1); rw [Rat.pow_succ]; grind)] at this

theorem AM.climb {f : Nat → Rat} (h : AM f) (a : Nat) : ∀ k : Nat, (k:Rat) * SineNear.step f a ≤ f (a+k) - f a := by
  intro k
  induction k with
  | zero => have e : ((0:Nat):Rat) = 0 := rfl; show ((0:Nat):Rat) * _ ≤ f a - f a; rw [e]; grind
  | succ k ih =>
    have h1 := h.step.mono a k
    have e : SineNear.step f (a+k) = f (a+(k+1)) - f (a+k) := rfl
    rw [Rat.natCast_add]
    rw [e] at h1
    have : ((1:Nat):Rat) = 1 := rfl
    grind

theorem AM.wide {f : Nat → Rat} (h : AM f) (M : Nat) (j : Nat) : ∀ a, (M:Rat)^j * difQ j f a ≤ f (a+j*M) := by
  induction j generalizing f with
  | zero => intro a; show (M:Rat)^0 * f a ≤ f (a + 0*M); rw [Nat.zero_mul, Nat.add_zero, Rat.pow_zero]; grind
  | succ j ih =>
    intro a
    rw [difQ_step]
    have h1 := ih h.step a
    have h2 := h.climb (a+j*M) M
    have h3 := h.nonneg (a+j*M)
    have h4 : (M:Rat) * ((M:Rat)^j * difQ j (SineNear.step f) a) ≤ (M:Rat) * SineNear.step f (a+j*M) := Rat.mul_le_mul_of_nonneg_left h1 Rat.natCast_nonneg
    rw [show a + (j+1)*M = a+j*M+M from by rw [Nat.add_mul]; omega, Rat.pow_succ]
    grind

/-- an alternating sum, and the sum without signs -/
def alt (t : Nat → Nat → Rat) : Nat → Nat → Rat
  | 0, _ => 0
  | k+1, a => alt t k a + (if k % 2 = 0 then t k a else - t k a)
def tot (t : Nat → Nat → Rat) : Nat → Nat → Rat
  | 0, _ => 0
  | k+1, a => tot t k a + t k a

theorem AM.zero : AM (fun _ => 0) := by
  intro j
  induction j with
  | zero => intro a; exact Rat.le_refl
  | succ j ih =>
    intro a
    rw [difQ_step]
    rw [difQ_congr j (g := fun _ => 0) (fun b => by show (0:Rat) - 0 = 0; grind)]
    exact ih a

theorem AM.tot {t : Nat → Nat → Rat} (h : ∀ k, AM (t k)) : ∀ K, AM (tot t K) := by
  intro K
  induction K with
  | zero => exact AM.zero
  | succ K ih => exact (ih.add (h K))

theorem difQ_zero (j : Nat) : ∀ a, difQ j (fun _ => 0) a = 0 := by
  induction j with
  | zero => intro a; rfl
  | succ j ih => intro a; show difQ j _ (a+1) - difQ j _ a = 0; rw [ih, ih]; grind

theorem alt_le {t : Nat → Nat → Rat} (h : ∀ k, AM (t k)) (j : Nat) : ∀ K a, difQ j (alt t K) a ≤ difQ j (tot t K) a ∧ - difQ j (tot t K) a ≤ difQ j (alt t K) a := by
  intro K
  induction K with
  | zero => intro a; show difQ j (fun _ => 0) a ≤ difQ j (fun _ => 0) a ∧ - difQ j (fun _ => 0) a ≤ difQ j (fun _ => 0) a; rw [difQ_zero]; grind
  | succ K ih =>
    intro a
    have e1 : difQ j (tot t (K+1)) a = difQ j (tot t K) a + difQ j (t K) a := difQ_add j _ _ a
    have h1 := h K j a
    have h2 := ih a
    by_cases hk : K % 2 = 0
    · have e2 : difQ j (alt t (K+1)) a = difQ j (alt t K) a + difQ j (t K) a := by
        rw [← difQ_add]; exact difQ_congr j (fun b => by show alt t K b + (if K % 2 = 0 then t K b else - t K b) = _; rw [if_pos hk]) a
      rw [e1, e2]; grind
    · have e2 : difQ j (alt t (K+1)) a = difQ j (alt t K) a + (-1) * difQ j (t K) a := by
        rw [← difQ_mul, ← difQ_add]; exact difQ_congr j (fun b => by show alt t K b + (if K % 2 = 0 then t K b else - t K b) = _; rw [if_neg hk]; grind) a
      rw [e1, e2]; grind

end SineNear

/- The power series of the sine in 45 digits, and how near it is to the polynomial. -/
namespace SineNear
set_option linter.unusedSimpArgs false
set_option linter.unusedVariables false

def PI45 : Nat := 3141592653589793238462643383279502884197169399
def U : Nat := 1000000000000000000000000000000000000000000000
def term (t sq k : Nat) : Nat := Nat.div (Nat.div (Nat.mul t sq) U) (Nat.mul (Nat.mul 2 k) (Nat.succ (Nat.mul 2 k)))
/-- two terms a round -/
def go (sq : Nat) : Nat → Nat → Nat → Nat → Nat → Nat :=
  fun n => Nat.rec (motive := fun _ => Nat → Nat → Nat → Nat → Nat) (fun _ _ up down => Nat.sub up down)
    (fun _ ih k t up down =>
      (fun t1 => (fun t2 => ih (Nat.add k 2) t2 (Nat.add up t2) (Nat.add down t1)) (term t1 sq (Nat.succ k))) (term t sq k)) n
def refX (a : Nat) : Nat := Nat.div (Nat.mul PI45 a) 180000000
def refQ (a : Nat) : Nat := Nat.div (Nat.mul (refX a) (refX a)) U
def refS (a : Nat) : Nat := go (refQ a) 10 1 (refX a) (refX a) 0
def H (a : Nat) : Nat := Nat.div (Nat.mul (refS a) (2^120)) (10^37)

theorem go_succ (sq n k t up down : Nat) : go sq (n+1) k t up down =
    go sq n (k+2) (term (term t sq k) sq (k+1)) (up + term (term t sq k) sq (k+1)) (down + term t sq k) := rfl
theorem go_zero (sq k t up down : Nat) : go sq 0 k t up down = up - down := rfl

/-- the angle as an arc: a fraction -/
def theta : Rat := (PI45 : Rat) / ((180000000 : Nat) * (U : Rat))
def arc (a : Nat) : Rat := theta * a
def Uq : Rat := 1000000000000000000000000000000000000000000000

theorem Uq_nat : ((U : Nat) : Rat) = Uq := rfl
theorem Uq_pos : 0 < Uq := by decide +kernel

theorem arc_le (a : Nat) (h : a ≤ 90000010) : arc a ≤ 1571/1000 := by
  have h1 : (a:Rat) ≤ ((90000010:Nat):Rat) := Rat.natCast_le_natCast.2 h
  have h2 : theta * (a:Rat) ≤ theta * ((90000010:Nat):Rat) := Rat.mul_le_mul_of_nonneg_left h1 (by decide +kernel)
  have h3 : theta * ((90000010:Nat):Rat) ≤ 1571/1000 := by decide +kernel
  exact Rat.le_trans h2 h3
theorem arc_nonneg (a : Nat) : 0 ≤ arc a := Rat.mul_nonneg (by decide +kernel) Rat.natCast_nonneg

/-- X is the arc, rounded down -/
theorem refX_near (a : Nat) : (refX a : Rat) ≤ Uq * arc a ∧ Uq * arc a - 1 ≤ (refX a : Rat) := by
  have h1 : 180000000 * refX a ≤ PI45 * a := Nat.mul_div_le (PI45 * a) 180000000
  have h2 : PI45 * a ≤ 180000000 * refX a + 180000000 := by
    have := Nat.lt_mul_div_succ (PI45 * a) (show 0 < 180000000 by decide)
    show PI45 * a ≤ 180000000 * (PI45 * a / 180000000) + 180000000
    omega
  have e : Uq * arc a * ((180000000:Nat):Rat) = (PI45:Rat) * a := by
    unfold arc
    have : Uq * theta * ((180000000:Nat):Rat) = (PI45:Rat) := by decide +kernel
    grind
  have h1' : ((180000000 * refX a : Nat) : Rat) ≤ ((PI45 * a : Nat) : Rat) := Rat.natCast_le_natCast.2 h1
  have h2' : ((PI45 * a : Nat) : Rat) ≤ ((180000000 * refX a + 180000000 : Nat) : Rat) := Rat.natCast_le_natCast.2 h2
  rw [Rat.natCast_mul, Rat.natCast_mul, ← e] at h1'
  rw [Rat.natCast_add, Rat.natCast_mul, Rat.natCast_mul, ← e] at h2'
  have c : ((180000000:Nat):Rat) = 180000000 := rfl
  rw [c] at h1' h2'
  constructor <;> grind

theorem refQ_near (a : Nat) (h : a ≤ 90000010) : (refQ a : Rat) ≤ Uq * (arc a * arc a) ∧ Uq * (arc a * arc a) - 5 ≤ (refQ a : Rat) := by
  obtain ⟨x1, x2⟩ := refX_near a
  have ha := arc_le a h
  have ha0 := arc_nonneg a
  have q1 : U * refQ a ≤ refX a * refX a := Nat.mul_div_le (refX a * refX a) U
  have q2 : refX a * refX a ≤ U * refQ a + U := by
    have := Nat.lt_mul_div_succ (refX a * refX a) (show 0 < U by decide)
    show refX a * refX a ≤ U * (refX a * refX a / U) + U
    rw [Nat.mul_add, Nat.mul_one] at this
    omega
  have q1' : ((U * refQ a : Nat) : Rat) ≤ ((refX a * refX a : Nat) : Rat) := Rat.natCast_le_natCast.2 q1
  have q2' : ((refX a * refX a : Nat) : Rat) ≤ ((U * refQ a + U : Nat) : Rat) := Rat.natCast_le_natCast.2 q2
  rw [Rat.natCast_mul, Rat.natCast_mul, Uq_nat] at q1'
  rw [Rat.natCast_add, Rat.natCast_mul, Rat.natCast_mul, Uq_nat] at q2'
  have X0 : 0 ≤ (refX a : Rat) := Rat.natCast_nonneg
  generalize (refX a : Rat) = X at *
  generalize (refQ a : Rat) = Q at *
  generalize arc a = x at *
  have U0 := Uq_pos
  constructor
  · -- U Q ≤ X X ≤ (U x)(U x)
    have s1 : X * X ≤ (Uq * x) * X := Rat.mul_le_mul_of_nonneg_right x1 X0
    have s2 : (Uq * x) * X ≤ (Uq * x) * (Uq * x) := Rat.mul_le_mul_of_nonneg_left x1 (Rat.mul_nonneg (Rat.le_of_lt U0) ha0)
    have s3 : Uq * Q ≤ Uq * (Uq * (x * x)) := by grind
    exact Rat.le_of_mul_le_mul_left s3 U0
  · -- X X ≥ X (U x - 1) ≥ U x (U x - 1) - X ...
    have s1 : X * (Uq * x - 1) ≤ X * X := Rat.mul_le_mul_of_nonneg_left x2 X0
    have s2 : (Uq * x) * (Uq * x - 1) ≤ (Uq * x) * X := Rat.mul_le_mul_of_nonneg_left x2 (Rat.mul_nonneg (Rat.le_of_lt U0) ha0)
    have s4 : Uq * x ≤ Uq * (1571/1000) := Rat.mul_le_mul_of_nonneg_left ha (Rat.le_of_lt U0)
    have s3 : Uq * (Uq * (x * x) - 5) ≤ Uq * Q := by grind
    exact Rat.le_of_mul_le_mul_left s3 U0

/-- one more term: at most 4 units too small, if the one before is -/
theorem term_near (t sq k : Nat) (T x : Rat) (hk : 1 ≤ k) (hx : x ≤ 5/2) (hx0 : 0 ≤ x) (hT0 : 0 ≤ T) (hT : T ≤ 1571/1000)
    (t1 : (t:Rat) ≤ Uq * T) (t2 : Uq * T - 4 ≤ (t:Rat)) (s1 : (sq:Rat) ≤ Uq * x) (s2 : Uq * x - 5 ≤ (sq:Rat))
    (T' : Rat) (hT' : ((2 * k * (2 * k + 1) : Nat) : Rat) * T' = T * x) :
    (term t sq k : Rat) ≤ Uq * T' ∧ Uq * T' - 4 ≤ (term t sq k : Rat) := by
  have hm : 6 ≤ 2 * k * (2 * k + 1) := by
    have := Nat.mul_le_mul (show 2 ≤ 2 * k by omega) (show 3 ≤ 2 * k + 1 by omega)
    omega
  have e : term t sq k = t * sq / (U * (2 * k * (2 * k + 1))) := by
    show t * sq / U / (2 * k * (2 * k + 1)) = _
    rw [Nat.div_div_eq_div_mul]
  generalize 2 * k * (2 * k + 1) = m at *
  have hUm : 0 < U * m := Nat.mul_pos (by decide) (by omega)
  have q1 : U * m * term t sq k ≤ t * sq := by rw [e]; exact Nat.mul_div_le _ _
  have q2 : t * sq ≤ U * m * term t sq k + U * m := by
    have := Nat.lt_mul_div_succ (t * sq) hUm
    rw [Nat.mul_add, Nat.mul_one, ← e] at this
    omega
  have q1' : ((U * m * term t sq k : Nat) : Rat) ≤ ((t * sq : Nat) : Rat) := Rat.natCast_le_natCast.2 q1
  have q2' : ((t * sq : Nat) : Rat) ≤ ((U * m * term t sq k + U * m : Nat) : Rat) := Rat.natCast_le_natCast.2 q2
  rw [Rat.natCast_mul, Rat.natCast_mul, Rat.natCast_mul, Uq_nat] at q1'
  rw [Rat.natCast_add, Rat.natCast_mul, Rat.natCast_mul, Rat.natCast_mul, Uq_nat] at q2'
  have t0 : 0 ≤ (t:Rat) := Rat.natCast_nonneg
  have sq0 : 0 ≤ (sq:Rat) := Rat.natCast_nonneg
  have m6 : (6:Rat) ≤ (m:Rat) := Rat.natCast_le_natCast.2 hm
  generalize (term t sq k : Rat) = t' at *
  generalize (t:Rat) = t at *
  generalize (sq:Rat) = s at *
  generalize (m:Rat) = m at *
  have U0 := Uq_pos
  have Um0 : 0 < Uq * m := Rat.mul_pos U0 (by grind)
  constructor
  · have a1 : t * s ≤ (Uq * T) * s := Rat.mul_le_mul_of_nonneg_right t1 sq0
    have a2 : (Uq * T) * s ≤ (Uq * T) * (Uq * x) := Rat.mul_le_mul_of_nonneg_left s1 (Rat.mul_nonneg (Rat.le_of_lt U0) hT0)
    have e3 : (Uq * m) * (Uq * T') = (Uq * T) * (Uq * x) := by grind
    have a3 : (Uq * m) * t' ≤ (Uq * m) * (Uq * T') := by rw [e3]; exact Rat.le_trans q1' (Rat.le_trans a1 a2)
    exact Rat.le_of_mul_le_mul_left a3 Um0
  · have a1 : t * (Uq * x - 5) ≤ t * s := Rat.mul_le_mul_of_nonneg_left s2 t0
    have a2 : (Uq * x) * (Uq * T - 4) ≤ (Uq * x) * t := Rat.mul_le_mul_of_nonneg_left t2 (Rat.mul_nonneg (Rat.le_of_lt U0) hx0)
    have a4 : Uq * x ≤ Uq * (5/2) := Rat.mul_le_mul_of_nonneg_left hx (Rat.le_of_lt U0)
    have a5 : Uq * T ≤ Uq * (1571/1000) := Rat.mul_le_mul_of_nonneg_left hT (Rat.le_of_lt U0)
    have a6 : Uq * 6 ≤ Uq * m := Rat.mul_le_mul_of_nonneg_left m6 (Rat.le_of_lt U0)
    have e3 : (Uq * m) * (Uq * T' - 4) = (Uq * T) * (Uq * x) - 4 * (Uq * m) := by grind
    have e4 : t * (Uq * x - 5) = t * (Uq * x) - 5 * t := by grind
    have e5 : (Uq * x) * (Uq * T - 4) = (Uq * T) * (Uq * x) - 4 * (Uq * x) := by grind
    have e6 : (Uq * x) * t = t * (Uq * x) := by grind
    rw [e4] at a1
    rw [e5, e6] at a2
    clear hT' e
    generalize (Uq * T) * (Uq * x) = v1 at *
    generalize t * (Uq * x) = v2 at *
    generalize t * s = v3 at *
    have a3 : (Uq * m) * (Uq * T' - 4) ≤ (Uq * m) * t' := by rw [e3]; grind
    exact Rat.le_of_mul_le_mul_left a3 Um0

/-- the terms of the power series -/
def fq : Nat → Rat
  | 0 => 1
  | k+1 => fq k / ((2 * (k+1) * (2 * (k+1) + 1) : Nat) : Rat)
def tq (k a : Nat) : Rat := fq k * arc a ^ (2*k+1)

theorem tq_zero (a : Nat) : tq 0 a = arc a := by show 1 * arc a ^ 1 = arc a; rw [Rat.pow_one]; grind
theorem tq_succ (k a : Nat) : ((2 * (k+1) * (2 * (k+1) + 1) : Nat) : Rat) * tq (k+1) a = tq k a * (arc a * arc a) := by
  have h0 : ((2 * (k+1) * (2 * (k+1) + 1) : Nat) : Rat) ≠ 0 := by
    intro h
    have := Rat.natCast_eq_zero_iff.1 h
    have h1 := Nat.mul_pos (show 0 < 2 * (k+1) by omega) (show 0 < 2 * (k+1) + 1 by omega)
    omega
  have e : ((2 * (k+1) * (2 * (k+1) + 1) : Nat) : Rat) * fq (k+1) = fq k := by
    show _ * (fq k / _) = fq k
    rw [Rat.mul_comm]; exact Rat.div_mul_cancel h0
  have e2 : arc a ^ (2*(k+1)+1) = arc a ^ (2*k+1) * (arc a * arc a) := by
    rw [show 2*(k+1)+1 = 2*k+1+1+1 from by omega, Rat.pow_succ, Rat.pow_succ]; grind
  unfold tq
  rw [e2, ← e]; grind
theorem fq_nonneg (k : Nat) : 0 ≤ fq k := by
  induction k with
  | zero => show (0:Rat) ≤ 1; decide
  | succ k ih =>
    show 0 ≤ fq k / _
    rw [Rat.div_def]
    refine Rat.mul_nonneg ih (Rat.le_of_lt (Rat.inv_pos.2 (Rat.natCast_pos.2 (Nat.mul_pos (by omega) (by omega)))))
theorem tq_nonneg (k a : Nat) : 0 ≤ tq k a := Rat.mul_nonneg (fq_nonneg k) (Rat.pow_nonneg (arc_nonneg a))
theorem arc2_le (a : Nat) (h : a ≤ 90000010) : arc a * arc a ≤ 5/2 := by
  have h1 := arc_le a h
  have h0 := arc_nonneg a
  have h2 : arc a * arc a ≤ arc a * (1571/1000) := Rat.mul_le_mul_of_nonneg_left h1 h0
  grind
theorem tq_le (k a : Nat) (h : a ≤ 90000010) : tq (k+1) a ≤ tq k a := by
  have e := tq_succ k a
  have h2 := arc2_le a h
  have h3 := tq_nonneg k a
  have h5 := tq_nonneg (k+1) a
  have h6 : (6:Rat) ≤ ((2 * (k+1) * (2 * (k+1) + 1) : Nat) : Rat) := by
    have := Nat.mul_le_mul (show 2 ≤ 2 * (k+1) by omega) (show 3 ≤ 2 * (k+1) + 1 by omega)
    exact Rat.natCast_le_natCast.2 (by omega)
  have h7 : tq k a * (arc a * arc a) ≤ tq k a * (5/2) := Rat.mul_le_mul_of_nonneg_left h2 h3
  have h8 : 6 * tq (k+1) a ≤ ((2 * (k+1) * (2 * (k+1) + 1) : Nat) : Rat) * tq (k+1) a := Rat.mul_le_mul_of_nonneg_right h6 h5
  grind
theorem tq_le_all (k a : Nat) (h : a ≤ 90000010) : tq k a ≤ 1571/1000 := by
  induction k with
  | zero => rw [tq_zero]; exact arc_le a h
  | succ k ih => exact Rat.le_trans (tq_le k a h) ih

/-- all rounds -/
theorem go_near (a : Nat) (h : a ≤ 90000010) (n : Nat) : ∀ (k t up down : Nat) (e : Rat), (t:Rat) ≤ Uq * tq (2*k) a → Uq * tq (2*k) a - 4 ≤ (t:Rat) → down + t ≤ up →
    (up:Rat) - (down:Rat) - Uq * alt tq (2*k+1) a ≤ e → Uq * alt tq (2*k+1) a - ((up:Rat) - (down:Rat)) ≤ e →
    (go (refQ a) n (2*k+1) t up down : Rat) - Uq * alt tq (2*(k+n)+1) a ≤ e + 8 * n ∧ Uq * alt tq (2*(k+n)+1) a - (go (refQ a) n (2*k+1) t up down : Rat) ≤ e + 8 * n := by
  induction n with
  | zero =>
    intro k t up down e t1 t2 hd h1 h2
    rw [go_zero]
    have : ((up - down : Nat) : Rat) = (up:Rat) - (down:Rat) := by
      have h : up - down + down = up := by omega
      have h' : ((up - down + down : Nat) : Rat) = (up:Rat) := by rw [h]
      rw [Rat.natCast_add] at h'
      grind
    rw [this]
    have c : ((0:Nat):Rat) = 0 := rfl
    rw [c, Nat.add_zero]
    grind
  | succ n ih =>
    intro k t up down e t1 t2 hd h1 h2
    rw [go_succ]
    obtain ⟨q1, q2⟩ := refQ_near a h
    have x2 := arc2_le a h
    have x0 : 0 ≤ arc a * arc a := Rat.mul_nonneg (arc_nonneg a) (arc_nonneg a)
    obtain ⟨a1, a2⟩ := term_near t (refQ a) (2*k+1) (tq (2*k) a) (arc a * arc a) (by omega) x2 x0 (tq_nonneg _ a) (tq_le_all _ a h) t1 t2 q1 q2 (tq (2*k+1) a) (tq_succ (2*k) a)
    obtain ⟨b1, b2⟩ := term_near (term t (refQ a) (2*k+1)) (refQ a) (2*k+1+1) (tq (2*k+1) a) (arc a * arc a) (by omega) x2 x0 (tq_nonneg _ a) (tq_le_all _ a h) a1 a2 q1 q2 (tq (2*k+1+1) a) (tq_succ (2*k+1) a)
    have l1 : term t (refQ a) (2*k+1) ≤ t := by
      have hq : t * refQ a ≤ t * (6 * U) := by
        refine Nat.mul_le_mul_left _ ?_
        have : (refQ a : Rat) ≤ ((6 * U : Nat) : Rat) := by
          rw [Rat.natCast_mul, Uq_nat]
          have u0 := Uq_pos
          have : Uq * (arc a * arc a) ≤ Uq * (5/2) := Rat.mul_le_mul_of_nonneg_left x2 (Rat.le_of_lt u0)
          have c : ((6:Nat):Rat) = 6 := rfl
          rw [c]
          grind
        exact Rat.natCast_le_natCast.1 this
      show t * refQ a / U / (2 * (2*k+1) * (2 * (2*k+1) + 1)) ≤ t
      have hm : 6 ≤ 2 * (2*k+1) * (2 * (2*k+1) + 1) := by
        have := Nat.mul_le_mul (show 2 ≤ 2 * (2*k+1) by omega) (show 3 ≤ 2 * (2*k+1) + 1 by omega)
        omega
      have h1 : t * refQ a / U ≤ 6 * t := by
        refine Nat.div_le_of_le_mul ?_
        have : U * (6 * t) = t * (6 * U) := by rw [Nat.mul_comm t, Nat.mul_assoc, Nat.mul_left_comm]
        rw [this]; exact hq
      refine Nat.div_le_of_le_mul ?_
      exact Nat.le_trans h1 (Nat.mul_le_mul_right _ hm)
    generalize term t (refQ a) (2*k+1) = u1 at *
    generalize hu2 : term u1 (refQ a) (2*k+1+1) = u2 at *
    have s1 : alt tq (2*k+1+1) a = alt tq (2*k+1) a - tq (2*k+1) a := by
      show alt tq (2*k+1) a + (if (2*k+1) % 2 = 0 then tq (2*k+1) a else - tq (2*k+1) a) = _
      rw [if_neg (by omega)]; grind
    have s2 : alt tq (2*k+1+1+1) a = alt tq (2*k+1+1) a + tq (2*k+1+1) a := by
      show alt tq (2*k+1+1) a + (if (2*k+1+1) % 2 = 0 then tq (2*k+1+1) a else - tq (2*k+1+1) a) = _
      rw [if_pos (by omega)]
    have := ih (k+1) u2 (up + u2) (down + u1) (e+8) (by rw [show 2*(k+1) = 2*k+1+1 from by omega]; exact b1) (by rw [show 2*(k+1) = 2*k+1+1 from by omega]; exact b2) (by omega)
      (by rw [show 2*(k+1)+1 = 2*k+1+1+1 from by omega, s2, s1, Rat.natCast_add, Rat.natCast_add]; grind)
      (by rw [show 2*(k+1)+1 = 2*k+1+1+1 from by omega, s2, s1, Rat.natCast_add, Rat.natCast_add]; grind)
    rw [show 2*(k+1)+1 = 2*k+1+2 from by omega, show k+1+n = k+(n+1) from by omega] at this
    have c : ((n+1:Nat):Rat) = (n:Rat) + 1 := by rw [Rat.natCast_add]; rfl
    rw [c]
    constructor <;> grind

def P (a : Nat) : Rat := alt tq 21 a

theorem refS_near (a : Nat) (h : a ≤ 90000010) : (refS a : Rat) - Uq * P a ≤ 84 ∧ Uq * P a - (refS a : Rat) ≤ 84 := by
  obtain ⟨x1, x2⟩ := refX_near a
  have s1 : alt tq (2*0+1) a = arc a := by
    show 0 + (if 0 % 2 = 0 then tq 0 a else - tq 0 a) = _
    rw [if_pos rfl, tq_zero]; grind
  have c : ((0:Nat):Rat) = 0 := rfl
  have := go_near a h 10 0 (refX a) (refX a) 0 4 (by rw [show 2*0 = 0 from rfl, tq_zero]; exact x1) (by rw [show 2*0 = 0 from rfl, tq_zero]; grind) (by omega) (by rw [s1, c]; grind) (by rw [s1, c]; grind)
  have c10 : ((10:Nat):Rat) = 10 := rfl
  rw [c10] at this
  have e : refS a = go (refQ a) 10 (2*0+1) (refX a) (refX a) 0 := rfl
  rw [e]
  unfold P
  rw [show 2*(0+10)+1 = 21 from rfl] at this
  constructor <;> grind
end SineNear

/- The series is smooth: its fifth differences are small. -/
namespace SineNear
set_option linter.unusedSimpArgs false
set_option linter.unusedVariables false

theorem AM.congr {f g : Nat → Rat} (h : AM f) (e : ∀ a, f a = g a) : AM g := fun j a => by rw [← difQ_congr j e]; exact h j a

theorem tq_am (k : Nat) : AM (tq k) := by
  have h0 : 0 ≤ fq k * theta ^ (2*k+1) := Rat.mul_nonneg (fq_nonneg k) (Rat.pow_nonneg (by decide +kernel))
  refine ((AM.pow (2*k+1)).scale h0).congr fun a => ?_
  show fq k * theta ^ (2*k+1) * (a:Rat) ^ (2*k+1) = fq k * (theta * a) ^ (2*k+1)
  have : ∀ n : Nat, (theta * (a:Rat))^n = theta^n * (a:Rat)^n := by
    intro n
    induction n with
    | zero => rw [Rat.pow_zero, Rat.pow_zero, Rat.pow_zero]; grind
    | succ n ih => rw [Rat.pow_succ, Rat.pow_succ, Rat.pow_succ, ih]; grind
  rw [this]; grind

theorem tot_am : AM (tot tq 21) := AM.tot tq_am 21

def M : Nat := 57295780

theorem tot_five (a : Nat) (h : a ≤ 90000000) : difQ 5 (tot tq 21) a ≤ 361 / (M:Rat)^5 := by
  have h1 := tot_am.wide M 5 a
  have h2 := tot_am.mono (a+5*M) (90000000 - a)
  rw [show a+5*M+(90000000-a) = 90000000+5*M from by omega] at h2
  have h3 : tot tq 21 (90000000+5*M) ≤ 361 := by decide +kernel
  have h4 : (0:Rat) < (M:Rat)^5 := by decide +kernel
  have h5 : (M:Rat)^5 * difQ 5 (tot tq 21) a ≤ 361 := by grind
  have h6 : (M:Rat)^5 * (361 / (M:Rat)^5) = 361 := by rw [Rat.mul_comm, Rat.div_mul_cancel (by grind)]
  exact Rat.le_of_mul_le_mul_left (by rw [h6]; exact h5) h4
theorem tot_one (a : Nat) (h : a ≤ 90000000) : difQ 1 (tot tq 21) a ≤ 7 / (M:Rat) := by
  have h1 := tot_am.wide M 1 a
  have h2 := tot_am.mono (a+1*M) (90000000 - a)
  rw [show a+1*M+(90000000-a) = 90000000+1*M from by omega] at h2
  have h3 : tot tq 21 (90000000+1*M) ≤ 7 := by decide +kernel
  have h4 : (0:Rat) < (M:Rat) := by decide +kernel
  have h5 : (M:Rat) * difQ 1 (tot tq 21) a ≤ 7 := by rw [Rat.pow_one] at h1; grind
  have h6 : (M:Rat) * (7 / (M:Rat)) = 7 := by rw [Rat.mul_comm, Rat.div_mul_cancel (by grind)]
  exact Rat.le_of_mul_le_mul_left (by rw [h6]; exact h5) h4
theorem tot_size (a : Nat) (h : a ≤ 90000000) : tot tq 21 a ≤ 3 := by
  have h2 := tot_am.mono a (90000000 - a)
  rw [show a+(90000000-a) = 90000000 from by omega] at h2
  have h3 : tot tq 21 90000000 ≤ 3 := by decide +kernel
  grind

def cq : Rat := 2^120 * 100000000

theorem H_near (a : Nat) (h : a ≤ 90000010) : (hI H a : Rat) - cq * P a ≤ 13 ∧ cq * P a - (hI H a : Rat) ≤ 13 := by
  obtain ⟨s1, s2⟩ := refS_near a h
  have q1 : 10^37 * H a ≤ refS a * 2^120 := Nat.mul_div_le (refS a * 2^120) (10^37)
  have q2 : refS a * 2^120 ≤ 10^37 * H a + 10^37 := by
    have := Nat.lt_mul_div_succ (refS a * 2^120) (show 0 < 10^37 by decide)
    have e : H a = refS a * 2^120 / 10^37 := rfl
    rw [Nat.mul_add, Nat.mul_one, ← e] at this
    omega
  have q1' : ((10^37 * H a : Nat) : Rat) ≤ ((refS a * 2^120 : Nat) : Rat) := Rat.natCast_le_natCast.2 q1
  have q2' : ((refS a * 2^120 : Nat) : Rat) ≤ ((10^37 * H a + 10^37 : Nat) : Rat) := Rat.natCast_le_natCast.2 q2
  rw [Rat.natCast_mul, Rat.natCast_mul] at q1'
  rw [Rat.natCast_add, Rat.natCast_mul, Rat.natCast_mul] at q2'
  have e : (hI H a : Rat) = ((H a : Nat) : Rat) := rfl
  rw [e]
  have c1 : ((10^37 : Nat) : Rat) = 10000000000000000000000000000000000000 := by decide +kernel
  have c2 : ((2^120 : Nat) : Rat) = 1329227995784915872903807060280344576 := by decide +kernel
  have c3 : cq = 132922799578491587290380706028034457600000000 := by decide +kernel
  have c4 : Uq = 1000000000000000000000000000000000000000000000 := rfl
  rw [c1, c2] at q1' q2'
  rw [c4] at s1 s2
  rw [c3]
  generalize (refS a : Rat) = r at *
  generalize ((H a : Nat) : Rat) = g at *
  generalize P a = p at *
  constructor <;> grind

theorem dif_cast (j : Nat) (f : Nat → Int) : ∀ a, ((dif j f a : Int) : Rat) = difQ j (fun b => (f b : Rat)) a := by
  induction j with
  | zero => intro a; rfl
  | succ j ih =>
    intro a
    show ((dif j f (a+1) - dif j f a : Int) : Rat) = difQ j _ (a+1) - difQ j _ a
    rw [Rat.intCast_sub, ih, ih]

theorem difQ_near (j : Nat) (f g : Nat → Rat) (e : Rat) : ∀ a, (∀ b, a ≤ b → b ≤ a+j → f b - g b ≤ e ∧ g b - f b ≤ e) →
    difQ j f a - difQ j g a ≤ 2^j * e ∧ difQ j g a - difQ j f a ≤ 2^j * e := by
  induction j with
  | zero => intro a h; have := h a (by omega) (by omega); rw [Rat.pow_zero]; show f a - g a ≤ 1 * e ∧ g a - f a ≤ 1 * e; grind
  | succ j ih =>
    intro a h
    have h1 := ih (a+1) (fun b hb hb2 => h b (by omega) (by omega))
    have h2 := ih a (fun b hb hb2 => h b (by omega) (by omega))
    show (difQ j f (a+1) - difQ j f a) - (difQ j g (a+1) - difQ j g a) ≤ _ ∧ (difQ j g (a+1) - difQ j g a) - (difQ j f (a+1) - difQ j f a) ≤ _
    rw [Rat.pow_succ]
    have e2 : (2:Rat)^j * 2 * e = 2^j * e + 2^j * e := by grind
    rw [e2]
    grind

theorem cq_pos : 0 < cq := by decide +kernel

theorem smooth : Smooth H 90000000 := by
  refine ⟨?_, ?_, ?_⟩
  · intro a h
    have h1 := difQ_near 5 (fun b => (hI H b : Rat)) (fun b => cq * P b) 13 a (fun b _ hb => H_near b (by omega))
    rw [← dif_cast, difQ_mul] at h1
    have h2 := alt_le tq_am 5 21 a
    have h3 := tot_five a h
    have e : difQ 5 (alt tq 21) a = difQ 5 P a := rfl
    rw [e] at h2
    have h4 : cq * difQ 5 P a ≤ cq * (361 / (M:Rat)^5) := Rat.mul_le_mul_of_nonneg_left (by grind) (Rat.le_of_lt cq_pos)
    have h5 : cq * (-(361 / (M:Rat)^5)) ≤ cq * difQ 5 P a := Rat.mul_le_mul_of_nonneg_left (by grind) (Rat.le_of_lt cq_pos)
    have h6 : cq * (361 / (M:Rat)^5) + 2^5 * 13 ≤ 134217728 := by decide +kernel
    have c5 : (2:Rat)^5 * 13 = 416 := by decide +kernel
    rw [c5] at h1 h6
    have u : ((dif 5 (hI H) a : Int) : Rat) ≤ ((134217728 : Int) : Rat) := by
      show _ ≤ (134217728:Rat)
      grind
    have l : ((-134217728 : Int) : Rat) ≤ ((dif 5 (hI H) a : Int) : Rat) := by
      show (-134217728:Rat) ≤ _
      grind
    exact ⟨Rat.intCast_le_intCast.1 u, Rat.intCast_le_intCast.1 l⟩
  · intro a h
    have h1 := difQ_near 1 (fun b => (hI H b : Rat)) (fun b => cq * P b) 13 a (fun b _ hb => H_near b (by omega))
    rw [← dif_cast, difQ_mul] at h1
    have h2 := alt_le tq_am 1 21 a
    have h3 := tot_one a h
    have e : difQ 1 (alt tq 21) a = difQ 1 P a := rfl
    rw [e] at h2
    have h4 : cq * difQ 1 P a ≤ cq * (7 / (M:Rat)) := Rat.mul_le_mul_of_nonneg_left (by grind) (Rat.le_of_lt cq_pos)
    have h5 : cq * (-(7 / (M:Rat))) ≤ cq * difQ 1 P a := Rat.mul_le_mul_of_nonneg_left (by grind) (Rat.le_of_lt cq_pos)
    have h6 : cq * (7 / (M:Rat)) + 2^1 * 13 ≤ 42535295865117307932921825928971026432 := by decide +kernel
    have c5 : (2:Rat)^1 * 13 = 26 := by decide +kernel
    rw [c5] at h1 h6
    have e1 := dif1 (hI H) a
    have u : ((dif 1 (hI H) a : Int) : Rat) ≤ ((42535295865117307932921825928971026432 : Int) : Rat) := by
      show _ ≤ (42535295865117307932921825928971026432:Rat)
      grind
    have l : ((-42535295865117307932921825928971026432 : Int) : Rat) ≤ ((dif 1 (hI H) a : Int) : Rat) := by
      show (-42535295865117307932921825928971026432:Rat) ≤ _
      grind
    have u' := Rat.intCast_le_intCast.1 u
    have l' := Rat.intCast_le_intCast.1 l
    rw [e1] at u' l'
    omega
  · intro a h
    have h1 := H_near a (by omega)
    have h2 := alt_le tq_am 0 21 a
    have h3 := tot_size a h
    have e : difQ 0 (alt tq 21) a = P a := rfl
    have e' : difQ 0 (tot tq 21) a = tot tq 21 a := rfl
    rw [e, e'] at h2
    have h4 : cq * P a ≤ cq * 3 := Rat.mul_le_mul_of_nonneg_left (by grind) (Rat.le_of_lt cq_pos)
    have h6 : cq * 3 + 13 ≤ 713623846352979940529142984724747568191373311 := by decide +kernel
    have u : ((hI H a : Int) : Rat) ≤ ((713623846352979940529142984724747568191373311 : Int) : Rat) := by
      show _ ≤ (713623846352979940529142984724747568191373311:Rat)
      grind
    have u' := Rat.intCast_le_intCast.1 u
    unfold hI at u'
    omega
end SineNear

/- No sine of the angles is near a multiple of a hundred-millionth, but for three; and they rise. -/
namespace SineNear
set_option linter.unusedSimpArgs false
set_option linter.unusedVariables false

theorem run0 : chunk H 1 500 8192 = true := by decide +kernel
theorem run1 : chunk H 4096001 500 8192 = true := by decide +kernel
theorem run2 : chunk H 8192001 500 8192 = true := by decide +kernel
theorem run3 : chunk H 12288001 500 8192 = true := by decide +kernel
theorem run4 : chunk H 16384001 500 8192 = true := by decide +kernel
theorem run5 : chunk H 20480001 500 8192 = true := by decide +kernel
theorem run6 : chunk H 24576001 500 8192 = true := by decide +kernel
theorem run7 : chunk H 28672001 162 8192 = true := by decide +kernel
theorem run8 : chunk H 29991808 1 8192 = true := by decide +kernel
theorem run9 : chunk H 30000001 500 8192 = true := by decide +kernel
theorem run10 : chunk H 34096001 500 8192 = true := by decide +kernel
theorem run11 : chunk H 38192001 500 8192 = true := by decide +kernel
theorem run12 : chunk H 42288001 500 8192 = true := by decide +kernel
theorem run13 : chunk H 46384001 500 8192 = true := by decide +kernel
theorem run14 : chunk H 50480001 500 8192 = true := by decide +kernel
theorem run15 : chunk H 54576001 500 8192 = true := by decide +kernel
theorem run16 : chunk H 58672001 500 8192 = true := by decide +kernel
theorem run17 : chunk H 62768001 500 8192 = true := by decide +kernel
theorem run18 : chunk H 66864001 500 8192 = true := by decide +kernel
theorem run19 : chunk H 70960001 500 8192 = true := by decide +kernel
theorem run20 : chunk H 75056001 500 8192 = true := by decide +kernel
theorem run21 : chunk H 79152001 500 8192 = true := by decide +kernel
theorem run22 : chunk H 83248001 500 8192 = true := by decide +kernel
theorem run23 : chunk H 87344001 323 8192 = true := by decide +kernel
theorem run24 : chunk H 89983600 2 8192 = true := by decide +kernel

def Near (a : Nat) : Prop := 2^89 ≤ H a % 2^120 ∧ H a % 2^120 + 2^89 ≤ 2^120 ∧ H a + 2^89 ≤ H (a+1)

theorem near_of (start n : Nat) (h : chunk H start n 8192 = true) (ht : start + 8192 * n ≤ 90000000) (a : Nat) (h1 : start ≤ a) (h2 : a < start + 8192 * n) : Near a := by
  have e : start + 8192 * ((a - start) / 8192) + (a - start) % 8192 = a := by omega
  have := chunk_says H start n 8192 90000000 (by decide) smooth h ((a - start) / 8192) ((a - start) % 8192) (by omega) (by omega) (by omega)
  rw [e] at this
  exact this

def nearB (a : Nat) : Bool := both (Nat.ble (2^89) (H a % 2^120)) (both (Nat.ble (H a % 2^120 + 2^89) (2^120)) (Nat.ble (H a + 2^89) (H (a+1))))
theorem nearB_says (a : Nat) (h : nearB a = true) : Near a := by
  obtain ⟨h1, h⟩ := both_says h
  obtain ⟨h2, h3⟩ := both_says h
  exact ⟨Nat.le_of_ble_eq_true h1, Nat.le_of_ble_eq_true h2, Nat.le_of_ble_eq_true h3⟩
theorem last16 : allB (fun i => nearB (89999984 + i)) 16 = true := by decide +kernel

theorem near (a : Nat) (h0 : 0 < a) (h1 : a < 90000000) (h2 : a ≠ 30000000) : Near a := by
  by_cases c0 : a < 4096001 ∧ 1 ≤ a
  · exact near_of 1 500 run0 (by decide) a c0.2 c0.1
  by_cases c1 : a < 8192001 ∧ 4096001 ≤ a
  · exact near_of 4096001 500 run1 (by decide) a c1.2 c1.1
  by_cases c2 : a < 12288001 ∧ 8192001 ≤ a
  · exact near_of 8192001 500 run2 (by decide) a c2.2 c2.1
  by_cases c3 : a < 16384001 ∧ 12288001 ≤ a
  · exact near_of 12288001 500 run3 (by decide) a c3.2 c3.1
  by_cases c4 : a < 20480001 ∧ 16384001 ≤ a
  · exact near_of 16384001 500 run4 (by decide) a c4.2 c4.1
  by_cases c5 : a < 24576001 ∧ 20480001 ≤ a
  · exact near_of 20480001 500 run5 (by decide) a c5.2 c5.1
  by_cases c6 : a < 28672001 ∧ 24576001 ≤ a
  · exact near_of 24576001 500 run6 (by decide) a c6.2 c6.1
  by_cases c7 : a < 29999105 ∧ 28672001 ≤ a
  · exact near_of 28672001 162 run7 (by decide) a c7.2 c7.1
  by_cases c8 : a < 30000000 ∧ 29991808 ≤ a
  · exact near_of 29991808 1 run8 (by decide) a c8.2 c8.1
  by_cases c9 : a < 34096001 ∧ 30000001 ≤ a
  · exact near_of 30000001 500 run9 (by decide) a c9.2 c9.1
  by_cases c10 : a < 38192001 ∧ 34096001 ≤ a
  · exact near_of 34096001 500 run10 (by decide) a c10.2 c10.1
  by_cases c11 : a < 42288001 ∧ 38192001 ≤ a
  · exact near_of 38192001 500 run11 (by decide) a c11.2 c11.1
  by_cases c12 : a < 46384001 ∧ 42288001 ≤ a
  · exact near_of 42288001 500 run12 (by decide) a c12.2 c12.1
  by_cases c13 : a < 50480001 ∧ 46384001 ≤ a
  · exact near_of 46384001 500 run13 (by decide) a c13.2 c13.1
  by_cases c14 : a < 54576001 ∧ 50480001 ≤ a
  · exact near_of 50480001 500 run14 (by decide) a c14.2 c14.1
  by_cases c15 : a < 58672001 ∧ 54576001 ≤ a
  · exact near_of 54576001 500 run15 (by decide) a c15.2 c15.1
  by_cases c16 : a < 62768001 ∧ 58672001 ≤ a
  · exact near_of 58672001 500 run16 (by decide) a c16.2 c16.1
  by_cases c17 : a < 66864001 ∧ 62768001 ≤ a
  · exact near_of 62768001 500 run17 (by decide) a c17.2 c17.1
  by_cases c18 : a < 70960001 ∧ 66864001 ≤ a
  · exact near_of 66864001 500 run18 (by decide) a c18.2 c18.1
  by_cases c19 : a < 75056001 ∧ 70960001 ≤ a
  · exact near_of 70960001 500 run19 (by decide) a c19.2 c19.1
  by_cases c20 : a < 79152001 ∧ 75056001 ≤ a
  · exact near_of 75056001 500 run20 (by decide) a c20.2 c20.1
  by_cases c21 : a < 83248001 ∧ 79152001 ≤ a
  · exact near_of 79152001 500 run21 (by decide) a c21.2 c21.1
  by_cases c22 : a < 87344001 ∧ 83248001 ≤ a
  · exact near_of 83248001 500 run22 (by decide) a c22.2 c22.1
  by_cases c23 : a < 89990017 ∧ 87344001 ≤ a
  · exact near_of 87344001 323 run23 (by decide) a c23.2 c23.1
  by_cases c24 : a < 89999984 ∧ 89983600 ≤ a
  · exact near_of 89983600 2 run24 (by decide) a c24.2 c24.1
  · have := nearB_says (89999984 + (a - 89999984)) (allB_says _ 16 last16 (a - 89999984) (by omega))
    rwa [show 89999984 + (a - 89999984) = a from by omega] at this

theorem rise (a : Nat) (h1 : a < 90000000) : H a + 2^89 ≤ H (a+1) := by
  by_cases h0 : a = 0
  · subst h0; decide +kernel
  · by_cases h2 : a = 30000000
    · subst h2; decide +kernel
    · exact (near a (by omega) h1 h2).2.2
theorem rises (a b : Nat) (h : a < b) (hb : b ≤ 90000000) : H a + 2^89 ≤ H b := by
  induction b with
  | zero => omega
  | succ b ih =>
    have := rise b (by omega)
    by_cases e : a = b
    · subst e; exact this
    · have := ih (by omega) (by omega)
      omega
theorem at30 : H 30000000 + 15 ≥ 50000000 * 2^120 ∧ H 30000000 ≤ 50000000 * 2^120 + 15 := by decide +kernel
theorem at90 : H 90000000 + 15 ≥ 100000000 * 2^120 ∧ H 90000000 ≤ 100000000 * 2^120 + 15 := by decide +kernel
theorem at0 : H 0 = 0 := by decide +kernel
end SineNear

/- The code's series, and how near it is to the polynomial. -/
namespace SineNear
set_option linter.unusedSimpArgs false
set_option linter.unusedVariables false

/-- the series: its rounds -/
def cLoop (sq : Int) : Nat → Int
  | 0 => 9223372036854775808
  | i+1 => 9223372036854775808 - sq * cLoop sq i / 9223372036854775808 / ((12 - i) * (2 * (12 - i) + 1))
def cX (a : Int) : Int := a * 10803064813898918630 / 67108864
def cQ (a : Int) : Int := cX a * cX a / 18446744073709551616
def cSeries (a : Int) : Int := cX a * cLoop (cQ a) 12 / 9223372036854775808

theorem cX_bd (a : Int) (h0 : 0 ≤ a) (h1 : a ≤ 90000000) : 0 ≤ cX a ∧ cX a ≤ 14488038916154245685 := by unfold cX; omega
theorem cQ_bd (a : Int) (h0 : 0 ≤ a) (h1 : a ≤ 90000000) : 0 ≤ cQ a ∧ cQ a ≤ 11378889920000000000 := by
  obtain ⟨x0, x1⟩ := cX_bd a h0 h1
  have h := Int.mul_le_mul x1 x1 x0 (by omega)
  have h2 := Int.mul_nonneg x0 x0
  unfold cQ; omega
theorem cLoop_bd (sq : Int) (h0 : 0 ≤ sq) (h1 : sq ≤ 11378889920000000000) (i : Nat) (hi : i ≤ 12) : 0 ≤ cLoop sq i ∧ cLoop sq i ≤ 9223372036854775808 := by
  induction i with
  | zero => show (0:Int) ≤ 9223372036854775808 ∧ (9223372036854775808:Int) ≤ 9223372036854775808; omega
  | succ i ih =>
    obtain ⟨a, b⟩ := ih (by omega)
    have m1 := Int.mul_le_mul h1 b a (by omega)
    have m0 := Int.mul_nonneg h0 a
    show 0 ≤ 9223372036854775808 - sq * cLoop sq i / 9223372036854775808 / ((12 - i) * (2 * (12 - i) + 1)) ∧ 9223372036854775808 - sq * cLoop sq i / 9223372036854775808 / ((12 - i) * (2 * (12 - i) + 1)) ≤ 9223372036854775808
    have hd : (3:Int) ≤ (12 - i) * (2 * (12 - i) + 1) := by
      have := Int.mul_le_mul (show (1:Int) ≤ 12 - i by omega) (show (3:Int) ≤ 2 * (12 - i) + 1 by omega) (by omega) (by omega)
      omega
    generalize ((12 - i) * (2 * (12 - i) + 1) : Int) = d at *
    generalize sq * cLoop sq i = t at *
    have t0 : 0 ≤ t / 9223372036854775808 := by omega
    have t1 : t / 9223372036854775808 ≤ 11378889920000000000 := by omega
    generalize t / 9223372036854775808 = u at *
    have q0 : 0 ≤ u / d := Int.ediv_nonneg t0 (by omega)
    have q1 : u / d * d ≤ u := Int.ediv_mul_le u (by omega)
    have q2 : u / d * 3 ≤ u / d * d := Int.mul_le_mul_of_nonneg_left hd q0
    omega

/-- a quotient, rounded down, as fractions -/
theorem div_near (y d : Int) (hd : 0 < d) : (d:Rat) * ((y / d : Int) : Rat) ≤ (y:Rat) ∧ (y:Rat) ≤ (d:Rat) * ((y / d : Int) : Rat) + (d:Rat) := by
  have h1 : d * (y / d) ≤ y := Int.mul_ediv_self_le (by omega)
  have h2 : y ≤ d * (y / d) + d := Int.le_of_lt (Int.lt_mul_ediv_self_add hd)
  have h1' : ((d * (y / d) : Int) : Rat) ≤ (y : Rat) := Rat.intCast_le_intCast.2 h1
  have h2' : (y : Rat) ≤ ((d * (y / d) + d : Int) : Rat) := Rat.intCast_le_intCast.2 h2
  rw [Rat.intCast_mul] at h1'
  rw [Rat.intCast_add, Rat.intCast_mul] at h2'
  exact ⟨h1', h2'⟩

def Zq : Rat := 9223372036854775808

theorem cX_near (n : Nat) (h : n ≤ 90000000) : (cX n : Rat) - Zq * arc n ≤ 17/10 ∧ Zq * arc n - (cX n : Rat) ≤ 17/10 := by
  obtain ⟨h1, h2⟩ := div_near ((n:Int) * 10803064813898918630) 67108864 (by decide)
  have e : ((67108864 : Int) : Rat) = 67108864 := rfl
  have e2 : (((n:Int) * 10803064813898918630 : Int) : Rat) = (n:Rat) * 10803064813898918630 := by rw [Rat.intCast_mul]; rfl
  rw [e, e2] at h1 h2
  have hn0 : (0:Rat) ≤ (n:Rat) := Rat.natCast_nonneg
  have hn : (n:Rat) ≤ 90000000 := Rat.natCast_le_natCast.2 h
  have k1 : (10803064813898918630 - 67108864 * Zq * theta : Rat) ≤ 1/2 := by decide +kernel
  have k2 : (67108864 * Zq * theta - 10803064813898918630 : Rat) ≤ 1/2 := by decide +kernel
  have m1 : (n:Rat) * (10803064813898918630 - 67108864 * Zq * theta) ≤ (n:Rat) * (1/2) := Rat.mul_le_mul_of_nonneg_left k1 hn0
  have m2 : (n:Rat) * (67108864 * Zq * theta - 10803064813898918630) ≤ (n:Rat) * (1/2) := Rat.mul_le_mul_of_nonneg_left k2 hn0
  have ec : ((cX n : Int) : Rat) = (((n:Int) * 10803064813898918630 / 67108864 : Int) : Rat) := rfl
  rw [ec]
  generalize (((n:Int) * 10803064813898918630 / 67108864 : Int) : Rat) = X at *
  have ea : (n:Rat) * (67108864 * Zq * theta) = 67108864 * (Zq * arc n) := by unfold arc; grind
  have m1' : (n:Rat) * 10803064813898918630 - 67108864 * (Zq * arc n) ≤ (n:Rat) * (1/2) := by rw [← ea]; grind
  have m2' : 67108864 * (Zq * arc n) - (n:Rat) * 10803064813898918630 ≤ (n:Rat) * (1/2) := by rw [← ea]; grind
  generalize Zq * arc n = z at *
  constructor <;> grind

theorem cQ_near (n : Nat) (h : n ≤ 90000000) : (cQ n : Rat) - Zq / 2 * (arc n * arc n) ≤ 4 ∧ Zq / 2 * (arc n * arc n) - (cQ n : Rat) ≤ 4 := by
  obtain ⟨x1, x2⟩ := cX_near n h
  obtain ⟨h1, h2⟩ := div_near (cX n * cX n) 18446744073709551616 (by decide)
  have ha := arc_le n (by omega)
  have ha0 := arc_nonneg n
  obtain ⟨b0, _⟩ := cX_bd n (by omega) (by omega)
  have b0' : (0:Rat) ≤ (cX n : Rat) := Rat.intCast_le_intCast.2 b0
  have e : ((18446744073709551616 : Int) : Rat) = 2 * Zq := by decide +kernel
  rw [e, Rat.intCast_mul] at h1 h2
  have ec : ((cQ n : Int) : Rat) = ((cX n * cX n / 18446744073709551616 : Int) : Rat) := rfl
  rw [ec]
  have Z0 : (0:Rat) < Zq := by decide +kernel
  generalize ((cX n * cX n / 18446744073709551616 : Int) : Rat) = Q at *
  generalize (cX n : Rat) = X at *
  generalize arc n = x at *
  -- X X - (Z x)(Z x) = (X - Z x) X + (Z x)(X - Z x)
  have u1 : (X - Zq * x) * X ≤ 17/10 * X := Rat.mul_le_mul_of_nonneg_right x1 b0'
  have zx0 : 0 ≤ Zq * x := Rat.mul_nonneg (Rat.le_of_lt Z0) ha0
  have u2 : (Zq * x) * (X - Zq * x) ≤ (Zq * x) * (17/10) := Rat.mul_le_mul_of_nonneg_left x1 zx0
  have v1 : (Zq * x - X) * X ≤ 17/10 * X := Rat.mul_le_mul_of_nonneg_right x2 b0'
  have v2 : (Zq * x) * (Zq * x - X) ≤ (Zq * x) * (17/10) := Rat.mul_le_mul_of_nonneg_left x2 zx0
  have s1 : X * X - (Zq * x) * (Zq * x) ≤ 17/10 * (X + Zq * x) := by grind
  have s2 : (Zq * x) * (Zq * x) - X * X ≤ 17/10 * (X + Zq * x) := by grind
  have w1 : Zq * x ≤ Zq * (1571/1000) := Rat.mul_le_mul_of_nonneg_left ha (Rat.le_of_lt Z0)
  have w2 : X + Zq * x ≤ Zq * (31421/10000) := by
    have : (17/10 : Rat) ≤ Zq * (1/10000) := by decide +kernel
    grind
  have e3 : 2 * Zq * (Zq / 2 * (x * x)) = (Zq * x) * (Zq * x) := by grind
  constructor
  · refine Rat.le_of_mul_le_mul_left (c := 2 * Zq) ?_ (by grind)
    have : 2 * Zq * (Q - Zq / 2 * (x * x)) = 2 * Zq * Q - (Zq * x) * (Zq * x) := by rw [← e3]; grind
    rw [this]
    generalize (Zq * x) * (Zq * x) = p at *
    generalize X * X = q at *
    grind
  · refine Rat.le_of_mul_le_mul_left (c := 2 * Zq) ?_ (by grind)
    have : 2 * Zq * (Zq / 2 * (x * x) - Q) = (Zq * x) * (Zq * x) - 2 * Zq * Q := by rw [← e3]; grind
    rw [this]
    generalize (Zq * x) * (Zq * x) = p at *
    generalize X * X = q at *
    grind

/-- the nested factors -/
def nq (a : Nat) : Nat → Nat → Rat
  | _, 0 => 1
  | k, f+1 => 1 - arc a * arc a / ((2 * k * (2 * k + 1) : Nat) : Rat) * nq a (k+1) f

theorem nq_bd (a : Nat) (h : a ≤ 90000000) (f : Nat) : ∀ k, 1 ≤ k → 0 ≤ nq a k f ∧ nq a k f ≤ 1 := by
  induction f with
  | zero => intro k _; show (0:Rat) ≤ 1 ∧ (1:Rat) ≤ 1; decide
  | succ f ih =>
    intro k hk
    obtain ⟨i0, i1⟩ := ih (k+1) (by omega)
    show 0 ≤ 1 - arc a * arc a / ((2 * k * (2 * k + 1) : Nat) : Rat) * nq a (k+1) f ∧ 1 - arc a * arc a / ((2 * k * (2 * k + 1) : Nat) : Rat) * nq a (k+1) f ≤ 1
    have x2 := arc2_le a (by omega)
    have x0 : 0 ≤ arc a * arc a := Rat.mul_nonneg (arc_nonneg a) (arc_nonneg a)
    have hm : 6 ≤ 2 * k * (2 * k + 1) := by
      have := Nat.mul_le_mul (show 2 ≤ 2 * k by omega) (show 3 ≤ 2 * k + 1 by omega)
      omega
    have m6 : (6:Rat) ≤ ((2 * k * (2 * k + 1) : Nat) : Rat) := Rat.natCast_le_natCast.2 hm
    generalize ((2 * k * (2 * k + 1) : Nat) : Rat) = m at *
    generalize arc a * arc a = y at *
    generalize nq a (k+1) f = n at *
    have c0 : 0 ≤ y / m := by rw [Rat.div_def]; exact Rat.mul_nonneg x0 (Rat.le_of_lt (Rat.inv_pos.2 (by grind)))
    have c1 : y / m * m = y := Rat.div_mul_cancel (by grind)
    have c2 : y / m ≤ 1 := by
      refine Rat.le_of_mul_le_mul_right (c := m) ?_ (by grind)
      rw [c1]; grind
    have p0 : 0 ≤ y / m * n := Rat.mul_nonneg c0 i0
    have p1 : y / m * n ≤ y / m * 1 := Rat.mul_le_mul_of_nonneg_left i1 c0
    constructor <;> grind

/-- the alternating sum is nested -/
theorem alt_nest (a : Nat) (m : Nat) : ∀ j, alt tq (j+m+1) a = alt tq j a + (if j % 2 = 0 then tq j a * nq a (j+1) m else - (tq j a * nq a (j+1) m)) := by
  induction m with
  | zero =>
    intro j
    show alt tq j a + (if j % 2 = 0 then tq j a else - tq j a) = alt tq j a + (if j % 2 = 0 then tq j a * 1 else - (tq j a * 1))
    rw [show tq j a * 1 = tq j a from by grind]
  | succ m ih =>
    intro j
    have h := ih (j+1)
    rw [show j + (m+1) + 1 = j + 1 + m + 1 from by omega, h]
    have e := tq_succ j a
    have hm : ((2 * (j+1) * (2 * (j+1) + 1) : Nat) : Rat) ≠ 0 := by
      intro h
      have := Rat.natCast_eq_zero_iff.1 h
      have h1 := Nat.mul_pos (show 0 < 2 * (j+1) by omega) (show 0 < 2 * (j+1) + 1 by omega)
      omega
    have e1 : nq a (j+1) (m+1) = 1 - arc a * arc a / ((2 * (j+1) * (2 * (j+1) + 1) : Nat) : Rat) * nq a (j+1+1) m := rfl
    have e2 : tq j a * nq a (j+1) (m+1) = tq j a - tq (j+1) a * nq a (j+1+1) m := by
      rw [e1]
      generalize ((2 * (j+1) * (2 * (j+1) + 1) : Nat) : Rat) = M at *
      have c1 : arc a * arc a / M * M = arc a * arc a := Rat.div_mul_cancel hm
      have c2 : tq (j+1) a = tq j a * (arc a * arc a / M) := by
        have : M * (tq (j+1) a) = M * (tq j a * (arc a * arc a / M)) := by rw [e]; grind
        have h2 : M⁻¹ * (M * tq (j+1) a) = M⁻¹ * (M * (tq j a * (arc a * arc a / M))) := by rw [this]
        have h3 : M⁻¹ * M = 1 := Rat.inv_mul_cancel _ hm
        rw [← Rat.mul_assoc, ← Rat.mul_assoc, h3, Rat.one_mul, Rat.one_mul] at h2
        exact h2
      rw [c2]; grind
    have e3 : alt tq (j+1) a = alt tq j a + (if j % 2 = 0 then tq j a else - tq j a) := rfl
    rw [e2, e3]
    by_cases hj : j % 2 = 0
    · rw [if_pos hj, if_pos hj, if_neg (by omega)]; grind
    · rw [if_neg hj, if_neg hj, if_pos (by omega)]; grind

/-- how far a round is off -/
def Dq : Nat → Rat
  | 0 => Zq * (36/10000)
  | i+1 => (4 + 5/4 * Dq i) / (((12 - i) * (2 * (12 - i) + 1) : Int) : Rat) + 1

theorem Dq_nonneg (i : Nat) (hi : i ≤ 12) : 0 ≤ Dq i := by
  induction i with
  | zero => decide +kernel
  | succ i ih =>
    have h := ih (by omega)
    show 0 ≤ (4 + 5/4 * Dq i) / (((12 - i) * (2 * (12 - i) + 1) : Int) : Rat) + 1
    have hd : (3:Int) ≤ (12 - i) * (2 * (12 - i) + 1) := by
      have := Int.mul_le_mul (show (1:Int) ≤ 12 - i by omega) (show (3:Int) ≤ 2 * (12 - i) + 1 by omega) (by omega) (by omega)
      omega
    have hd' : ((3:Int):Rat) ≤ (((12 - i) * (2 * (12 - i) + 1) : Int) : Rat) := Rat.intCast_le_intCast.2 hd
    have c3 : ((3:Int):Rat) = 3 := rfl
    rw [Rat.div_def]
    have : 0 ≤ (4 + 5/4 * Dq i) * ((((12 - i) * (2 * (12 - i) + 1) : Int) : Rat))⁻¹ := Rat.mul_nonneg (by grind) (Rat.le_of_lt (Rat.inv_pos.2 (by grind)))
    grind

theorem cLoop_near (a : Nat) (h : a ≤ 90000000) (i : Nat) (hi : i ≤ 12) :
    (cLoop (cQ a) i : Rat) - Zq * nq a (13 - i) (8 + i) ≤ Dq i ∧ Zq * nq a (13 - i) (8 + i) - (cLoop (cQ a) i : Rat) ≤ Dq i := by
  obtain ⟨q1, q2⟩ := cQ_near a h
  obtain ⟨qb0, qb1⟩ := cQ_bd a (by omega) (by omega)
  have x2 := arc2_le a (by omega)
  have x0 : 0 ≤ arc a * arc a := Rat.mul_nonneg (arc_nonneg a) (arc_nonneg a)
  have Z0 : (0:Rat) < Zq := by decide +kernel
  induction i with
  | zero =>
    obtain ⟨n0, n1⟩ := nq_bd a h 7 14 (by omega)
    have e : nq a 13 8 = 1 - arc a * arc a / ((2 * 13 * (2 * 13 + 1) : Nat) : Rat) * nq a 14 7 := rfl
    have c : ((2 * 13 * (2 * 13 + 1) : Nat) : Rat) = 702 := rfl
    have e0 : ((cLoop (cQ a) 0 : Int) : Rat) = Zq := rfl
    show ((cLoop (cQ a) 0 : Int) : Rat) - Zq * nq a 13 8 ≤ Zq * (36/10000) ∧ Zq * nq a 13 8 - ((cLoop (cQ a) 0 : Int) : Rat) ≤ Zq * (36/10000)
    rw [e0, e, c]
    generalize nq a 14 7 = n at *
    generalize arc a * arc a = y at *
    have p0 : 0 ≤ y * n := Rat.mul_nonneg x0 n0
    have p1 : y * n ≤ y * 1 := Rat.mul_le_mul_of_nonneg_left n1 x0
    have e2 : y / 702 * n = (y * n) * (1/702) := by grind
    have r1 : Zq * ((y * n) * (1/702)) ≤ Zq * (36/10000) := Rat.mul_le_mul_of_nonneg_left (by grind) (Rat.le_of_lt Z0)
    have r0 : 0 ≤ Zq * ((y * n) * (1/702)) := Rat.mul_nonneg (Rat.le_of_lt Z0) (by grind)
    have r2 : 0 ≤ Zq * (36/10000) := by decide +kernel
    rw [e2]
    constructor <;> grind
  | succ i ih =>
    obtain ⟨h1, h2⟩ := ih (by omega)
    obtain ⟨s0, s1⟩ := cLoop_bd (cQ a) qb0 qb1 i (by omega)
    obtain ⟨n0, n1⟩ := nq_bd a h (8+i) (13-i) (by omega)
    have D0 := Dq_nonneg i (by omega)
    have hd : (3:Int) ≤ (12 - i) * (2 * (12 - i) + 1) := by
      have := Int.mul_le_mul (show (1:Int) ≤ 12 - i by omega) (show (3:Int) ≤ 2 * (12 - i) + 1 by omega) (by omega) (by omega)
      omega
    have ed : cLoop (cQ a) (i+1) = 9223372036854775808 - cQ a * cLoop (cQ a) i / (9223372036854775808 * ((12 - i) * (2 * (12 - i) + 1))) := by
      show 9223372036854775808 - cQ a * cLoop (cQ a) i / 9223372036854775808 / ((12 - i) * (2 * (12 - i) + 1)) = _
      rw [Int.ediv_ediv_of_nonneg (by omega)]
    have en : nq a (13 - (i+1)) (8 + (i+1)) = 1 - arc a * arc a / ((2 * (12 - i) * (2 * (12 - i) + 1) : Nat) : Rat) * nq a (13 - i) (8 + i) := by
      rw [show 13 - (i+1) = 12 - i from by omega, show 8 + (i+1) = (8 + i) + 1 from by omega]
      show 1 - arc a * arc a / ((2 * (12 - i) * (2 * (12 - i) + 1) : Nat) : Rat) * nq a (12 - i + 1) (8 + i) = _
      rw [show 12 - i + 1 = 13 - i from by omega]
    have em : ((2 * (12 - i) * (2 * (12 - i) + 1) : Nat) : Rat) = 2 * (((12 - i) * (2 * (12 - i) + 1) : Int) : Rat) := by
      have : ((2 * (12 - i) * (2 * (12 - i) + 1) : Nat) : Int) = 2 * ((12 - i) * (2 * (12 - i) + 1) : Int) := by
        have hh : ((12 - i : Nat) : Int) = 12 - (i:Int) := by omega
        push_cast
        rw [hh, Int.mul_assoc]
      have h3 : (((2 * (12 - i) * (2 * (12 - i) + 1) : Nat) : Int) : Rat) = ((2 * ((12 - i) * (2 * (12 - i) + 1) : Int) : Int) : Rat) := by rw [this]
      rw [Rat.intCast_mul] at h3
      exact h3
    have eD : Dq (i+1) = (4 + 5/4 * Dq i) / (((12 - i) * (2 * (12 - i) + 1) : Int) : Rat) + 1 := rfl
    have dn := div_near (cQ a * cLoop (cQ a) i) (9223372036854775808 * ((12 - i) * (2 * (12 - i) + 1))) (by omega)
    rw [en, em, eD, ed, Rat.intCast_sub]
    have hd' : ((3:Int):Rat) ≤ (((12 - i) * (2 * (12 - i) + 1) : Int) : Rat) := Rat.intCast_le_intCast.2 hd
    have c3 : ((3:Int):Rat) = 3 := rfl
    have s0' : ((0:Int):Rat) ≤ (cLoop (cQ a) i : Rat) := Rat.intCast_le_intCast.2 s0
    have s1' : (cLoop (cQ a) i : Rat) ≤ ((9223372036854775808:Int):Rat) := Rat.intCast_le_intCast.2 s1
    have cz : ((9223372036854775808:Int):Rat) = Zq := rfl
    have c0 : ((0:Int):Rat) = 0 := rfl
    rw [Rat.intCast_mul 9223372036854775808 ((12 - (i:Int)) * (2 * (12 - (i:Int)) + 1)), Rat.intCast_mul (cQ a) (cLoop (cQ a) i), cz] at dn
    obtain ⟨dn1, dn2⟩ := dn
    rw [cz] at s1' ⊢
    rw [c0] at s0'
    rw [c3] at hd'
    clear en em eD ed hd s0 s1 qb0 qb1 ih cz c0 c3
    generalize ((cQ a * cLoop (cQ a) i / (9223372036854775808 * ((12 - (i:Int)) * (2 * (12 - (i:Int)) + 1))) : Int) : Rat) = q at *
    generalize (((12 - (i:Int)) * (2 * (12 - (i:Int)) + 1) : Int) : Rat) = d at *
    generalize (cLoop (cQ a) i : Rat) = s at *
    generalize (cQ a : Rat) = Q at *
    generalize nq a (13 - i) (8 + i) = n at *
    generalize arc a * arc a = y at *
    generalize Dq i = D at *
    have d0 : 0 < d := by grind
    -- Q s near (Z/2) y Z n
    have t1 : (Q - Zq / 2 * y) * s ≤ 4 * s := Rat.mul_le_mul_of_nonneg_right q1 s0'
    have t2 : (Zq / 2 * y - Q) * s ≤ 4 * s := Rat.mul_le_mul_of_nonneg_right q2 s0'
    have zy0 : 0 ≤ Zq / 2 * y := Rat.mul_nonneg (by grind) x0
    have t3 : (Zq / 2 * y) * (s - Zq * n) ≤ (Zq / 2 * y) * D := Rat.mul_le_mul_of_nonneg_left h1 zy0
    have t4 : (Zq / 2 * y) * (Zq * n - s) ≤ (Zq / 2 * y) * D := Rat.mul_le_mul_of_nonneg_left h2 zy0
    have t5 : y * D ≤ 5/2 * D := Rat.mul_le_mul_of_nonneg_right x2 D0
    have t6 : Zq / 2 * (y * D) ≤ Zq / 2 * (5/2 * D) := Rat.mul_le_mul_of_nonneg_left t5 (by grind)
    have e1 : Zq * d * q = Zq * (d * q) := by grind
    have e2 : Q * s = (Q - Zq / 2 * y) * s + (Zq / 2 * y) * (s - Zq * n) + Zq * (Zq / 2 * (y * n)) := by grind
    have e3 : Q * s = Zq * (Zq / 2 * (y * n)) - (Zq / 2 * y - Q) * s - (Zq / 2 * y) * (Zq * n - s) := by grind
    have e4 : (Zq / 2 * y) * D = Zq / 2 * (y * D) := by grind
    have e5 : Zq / 2 * (5/2 * D) = Zq * (5/4 * D) := by grind
    have u1 : Zq * (d * q) ≤ Zq * (Zq / 2 * (y * n) + 4 + 5/4 * D) := by
      have : Zq * (Zq / 2 * (y * n) + 4 + 5/4 * D) = Zq * (Zq / 2 * (y * n)) + 4 * Zq + Zq * (5/4 * D) := by grind
      rw [this, ← e1]
      generalize Zq * (Zq / 2 * (y * n)) = p1 at *
      generalize (Q - Zq / 2 * y) * s = p2 at *
      generalize (Zq / 2 * y) * (s - Zq * n) = p3 at *
      generalize Zq * (5/4 * D) = p4 at *
      generalize Zq / 2 * (y * D) = p5 at *
      clear e3 t2 t4
      grind
    have u2 : Zq * (Zq / 2 * (y * n) - 4 - 5/4 * D - d) ≤ Zq * (d * q) := by
      have : Zq * (Zq / 2 * (y * n) - 4 - 5/4 * D - d) = Zq * (Zq / 2 * (y * n)) - 4 * Zq - Zq * (5/4 * D) - Zq * d := by grind
      rw [this, ← e1]
      generalize Zq * (Zq / 2 * (y * n)) = p1 at *
      generalize (Zq / 2 * y - Q) * s = p2 at *
      generalize (Zq / 2 * y) * (Zq * n - s) = p3 at *
      generalize Zq * (5/4 * D) = p4 at *
      generalize Zq / 2 * (y * D) = p5 at *
      clear e2 t1 t3
      grind
    have v1 := Rat.le_of_mul_le_mul_left u1 Z0
    have v2 := Rat.le_of_mul_le_mul_left u2 Z0
    have f1 : d * (y / (2 * d) * n) = y * n * (1/2) := by
      have : y / (2 * d) * (2 * d) = y := Rat.div_mul_cancel (by grind)
      grind
    have f2 : d * ((4 + 5/4 * D) / d) = 4 + 5/4 * D := by rw [Rat.mul_comm]; exact Rat.div_mul_cancel (by grind)
    have f3 : d * (Zq * (1 - y / (2 * d) * n)) = d * Zq - Zq / 2 * (y * n) := by
      have : d * (Zq * (1 - y / (2 * d) * n)) = d * Zq - Zq * (d * (y / (2 * d) * n)) := by grind
      rw [this, f1]; grind
    constructor
    · refine Rat.le_of_mul_le_mul_left (c := d) ?_ d0
      have : d * (Zq - q - Zq * (1 - y / (2 * d) * n)) = Zq / 2 * (y * n) - d * q := by
        have : d * (Zq - q - Zq * (1 - y / (2 * d) * n)) = d * Zq - d * q - d * (Zq * (1 - y / (2 * d) * n)) := by grind
        rw [this, f3]; grind
      rw [this, show d * ((4 + 5/4 * D) / d + 1) = d * ((4 + 5/4 * D) / d) + d from by grind, f2]
      generalize Zq / 2 * (y * n) = p1 at *
      generalize d * q = p2 at *
      grind
    · refine Rat.le_of_mul_le_mul_left (c := d) ?_ d0
      have : d * (Zq * (1 - y / (2 * d) * n) - (Zq - q)) = d * q - Zq / 2 * (y * n) := by
        have : d * (Zq * (1 - y / (2 * d) * n) - (Zq - q)) = d * (Zq * (1 - y / (2 * d) * n)) - d * Zq + d * q := by grind
        rw [this, f3]; grind
      rw [this, show d * ((4 + 5/4 * D) / d + 1) = d * ((4 + 5/4 * D) / d) + d from by grind, f2]
      generalize Zq / 2 * (y * n) = p1 at *
      generalize d * q = p2 at *
      grind

theorem P_nest (a : Nat) : P a = arc a * nq a 1 20 := by
  have := alt_nest a 20 0
  rw [show 0 + 20 + 1 = 21 from rfl, if_pos rfl, tq_zero] at this
  unfold P
  rw [this]
  show 0 + _ = _
  grind

theorem cSeries_near (a : Nat) (h : a ≤ 90000000) : (cSeries a : Rat) - Zq * P a ≤ 10 ∧ Zq * P a - (cSeries a : Rat) ≤ 10 := by
  obtain ⟨x1, x2⟩ := cX_near a h
  obtain ⟨l1, l2⟩ := cLoop_near a h 12 (by omega)
  obtain ⟨qb0, qb1⟩ := cQ_bd a (by omega) (by omega)
  obtain ⟨s0, s1⟩ := cLoop_bd (cQ a) qb0 qb1 12 (by omega)
  obtain ⟨d1, d2⟩ := div_near (cX a * cLoop (cQ a) 12) 9223372036854775808 (by decide)
  have D12 : Dq 12 ≤ 4 := by decide +kernel
  have ha := arc_le a (by omega)
  have ha0 := arc_nonneg a
  have s0' : ((0:Int):Rat) ≤ (cLoop (cQ a) 12 : Rat) := Rat.intCast_le_intCast.2 s0
  have s1' : (cLoop (cQ a) 12 : Rat) ≤ ((9223372036854775808:Int):Rat) := Rat.intCast_le_intCast.2 s1
  have cz : ((9223372036854775808:Int):Rat) = Zq := rfl
  have c0 : ((0:Int):Rat) = 0 := rfl
  have ec : ((cSeries a : Int) : Rat) = ((cX a * cLoop (cQ a) 12 / 9223372036854775808 : Int) : Rat) := rfl
  rw [P_nest, ec]
  rw [show 13 - 12 = 1 from rfl, show 8 + 12 = 20 from rfl] at l1 l2
  rw [cz, Rat.intCast_mul] at d1 d2
  rw [cz] at s1'
  rw [c0] at s0'
  have Z0 : (0:Rat) < Zq := by decide +kernel
  generalize ((cX a * cLoop (cQ a) 12 / 9223372036854775808 : Int) : Rat) = r at *
  generalize (cLoop (cQ a) 12 : Rat) = s at *
  generalize (cX a : Rat) = X at *
  generalize nq a 1 20 = n at *
  generalize arc a = x at *
  generalize Dq 12 = D at *
  have t1 : (X - Zq * x) * s ≤ 17/10 * s := Rat.mul_le_mul_of_nonneg_right x1 s0'
  have t2 : (Zq * x - X) * s ≤ 17/10 * s := Rat.mul_le_mul_of_nonneg_right x2 s0'
  have zx0 : 0 ≤ Zq * x := Rat.mul_nonneg (Rat.le_of_lt Z0) ha0
  have t3 : (Zq * x) * (s - Zq * n) ≤ (Zq * x) * 4 := Rat.mul_le_mul_of_nonneg_left (by grind) zx0
  have t4 : (Zq * x) * (Zq * n - s) ≤ (Zq * x) * 4 := Rat.mul_le_mul_of_nonneg_left (by grind) zx0
  have t5 : Zq * x ≤ Zq * (1571/1000) := Rat.mul_le_mul_of_nonneg_left ha (Rat.le_of_lt Z0)
  have e1 : X * s = (X - Zq * x) * s + (Zq * x) * (s - Zq * n) + Zq * (Zq * (x * n)) := by grind
  have e2 : X * s = Zq * (Zq * (x * n)) - (Zq * x - X) * s - (Zq * x) * (Zq * n - s) := by grind
  constructor
  · refine Rat.le_of_mul_le_mul_left (c := Zq) ?_ Z0
    have : Zq * (r - Zq * (x * n)) = Zq * r - Zq * (Zq * (x * n)) := by grind
    rw [this]
    generalize Zq * (Zq * (x * n)) = p1 at *
    generalize (X - Zq * x) * s = p2 at *
    generalize (Zq * x) * (s - Zq * n) = p3 at *
    clear e2 t2 t4
    grind
  · refine Rat.le_of_mul_le_mul_left (c := Zq) ?_ Z0
    have : Zq * (Zq * (x * n) - r) = Zq * (Zq * (x * n)) - Zq * r := by grind
    rw [this]
    generalize Zq * (Zq * (x * n)) = p1 at *
    generalize (Zq * x - X) * s = p2 at *
    generalize (Zq * x) * (Zq * n - s) = p3 at *
    clear e1 t1 t3
    grind

/-- the code's series, rounded down, is that of the specification -/
theorem code_is_ref (a : Nat) (h0 : 0 < a) (h1 : a < 90000000) (h2 : a ≠ 30000000) : cSeries a * 100000000 / 9223372036854775808 = ((H a / 2^120 : Nat) : Int) := by
  obtain ⟨s1, s2⟩ := cSeries_near a (by omega)
  obtain ⟨g1, g2⟩ := H_near a (by omega)
  obtain ⟨n1, n2, _⟩ := near a h0 h1 h2
  have c3 : cq = 132922799578491587290380706028034457600000000 := by decide +kernel
  have cZ : Zq = 9223372036854775808 := rfl
  rw [cZ] at s1 s2
  rw [c3] at g1 g2
  have u1 : (cSeries a : Rat) * 132922799578491587290380706028034457600000000 ≤ 9223372036854775808 * (hI H a : Rat) + 1329227995784915872903807060280344576000000000 + 119903836479112085504 := by
    generalize (hI H a : Rat) = g at *
    generalize (cSeries a : Rat) = s at *
    grind
  have u2 : 9223372036854775808 * (hI H a : Rat) ≤ (cSeries a : Rat) * 132922799578491587290380706028034457600000000 + 1329227995784915872903807060280344576000000000 + 119903836479112085504 := by
    generalize (hI H a : Rat) = g at *
    generalize (cSeries a : Rat) = s at *
    grind
  have v1 : ((cSeries a * 132922799578491587290380706028034457600000000 : Int) : Rat) ≤ ((9223372036854775808 * hI H a + 1329227995784915872903807060280344576000000000 + 119903836479112085504 : Int) : Rat) := by
    rw [Rat.intCast_mul, Rat.intCast_add, Rat.intCast_add, Rat.intCast_mul]; exact u1
  have v2 : ((9223372036854775808 * hI H a : Int) : Rat) ≤ ((cSeries a * 132922799578491587290380706028034457600000000 + 1329227995784915872903807060280344576000000000 + 119903836479112085504 : Int) : Rat) := by
    rw [Rat.intCast_mul, Rat.intCast_add, Rat.intCast_add, Rat.intCast_mul]; exact u2
  have w1 := Rat.intCast_le_intCast.1 v1
  have w2 := Rat.intCast_le_intCast.1 v2
  unfold hI at w1 w2
  generalize H a = g at *
  generalize cSeries a = s at *
  omega
end SineNear

/- The ends of the enclosures of sines: what they are, and that they rise. -/
namespace SineNear
set_option linter.unusedSimpArgs false
set_option linter.unusedVariables false

/-- the ends of the sine of an angle from 0 to 90 degrees -/
def sLo (a : Int) : Int := if a = 0 then 0 else if a = 30000000 then 50000000 else if a = 90000000 then 100000000 else cSeries a * 100000000 / 9223372036854775808
def sHi (a : Int) : Int := if a = 0 then 0 else if a = 30000000 then 50000000 else if a = 90000000 then 100000000 else cSeries a * 100000000 / 9223372036854775808 + 1

theorem cSeries_bd (a : Int) (h0 : 0 ≤ a) (h1 : a ≤ 90000000) : 0 ≤ cSeries a ∧ cSeries a ≤ 14488038916154245685 := by
  obtain ⟨x0, x1⟩ := cX_bd a h0 h1
  obtain ⟨q0, q1⟩ := cQ_bd a h0 h1
  obtain ⟨s0, s1⟩ := cLoop_bd (cQ a) q0 q1 12 (by omega)
  have t0 := Int.mul_nonneg x0 s0
  have t1 := Int.mul_le_mul x1 s1 s0 (by omega)
  unfold cSeries; omega

theorem sLo_bd (a : Int) (h0 : 0 ≤ a) (h1 : a ≤ 90000000) : 0 ≤ sLo a ∧ sLo a ≤ 200000000 := by
  have := cSeries_bd a h0 h1
  unfold sLo; split; omega; split; omega; split; omega; omega
theorem sHi_bd (a : Int) (h0 : 0 ≤ a) (h1 : a ≤ 90000000) : 0 ≤ sHi a ∧ sHi a ≤ 200000000 := by
  have := cSeries_bd a h0 h1
  unfold sHi; split; omega; split; omega; split; omega; omega

/-- where the ends are, by the series of 45 digits -/
theorem s_open (a : Nat) (h0 : 0 < a) (h1 : a < 90000000) (h2 : a ≠ 30000000) : sLo a = ((H a / 2^120 : Nat) : Int) ∧ sHi a = ((H a / 2^120 : Nat) : Int) + 1 := by
  have e := code_is_ref a h0 h1 h2
  unfold sLo sHi
  rw [if_neg (by omega), if_neg (by omega), if_neg (by omega), if_neg (by omega), if_neg (by omega), if_neg (by omega), e]
  exact ⟨rfl, rfl⟩
theorem s_0 : sLo 0 = 0 ∧ sHi 0 = 0 := by unfold sLo sHi; rw [if_pos rfl, if_pos rfl]; exact ⟨rfl, rfl⟩
theorem s_30 : sLo 30000000 = 50000000 ∧ sHi 30000000 = 50000000 := by
  unfold sLo sHi; rw [if_neg (by omega), if_pos rfl, if_neg (by omega), if_pos rfl]; exact ⟨rfl, rfl⟩
theorem s_90 : sLo 90000000 = 100000000 ∧ sHi 90000000 = 100000000 := by
  unfold sLo sHi; rw [if_neg (by omega), if_neg (by omega), if_pos rfl, if_neg (by omega), if_neg (by omega), if_pos rfl]; exact ⟨rfl, rfl⟩

/-- the scaled sine, between the ends: a little off where the sine is a fraction -/
theorem s_in (a : Nat) (h1 : a ≤ 90000000) : sLo a * 2^120 ≤ H a + 15 ∧ (H a : Int) ≤ sHi a * 2^120 + 15 ∧ sLo a ≤ sHi a ∧ sHi a ≤ sLo a + 1 := by
  by_cases c0 : a = 0
  · subst c0; have := s_0; have := at0; simp only [Int.natCast_zero] at *; omega
  · by_cases c3 : a = 30000000
    · subst c3; have h := s_30; have := at30; rw [show ((30000000:Nat):Int) = 30000000 from rfl, h.1, h.2]; omega
    · by_cases c9 : a = 90000000
      · subst c9; have h := s_90; have := at90; rw [show ((90000000:Nat):Int) = 90000000 from rfl, h.1, h.2]; omega
      · obtain ⟨e1, e2⟩ := s_open a (by omega) (by omega) c3
        rw [e1, e2]; omega
/-- and well between them elsewhere -/
theorem s_well (a : Nat) (h0 : 0 < a) (h1 : a < 90000000) (h2 : a ≠ 30000000) : sLo a * 2^120 + 2^89 ≤ H a ∧ (H a : Int) + 2^89 ≤ sHi a * 2^120 ∧ sHi a = sLo a + 1 := by
  obtain ⟨e1, e2⟩ := s_open a h0 h1 h2
  obtain ⟨n1, n2, _⟩ := near a h0 h1 h2
  rw [e1, e2]; omega
theorem s_exact (a : Nat) (h : a = 0 ∨ a = 30000000 ∨ a = 90000000) : sHi a = sLo a := by
  rcases h with rfl | rfl | rfl
  · exact s_0.2.trans s_0.1.symm
  · exact s_30.2.trans s_30.1.symm
  · exact s_90.2.trans s_90.1.symm

theorem s_mono (a b : Nat) (h : a < b) (hb : b ≤ 90000000) : sLo a ≤ sLo b ∧ sHi a ≤ sHi b ∧ sLo a < sHi b ∧ sHi a ≤ sLo b + 1 := by
  have r := rises a b h hb
  have ia := s_in a (by omega)
  have ib := s_in b hb
  by_cases ca : a = 0 ∨ a = 30000000 ∨ a = 90000000
  · have ea := s_exact a ca
    by_cases cb : b = 0 ∨ b = 30000000 ∨ b = 90000000
    · have eb := s_exact b cb; omega
    · have wb := s_well b (by omega) (by omega) (by omega); omega
  · have wa := s_well a (by omega) (by omega) (by omega)
    by_cases cb : b = 0 ∨ b = 30000000 ∨ b = 90000000
    · have eb := s_exact b cb; omega
    · have wb := s_well b (by omega) (by omega) (by omega); omega

/-- the ends of the sine of any angle -/
def sinLo (a : Int) : Int := if a % 360000000 < 180000000 then sLo (min (a % 360000000) (180000000 - a % 360000000)) else - sHi (min (a % 360000000 - 180000000) (180000000 - (a % 360000000 - 180000000)))
def sinHi (a : Int) : Int := if a % 360000000 < 180000000 then sHi (min (a % 360000000) (180000000 - a % 360000000)) else - sLo (min (a % 360000000 - 180000000) (180000000 - (a % 360000000 - 180000000)))

theorem sin_up (a : Int) (h0 : 0 ≤ a) (h1 : a ≤ 90000000) : sinLo a = sLo a ∧ sinHi a = sHi a := by
  unfold sinLo sinHi
  rw [if_pos (by omega), if_pos (by omega), show min (a % 360000000) (180000000 - a % 360000000) = a from by omega]
  exact ⟨rfl, rfl⟩
theorem sin_down (a : Int) (h0 : -90000000 ≤ a) (h1 : a ≤ 0) : sinLo a = - sHi (-a) ∧ sinHi a = - sLo (-a) := by
  by_cases c : a = 0
  · subst c; have := sin_up 0 (by omega) (by omega); have z := s_0; rw [this.1, this.2]; show sLo 0 = - sHi 0 ∧ sHi 0 = - sLo 0; omega
  · unfold sinLo sinHi
    rw [if_neg (by omega), if_neg (by omega), show min (a % 360000000 - 180000000) (180000000 - (a % 360000000 - 180000000)) = -a from by omega]
    exact ⟨rfl, rfl⟩
theorem sin_turn (a k : Int) : sinLo (a + 360000000 * k) = sinLo a ∧ sinHi (a + 360000000 * k) = sinHi a := by
  unfold sinLo sinHi
  rw [show (a + 360000000 * k) % 360000000 = a % 360000000 from by omega]
  exact ⟨rfl, rfl⟩
theorem sin_half (a : Int) : sinLo (180000000 - a) = sinLo a ∧ sinHi (180000000 - a) = sinHi a := by
  unfold sinLo sinHi
  by_cases c : a % 360000000 < 180000000
  · by_cases c2 : a % 360000000 = 0
    · rw [if_pos c, if_neg (by omega), if_pos c, if_neg (by omega), c2, show (180000000 - a) % 360000000 = 180000000 from by omega]
      have := s_0
      show - sHi 0 = sLo 0 ∧ - sLo 0 = sHi 0
      omega
    · rw [if_pos c, if_pos (by omega), if_pos c, if_pos (by omega), show min ((180000000 - a) % 360000000) (180000000 - (180000000 - a) % 360000000) = min (a % 360000000) (180000000 - a % 360000000) from by omega]
      exact ⟨rfl, rfl⟩
  · by_cases c2 : a % 360000000 = 180000000
    · rw [if_neg c, if_pos (by omega), if_neg c, if_pos (by omega), c2, show (180000000 - a) % 360000000 = 0 from by omega]
      have := s_0
      show sLo 0 = - sHi 0 ∧ sHi 0 = - sLo 0
      omega
    · rw [if_neg c, if_neg (by omega), if_neg c, if_neg (by omega), show min ((180000000 - a) % 360000000 - 180000000) (180000000 - ((180000000 - a) % 360000000 - 180000000)) = min (a % 360000000 - 180000000) (180000000 - (a % 360000000 - 180000000)) from by omega]
      exact ⟨rfl, rfl⟩
theorem sin_odd (a : Int) : sinLo (-a) = - sinHi a ∧ sinHi (-a) = - sinLo a := by
  unfold sinLo sinHi
  by_cases c0 : a % 360000000 = 0
  · rw [show (-a) % 360000000 = 0 from by omega, c0]
    have := s_0
    rw [if_pos (by omega), if_pos (by omega)]
    show sLo 0 = - sHi 0 ∧ sHi 0 = - sLo 0
    omega
  · by_cases c1 : a % 360000000 = 180000000
    · rw [show (-a) % 360000000 = 180000000 from by omega, c1]
      have := s_0
      rw [if_neg (by omega), if_neg (by omega)]
      show - sHi 0 = - - sLo 0 ∧ - sLo 0 = - - sHi 0
      omega
    · by_cases c : a % 360000000 < 180000000
      · rw [if_neg (by omega), if_pos c, if_neg (by omega), if_pos c, show min ((-a) % 360000000 - 180000000) (180000000 - ((-a) % 360000000 - 180000000)) = min (a % 360000000) (180000000 - a % 360000000) from by omega]
        exact ⟨rfl, rfl⟩
      · rw [if_pos (by omega), if_neg c, if_pos (by omega), if_neg c, show min ((-a) % 360000000) (180000000 - (-a) % 360000000) = min (a % 360000000 - 180000000) (180000000 - (a % 360000000 - 180000000)) from by omega]
        rw [Int.neg_neg, Int.neg_neg]
        exact ⟨rfl, rfl⟩

/-- from -90 to 90 degrees sines rise -/
theorem sin_mono (a b : Int) (h0 : -90000000 ≤ a) (h : a < b) (h1 : b ≤ 90000000) : sinLo a ≤ sinLo b ∧ sinHi a ≤ sinHi b ∧ sinLo a < sinHi b := by
  by_cases ca : 0 ≤ a
  · obtain ⟨n, rfl⟩ := Int.eq_ofNat_of_zero_le ca
    obtain ⟨m, rfl⟩ := Int.eq_ofNat_of_zero_le (show 0 ≤ b by omega)
    have := s_mono n m (by omega) (by omega)
    have e1 := sin_up n (by omega) (by omega)
    have e2 := sin_up m (by omega) (by omega)
    omega
  · by_cases cb : b ≤ 0
    · obtain ⟨n, hn⟩ := Int.eq_ofNat_of_zero_le (show 0 ≤ -a by omega)
      obtain ⟨m, hm⟩ := Int.eq_ofNat_of_zero_le (show 0 ≤ -b by omega)
      have := s_mono m n (by omega) (by omega)
      have e1 := sin_down a (by omega) (by omega)
      have e2 := sin_down b (by omega) (by omega)
      rw [hn] at e1; rw [hm] at e2
      omega
    · obtain ⟨n, hn⟩ := Int.eq_ofNat_of_zero_le (show 0 ≤ -a by omega)
      obtain ⟨m, rfl⟩ := Int.eq_ofNat_of_zero_le (show 0 ≤ b by omega)
      have e1 := sin_down a (by omega) (by omega)
      have e2 := sin_up m (by omega) (by omega)
      rw [hn] at e1
      have t1 := s_mono 0 n (by omega) (by omega)
      have t2 := s_mono 0 m (by omega) (by omega)
      have z := s_0
      have z0 : ((0:Nat):Int) = 0 := rfl
      rw [z0] at t1 t2
      omega
theorem sin_le (a : Int) : sinLo a ≤ sinHi a ∧ sinHi a ≤ sinLo a + 1 := by
  unfold sinLo sinHi
  by_cases c : a % 360000000 < 180000000
  · rw [if_pos c, if_pos c]
    obtain ⟨n, hn⟩ := Int.eq_ofNat_of_zero_le (show 0 ≤ min (a % 360000000) (180000000 - a % 360000000) by omega)
    have := s_in n (by omega)
    rw [hn]; omega
  · rw [if_neg c, if_neg c]
    obtain ⟨n, hn⟩ := Int.eq_ofNat_of_zero_le (show 0 ≤ min (a % 360000000 - 180000000) (180000000 - (a % 360000000 - 180000000)) by omega)
    have := s_in n (by omega)
    rw [hn]; omega
theorem sin_bd (a : Int) : -100000000 ≤ sinLo a ∧ sinHi a ≤ 100000000 := by
  have key : ∀ n : Nat, n ≤ 90000000 → 0 ≤ sLo n ∧ sHi n ≤ 100000000 ∧ 0 ≤ sHi n ∧ sLo n ≤ 100000000 := by
    intro n hn
    have z := s_0
    have t := s_90
    have i := s_in n hn
    have z0 : ((0:Nat):Int) = 0 := rfl
    have z9 : ((90000000:Nat):Int) = 90000000 := rfl
    by_cases c0 : n = 0
    · subst c0; rw [z0] at *; omega
    · by_cases c9 : n = 90000000
      · subst c9; rw [z9] at *; omega
      · have t1 := s_mono 0 n (by omega) (by omega)
        have t2 := s_mono n 90000000 (by omega) (by omega)
        rw [z0] at t1; rw [z9] at t2
        omega
  unfold sinLo sinHi
  by_cases c : a % 360000000 < 180000000
  · rw [if_pos c, if_pos c]
    obtain ⟨n, hn⟩ := Int.eq_ofNat_of_zero_le (show 0 ≤ min (a % 360000000) (180000000 - a % 360000000) by omega)
    have := key n (by omega)
    rw [hn]; omega
  · rw [if_neg c, if_neg c]
    obtain ⟨n, hn⟩ := Int.eq_ofNat_of_zero_le (show 0 ≤ min (a % 360000000 - 180000000) (180000000 - (a % 360000000 - 180000000)) by omega)
    have := key n (by omega)
    rw [hn]; omega

/-- the least of some numbers, and the greatest -/
def jLo (l : Int) (f : Nat → Int) : Nat → Int
  | 0 => l
  | n+1 => if f n < jLo l f n then f n else jLo l f n
def jHi (l : Int) (f : Nat → Int) : Nat → Int
  | 0 => l
  | n+1 => if jHi l f n < f n then f n else jHi l f n
/-- a, or a and some whole turns, is from lo to hi -/
def pas (lo hi a : Int) : Bool := decide (lo + (a - lo) % 360000000 ≤ hi)
/-- the ends of the sines of angles -/
def siLo (lo hi : Int) : Int := if pas lo hi (-90000000) then -100000000 else jLo (sinLo lo) (fun _ => sinLo hi) 1
def siHi (lo hi : Int) : Int := if pas lo hi 90000000 then 100000000 else jHi (sinHi lo) (fun _ => sinHi hi) 1
/-- a valid enclosure, from least to most -/
def inB (lo hi least most : Int) : Bool := decide (least ≤ lo ∧ lo ≤ hi ∧ hi ≤ most)
theorem inB_bd {lo hi l m : Int} (h : inB lo hi l m = true) : l ≤ lo ∧ lo ≤ hi ∧ hi ≤ m := of_decide_eq_true h
end SineNear

/- Enclosures of sines hold the sines of all angles between. -/
namespace SineNear
set_option linter.unusedSimpArgs false
set_option linter.unusedVariables false

theorem si_below (l a h : Int) (h0 : l ≤ a) (h1 : a ≤ h) : siLo l h ≤ sinLo a := by
  unfold siLo
  by_cases c : pas l h (-90000000) = true
  · rw [if_pos c]; exact (sin_bd a).1
  · rw [if_neg c]
    have hc : ¬ l + (-90000000 - l) % 360000000 ≤ h := fun x => c (decide_eq_true x)
    -- all whole turns less
    obtain ⟨k, hk⟩ : ∃ k, k = (l + 90000000) / 360000000 := ⟨_, rfl⟩
    have el := (sin_turn (l - 360000000 * k) k).1
    have ea := (sin_turn (a - 360000000 * k) k).1
    have eh := (sin_turn (h - 360000000 * k) k).1
    rw [show l - 360000000 * k + 360000000 * k = l by omega] at el
    rw [show a - 360000000 * k + 360000000 * k = a by omega] at ea
    rw [show h - 360000000 * k + 360000000 * k = h by omega] at eh
    rw [el, ea, eh]
    have b0 : -90000000 < l - 360000000 * k := by omega
    have b1 : h - 360000000 * k < 270000000 := by omega
    have b2 : l - 360000000 * k ≤ a - 360000000 * k := by omega
    have b3 : a - 360000000 * k ≤ h - 360000000 * k := by omega
    clear hc hk el ea eh c h0 h1
    generalize l - 360000000 * k = l' at *
    generalize a - 360000000 * k = a' at *
    generalize h - 360000000 * k = h' at *
    show (if sinLo h' < sinLo l' then sinLo h' else sinLo l') ≤ sinLo a'
    by_cases ca : a' ≤ 90000000
    · have : sinLo l' ≤ sinLo a' := by
        by_cases e : l' = a'
        · rw [e]; exact Int.le_refl _
        · exact (sin_mono l' a' (by omega) (by omega) ca).1
      split <;> omega
    · have g1 := (sin_half a').1
      have g2 := (sin_half h').1
      have : sinLo h' ≤ sinLo a' := by
        rw [← g1, ← g2]
        by_cases e : h' = a'
        · rw [e]; exact Int.le_refl _
        · exact (sin_mono (180000000 - h') (180000000 - a') (by omega) (by omega) (by omega)).1
      split <;> omega

theorem si_odd (l h : Int) : siHi l h = - siLo (-h) (-l) := by
  unfold siHi siLo
  have e : pas l h 90000000 = pas (-h) (-l) (-90000000) := by
    unfold pas
    rw [decide_eq_decide]
    omega
  rw [e]
  cases pas (-h) (-l) (-90000000) with
  | true => rfl
  | false =>
    have o1 := (sin_odd l).1
    have o2 := (sin_odd h).1
    show (if sinHi l < sinHi h then sinHi h else sinHi l) = - (if sinLo (-l) < sinLo (-h) then sinLo (-l) else sinLo (-h))
    rw [o1, o2]
    split <;> split <;> omega
theorem si_above (l a h : Int) (h0 : l ≤ a) (h1 : a ≤ h) : sinHi a ≤ siHi l h := by
  have := si_below (-h) (-a) (-l) (by omega) (by omega)
  rw [si_odd, ← Int.neg_neg a, (sin_odd (-a)).2]
  omega
theorem si_turn (l h : Int) (h0 : 360000000 ≤ h - l) : siLo l h = -100000000 ∧ siHi l h = 100000000 := by
  unfold siLo siHi pas
  rw [if_pos (decide_eq_true (by omega)), if_pos (decide_eq_true (by omega))]
  exact ⟨rfl, rfl⟩
theorem si_reach (l h : Int) : (siLo l h = -100000000 ∨ siLo l h = if sinLo h < sinLo l then sinLo h else sinLo l) ∧ (siHi l h = 100000000 ∨ siHi l h = if sinHi l < sinHi h then sinHi h else sinHi l) := by
  unfold siLo siHi
  constructor
  · cases pas l h (-90000000) with
    | true => exact Or.inl rfl
    | false => exact Or.inr rfl
  · cases pas l h 90000000 with
    | true => exact Or.inl rfl
    | false => exact Or.inr rfl
end SineNear
