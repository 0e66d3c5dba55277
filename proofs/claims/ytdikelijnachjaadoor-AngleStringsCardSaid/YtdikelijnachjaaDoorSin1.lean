/- Packed numbers: many fields of one width in one natural number. -/
namespace SineNear
set_option linter.unusedSimpArgs false
set_option linter.unusedVariables false

theorem land_join (k a b c d : Nat) (hb : b < 2^k) (hd : d < 2^k) :
    (2^k * a + b) &&& (2^k * c + d) = 2^k * (a &&& c) + (b &&& d) := by
  have h : b &&& d < 2^k := Nat.lt_of_le_of_lt Nat.and_le_left hb
  apply Nat.eq_of_testBit_eq
  intro j
  rw [Nat.testBit_and, Nat.testBit_two_pow_mul_add _ hb, Nat.testBit_two_pow_mul_add _ hd, Nat.testBit_two_pow_mul_add _ h]
  split <;> simp

def pk (f : Nat → Nat) (n : Nat) : Nat := Nat.rec 0 (fun i acc => Nat.add acc (Nat.mul (f i) (Nat.pow 2 (Nat.mul 160 i)))) n

theorem pk_zero (f : Nat → Nat) : pk f 0 = 0 := rfl
theorem pk_succ (f : Nat → Nat) (n : Nat) : pk f (n+1) = 2^(160*n) * f n + pk f n := by
  show pk f n + f n * 2^(160*n) = _
  rw [Nat.mul_comm, Nat.add_comm]

theorem pk_lt (f : Nat → Nat) (n : Nat) (h : ∀ i, i < n → f i < 2^160) : pk f n < 2^(160*n) := by
  induction n with
  | zero => simp [pk_zero]
  | succ n ih =>
    have h1 := ih (fun i hi => h i (by omega))
    have h2 := h n (by omega)
    rw [pk_succ]
    have e : 2^(160*(n+1)) = 2^(160*n) * 2^160 := by rw [← Nat.pow_add]; rfl
    rw [e]
    have h3 : 2^(160*n) * (f n + 1) ≤ 2^(160*n) * 2^160 := Nat.mul_le_mul_left _ h2
    rw [Nat.mul_add, Nat.mul_one] at h3
    omega

theorem pk_land (f g : Nat → Nat) (n : Nat) (hf : ∀ i, i < n → f i < 2^160) (hg : ∀ i, i < n → g i < 2^160) :
    pk f n &&& pk g n = pk (fun i => f i &&& g i) n := by
  induction n with
  | zero => simp [pk_zero]
  | succ n ih =>
    have h1 := ih (fun i hi => hf i (by omega)) (fun i hi => hg i (by omega))
    rw [pk_succ, pk_succ, pk_succ, land_join _ _ _ _ _ (pk_lt f n fun i hi => hf i (by omega)) (pk_lt g n fun i hi => hg i (by omega)), h1]

theorem pk_add (f g : Nat → Nat) (n : Nat) : pk f n + pk g n = pk (fun i => f i + g i) n := by
  induction n with
  | zero => rfl
  | succ n ih =>
    rw [pk_succ, pk_succ, pk_succ, ← ih, Nat.mul_add]; omega

theorem pk_inj (f g : Nat → Nat) (n : Nat) (hf : ∀ i, i < n → f i < 2^160) (hg : ∀ i, i < n → g i < 2^160) (h : pk f n = pk g n) :
    ∀ i, i < n → f i = g i := by
  induction n with
  | zero => intro i hi; omega
  | succ n ih =>
    rw [pk_succ, pk_succ] at h
    have hf' := pk_lt f n fun i hi => hf i (by omega)
    have hg' := pk_lt g n fun i hi => hg i (by omega)
    have e1 : f n = g n := by
      have := congrArg (· / 2^(160*n)) h
      rwa [Nat.mul_add_div (Nat.two_pow_pos _), Nat.mul_add_div (Nat.two_pow_pos _), Nat.div_eq_of_lt hf', Nat.div_eq_of_lt hg'] at this
    have e2 : pk f n = pk g n := by rw [e1] at h; omega
    intro i hi
    rcases Nat.lt_succ_iff_lt_or_eq.1 hi with h | h
    · exact ih (fun i hi => hf i (by omega)) (fun i hi => hg i (by omega)) e2 i h
    · rw [h]; exact e1

def big (X M T : Nat) : Bool := Nat.beq (Nat.land (Nat.add (Nat.land X M) M) T) T

/-- what the test of a packed number says of its fields -/
theorem big_says (x : Nat → Nat) (m b n : Nat) (hx : ∀ i, i < n → x i < 2^160) (hm : m < 2^159) (hb : b < 160)
    (h : big (pk x n) (pk (fun _ => m) n) (pk (fun _ => 2^b) n) = true) : ∀ i, i < n → 2^b ≤ (x i &&& m) + m := by
  have h1 : (pk x n &&& pk (fun _ => m) n) + pk (fun _ => m) n &&& pk (fun _ => 2^b) n = pk (fun _ => 2^b) n := Nat.eq_of_beq_eq_true h
  have hm' : ∀ i, i < n → (fun _ : Nat => m) i < 2^160 := fun _ _ => Nat.lt_trans hm (by decide)
  have hb' : ∀ i, i < n → (fun _ : Nat => 2^b) i < 2^160 := fun _ _ => Nat.pow_lt_pow_right (by decide) hb
  rw [pk_land x _ n hx hm', pk_add, pk_land _ _ n ?_ hb'] at h1
  · intro i hi
    have := pk_inj _ _ n ?_ hb' h1 i hi
    · have h2 : ((x i &&& m) + m) &&& 2^b ≤ (x i &&& m) + m := Nat.and_le_left
      omega
    · intro i hi
      exact Nat.lt_of_le_of_lt Nat.and_le_right (hb' i hi)
  · intro i hi
    have h2 : x i &&& m ≤ m := Nat.and_le_right
    have : (2:Nat)^160 = 2 * 2^159 := rfl
    show (x i &&& m) + m < 2^160
    omega

def sets (X T : Nat) : Bool := Nat.beq (Nat.land X T) T

theorem sets_says (x : Nat → Nat) (b n : Nat) (hx : ∀ i, i < n → x i < 2^160) (hb : b < 160)
    (h : sets (pk x n) (pk (fun _ => 2^b) n) = true) : ∀ i, i < n → 2^b ≤ x i := by
  have h1 : pk x n &&& pk (fun _ => 2^b) n = pk (fun _ => 2^b) n := Nat.eq_of_beq_eq_true h
  have hb' : ∀ i, i < n → (fun _ : Nat => 2^b) i < 2^160 := fun _ _ => Nat.pow_lt_pow_right (by decide) hb
  rw [pk_land _ _ n hx hb'] at h1
  intro i hi
  have := pk_inj _ _ n (fun i hi => Nat.lt_of_le_of_lt Nat.and_le_right (hb' i hi)) hb' h1 i hi
  have h2 : x i &&& 2^b ≤ x i := Nat.and_le_left
  omega

/-- fields that are integers -/
def pkI (f : Nat → Int) : Nat → Int
  | 0 => 0
  | n+1 => pkI f n + f n * 2^(160*n)

theorem pk_cast (f : Nat → Nat) (n : Nat) : ((pk f n : Nat) : Int) = pkI (fun i => (f i : Int)) n := by
  induction n with
  | zero => rfl
  | succ n ih =>
    rw [pk_succ, pkI, ← ih]
    push_cast
    rw [Int.mul_comm, Int.add_comm]

theorem pkI_congr {f g : Nat → Int} (n : Nat) (h : ∀ i, i < n → f i = g i) : pkI f n = pkI g n := by
  induction n with
  | zero => rfl
  | succ n ih => rw [pkI, pkI, ih (fun i hi => h i (by omega)), h n (by omega)]

theorem pkI_add (f g : Nat → Int) (n : Nat) : pkI f n + pkI g n = pkI (fun i => f i + g i) n := by
  induction n with
  | zero => rfl
  | succ n ih => rw [pkI, pkI, pkI, ← ih, Int.add_mul]; omega

theorem pkI_neg (f : Nat → Int) (n : Nat) : - pkI f n = pkI (fun i => - f i) n := by
  induction n with
  | zero => rfl
  | succ n ih => rw [pkI, pkI, ← ih, Int.neg_add, Int.neg_mul]

theorem pkI_nat (f : Nat → Int) (n X : Nat) (h : ∀ i, i < n → 0 ≤ f i) (hX : (X : Int) = pkI f n) : X = pk (fun i => (f i).toNat) n := by
  have h1 := pk_cast (fun i => (f i).toNat) n
  rw [pkI_congr (g := f) n (fun i hi => Int.toNat_of_nonneg (h i hi)), ← hX] at h1
  omega

/-- the five rows of differences, step by step -/
structure Row where
  f0 : Nat → Int
  f1 : Nat → Int
  f2 : Nat → Int
  f3 : Nat → Int
  f4 : Nat → Int
def Row.next (r : Row) : Row := ⟨fun i => r.f0 i + r.f1 i, fun i => r.f1 i + r.f2 i, fun i => r.f2 i + r.f3 i, fun i => r.f3 i + r.f4 i, r.f4⟩
def Row.after (r : Row) : Nat → Row
  | 0 => r
  | s+1 => (r.next).after s

def loop (B M0 T0 B1 T1 : Nat) : Nat → Nat → Nat → Nat → Nat → Nat → Bool :=
  fun n => Nat.rec (motive := fun _ => Nat → Nat → Nat → Nat → Nat → Bool) (fun _ _ _ _ _ => true)
   (fun _ ih d0 d1 e2 e3 d4 =>
     match Nat.ble e2 d1, Nat.ble d4 e3, big (Nat.add d0 B) M0 T0, sets (Nat.add d1 B1) T1 with
     | true, true, true, true => ih (Nat.add d0 d1) (Nat.sub d1 e2) (Nat.add e2 e3) (Nat.sub e3 d4) d4
     | _, _, _, _ => false) n

theorem loop_succ (B M0 T0 B1 T1 S d0 d1 e2 e3 d4 : Nat) (h : loop B M0 T0 B1 T1 (S+1) d0 d1 e2 e3 d4 = true) :
    e2 ≤ d1 ∧ d4 ≤ e3 ∧ big (d0 + B) M0 T0 = true ∧ sets (d1 + B1) T1 = true ∧ loop B M0 T0 B1 T1 S (d0 + d1) (d1 - e2) (e2 + e3) (e3 - d4) d4 = true := by
  have h' : (match Nat.ble e2 d1, Nat.ble d4 e3, big (Nat.add d0 B) M0 T0, sets (Nat.add d1 B1) T1 with
     | true, true, true, true => loop B M0 T0 B1 T1 S (Nat.add d0 d1) (Nat.sub d1 e2) (Nat.add e2 e3) (Nat.sub e3 d4) d4
     | _, _, _, _ => false) = true := h
  revert h'
  split
  · rename_i h1 h2 h3 h4
    intro h5
    exact ⟨Nat.le_of_ble_eq_true h1, Nat.le_of_ble_eq_true h2, h3, h4, h5⟩
  · intro h; cases h

theorem loop_says (B M0 T0 B1 T1 n : Nat) (S : Nat) : ∀ (d0 d1 e2 e3 d4 : Nat) (r : Row),
    (d0 : Int) = pkI r.f0 n → (d1 : Int) = pkI r.f1 n → (e2 : Int) = - pkI r.f2 n → (e3 : Int) = - pkI r.f3 n → (d4 : Int) = pkI r.f4 n →
    loop B M0 T0 B1 T1 S d0 d1 e2 e3 d4 = true →
    ∀ s, s < S → ∃ D0 D1 : Nat, (D0 : Int) = pkI (r.after s).f0 n ∧ (D1 : Int) = pkI (r.after s).f1 n ∧ big (D0 + B) M0 T0 = true ∧ sets (D1 + B1) T1 = true := by
  induction S with
  | zero => intro _ _ _ _ _ _ _ _ _ _ _ _ s hs; omega
  | succ S ih =>
    intro d0 d1 e2 e3 d4 r h0 h1 h2 h3 h4 h s hs
    obtain ⟨a, b, c, d, e⟩ := loop_succ _ _ _ _ _ _ _ _ _ _ _ h
    cases s with
    | zero => exact ⟨d0, d1, h0, h1, c, d⟩
    | succ s =>
      refine ih (d0 + d1) (d1 - e2) (e2 + e3) (e3 - d4) d4 r.next ?_ ?_ ?_ ?_ h4 e s (by omega)
      · show ((d0 + d1 : Nat) : Int) = pkI (fun i => r.f0 i + r.f1 i) n
        rw [← pkI_add]; omega
      · show ((d1 - e2 : Nat) : Int) = pkI (fun i => r.f1 i + r.f2 i) n
        rw [← pkI_add]; omega
      · show ((e2 + e3 : Nat) : Int) = - pkI (fun i => r.f2 i + r.f3 i) n
        rw [← pkI_add]; omega
      · show ((e3 - d4 : Nat) : Int) = - pkI (fun i => r.f3 i + r.f4 i) n
        rw [← pkI_add]; omega
end SineNear
