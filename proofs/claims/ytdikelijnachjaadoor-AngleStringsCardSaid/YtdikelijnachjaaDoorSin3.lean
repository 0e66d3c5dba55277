import Derived.Test.YtdikelijnachjaaDoorSin2
/- A test of many angles at once, over any function. -/
namespace SineNear
set_option linter.unusedSimpArgs false
set_option linter.unusedVariables false

def allB (f : Nat → Bool) (n : Nat) : Bool := Nat.rec true (fun i acc => match f i with | true => acc | false => false) n

theorem allB_succ (f : Nat → Bool) (n : Nat) (h : allB f (n+1) = true) : f n = true ∧ allB f n = true := by
  have h' : (match f n with | true => allB f n | false => false) = true := h
  cases hn : f n with
  | true => rw [hn] at h'; exact ⟨rfl, h'⟩
  | false => rw [hn] at h'; cases h'

theorem allB_says (f : Nat → Bool) (n : Nat) (h : allB f n = true) : ∀ i, i < n → f i = true := by
  induction n with
  | zero => intro i hi; omega
  | succ n ih =>
    obtain ⟨h1, h2⟩ := allB_succ f n h
    intro i hi
    rcases Nat.lt_succ_iff_lt_or_eq.1 hi with h | h
    · exact ih h2 i h
    · rw [h]; exact h1

section
variable (H : Nat → Nat)
def d1 (a : Nat) : Nat := Nat.sub (H (Nat.add a 1)) (H a)
def e2 (a : Nat) : Nat := Nat.sub (Nat.mul 2 (H (Nat.add a 1))) (Nat.add (H a) (H (Nat.add a 2)))
def e3 (a : Nat) : Nat := Nat.sub (Nat.add (H a) (Nat.mul 3 (H (Nat.add a 2)))) (Nat.add (Nat.mul 3 (H (Nat.add a 1))) (H (Nat.add a 3)))
def d4 (a : Nat) : Nat := Nat.sub (Nat.add (Nat.add (H a) (Nat.mul 6 (H (Nat.add a 2)))) (H (Nat.add a 4))) (Nat.add (Nat.mul 4 (H (Nat.add a 1))) (Nat.mul 4 (H (Nat.add a 3))))
def both (a b : Bool) : Bool := match a with | true => b | false => false
def ok (a : Nat) : Bool :=
  both (Nat.ble (H a) (H (Nat.add a 1))) (both (Nat.ble (Nat.add (H a) (H (Nat.add a 2))) (Nat.mul 2 (H (Nat.add a 1))))
    (both (Nat.ble (Nat.add (Nat.mul 3 (H (Nat.add a 1))) (H (Nat.add a 3))) (Nat.add (H a) (Nat.mul 3 (H (Nat.add a 2)))))
    (Nat.ble (Nat.add (Nat.mul 4 (H (Nat.add a 1))) (Nat.mul 4 (H (Nat.add a 3)))) (Nat.add (Nat.add (H a) (Nat.mul 6 (H (Nat.add a 2)))) (H (Nat.add a 4))))))
def chunk (start n S : Nat) : Bool :=
  both (allB (fun i => ok H (Nat.add start (Nat.mul S i))) n)
    (loop (pk (fun _ => 2^150+2^90) n) (pk (fun _ => 2^120-2^91) n) (pk (fun _ => 2^120) n) (pk (fun _ => 2^126-2^90) n) (pk (fun _ => 2^126) n) S
     (pk (fun i => H (Nat.add start (Nat.mul S i))) n) (pk (fun i => d1 H (Nat.add start (Nat.mul S i))) n) (pk (fun i => e2 H (Nat.add start (Nat.mul S i))) n)
     (pk (fun i => e3 H (Nat.add start (Nat.mul S i))) n) (pk (fun i => d4 H (Nat.add start (Nat.mul S i))) n))

theorem both_says {a b : Bool} (h : both a b = true) : a = true ∧ b = true := by
  cases a <;> simp_all [both]

theorem ok_says (a : Nat) (h : ok H a = true) : H a ≤ H (a+1) ∧ H a + H (a+2) ≤ 2 * H (a+1) ∧ 3 * H (a+1) + H (a+3) ≤ H a + 3 * H (a+2) ∧
    4 * H (a+1) + 4 * H (a+3) ≤ H a + 6 * H (a+2) + H (a+4) := by
  obtain ⟨h1, h⟩ := both_says h
  obtain ⟨h2, h⟩ := both_says h
  obtain ⟨h3, h4⟩ := both_says h
  exact ⟨Nat.le_of_ble_eq_true h1, Nat.le_of_ble_eq_true h2, Nat.le_of_ble_eq_true h3, Nat.le_of_ble_eq_true h4⟩

/-- H as integers -/
def hI (a : Nat) : Int := H a

/-- what is known of H, up to an angle -/
structure Smooth (top : Nat) : Prop where
  five : ∀ a, a ≤ top → dif 5 (hI H) a ≤ 2^27 ∧ -2^27 ≤ dif 5 (hI H) a
  one : ∀ a, a ≤ top → hI H (a+1) - hI H a ≤ 2^125 ∧ -2^125 ≤ hI H (a+1) - hI H a
  size : ∀ a, a ≤ top → H a < 2^149

theorem dif1 (h : Nat → Int) (a : Nat) : dif 1 h a = h (a+1) - h a := rfl
theorem dif2 (h : Nat → Int) (a : Nat) : dif 2 h a = h (a+2) - 2 * h (a+1) + h a := by
  show (h (a+1+1) - h (a+1)) - (h (a+1) - h a) = _
  rw [show a+1+1 = a+2 from rfl]; omega
theorem dif3 (h : Nat → Int) (a : Nat) : dif 3 h a = h (a+3) - 3 * h (a+2) + 3 * h (a+1) - h a := by
  show dif 2 h (a+1) - dif 2 h a = _
  rw [dif2, dif2, show a+1+1 = a+2 from rfl, show a+1+2 = a+3 from rfl]; omega
theorem dif4 (h : Nat → Int) (a : Nat) : dif 4 h a = h (a+4) - 4 * h (a+3) + 6 * h (a+2) - 4 * h (a+1) + h a := by
  show dif 3 h (a+1) - dif 3 h a = _
  rw [dif3, dif3, show a+1+1 = a+2 from rfl, show a+1+2 = a+3 from rfl, show a+1+3 = a+4 from rfl]; omega

def row0 (start S : Nat) : Row := ⟨fun i => dif 0 (hI H) (start + S * i), fun i => dif 1 (hI H) (start + S * i), fun i => dif 2 (hI H) (start + S * i), fun i => dif 3 (hI H) (start + S * i), fun i => dif 4 (hI H) (start + S * i)⟩

theorem good0 (start S i : Nat) : Good (hI H) (2^27) (start + S * i) (row0 H start S) i 0 := by
  refine ⟨?_, ?_, ?_, ?_, ?_⟩ <;> simp [row0]

theorem pow_cast_le (s b k : Nat) (h : s ≤ b) : (s : Int)^k ≤ (b : Int)^k := by
  have := Nat.pow_le_pow_left h k
  rw [← Int.natCast_pow, ← Int.natCast_pow]; omega

theorem off (start S top : Nat) (hS : S ≤ 8192) (sm : Smooth H top) (s : Nat) (hs : s < S) (j : Nat) (hjt : start + S * j + s ≤ top) :
      ((row0 H start S).after s).f0 j - hI H (start + S * j + s) ≤ 2^86 ∧ hI H (start + S * j + s) - ((row0 H start S).after s).f0 j ≤ 2^86 ∧
      ((row0 H start S).after s).f1 j - (hI H (start + S * j + s + 1) - hI H (start + S * j + s)) ≤ 2^86 ∧ (hI H (start + S * j + s + 1) - hI H (start + S * j + s)) - ((row0 H start S).after s).f1 j ≤ 2^86 := by
  have g' := (good0 H start S j).after (by decide) s 0 _ (fun u hu => sm.five _ (by omega))
  obtain ⟨_, _, _, g1, g0⟩ := g'
  rw [Nat.zero_add] at g1 g0
  have hs' : (s : Int) ≤ 8192 := by omega
  have b4 : (s : Int)^4 ≤ 8192^4 := pow_cast_le s 8192 4 (by omega)
  have b5 : (s : Int)^5 ≤ 8192^5 := pow_cast_le s 8192 5 (by omega)
  have c0 : dif 0 (hI H) (start + S * j + s) = hI H (start + S * j + s) := rfl
  have c1 := dif1 (hI H) (start + S * j + s)
  rw [c0] at g0
  rw [c1] at g1
  generalize (s:Int)^4 = p4 at *
  generalize (s:Int)^5 = p5 at *
  omega

theorem rows (start n S : Nat) (h : chunk H start n S = true) : ∀ s, s < S → ∃ D0 D1 : Nat, (D0 : Int) = pkI ((row0 H start S).after s).f0 n ∧ (D1 : Int) = pkI ((row0 H start S).after s).f1 n ∧
      big (D0 + pk (fun _ => 2^150+2^90) n) (pk (fun _ => 2^120-2^91) n) (pk (fun _ => 2^120) n) = true ∧ sets (D1 + (pk (fun _ => 2^126-2^90) n)) (pk (fun _ => 2^126) n) = true := by
  obtain ⟨hok, hl⟩ := both_says h
  have hk : ∀ j, j < n → _ := fun j hj => ok_says H _ (allB_says _ n hok j hj)
  refine loop_says _ _ _ _ _ n S _ _ _ _ _ (row0 H start S) ?_ ?_ ?_ ?_ ?_ hl
  · exact pk_cast _ n
  · rw [pk_cast]
    refine pkI_congr n fun j hj => ?_
    have := hk j hj
    show ((H (start + S * j + 1) - H (start + S * j) : Nat) : Int) = (H (start + S * j + 1) : Int) - (H (start + S * j) : Int)
    simp only [Nat.add_eq, Nat.mul_eq] at this
    omega
  · rw [pk_cast, pkI_neg]
    refine pkI_congr n fun j hj => ?_
    have := hk j hj
    show ((2 * H (start + S * j + 1) - (H (start + S * j) + H (start + S * j + 2)) : Nat) : Int) = - dif 2 (hI H) _
    simp only [Nat.add_eq, Nat.mul_eq] at this
    rw [dif2]; unfold hI; omega
  · rw [pk_cast, pkI_neg]
    refine pkI_congr n fun j hj => ?_
    have := hk j hj
    show ((H (start + S * j) + 3 * H (start + S * j + 2) - (3 * H (start + S * j + 1) + H (start + S * j + 3)) : Nat) : Int) = - dif 3 (hI H) _
    simp only [Nat.add_eq, Nat.mul_eq] at this
    rw [dif3]; unfold hI; omega
  · rw [pk_cast]
    refine pkI_congr n fun j hj => ?_
    have := hk j hj
    show ((H (start + S * j) + 6 * H (start + S * j + 2) + H (start + S * j + 4) - (4 * H (start + S * j + 1) + 4 * H (start + S * j + 3)) : Nat) : Int) = dif 4 (hI H) _
    simp only [Nat.add_eq, Nat.mul_eq] at this
    rw [dif4]; unfold hI; omega

theorem land_mod (x m b : Nat) (hm : m < 2^b) : x &&& m ≤ x % 2^b := by
  have : x &&& m = (x % 2^b) &&& m := by
    apply Nat.eq_of_testBit_eq
    intro j
    rw [Nat.testBit_and, Nat.testBit_and, Nat.testBit_mod_two_pow]
    by_cases hj : j < b
    · simp [hj]
    · have : m < 2^j := Nat.lt_of_lt_of_le hm (Nat.pow_le_pow_right (by decide) (by omega))
      simp [Nat.testBit_lt_two_pow this]
  rw [this]; exact Nat.and_le_left

theorem chunk_says (start n S top : Nat) (hS : S ≤ 8192) (sm : Smooth H top) (h : chunk H start n S = true) (i s : Nat) (hi : i < n) (hs : s < S)
    (ht : start + S * (n - 1) + s ≤ top) :
    2^89 ≤ H (start + S * i + s) % 2^120 ∧ H (start + S * i + s) % 2^120 + 2^89 ≤ 2^120 ∧ H (start + S * i + s) + 2^89 ≤ H (start + S * i + s + 1) := by
  obtain ⟨D0, D1, hD0, hD1, t0, t1⟩ := rows H start n S h s hs
  have hj : ∀ j, j < n → start + S * j + s ≤ top := fun j hj => by
    have : S * j ≤ S * (n - 1) := Nat.mul_le_mul_left _ (by omega)
    omega
  have of : ∀ j, j < n → _ := fun j hjn => off H start S top hS sm s hs j (hj j hjn)
  -- the first row
  have x0 : D0 + pk (fun _ => 2^150+2^90) n = pk (fun j => (((row0 H start S).after s).f0 j + (2^150+2^90)).toNat) n := by
    apply pkI_nat
    · intro j hjn; have := of j hjn; unfold hI at this; omega
    · push_cast
      rw [hD0, pk_cast, pkI_add]; rfl
  have x1 : D1 + pk (fun _ => 2^126-2^90) n = pk (fun j => (((row0 H start S).after s).f1 j + (2^126-2^90)).toNat) n := by
    apply pkI_nat
    · intro j hjn; have := of j hjn; have := sm.one _ (hj j hjn); omega
    · push_cast
      rw [hD1, pk_cast, pkI_add]; rfl
  rw [x0] at t0
  rw [x1] at t1
  have r0 := big_says _ (2^120-2^91) 120 n ?_ (by decide) (by decide) t0 i hi
  have r1 := sets_says _ 126 n ?_ (by decide) t1 i hi
  · have m0 := land_mod (((row0 H start S).after s).f0 i + (2^150+2^90)).toNat (2^120-2^91) 120 (by decide)
    have o := of i hi
    unfold hI at o
    generalize H (start + S * i + s) = h0 at *
    generalize H (start + S * i + s + 1) = h1 at *
    generalize ((row0 H start S).after s).f0 i = f0 at *
    generalize ((row0 H start S).after s).f1 i = f1 at *
    omega
  · intro j hjn; have := of j hjn; have := sm.one _ (hj j hjn); omega
  · intro j hjn; have := of j hjn; have := sm.size _ (hj j hjn); unfold hI at *; omega
end
end SineNear
