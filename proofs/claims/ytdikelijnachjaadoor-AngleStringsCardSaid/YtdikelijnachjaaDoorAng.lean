import Derived.Test.YtdikelijnachjaaDoorSer
/- The ends of the enclosures of sines: what they are, and that they rise. -/
namespace SineNear
set_option linter.unusedSimpArgs false
set_option linter.unusedVariables false

/-- the ends of the sine of an angle from 0 to 90 degrees -/
def sLo (a : Int) : Int := if a = 0 then 0 else if a = 30000000 then 50000000 else if a = 90000000 then 100000000 else cSeries a * 100000000 / 9223372036854775808
def sHi (a : Int) : Int := if a = 0 then 0 else if a = 30000000 then 50000000 else if a = 90000000 then 100000000 else cSeries a * 100000000 / 9223372036854775808 + 1

theorem cSeries_bd (a : Int) (h0 : 0 ≤ a) (h1 : a ≤ 90000000) : 0 ≤ cSeries a ∧ cSeries a ≤ 14488038916154245685 := by
  obtain ⟨x0, x1⟩ := cX_bd a h0 h1
  obtain ⟨q0, q1⟩ := cQ_bd a h0 h1
  obtain ⟨s0, s1⟩ := cLoop_bd (cQ a) q0 q1 12 (by omega)
  have t0 := Int.mul_nonneg x0 s0
  have t1 := Int.mul_le_mul x1 s1 s0 (by omega)
  unfold cSeries; omega

theorem sLo_bd (a : Int) (h0 : 0 ≤ a) (h1 : a ≤ 90000000) : 0 ≤ sLo a ∧ sLo a ≤ 200000000 := by
  have := cSeries_bd a h0 h1
  unfold sLo; split; omega; split; omega; split; omega; omega
theorem sHi_bd (a : Int) (h0 : 0 ≤ a) (h1 : a ≤ 90000000) : 0 ≤ sHi a ∧ sHi a ≤ 200000000 := by
  have := cSeries_bd a h0 h1
  unfold sHi; split; omega; split; omega; split; omega; omega

/-- where the ends are, by the series of 45 digits -/
theorem s_open (a : Nat) (h0 : 0 < a) (h1 : a < 90000000) (h2 : a ≠ 30000000) : sLo a = ((H a / 2^120 : Nat) : Int) ∧ sHi a = ((H a / 2^120 : Nat) : Int) + 1 := by
  have e := code_is_ref a h0 h1 h2
  unfold sLo sHi
  rw [if_neg (by omega), if_neg (by omega), if_neg (by omega), if_neg (by omega), if_neg (by omega), if_neg (by omega), e]
  exact ⟨rfl, rfl⟩
theorem s_0 : sLo 0 = 0 ∧ sHi 0 = 0 := by unfold sLo sHi; rw [if_pos rfl, if_pos rfl]; exact ⟨rfl, rfl⟩
theorem s_30 : sLo 30000000 = 50000000 ∧ sHi 30000000 = 50000000 := by
  unfold sLo sHi; rw [if_neg (by omega), if_pos rfl, if_neg (by omega), if_pos rfl]; exact ⟨rfl, rfl⟩
theorem s_90 : sLo 90000000 = 100000000 ∧ sHi 90000000 = 100000000 := by
  unfold sLo sHi; rw [if_neg (by omega), if_neg (by omega), if_pos rfl, if_neg (by omega), if_neg (by omega), if_pos rfl]; exact ⟨rfl, rfl⟩

/-- the scaled sine, between the ends: a little off where the sine is a fraction -/
theorem s_in (a : Nat) (h1 : a ≤ 90000000) : sLo a * 2^120 ≤ H a + 15 ∧ (H a : Int) ≤ sHi a * 2^120 + 15 ∧ sLo a ≤ sHi a ∧ sHi a ≤ sLo a + 1 := by
  by_cases c0 : a = 0
  · subst c0; have := s_0; have := at0; simp only [Int.natCast_zero] at *; omega
  · by_cases c3 : a = 30000000
    · subst c3; have h := s_30; have := at30; rw [show ((30000000:Nat):Int) = 30000000 from rfl, h.1, h.2]; omega
    · by_cases c9 : a = 90000000
      · subst c9; have h := s_90; have := at90; rw [show ((90000000:Nat):Int) = 90000000 from rfl, h.1, h.2]; omega
      · obtain ⟨e1, e2⟩ := s_open a (by omega) (by omega) c3
        rw [e1, e2]; omega
/-- and well between them elsewhere -/
theorem s_well (a : Nat) (h0 : 0 < a) (h1 : a < 90000000) (h2 : a ≠ 30000000) : sLo a * 2^120 + 2^89 ≤ H a ∧ (H a : Int) + 2^89 ≤ sHi a * 2^120 ∧ sHi a = sLo a + 1 := by
  obtain ⟨e1, e2⟩ := s_open a h0 h1 h2
  obtain ⟨n1, n2, _⟩ := near a h0 h1 h2
  rw [e1, e2]; omega
theorem s_exact (a : Nat) (h : a = 0 ∨ a = 30000000 ∨ a = 90000000) : sHi a = sLo a := by
  rcases h with rfl | rfl | rfl
  · exact s_0.2.trans s_0.1.symm
  · exact s_30.2.trans s_30.1.symm
  · exact s_90.2.trans s_90.1.symm

theorem s_mono (a b : Nat) (h : a < b) (hb : b ≤ 90000000) : sLo a ≤ sLo b ∧ sHi a ≤ sHi b ∧ sLo a < sHi b ∧ sHi a ≤ sLo b + 1 := by
  have r := rises a b h hb
  have ia := s_in a (by omega)
  have ib := s_in b hb
  by_cases ca : a = 0 ∨ a = 30000000 ∨ a = 90000000
  · have ea := s_exact a ca
    by_cases cb : b = 0 ∨ b = 30000000 ∨ b = 90000000
    · have eb := s_exact b cb; omega
    · have wb := s_well b (by omega) (by omega) (by omega); omega
  · have wa := s_well a (by omega) (by omega) (by omega)
    by_cases cb : b = 0 ∨ b = 30000000 ∨ b = 90000000
    · have eb := s_exact b cb; omega
    · have wb := s_well b (by omega) (by omega) (by omega); omega

/-- the ends of the sine of any angle -/
def sinLo (a : Int) : Int := if a % 360000000 < 180000000 then sLo (min (a % 360000000) (180000000 - a % 360000000)) else - sHi (min (a % 360000000 - 180000000) (180000000 - (a % 360000000 - 180000000)))
def sinHi (a : Int) : Int := if a % 360000000 < 180000000 then sHi (min (a % 360000000) (180000000 - a % 360000000)) else - sLo (min (a % 360000000 - 180000000) (180000000 - (a % 360000000 - 180000000)))

theorem sin_up (a : Int) (h0 : 0 ≤ a) (h1 : a ≤ 90000000) : sinLo a = sLo a ∧ sinHi a = sHi a := by
  unfold sinLo sinHi
  rw [if_pos (by omega), if_pos (by omega), show min (a % 360000000) (180000000 - a % 360000000) = a from by omega]
  exact ⟨rfl, rfl⟩
theorem sin_down (a : Int) (h0 : -90000000 ≤ a) (h1 : a ≤ 0) : sinLo a = - sHi (-a) ∧ sinHi a = - sLo (-a) := by
  by_cases c : a = 0
  · subst c; have := sin_up 0 (by omega) (by omega); have z := s_0; rw [this.1, this.2]; show sLo 0 = - sHi 0 ∧ sHi 0 = - sLo 0; omega
  · unfold sinLo sinHi
    rw [if_neg (by omega), if_neg (by omega), show min (a % 360000000 - 180000000) (180000000 - (a % 360000000 - 180000000)) = -a from by omega]
    exact ⟨rfl, rfl⟩
theorem sin_turn (a k : Int) : sinLo (a + 360000000 * k) = sinLo a ∧ sinHi (a + 360000000 * k) = sinHi a := by
  unfold sinLo sinHi
  rw [show (a + 360000000 * k) % 360000000 = a % 360000000 from by omega]
  exact ⟨rfl, rfl⟩
theorem sin_half (a : Int) : sinLo (180000000 - a) = sinLo a ∧ sinHi (180000000 - a) = sinHi a := by
  unfold sinLo sinHi
  by_cases c : a % 360000000 < 180000000
  · by_cases c2 : a % 360000000 = 0
    · rw [if_pos c, if_neg (by omega), if_pos c, if_neg (by omega), c2, show (180000000 - a) % 360000000 = 180000000 from by omega]
      have := s_0
      show - sHi 0 = sLo 0 ∧ - sLo 0 = sHi 0
      omega
    · rw [if_pos c, if_pos (by omega), if_pos c, if_pos (by omega), show min ((180000000 - a) % 360000000) (180000000 - (180000000 - a) % 360000000) = min (a % 360000000) (180000000 - a % 360000000) from by omega]
      exact ⟨rfl, rfl⟩
  · by_cases c2 : a % 360000000 = 180000000
    · rw [if_neg c, if_pos (by omega), if_neg c, if_pos (by omega), c2, show (180000000 - a) % 360000000 = 0 from by omega]
      have := s_0
      show sLo 0 = - sHi 0 ∧ sHi 0 = - sLo 0
      omega
    · rw [if_neg c, if_neg (by omega), if_neg c, if_neg (by omega), show min ((180000000 - a) % 360000000 - 180000000) (180000000 - ((180000000 - a) % 360000000 - 180000000)) = min (a % 360000000 - 180000000) (180000000 - (a % 360000000 - 180000000)) from by omega]
      exact ⟨rfl, rfl⟩
theorem sin_odd (a : Int) : sinLo (-a) = - sinHi a ∧ sinHi (-a) = - sinLo a := by
  unfold sinLo sinHi
  by_cases c0 : a % 360000000 = 0
  · rw [show (-a) % 360000000 = 0 from by omega, c0]
    have := s_0
    rw [if_pos (by omega), if_pos (by omega)]
    show sLo 0 = - sHi 0 ∧ sHi 0 = - sLo 0
    omega
  · by_cases c1 : a % 360000000 = 180000000
    · rw [show (-a) % 360000000 = 180000000 from by omega, c1]
      have := s_0
      rw [if_neg (by omega), if_neg (by omega)]
      show - sHi 0 = - - sLo 0 ∧ - sLo 0 = - - sHi 0
      omega
    · by_cases c : a % 360000000 < 180000000
      · rw [if_neg (by omega), if_pos c, if_neg (by omega), if_pos c, show min ((-a) % 360000000 - 180000000) (180000000 - ((-a) % 360000000 - 180000000)) = min (a % 360000000) (180000000 - a % 360000000) from by omega]
        exact ⟨rfl, rfl⟩
      · rw [if_pos (by omega), if_neg c, if_pos (by omega), if_neg c, show min ((-a) % 360000000) (180000000 - (-a) % 360000000) = min (a % 360000000 - 180000000) (180000000 - (a % 360000000 - 180000000)) from by omega]
        rw [Int.neg_neg, Int.neg_neg]
        exact ⟨rfl, rfl⟩

/-- from -90 to 90 degrees sines rise -/
theorem sin_mono (a b : Int) (h0 : -90000000 ≤ a) (h : a < b) (h1 : b ≤ 90000000) : sinLo a ≤ sinLo b ∧ sinHi a ≤ sinHi b ∧ sinLo a < sinHi b := by
  by_cases ca : 0 ≤ a
  · obtain ⟨n, rfl⟩ := Int.eq_ofNat_of_zero_le ca
    obtain ⟨m, rfl⟩ := Int.eq_ofNat_of_zero_le (show 0 ≤ b by omega)
    have := s_mono n m (by omega) (by omega)
    have e1 := sin_up n (by omega) (by omega)
    have e2 := sin_up m (by omega) (by omega)
    omega
  · by_cases cb : b ≤ 0
    · obtain ⟨n, hn⟩ := Int.eq_ofNat_of_zero_le (show 0 ≤ -a by omega)
      obtain ⟨m, hm⟩ := Int.eq_ofNat_of_zero_le (show 0 ≤ -b by omega)
      have := s_mono m n (by omega) (by omega)
      have e1 := sin_down a (by omega) (by omega)
      have e2 := sin_down b (by omega) (by omega)
      rw [hn] at e1; rw [hm] at e2
      omega
    · obtain ⟨n, hn⟩ := Int.eq_ofNat_of_zero_le (show 0 ≤ -a by omega)
      obtain ⟨m, rfl⟩ := Int.eq_ofNat_of_zero_le (show 0 ≤ b by omega)
      have e1 := sin_down a (by omega) (by omega)
      have e2 := sin_up m (by omega) (by omega)
      rw [hn] at e1
      have t1 := s_mono 0 n (by omega) (by omega)
      have t2 := s_mono 0 m (by omega) (by omega)
      have z := s_0
      have z0 : ((0:Nat):Int) = 0 := rfl
      rw [z0] at t1 t2
      omega
theorem sin_le (a : Int) : sinLo a ≤ sinHi a ∧ sinHi a ≤ sinLo a + 1 := by
  unfold sinLo sinHi
  by_cases c : a % 360000000 < 180000000
  · rw [if_pos c, if_pos c]
    obtain ⟨n, hn⟩ := Int.eq_ofNat_of_zero_le (show 0 ≤ min (a % 360000000) (180000000 - a % 360000000) by omega)
    have := s_in n (by omega)
    rw [hn]; omega
  · rw [if_neg c, if_neg c]
    obtain ⟨n, hn⟩ := Int.eq_ofNat_of_zero_le (show 0 ≤ min (a % 360000000 - 180000000) (180000000 - (a % 360000000 - 180000000)) by omega)
    have := s_in n (by omega)
    rw [hn]; omega
theorem sin_bd (a : Int) : -100000000 ≤ sinLo a ∧ sinHi a ≤ 100000000 := by
  have key : ∀ n : Nat, n ≤ 90000000 → 0 ≤ sLo n ∧ sHi n ≤ 100000000 ∧ 0 ≤ sHi n ∧ sLo n ≤ 100000000 := by
    intro n hn
    have z := s_0
    have t := s_90
    have i := s_in n hn
    have z0 : ((0:Nat):Int) = 0 := rfl
    have z9 : ((90000000:Nat):Int) = 90000000 := rfl
    by_cases c0 : n = 0
    · subst c0; rw [z0] at *; omega
    · by_cases c9 : n = 90000000
      · subst c9; rw [z9] at *; omega
      · have t1 := s_mono 0 n (by omega) (by omega)
        have t2 := s_mono n 90000000 (by omega) (by omega)
        rw [z0] at t1; rw [z9] at t2
        omega
  unfold sinLo sinHi
  by_cases c : a % 360000000 < 180000000
  · rw [if_pos c, if_pos c]
    obtain ⟨n, hn⟩ := Int.eq_ofNat_of_zero_le (show 0 ≤ min (a % 360000000) (180000000 - a % 360000000) by omega)
    have := key n (by omega)
    rw [hn]; omega
  · rw [if_neg c, if_neg c]
    obtain ⟨n, hn⟩ := Int.eq_ofNat_of_zero_le (show 0 ≤ min (a % 360000000 - 180000000) (180000000 - (a % 360000000 - 180000000)) by omega)
    have := key n (by omega)
    rw [hn]; omega

/-- the least of some numbers, and the greatest -/
def jLo (l : Int) (f : Nat → Int) : Nat → Int
  | 0 => l
  | n+1 => if f n < jLo l f n then f n else jLo l f n
def jHi (l : Int) (f : Nat → Int) : Nat → Int
  | 0 => l
  | n+1 => if jHi l f n < f n then f n else jHi l f n
/-- a, or a and some whole turns, is from lo to hi -/
def pas (lo hi a : Int) : Bool := decide (lo + (a - lo) % 360000000 ≤ hi)
/-- the ends of the sines of angles -/
def siLo (lo hi : Int) : Int := if pas lo hi (-90000000) then -100000000 else jLo (sinLo lo) (fun _ => sinLo hi) 1
def siHi (lo hi : Int) : Int := if pas lo hi 90000000 then 100000000 else jHi (sinHi lo) (fun _ => sinHi hi) 1
/-- a valid enclosure, from least to most -/
def inB (lo hi least most : Int) : Bool := decide (least ≤ lo ∧ lo ≤ hi ∧ hi ≤ most)
theorem inB_bd {lo hi l m : Int} (h : inB lo hi l m = true) : l ≤ lo ∧ lo ≤ hi ∧ hi ≤ m := of_decide_eq_true h
end SineNear
