/- The reference's long numbers: products. Plain facts. -/
import Derived.Test.YtdikelijnachjaaDoorLng
namespace SineNear
set_option linter.unusedSimpArgs false
set_option linter.unusedVariables false

/-- the twelve sums, after i rounds -/
def prv (x y : Nat → Int) : Nat → Nat → Int
  | 0, _ => 0
  | i+1, j => prv x y i j + (if i ≤ j ∧ j < i + 6 then x i * y (j - i) else 0)
/-- and after k rounds more within round i -/
def rowF (x y : Nat → Int) (i k j : Nat) : Int := prv x y i j + (if i ≤ j ∧ j < i + k then x i * y (j - i) else 0)

theorem rowF_0 (x y : Nat → Int) (i j : Nat) : rowF x y i 0 j = prv x y i j := by
  unfold rowF; rw [if_neg (by omega)]; omega
theorem rowF_6 (x y : Nat → Int) (i j : Nat) : rowF x y i 6 j = prv x y (i+1) j := rfl
theorem rowF_at (x y : Nat → Int) (i k : Nat) : rowF x y i (k+1) (i+k) = rowF x y i k (i+k) + x i * y k := by
  unfold rowF; rw [if_pos (by omega), if_neg (by omega), Nat.add_sub_cancel_left]; omega
theorem rowF_other (x y : Nat → Int) (i k j : Nat) (h : j ≠ i + k) : rowF x y i (k+1) j = rowF x y i k j := by
  unfold rowF
  by_cases c : i ≤ j ∧ j < i + k
  · rw [if_pos c, if_pos (by omega)]
  · rw [if_neg c, if_neg (by omega)]
theorem prod_nm {a b : Int} (ha : 0 ≤ a ∧ a < 1000000000) (hb : 0 ≤ b ∧ b < 1000000000) : 0 ≤ a * b ∧ a * b ≤ 999999998000000001 :=
  ⟨Int.mul_nonneg ha.1 hb.1, Int.mul_le_mul (show a ≤ 999999999 by omega) (show b ≤ 999999999 by omega) hb.1 (by omega)⟩
theorem prv_bd (x y : Nat → Int) (hx : Nm x) (hy : Nm y) : ∀ i, i ≤ 6 → ∀ j, 0 ≤ prv x y i j ∧ prv x y i j ≤ i * 999999998000000001 := by
  intro i
  induction i with
  | zero => intro _ j; exact ⟨Int.le_refl 0, by show (0:Int) ≤ _; omega⟩
  | succ i ih =>
    intro hi j
    obtain ⟨a, b⟩ := ih (by omega) j
    show 0 ≤ prv x y i j + (if i ≤ j ∧ j < i + 6 then x i * y (j - i) else 0) ∧ prv x y i j + (if i ≤ j ∧ j < i + 6 then x i * y (j - i) else 0) ≤ _
    split
    · have := prod_nm (hx i (by omega)) (hy (j - i) (by omega))
      omega
    · omega
theorem rowF_bd (x y : Nat → Int) (hx : Nm x) (hy : Nm y) (i k j : Nat) (hi : i ≤ 5) (hk : k ≤ 6) : 0 ≤ rowF x y i k j ∧ rowF x y i k j ≤ 6000000000000000000 := by
  obtain ⟨a, b⟩ := prv_bd x y hx hy i (by omega) j
  unfold rowF
  split
  · have := prod_nm (hx i (by omega)) (hy (j - i) (by omega))
    omega
  · omega

/-- the rounds of the carries -/
structure CarryT (a t g : Nat → Int) : Prop where
  g11 : g 11 = 0
  tj : ∀ j, 1 ≤ j → j ≤ 11 → t j = (a j + g j) % 1000000000
  gj : ∀ j, 1 ≤ j → j ≤ 11 → g (j-1) = (a j + g j) / 1000000000
  t0 : t 0 = a 0 + g 0
  gb : ∀ j, j ≤ 11 → 0 ≤ g j ∧ g j ≤ 7000000000
  ab : ∀ j, j ≤ 11 → 0 ≤ a j ∧ a j ≤ 6000000000000000000

theorem all11 {p : Nat → Prop} (h0 : p 0) (h1 : p 1) (h2 : p 2) (h3 : p 3) (h4 : p 4) (h5 : p 5) (h6 : p 6) (h7 : p 7) (h8 : p 8) (h9 : p 9) (h10 : p 10) (h11 : p 11) : ∀ j, j ≤ 11 → p j := by
  intro j hk
  rcases (by omega : j = 0 ∨ j = 1 ∨ j = 2 ∨ j = 3 ∨ j = 4 ∨ j = 5 ∨ j = 6 ∨ j = 7 ∨ j = 8 ∨ j = 9 ∨ j = 10 ∨ j = 11) with rfl | rfl | rfl | rfl | rfl | rfl | rfl | rfl | rfl | rfl | rfl | rfl <;> assumption
theorem all111 {p : Nat → Prop} (h1 : p 1) (h2 : p 2) (h3 : p 3) (h4 : p 4) (h5 : p 5) (h6 : p 6) (h7 : p 7) (h8 : p 8) (h9 : p 9) (h10 : p 10) (h11 : p 11) : ∀ j, 1 ≤ j → j ≤ 11 → p j := by
  intro j h hk
  rcases (by omega : j = 1 ∨ j = 2 ∨ j = 3 ∨ j = 4 ∨ j = 5 ∨ j = 6 ∨ j = 7 ∨ j = 8 ∨ j = 9 ∨ j = 10 ∨ j = 11) with rfl | rfl | rfl | rfl | rfl | rfl | rfl | rfl | rfl | rfl | rfl <;> assumption
/-- twelve numbers as a function -/
def m12 (a b c d e f g h i j k l : Int) : Nat → Int
  | 0 => a
  | 1 => b
  | 2 => c
  | 3 => d
  | 4 => e
  | 5 => f
  | 6 => g
  | 7 => h
  | 8 => i
  | 9 => j
  | 10 => k
  | _ => l
theorem carry_part {a g : Int} (ha : 0 ≤ a ∧ a ≤ 6000000000000000000) (hg : 0 ≤ g ∧ g ≤ 7000000000) : (0 ≤ (a + g) / 1000000000 ∧ (a + g) / 1000000000 ≤ 7000000000) ∧ (0 ≤ (a + g) % 1000000000 ∧ (a + g) % 1000000000 < 1000000000) ∧ a + g = 1000000000 * ((a + g) / 1000000000) + (a + g) % 1000000000 := by omega

theorem carry_t (a : Nat → Int) (ha : ∀ j, j ≤ 11 → 0 ≤ a j ∧ a j ≤ 6000000000000000000) :
    ∃ t g r, CarryT a t g ∧ (∀ j, 1 ≤ j → j ≤ 5 → 0 ≤ t j ∧ t j < 1000000000) ∧ 0 ≤ t 0 ∧ 0 ≤ r ∧ r < 1000000000000000000000000000000000000000000000000000000 ∧
      a 0 * 1000000000000000000000000000000000000000000000000000000000000000000000000000000000000000000000000000 + a 1 * 1000000000000000000000000000000000000000000000000000000000000000000000000000000000000000000 + a 2 * 1000000000000000000000000000000000000000000000000000000000000000000000000000000000 + a 3 * 1000000000000000000000000000000000000000000000000000000000000000000000000 + a 4 * 1000000000000000000000000000000000000000000000000000000000000000 + a 5 * 1000000000000000000000000000000000000000000000000000000 + a 6 * 1000000000000000000000000000000000000000000000 + a 7 * 1000000000000000000000000000000000000 + a 8 * 1000000000000000000000000000 + a 9 * 1000000000000000000 + a 10 * 1000000000 + a 11 = V6 t * 1000000000000000000000000000000000000000000000000000000 + r := by
  have z : (0:Int) ≤ 0 ∧ (0:Int) ≤ 7000000000 := by omega
  obtain ⟨c10, b11, f11⟩ := carry_part (ha 11 (by omega)) z
  obtain ⟨c9, b10, f10⟩ := carry_part (ha 10 (by omega)) c10
  obtain ⟨c8, b9, f9⟩ := carry_part (ha 9 (by omega)) c9
  obtain ⟨c7, b8, f8⟩ := carry_part (ha 8 (by omega)) c8
  obtain ⟨c6, b7, f7⟩ := carry_part (ha 7 (by omega)) c7
  obtain ⟨c5, b6, f6⟩ := carry_part (ha 6 (by omega)) c6
  obtain ⟨c4, b5, f5⟩ := carry_part (ha 5 (by omega)) c5
  obtain ⟨c3, b4, f4⟩ := carry_part (ha 4 (by omega)) c4
  obtain ⟨c2, b3, f3⟩ := carry_part (ha 3 (by omega)) c3
  obtain ⟨c1, b2, f2⟩ := carry_part (ha 2 (by omega)) c2
  obtain ⟨c0, b1, f1⟩ := carry_part (ha 1 (by omega)) c1
  generalize h10 : (a 11 + 0) / 1000000000 = g10 at *
  generalize h9 : (a 10 + g10) / 1000000000 = g9 at *
  generalize h8 : (a 9 + g9) / 1000000000 = g8 at *
  generalize h7 : (a 8 + g8) / 1000000000 = g7 at *
  generalize h6 : (a 7 + g7) / 1000000000 = g6 at *
  generalize h5 : (a 6 + g6) / 1000000000 = g5 at *
  generalize h4 : (a 5 + g5) / 1000000000 = g4 at *
  generalize h3 : (a 4 + g4) / 1000000000 = g3 at *
  generalize h2 : (a 3 + g3) / 1000000000 = g2 at *
  generalize h1 : (a 2 + g2) / 1000000000 = g1 at *
  generalize h0 : (a 1 + g1) / 1000000000 = g0 at *
  generalize k11 : (a 11 + 0) % 1000000000 = t11 at *
  generalize k10 : (a 10 + g10) % 1000000000 = t10 at *
  generalize k9 : (a 9 + g9) % 1000000000 = t9 at *
  generalize k8 : (a 8 + g8) % 1000000000 = t8 at *
  generalize k7 : (a 7 + g7) % 1000000000 = t7 at *
  generalize k6 : (a 6 + g6) % 1000000000 = t6 at *
  generalize k5 : (a 5 + g5) % 1000000000 = t5 at *
  generalize k4 : (a 4 + g4) % 1000000000 = t4 at *
  generalize k3 : (a 3 + g3) % 1000000000 = t3 at *
  generalize k2 : (a 2 + g2) % 1000000000 = t2 at *
  generalize k1 : (a 1 + g1) % 1000000000 = t1 at *
  refine ⟨m12 (a 0 + g0) t1 t2 t3 t4 t5 t6 t7 t8 t9 t10 t11, m12 g0 g1 g2 g3 g4 g5 g6 g7 g8 g9 g10 0, t6 * 1000000000000000000000000000000000000000000000 + t7 * 1000000000000000000000000000000000000 + t8 * 1000000000000000000000000000 + t9 * 1000000000000000000 + t10 * 1000000000 + t11, ⟨rfl, all111 k1.symm k2.symm k3.symm k4.symm k5.symm k6.symm k7.symm k8.symm k9.symm k10.symm k11.symm, all111 h0.symm h1.symm h2.symm h3.symm h4.symm h5.symm h6.symm h7.symm h8.symm h9.symm h10.symm, rfl, all11 c0 c1 c2 c3 c4 c5 c6 c7 c8 c9 c10 z, ha⟩, all6 b1 b2 b3 b4 b5, ?_, ?_, ?_, ?_⟩
  · have := ha 0 (by omega)
    show 0 ≤ a 0 + g0
    omega
  · omega
  · omega
  · unfold V6 m12
    simp only
    clear h0 h1 h2 h3 h4 h5 h6 h7 h8 h9 h10 k1 k2 k3 k4 k5 k6 k7 k8 k9 k10 k11 ha z
    omega

theorem prv_all (x y : Nat → Int) : prv x y 6 0 = x 0 * y 0 ∧ prv x y 6 1 = x 0 * y 1 + x 1 * y 0 ∧ prv x y 6 2 = x 0 * y 2 + x 1 * y 1 + x 2 * y 0 ∧ prv x y 6 3 = x 0 * y 3 + x 1 * y 2 + x 2 * y 1 + x 3 * y 0 ∧
    prv x y 6 4 = x 0 * y 4 + x 1 * y 3 + x 2 * y 2 + x 3 * y 1 + x 4 * y 0 ∧ prv x y 6 5 = x 0 * y 5 + x 1 * y 4 + x 2 * y 3 + x 3 * y 2 + x 4 * y 1 + x 5 * y 0 ∧
    prv x y 6 6 = x 1 * y 5 + x 2 * y 4 + x 3 * y 3 + x 4 * y 2 + x 5 * y 1 ∧ prv x y 6 7 = x 2 * y 5 + x 3 * y 4 + x 4 * y 3 + x 5 * y 2 ∧ prv x y 6 8 = x 3 * y 5 + x 4 * y 4 + x 5 * y 3 ∧ prv x y 6 9 = x 4 * y 5 + x 5 * y 4 ∧ prv x y 6 10 = x 5 * y 5 ∧ prv x y 6 11 = 0 := by
  simp [prv]
theorem v6_times (x y : Nat → Int) : prv x y 6 0 * 1000000000000000000000000000000000000000000000000000000000000000000000000000000000000000000000000000 + prv x y 6 1 * 1000000000000000000000000000000000000000000000000000000000000000000000000000000000000000000 + prv x y 6 2 * 1000000000000000000000000000000000000000000000000000000000000000000000000000000000 + prv x y 6 3 * 1000000000000000000000000000000000000000000000000000000000000000000000000 + prv x y 6 4 * 1000000000000000000000000000000000000000000000000000000000000000 + prv x y 6 5 * 1000000000000000000000000000000000000000000000000000000 + prv x y 6 6 * 1000000000000000000000000000000000000000000000 + prv x y 6 7 * 1000000000000000000000000000000000000 + prv x y 6 8 * 1000000000000000000000000000 + prv x y 6 9 * 1000000000000000000 + prv x y 6 10 * 1000000000 + prv x y 6 11 = V6 x * V6 y * 1000000000 := by
  obtain ⟨a0, a1, a2, a3, a4, a5, a6, a7, a8, a9, a10, a11⟩ := prv_all x y
  rw [a0, a1, a2, a3, a4, a5, a6, a7, a8, a9, a10, a11]
  unfold V6
  grind

theorem times_t (x y : Nat → Int) (hx : Nm x) (hy : Nm y) (hv : V6 x * V6 y / 1000000000000000000000000000000000000000000000 < 1000000000000000000000000000000000000000000000000000000) :
    ∃ t g, CarryT (prv x y 6) t g ∧ Nm t ∧ V6 t = V6 x * V6 y / 1000000000000000000000000000000000000000000000 := by
  obtain ⟨t, g, r, hc, hb, hb0, hr0, hr1, he⟩ := carry_t (prv x y 6) (fun j hj => by have := prv_bd x y hx hy 6 (by omega) j; omega)
  rw [v6_times] at he
  have e : V6 t = V6 x * V6 y / 1000000000000000000000000000000000000000000000 := by
    generalize V6 x * V6 y = p at *
    omega
  refine ⟨t, g, hc, ?_, e⟩
  rw [← e] at hv
  have h1 := hb 1 (by omega) (by omega)
  have h2 := hb 2 (by omega) (by omega)
  have h3 := hb 3 (by omega) (by omega)
  have h4 := hb 4 (by omega) (by omega)
  have h5 := hb 5 (by omega) (by omega)
  refine nm6 ⟨hb0, ?_⟩ h1 h2 h3 h4 h5
  unfold V6 at hv
  omega
end SineNear
