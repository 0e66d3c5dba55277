/- The reference's long numbers: six parts, and what the four operations make of them. Plain facts. -/
import Derived.Test.YtdikelijnachjaaDoorAng
namespace SineNear
set_option linter.unusedSimpArgs false
set_option linter.unusedVariables false

/-- the number that six parts are -/
def V6 (x : Nat → Int) : Int := x 0 * 1000000000000000000000000000000000000000000000 + x 1 * 1000000000000000000000000000000000000 + x 2 * 1000000000000000000000000000 + x 3 * 1000000000000000000 + x 4 * 1000000000 + x 5
/-- all parts are below base -/
def Nm (x : Nat → Int) : Prop := ∀ j, j ≤ 5 → 0 ≤ x j ∧ x j < 1000000000

theorem nm6 {x : Nat → Int} (h0 : 0 ≤ x 0 ∧ x 0 < 1000000000) (h1 : 0 ≤ x 1 ∧ x 1 < 1000000000) (h2 : 0 ≤ x 2 ∧ x 2 < 1000000000) (h3 : 0 ≤ x 3 ∧ x 3 < 1000000000) (h4 : 0 ≤ x 4 ∧ x 4 < 1000000000) (h5 : 0 ≤ x 5 ∧ x 5 < 1000000000) : Nm x := by
  intro j hj
  rcases (by omega : j = 0 ∨ j = 1 ∨ j = 2 ∨ j = 3 ∨ j = 4 ∨ j = 5) with rfl | rfl | rfl | rfl | rfl | rfl <;> assumption
theorem all6 {p : Nat → Prop} (h1 : p 1) (h2 : p 2) (h3 : p 3) (h4 : p 4) (h5 : p 5) : ∀ j, 1 ≤ j → j ≤ 5 → p j := by
  intro j hj hk
  rcases (by omega : j = 1 ∨ j = 2 ∨ j = 3 ∨ j = 4 ∨ j = 5) with rfl | rfl | rfl | rfl | rfl <;> assumption
theorem all06 {p : Nat → Prop} (h0 : p 0) (h1 : p 1) (h2 : p 2) (h3 : p 3) (h4 : p 4) (h5 : p 5) : ∀ j, j ≤ 5 → p j := by
  intro j hk
  rcases (by omega : j = 0 ∨ j = 1 ∨ j = 2 ∨ j = 3 ∨ j = 4 ∨ j = 5) with rfl | rfl | rfl | rfl | rfl | rfl <;> assumption
theorem Nm.six {x : Nat → Int} (h : Nm x) : (0 ≤ x 0 ∧ x 0 < 1000000000) ∧ (0 ≤ x 1 ∧ x 1 < 1000000000) ∧ (0 ≤ x 2 ∧ x 2 < 1000000000) ∧ (0 ≤ x 3 ∧ x 3 < 1000000000) ∧ (0 ≤ x 4 ∧ x 4 < 1000000000) ∧ (0 ≤ x 5 ∧ x 5 < 1000000000) :=
  ⟨h 0 (by omega), h 1 (by omega), h 2 (by omega), h 3 (by omega), h 4 (by omega), h 5 (by omega)⟩

/-- six numbers as a function -/
def m6 (a b c d e f : Int) : Nat → Int
  | 0 => a
  | 1 => b
  | 2 => c
  | 3 => d
  | 4 => e
  | _ => f

/-- the rounds of a sum -/
structure PlusT (x y r c : Nat → Int) : Prop where
  c5 : c 5 = 0
  rj : ∀ j, 1 ≤ j → j ≤ 5 → r j = (x j + y j + c j) % 1000000000
  cj : ∀ j, 1 ≤ j → j ≤ 5 → c (j-1) = (x j + y j + c j) / 1000000000
  r0 : r 0 = x 0 + y 0 + c 0
  cb : ∀ j, j ≤ 5 → 0 ≤ c j ∧ c j ≤ 1
theorem plus_t (x y : Nat → Int) (hx : Nm x) (hy : Nm y) (hv : V6 x + V6 y < 1000000000000000000000000000000000000000000000000000000) : ∃ r c, PlusT x y r c ∧ Nm r ∧ V6 r = V6 x + V6 y := by
  obtain ⟨x0, x1, x2, x3, x4, x5⟩ := hx.six
  obtain ⟨y0, y1, y2, y3, y4, y5⟩ := hy.six
  obtain ⟨c4, h4⟩ : ∃ c4, c4 = (x 5 + y 5 + 0) / 1000000000 := ⟨_, rfl⟩
  obtain ⟨c3, h3⟩ : ∃ c3, c3 = (x 4 + y 4 + c4) / 1000000000 := ⟨_, rfl⟩
  obtain ⟨c2, h2⟩ : ∃ c2, c2 = (x 3 + y 3 + c3) / 1000000000 := ⟨_, rfl⟩
  obtain ⟨c1, h1⟩ : ∃ c1, c1 = (x 2 + y 2 + c2) / 1000000000 := ⟨_, rfl⟩
  obtain ⟨c0, h0⟩ : ∃ c0, c0 = (x 1 + y 1 + c1) / 1000000000 := ⟨_, rfl⟩
  obtain ⟨r5, g5⟩ : ∃ r5, r5 = (x 5 + y 5 + 0) % 1000000000 := ⟨_, rfl⟩
  obtain ⟨r4, g4⟩ : ∃ r4, r4 = (x 4 + y 4 + c4) % 1000000000 := ⟨_, rfl⟩
  obtain ⟨r3, g3⟩ : ∃ r3, r3 = (x 3 + y 3 + c3) % 1000000000 := ⟨_, rfl⟩
  obtain ⟨r2, g2⟩ : ∃ r2, r2 = (x 2 + y 2 + c2) % 1000000000 := ⟨_, rfl⟩
  obtain ⟨r1, g1⟩ : ∃ r1, r1 = (x 1 + y 1 + c1) % 1000000000 := ⟨_, rfl⟩
  have e : V6 (m6 (x 0 + y 0 + c0) r1 r2 r3 r4 r5) = V6 x + V6 y := by
    unfold V6 m6
    simp only
    omega
  refine ⟨m6 (x 0 + y 0 + c0) r1 r2 r3 r4 r5, m6 c0 c1 c2 c3 c4 0, ⟨rfl, all6 g1 g2 g3 g4 g5, all6 h0 h1 h2 h3 h4, rfl, all06 ?_ ?_ ?_ ?_ ?_ ?_⟩, ?_, e⟩
  · show 0 ≤ c0 ∧ c0 ≤ 1; omega
  · show 0 ≤ c1 ∧ c1 ≤ 1; omega
  · show 0 ≤ c2 ∧ c2 ≤ 1; omega
  · show 0 ≤ c3 ∧ c3 ≤ 1; omega
  · show 0 ≤ c4 ∧ c4 ≤ 1; omega
  · show (0:Int) ≤ 0 ∧ (0:Int) ≤ 1; omega
  · have e' := e
    unfold V6 m6 at e'
    simp only at e'
    refine nm6 ?_ ?_ ?_ ?_ ?_ ?_
    · show 0 ≤ x 0 + y 0 + c0 ∧ x 0 + y 0 + c0 < 1000000000
      unfold V6 at hv
      omega
    · show 0 ≤ r1 ∧ r1 < 1000000000; omega
    · show 0 ≤ r2 ∧ r2 < 1000000000; omega
    · show 0 ≤ r3 ∧ r3 < 1000000000; omega
    · show 0 ≤ r4 ∧ r4 < 1000000000; omega
    · show 0 ≤ r5 ∧ r5 < 1000000000; omega

/-- the rounds of a difference -/
structure MinusT (x y r b : Nat → Int) : Prop where
  b5 : b 5 = 0
  rj : ∀ j, 1 ≤ j → j ≤ 5 → r j = if x j - b j - y j < 0 then x j - b j - y j + 1000000000 else x j - b j - y j
  bj : ∀ j, 1 ≤ j → j ≤ 5 → b (j-1) = if x j - b j - y j < 0 then 1 else 0
  r0 : r 0 = x 0 - b 0 - y 0
  bb : ∀ j, j ≤ 5 → 0 ≤ b j ∧ b j ≤ 1
theorem minus_t (x y : Nat → Int) (hx : Nm x) (hy : Nm y) (hv : V6 y ≤ V6 x) : ∃ r b, MinusT x y r b ∧ Nm r ∧ V6 r = V6 x - V6 y := by
  obtain ⟨x0, x1, x2, x3, x4, x5⟩ := hx.six
  obtain ⟨y0, y1, y2, y3, y4, y5⟩ := hy.six
  obtain ⟨c4, h4⟩ : ∃ c4 : Int, c4 = if x 5 - 0 - y 5 < 0 then 1 else 0 := ⟨_, rfl⟩
  obtain ⟨c3, h3⟩ : ∃ c3 : Int, c3 = if x 4 - c4 - y 4 < 0 then 1 else 0 := ⟨_, rfl⟩
  obtain ⟨c2, h2⟩ : ∃ c2 : Int, c2 = if x 3 - c3 - y 3 < 0 then 1 else 0 := ⟨_, rfl⟩
  obtain ⟨c1, h1⟩ : ∃ c1 : Int, c1 = if x 2 - c2 - y 2 < 0 then 1 else 0 := ⟨_, rfl⟩
  obtain ⟨c0, h0⟩ : ∃ c0 : Int, c0 = if x 1 - c1 - y 1 < 0 then 1 else 0 := ⟨_, rfl⟩
  obtain ⟨r5, g5⟩ : ∃ r5, r5 = if x 5 - 0 - y 5 < 0 then x 5 - 0 - y 5 + 1000000000 else x 5 - 0 - y 5 := ⟨_, rfl⟩
  obtain ⟨r4, g4⟩ : ∃ r4, r4 = if x 4 - c4 - y 4 < 0 then x 4 - c4 - y 4 + 1000000000 else x 4 - c4 - y 4 := ⟨_, rfl⟩
  obtain ⟨r3, g3⟩ : ∃ r3, r3 = if x 3 - c3 - y 3 < 0 then x 3 - c3 - y 3 + 1000000000 else x 3 - c3 - y 3 := ⟨_, rfl⟩
  obtain ⟨r2, g2⟩ : ∃ r2, r2 = if x 2 - c2 - y 2 < 0 then x 2 - c2 - y 2 + 1000000000 else x 2 - c2 - y 2 := ⟨_, rfl⟩
  obtain ⟨r1, g1⟩ : ∃ r1, r1 = if x 1 - c1 - y 1 < 0 then x 1 - c1 - y 1 + 1000000000 else x 1 - c1 - y 1 := ⟨_, rfl⟩
  have k5 : (0 ≤ r5 ∧ r5 < 1000000000) ∧ r5 = x 5 - y 5 + 1000000000 * c4 ∧ 0 ≤ c4 ∧ c4 ≤ 1 := by rw [g5, h4]; split <;> omega
  have k4 : (0 ≤ r4 ∧ r4 < 1000000000) ∧ r4 = x 4 - c4 - y 4 + 1000000000 * c3 ∧ 0 ≤ c3 ∧ c3 ≤ 1 := by rw [g4, h3]; split <;> omega
  have k3 : (0 ≤ r3 ∧ r3 < 1000000000) ∧ r3 = x 3 - c3 - y 3 + 1000000000 * c2 ∧ 0 ≤ c2 ∧ c2 ≤ 1 := by rw [g3, h2]; split <;> omega
  have k2 : (0 ≤ r2 ∧ r2 < 1000000000) ∧ r2 = x 2 - c2 - y 2 + 1000000000 * c1 ∧ 0 ≤ c1 ∧ c1 ≤ 1 := by rw [g2, h1]; split <;> omega
  have k1 : (0 ≤ r1 ∧ r1 < 1000000000) ∧ r1 = x 1 - c1 - y 1 + 1000000000 * c0 ∧ 0 ≤ c0 ∧ c0 ≤ 1 := by rw [g1, h0]; split <;> omega
  have e : V6 (m6 (x 0 - c0 - y 0) r1 r2 r3 r4 r5) = V6 x - V6 y := by
    unfold V6 m6
    simp only
    omega
  refine ⟨m6 (x 0 - c0 - y 0) r1 r2 r3 r4 r5, m6 c0 c1 c2 c3 c4 0, ⟨rfl, all6 g1 g2 g3 g4 g5, all6 h0 h1 h2 h3 h4, rfl, all06 k1.2.2 k2.2.2 k3.2.2 k4.2.2 k5.2.2 ?_⟩, ?_, e⟩
  · show (0:Int) ≤ 0 ∧ (0:Int) ≤ 1; omega
  · have e' := e
    unfold V6 m6 at e'
    simp only at e'
    refine nm6 ?_ k1.1 k2.1 k3.1 k4.1 k5.1
    show 0 ≤ x 0 - c0 - y 0 ∧ x 0 - c0 - y 0 < 1000000000
    unfold V6 at hv
    omega

/-- the rounds of n / d times a number -/
structure ScaledT (x : Nat → Int) (n d : Int) (p c q e : Nat → Int) : Prop where
  c5 : c 5 = 0
  pj : ∀ j, 1 ≤ j → j ≤ 5 → p j = (x j * n + c j) % 1000000000
  cj : ∀ j, 1 ≤ j → j ≤ 5 → c (j-1) = (x j * n + c j) / 1000000000
  p0 : p 0 = x 0 * n + c 0
  e0 : e 0 = 0
  qj : ∀ j, j ≤ 5 → q j = (e j * 1000000000 + p j) / d
  ej : ∀ j, j ≤ 5 → e (j+1) = (e j * 1000000000 + p j) % d
  cb : ∀ j, j ≤ 5 → 0 ≤ c j ∧ c j ≤ n
  mb : ∀ j, j ≤ 5 → 0 ≤ x j * n ∧ x j * n + c j ≤ 1000000000 * n
  pb : ∀ j, j ≤ 5 → 0 ≤ p j ∧ p j ≤ 1000000000000000000
  eb : ∀ j, j ≤ 6 → 0 ≤ e j ∧ e j < d

theorem scale_part {x n c : Int} (hx : 0 ≤ x ∧ x < 1000000000) (hn : 0 < n ∧ n < 1000000000) (hc : 0 ≤ c ∧ c ≤ n) : (0 ≤ x * n ∧ x * n + c ≤ 1000000000 * n) ∧ 0 ≤ (x * n + c) / 1000000000 ∧ (x * n + c) / 1000000000 ≤ n ∧ 0 ≤ (x * n + c) % 1000000000 ∧ (x * n + c) % 1000000000 < 1000000000 := by
  have a := Int.mul_nonneg hx.1 (show 0 ≤ n by omega)
  have b := Int.mul_le_mul_of_nonneg_right (show x ≤ 999999999 by omega) (show 0 ≤ n by omega)
  generalize x * n = t at *
  omega
theorem div_part {e p d : Int} (hd : 0 < d) (he : 0 ≤ e) : d * ((e * 1000000000 + p) / d) + (e * 1000000000 + p) % d = e * 1000000000 + p ∧ 0 ≤ (e * 1000000000 + p) % d ∧ (e * 1000000000 + p) % d < d :=
  ⟨Int.mul_ediv_add_emod _ _, Int.emod_nonneg _ (by omega), Int.emod_lt_of_pos _ hd⟩
theorem quo_part {e p d : Int} (hd : 0 < d) (he : 0 ≤ e ∧ e < d) (hp : 0 ≤ p ∧ p < 1000000000) : 0 ≤ (e * 1000000000 + p) / d ∧ (e * 1000000000 + p) / d < 1000000000 := by
  refine ⟨Int.ediv_nonneg (by omega) (by omega), Int.ediv_lt_of_lt_mul hd ?_⟩
  omega

theorem scaled_t (x : Nat → Int) (n d : Int) (hx : Nm x) (hn : 0 < n ∧ n < 1000000000) (hd : 0 < d ∧ d < 1000000000) (hv : V6 x * n / d < 1000000000000000000000000000000000000000000000000000000) :
    ∃ p c q e, ScaledT x n d p c q e ∧ Nm q ∧ V6 q = V6 x * n / d := by
  obtain ⟨x0, x1, x2, x3, x4, x5⟩ := hx.six
  have z5 : (0:Int) ≤ 0 ∧ 0 ≤ n := by omega
  obtain ⟨m5, u5, v5, s5, t5⟩ := scale_part x5 hn z5
  obtain ⟨c4, h4⟩ : ∃ c4, c4 = (x 5 * n + 0) / 1000000000 := ⟨_, rfl⟩
  obtain ⟨p5, g5⟩ : ∃ p5, p5 = (x 5 * n + 0) % 1000000000 := ⟨_, rfl⟩
  have f5 : x 5 * n = 1000000000 * c4 + p5 := by omega
  rw [← h4] at u5 v5
  rw [← g5] at s5 t5
  obtain ⟨m4, u4, v4, s4, t4⟩ := scale_part x4 hn ⟨u5, v5⟩
  obtain ⟨c3, h3⟩ : ∃ c3, c3 = (x 4 * n + c4) / 1000000000 := ⟨_, rfl⟩
  obtain ⟨p4, g4⟩ : ∃ p4, p4 = (x 4 * n + c4) % 1000000000 := ⟨_, rfl⟩
  have f4 : x 4 * n + c4 = 1000000000 * c3 + p4 := by omega
  rw [← h3] at u4 v4
  rw [← g4] at s4 t4
  obtain ⟨m3, u3, v3, s3, t3⟩ := scale_part x3 hn ⟨u4, v4⟩
  obtain ⟨c2, h2⟩ : ∃ c2, c2 = (x 3 * n + c3) / 1000000000 := ⟨_, rfl⟩
  obtain ⟨p3, g3⟩ : ∃ p3, p3 = (x 3 * n + c3) % 1000000000 := ⟨_, rfl⟩
  have f3 : x 3 * n + c3 = 1000000000 * c2 + p3 := by omega
  rw [← h2] at u3 v3
  rw [← g3] at s3 t3
  obtain ⟨m2, u2, v2, s2, t2⟩ := scale_part x2 hn ⟨u3, v3⟩
  obtain ⟨c1, h1⟩ : ∃ c1, c1 = (x 2 * n + c2) / 1000000000 := ⟨_, rfl⟩
  obtain ⟨p2, g2⟩ : ∃ p2, p2 = (x 2 * n + c2) % 1000000000 := ⟨_, rfl⟩
  have f2 : x 2 * n + c2 = 1000000000 * c1 + p2 := by omega
  rw [← h1] at u2 v2
  rw [← g2] at s2 t2
  obtain ⟨m1, u1, v1, s1, t1⟩ := scale_part x1 hn ⟨u2, v2⟩
  obtain ⟨c0, h0⟩ : ∃ c0, c0 = (x 1 * n + c1) / 1000000000 := ⟨_, rfl⟩
  obtain ⟨p1, g1⟩ : ∃ p1, p1 = (x 1 * n + c1) % 1000000000 := ⟨_, rfl⟩
  have f1 : x 1 * n + c1 = 1000000000 * c0 + p1 := by omega
  rw [← h0] at u1 v1
  rw [← g1] at s1 t1
  obtain ⟨m0, _, _, _, _⟩ := scale_part x0 hn ⟨u1, v1⟩
  obtain ⟨p0, g0⟩ : ∃ p0, p0 = x 0 * n + c0 := ⟨_, rfl⟩
  have b0 : 0 ≤ p0 ∧ p0 ≤ 1000000000000000000 := by omega
  have P : V6 (m6 p0 p1 p2 p3 p4 p5) = V6 x * n := by
    have : V6 x * n = (x 0 * n) * 1000000000000000000000000000000000000000000000 + (x 1 * n) * 1000000000000000000000000000000000000 + (x 2 * n) * 1000000000000000000000000000 + (x 3 * n) * 1000000000000000000 + (x 4 * n) * 1000000000 + x 5 * n := by
      unfold V6; grind
    rw [this]
    unfold V6 m6
    simp only
    omega
  obtain ⟨d0, i0, j0⟩ := div_part (e := 0) (p := p0) hd.1 (by omega)
  obtain ⟨q0, k0⟩ : ∃ q0, q0 = (0 * 1000000000 + p0) / d := ⟨_, rfl⟩
  obtain ⟨e1, l1⟩ : ∃ e1, e1 = (0 * 1000000000 + p0) % d := ⟨_, rfl⟩
  rw [← k0, ← l1] at d0
  rw [← l1] at i0 j0
  have w1 := quo_part (e := e1) (p := p1) hd.1 ⟨i0, j0⟩ ⟨s1, t1⟩
  obtain ⟨d1, i1, j1⟩ := div_part (e := e1) (p := p1) hd.1 i0
  obtain ⟨q1, k1⟩ : ∃ q1, q1 = (e1 * 1000000000 + p1) / d := ⟨_, rfl⟩
  obtain ⟨e2, l2⟩ : ∃ e2, e2 = (e1 * 1000000000 + p1) % d := ⟨_, rfl⟩
  rw [← k1, ← l2] at d1
  rw [← l2] at i1 j1
  rw [← k1] at w1
  have w2 := quo_part (e := e2) (p := p2) hd.1 ⟨i1, j1⟩ ⟨s2, t2⟩
  obtain ⟨d2, i2, j2⟩ := div_part (e := e2) (p := p2) hd.1 i1
  obtain ⟨q2, k2⟩ : ∃ q2, q2 = (e2 * 1000000000 + p2) / d := ⟨_, rfl⟩
  obtain ⟨e3, l3⟩ : ∃ e3, e3 = (e2 * 1000000000 + p2) % d := ⟨_, rfl⟩
  rw [← k2, ← l3] at d2
  rw [← l3] at i2 j2
  rw [← k2] at w2
  have w3 := quo_part (e := e3) (p := p3) hd.1 ⟨i2, j2⟩ ⟨s3, t3⟩
  obtain ⟨d3, i3, j3⟩ := div_part (e := e3) (p := p3) hd.1 i2
  obtain ⟨q3, k3⟩ : ∃ q3, q3 = (e3 * 1000000000 + p3) / d := ⟨_, rfl⟩
  obtain ⟨e4, l4⟩ : ∃ e4, e4 = (e3 * 1000000000 + p3) % d := ⟨_, rfl⟩
  rw [← k3, ← l4] at d3
  rw [← l4] at i3 j3
  rw [← k3] at w3
  have w4 := quo_part (e := e4) (p := p4) hd.1 ⟨i3, j3⟩ ⟨s4, t4⟩
  obtain ⟨d4, i4, j4⟩ := div_part (e := e4) (p := p4) hd.1 i3
  obtain ⟨q4, k4⟩ : ∃ q4, q4 = (e4 * 1000000000 + p4) / d := ⟨_, rfl⟩
  obtain ⟨e5, l5⟩ : ∃ e5, e5 = (e4 * 1000000000 + p4) % d := ⟨_, rfl⟩
  rw [← k4, ← l5] at d4
  rw [← l5] at i4 j4
  rw [← k4] at w4
  have w5 := quo_part (e := e5) (p := p5) hd.1 ⟨i4, j4⟩ ⟨s5, t5⟩
  obtain ⟨d5, i5, j5⟩ := div_part (e := e5) (p := p5) hd.1 i4
  obtain ⟨q5, k5⟩ : ∃ q5, q5 = (e5 * 1000000000 + p5) / d := ⟨_, rfl⟩
  obtain ⟨e6, l6⟩ : ∃ e6, e6 = (e5 * 1000000000 + p5) % d := ⟨_, rfl⟩
  rw [← k5, ← l6] at d5
  rw [← l6] at i5 j5
  rw [← k5] at w5
  have w0 : 0 ≤ q0 := by rw [k0]; exact Int.ediv_nonneg (by omega) (by omega)
  have E : V6 (m6 q0 q1 q2 q3 q4 q5) = V6 x * n / d := by
    have s : d * V6 (m6 q0 q1 q2 q3 q4 q5) + e6 = V6 x * n := by
      rw [← P]
      have : d * V6 (m6 q0 q1 q2 q3 q4 q5) = (d * q0) * 1000000000000000000000000000000000000000000000 + (d * q1) * 1000000000000000000000000000000000000 + (d * q2) * 1000000000000000000000000000 + (d * q3) * 1000000000000000000 + (d * q4) * 1000000000 + d * q5 := by
        unfold V6 m6; simp only; grind
      rw [this]
      unfold V6 m6
      simp only
      omega
    have t := (Int.ediv_emod_unique hd.1 (a := V6 x * n) (r := e6) (q := V6 (m6 q0 q1 q2 q3 q4 q5))).2 ⟨by omega, i5, j5⟩
    exact t.1.symm
  refine ⟨m6 p0 p1 p2 p3 p4 p5, m6 c0 c1 c2 c3 c4 0, m6 q0 q1 q2 q3 q4 q5, fun j => match j with | 0 => 0 | 1 => e1 | 2 => e2 | 3 => e3 | 4 => e4 | 5 => e5 | _ => e6, ⟨rfl, all6 g1 g2 g3 g4 g5, all6 h0 h1 h2 h3 h4, g0, rfl, all06 k0 k1 k2 k3 k4 k5, all06 l1 l2 l3 l4 l5 l6, all06 ⟨u1, v1⟩ ⟨u2, v2⟩ ⟨u3, v3⟩ ⟨u4, v4⟩ ⟨u5, v5⟩ z5, all06 m0 m1 m2 m3 m4 m5, all06 b0 ⟨s1, by show p1 ≤ _; omega⟩ ⟨s2, by show p2 ≤ _; omega⟩ ⟨s3, by show p3 ≤ _; omega⟩ ⟨s4, by show p4 ≤ _; omega⟩ ⟨s5, by show p5 ≤ _; omega⟩, ?_⟩, ?_, E⟩
  · intro j hj
    rcases (by omega : j = 0 ∨ j = 1 ∨ j = 2 ∨ j = 3 ∨ j = 4 ∨ j = 5 ∨ j = 6) with rfl | rfl | rfl | rfl | rfl | rfl | rfl
    · exact ⟨Int.le_refl 0, hd.1⟩
    · exact ⟨i0, j0⟩
    · exact ⟨i1, j1⟩
    · exact ⟨i2, j2⟩
    · exact ⟨i3, j3⟩
    · exact ⟨i4, j4⟩
    · exact ⟨i5, j5⟩
  · have E' := E
    refine nm6 ⟨w0, ?_⟩ w1 w2 w3 w4 w5
    rw [← E] at hv
    unfold V6 m6 at hv
    simp only at hv
    show q0 < 1000000000
    omega
end SineNear
