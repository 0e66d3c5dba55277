/- Plain: shares of fields; a split that is twice as fine; greater values. -/
import Derived.Test.YtgmpipciinphiaaHld
import Derived.Test.YtgmpipciinphiaaWro
namespace Go.Proofs.Ytgmpipciinphiaa
set_option linter.unusedSimpArgs false
set_option linter.unusedVariables false
set_option linter.unusedSectionVars false

/-- sums -/
def sm (f : Nat → Int) : Nat → Int
  | 0 => 0
  | n + 1 => sm f n + f n
theorem sm_le {f g : Nat → Int} : ∀ {n : Nat}, (∀ j, j < n → f j ≤ g j) → sm f n ≤ sm g n
  | 0, _ => Int.le_refl _
  | n + 1, h => Int.add_le_add (sm_le (fun j hj => h j (by omega))) (h n (by omega))
theorem sm_eq {f g : Nat → Int} : ∀ {n : Nat}, (∀ j, j < n → f j = g j) → sm f n = sm g n
  | 0, _ => rfl
  | n + 1, h => by unfold sm; rw [sm_eq (fun j hj => h j (by omega)), h n (by omega)]
theorem sm_bd {f : Nat → Int} {c : Int} : ∀ {n : Nat}, (∀ j, j < n → 0 ≤ f j ∧ f j ≤ c) → 0 ≤ sm f n ∧ sm f n ≤ (n : Int) * c
  | 0, _ => by simp [sm]
  | n + 1, h => by
    have a := sm_bd (n := n) (fun j hj => h j (by omega))
    have b := h n (by omega)
    have e : ((n + 1 : Nat) : Int) * c = (n : Int) * c + c := by rw [show ((n + 1 : Nat) : Int) = (n : Int) + 1 by omega, Int.add_mul, Int.one_mul]
    show 0 ≤ sm f n + f n ∧ sm f n + f n ≤ _
    omega
theorem sm_off {f g : Nat → Int} {c : Int} : ∀ {n : Nat}, (∀ j, j < n → f j ≤ g j + c) → sm f n ≤ sm g n + (n : Int) * c
  | 0, _ => by simp [sm]
  | n + 1, h => by
    have a := sm_off (n := n) (fun j hj => h j (by omega))
    have b := h n (by omega)
    have e : ((n + 1 : Nat) : Int) * c = (n : Int) * c + c := by rw [show ((n + 1 : Nat) : Int) = (n : Int) + 1 by omega, Int.add_mul, Int.one_mul]
    show sm f n + f n ≤ sm g n + g n + _
    omega
theorem sm_two (f : Nat → Int) : ∀ n : Nat, sm f (2 * n) = sm (fun a => f (2 * a) + f (2 * a + 1)) n
  | 0 => rfl
  | n + 1 => by
    show sm f (2 * n + 1 + 1) = _
    show sm f (2 * n) + f (2 * n) + f (2 * n + 1) = sm _ n + (f (2 * n) + f (2 * n + 1))
    rw [sm_two f n]; omega
theorem sm_add (f g : Nat → Int) : ∀ n : Nat, sm (fun a => f a + g a) n = sm f n + sm g n
  | 0 => rfl
  | n + 1 => by show sm _ n + (f n + g n) = sm f n + f n + (sm g n + g n); rw [sm_add f g n]; omega

/-- row by row, and all at once -/
theorem sm_row (f : Nat → Nat → Int) (s a : Nat) (b : Nat) (hb : b ≤ s) : sm (fun j => f (j / s) (j % s)) (a * s + b) = sm (fun j => f (j / s) (j % s)) (a * s) + sm (f a) b := by
  induction b with
  | zero => simp [sm]
  | succ b ih =>
    have h1 : (a * s + b) / s = a := by rw [Nat.mul_comm]; rw [Nat.mul_add_div (by omega)]; rw [Nat.div_eq_of_lt (by omega)]; rfl
    have h2 : (a * s + b) % s = b := by rw [Nat.mul_comm, Nat.mul_add_mod]; exact Nat.mod_eq_of_lt (by omega)
    show sm _ (a * s + b) + f ((a * s + b) / s) ((a * s + b) % s) = _ + (sm (f a) b + f a b)
    rw [ih (by omega), h1, h2]; omega
theorem sm_sq (f : Nat → Nat → Int) (s : Nat) : ∀ a : Nat, sm (fun j => f (j / s) (j % s)) (a * s) = sm (fun a => sm (f a) s) a
  | 0 => by simp [sm]
  | a + 1 => by
    have := sm_row f s a s (Nat.le_refl s)
    rw [show (a + 1) * s = a * s + s by rw [Nat.add_mul, Nat.one_mul], this, sm_sq f s a]
    rfl

theorem rt_mono {a b : Int} (h0 : 0 ≤ a) (h : a ≤ b) : rt a ≤ rt b := by
  obtain ⟨a0, a1, a2⟩ := rt_is h0
  obtain ⟨b0, b1, b2⟩ := rt_is (show 0 ≤ b by omega)
  refine Int.not_lt.1 fun c => ?_
  have := Int.mul_le_mul (show rt b + 1 ≤ rt a by omega) (show rt b + 1 ≤ rt a by omega) (by omega) a0
  omega
theorem rtU_mono {a b : Int} (h0 : 0 ≤ a) (h : a ≤ b) : rtU a ≤ rtU b := by
  have m := rt_mono h0 h
  obtain ⟨a0, a1, a2⟩ := rt_is h0
  obtain ⟨b0, b1, b2⟩ := rt_is (show 0 ≤ b by omega)
  unfold rtU
  split <;> split
  · exact m
  · omega
  · rename_i ne e
    refine Int.not_lt.1 fun c => ?_
    have e2 : rt a = rt b := by omega
    rw [e2] at a1 ne
    omega
  · omega
theorem rt_ge {a : Int} (k : Int) (hk : 0 ≤ k) (h : k * k ≤ a) : k ≤ rt a := by
  have h0 : 0 ≤ a := Int.le_trans (Int.mul_nonneg hk hk) h
  obtain ⟨a0, a1, a2⟩ := rt_is h0
  refine Int.not_lt.1 fun c => ?_
  have := Int.mul_le_mul (show rt a + 1 ≤ k by omega) (show rt a + 1 ≤ k by omega) (by omega) hk
  omega
theorem rt_le {a : Int} (k : Int) (hk : 0 ≤ k) (h0 : 0 ≤ a) (h : a ≤ k * k) : rtU a ≤ k := by
  obtain ⟨a0, a1, a2⟩ := rt_is h0
  unfold rtU
  split
  · refine Int.not_lt.1 fun c => ?_
    have := Int.mul_le_mul (show k + 1 ≤ rt a by omega) (show k + 1 ≤ rt a by omega) (by omega) a0
    have e : (k + 1) * (k + 1) = k * k + 2 * k + 1 := by grind
    omega
  · rename_i ne
    refine Int.not_lt.1 fun c => ?_
    have := Int.mul_le_mul (show k ≤ rt a by omega) (show k ≤ rt a by omega) hk a0
    omega
theorem rt_rtU {a : Int} : rt a ≤ rtU a := by unfold rtU; split <;> omega

/-- the least and the greatest square between two numbers -/
def sqN (a b : Int) : Int := if a ≤ 0 ∧ 0 ≤ b then 0 else min (a * a) (b * b)
def sqF (a b : Int) : Int := max (a * a) (b * b)
theorem sq_le {a : Int} (h0 : -5000 ≤ a) (h1 : a ≤ 5000) : 0 ≤ a * a ∧ a * a ≤ 25000000 := by
  by_cases c : 0 ≤ a
  · exact ⟨Int.mul_nonneg c c, Int.mul_le_mul h1 h1 c (by decide)⟩
  · have e : a * a = (-a) * (-a) := by grind
    rw [e]
    exact ⟨Int.mul_nonneg (by omega) (by omega), Int.mul_le_mul (show -a ≤ 5000 by omega) (show -a ≤ 5000 by omega) (by omega) (by decide)⟩
theorem sq_mono {a b : Int} (h0 : 0 ≤ a) (h : a ≤ b) : a * a ≤ b * b := Int.mul_le_mul h h h0 (by omega)
theorem sq_mono' {a b : Int} (h0 : b ≤ 0) (h : a ≤ b) : b * b ≤ a * a := by
  have := sq_mono (a := -b) (b := -a) (by omega) (by omega)
  rw [show (-b) * (-b) = b * b by grind, show (-a) * (-a) = a * a by grind] at this
  exact this
theorem sqF_mono {a b x y : Int} (h0 : a ≤ x) (h1 : x ≤ y) (h2 : y ≤ b) : sqF x y ≤ sqF a b := by
  unfold sqF
  by_cases c : 0 ≤ x
  · have := sq_mono c (show x ≤ b by omega); have := sq_mono (show 0 ≤ y by omega) h2; omega
  · have := sq_mono' (show x ≤ 0 by omega) h0
    by_cases d : 0 ≤ y
    · have := sq_mono d h2; omega
    · have := sq_mono' (show y ≤ 0 by omega) (show a ≤ y by omega); omega
theorem sqN_mono {a b x y : Int} (h0 : a ≤ x) (h1 : x ≤ y) (h2 : y ≤ b) (x0 : -5000 ≤ a) (y0 : b ≤ 5000) : sqN a b ≤ sqN x y := by
  have s0 := (sq_le (a := x) (by omega) (by omega)).1
  have s1 := (sq_le (a := y) (by omega) (by omega)).1
  unfold sqN
  split <;> split
  · exact Int.le_refl _
  · omega
  · omega
  · by_cases c : 0 ≤ x
    · by_cases d : 0 ≤ a
      · have := sq_mono d h0; have := sq_mono d (show a ≤ y by omega); omega
      · omega
    · by_cases d : 0 ≤ y
      · omega
      · have := sq_mono' (show y ≤ 0 by omega) h1
        by_cases e : b ≤ 0
        · have := sq_mono' e h2; have := sq_mono' e (show x ≤ b by omega); omega
        · omega
theorem sqN_F {a b : Int} (x0 : -5000 ≤ a) (y0 : b ≤ 5000) (h : a ≤ b) : 0 ≤ sqN a b ∧ sqN a b ≤ sqF a b ∧ sqF a b ≤ 25000000 := by
  have s0 := sq_le (a := a) (by omega) (by omega)
  have s1 := sq_le (a := b) (by omega) (by omega)
  unfold sqN sqF
  split <;> omega

/-- what a part of a field adds -/
def qN (u0 u1 v0 v1 : Int) : Int := 1000000 + sqN u0 u1 + sqN v0 v1
def qF (u0 u1 v0 v1 : Int) : Int := 1000000 + sqF u0 u1 + sqF v0 v1
noncomputable def shLo (m u0 u1 v0 v1 : Int) : Int := m * ((u1 - u0) * (v1 - v0) * 1000) / (rtU (qF u0 u1 v0 v1) * rtU (qF u0 u1 v0 v1) * rtU (qF u0 u1 v0 v1))
noncomputable def shHi (m u0 u1 v0 v1 : Int) : Int := upD (m * ((u1 - u0) * (v1 - v0) * 1000)) (rt (qN u0 u1 v0 v1) * rt (qN u0 u1 v0 v1) * rt (qN u0 u1 v0 v1))

structure Part (u0 u1 : Int) : Prop where
  lo : -5000 ≤ u0
  le : u0 ≤ u1
  hi : u1 ≤ 5000

theorem cube_mono {a b : Int} (h0 : 0 ≤ a) (h : a ≤ b) : a * a * a ≤ b * b * b := Int.mul_le_mul (sq_mono h0 h) h h0 (Int.mul_nonneg (by omega) (by omega))
theorem shq_bd {u0 u1 v0 v1 : Int} (hu : Part u0 u1) (hv : Part v0 v1) : 1000000 ≤ qN u0 u1 v0 v1 ∧ qN u0 u1 v0 v1 ≤ qF u0 u1 v0 v1 ∧ qF u0 u1 v0 v1 ≤ 51000000 ∧
    1000 ≤ rt (qN u0 u1 v0 v1) ∧ rt (qN u0 u1 v0 v1) ≤ rtU (qF u0 u1 v0 v1) ∧ rtU (qF u0 u1 v0 v1) ≤ 7200 := by
  obtain ⟨a0, a1, a2⟩ := sqN_F hu.lo hu.hi hu.le
  obtain ⟨b0, b1, b2⟩ := sqN_F hv.lo hv.hi hv.le
  have h0 : 1000000 ≤ qN u0 u1 v0 v1 := by unfold qN; omega
  have h1 : qN u0 u1 v0 v1 ≤ qF u0 u1 v0 v1 := by unfold qN qF; omega
  have h2 : qF u0 u1 v0 v1 ≤ 51000000 := by unfold qF; omega
  refine ⟨h0, h1, h2, rt_ge 1000 (by decide) (by omega), ?_, rt_le 7200 (by decide) (by omega) (by omega)⟩
  exact Int.le_trans (rt_mono (by omega) h1) rt_rtU
theorem size_bd {u0 u1 v0 v1 : Int} (hu : Part u0 u1) (hv : Part v0 v1) : 0 ≤ (u1 - u0) * (v1 - v0) ∧ (u1 - u0) * (v1 - v0) ≤ 100000000 := by
  have a := hu.lo; have b := hu.le; have c := hu.hi; have d := hv.lo; have e := hv.le; have f := hv.hi
  exact ⟨Int.mul_nonneg (by omega) (by omega), Int.mul_le_mul (show u1 - u0 ≤ 10000 by omega) (show v1 - v0 ≤ 10000 by omega) (by omega) (by decide)⟩
theorem num_bd {m s : Int} (m0 : 0 ≤ m) (m1 : m ≤ 10000000) (s0 : 0 ≤ s) (s1 : s ≤ 100000000) : 0 ≤ m * (s * 1000) ∧ m * (s * 1000) ≤ 1000000000000000000 :=
  ⟨Int.mul_nonneg m0 (by omega), Int.mul_le_mul m1 (show s * 1000 ≤ 100000000000 by omega) (by omega) (by decide)⟩
theorem cube_bd {d : Int} (h0 : 1000 ≤ d) (h1 : d ≤ 7200) : 1000000 ≤ d * d ∧ d * d ≤ 51840000 ∧ 1000000000 ≤ d * d * d ∧ d * d * d ≤ 373248000000 :=
  ⟨Int.mul_le_mul h0 h0 (by decide) (by omega), Int.mul_le_mul h1 h1 (by omega) (by decide), cube_mono (a := 1000) (by decide) h0, cube_mono (b := 7200) (by omega) h1⟩

theorem div_anti {x d D : Int} (h : 0 ≤ x) (d0 : 0 < d) (h1 : d ≤ D) : x / D ≤ x / d := by
  refine Int.le_ediv_of_mul_le d0 ?_
  have a := Int.ediv_mul_le x (show D ≠ 0 by omega)
  have b := Int.ediv_nonneg h (show 0 ≤ D by omega)
  have c := Int.mul_le_mul_of_nonneg_left h1 b
  omega
theorem up_anti {x d D : Int} (h : 0 ≤ x) (d0 : 0 < d) (h1 : d ≤ D) : upD x D ≤ upD x d := by
  obtain ⟨a, b⟩ := ceil_up (a := x) d0
  obtain ⟨a', b'⟩ := ceil_up (a := x) (show 0 < D by omega)
  refine Int.not_lt.1 fun c => ?_
  have n : 0 ≤ upD x d := by
    refine Int.not_lt.1 fun cc => ?_
    have := Int.mul_neg_of_neg_of_pos cc d0
    omega
  have k1 := Int.mul_le_mul_of_nonneg_left h1 n
  have k2 := Int.mul_le_mul_of_nonneg_right (show upD x d ≤ upD x D - 1 by omega) (show 0 ≤ D by omega)
  omega
theorem ceil_mono {a b d : Int} (d0 : 0 < d) (h : a ≤ b) : upD a d ≤ upD b d := by
  unfold upD
  have := Int.ediv_le_ediv d0 (show -b ≤ -a by omega)
  omega
theorem ceil_bd {x d c : Int} (h : 0 ≤ x) (d0 : 0 < d) (hx : x ≤ c * d) : 0 ≤ upD x d ∧ upD x d ≤ c := by
  obtain ⟨a, b⟩ := ceil_up (a := x) d0
  refine ⟨?_, ?_⟩
  · refine Int.not_lt.1 fun cc => ?_
    have := Int.mul_neg_of_neg_of_pos cc d0
    omega
  · refine Int.not_lt.1 fun cc => ?_
    have := Int.mul_le_mul_of_nonneg_right (show c ≤ upD x d - 1 by omega) (show 0 ≤ d by omega)
    omega
theorem floor_add (a b d : Int) (d0 : 0 < d) : (a + b) / d - 1 ≤ a / d + b / d := by
  have h0 := Int.lt_ediv_add_one_mul_self a d0
  have h1 := Int.lt_ediv_add_one_mul_self b d0
  have h2 := Int.ediv_mul_le (a + b) (show d ≠ 0 by omega)
  refine Int.not_lt.1 fun c => ?_
  have := Int.mul_le_mul_of_nonneg_right (show a / d + 1 + (b / d + 1) ≤ (a + b) / d by omega) (show 0 ≤ d by omega)
  rw [Int.add_mul] at this
  omega
theorem ceil_add (a b d : Int) (d0 : 0 < d) : upD a d + upD b d ≤ upD (a + b) d + 1 := by
  have := floor_add (-a) (-b) d d0
  unfold upD
  rw [show -(a + b) = -a + -b by omega]
  omega

/-- the ends of what a part adds -/
theorem sh_bd {m M u0 u1 v0 v1 : Int} (hu : Part u0 u1) (hv : Part v0 v1) (m0 : 0 ≤ m) (hm : m ≤ M) (m1 : M ≤ 10000000) : 0 ≤ shLo m u0 u1 v0 v1 ∧ shLo m u0 u1 v0 v1 ≤ shHi M u0 u1 v0 v1 ∧ shHi M u0 u1 v0 v1 ≤ 1000000000 := by
  obtain ⟨q0, q1, q2, r0, r1, r2⟩ := shq_bd hu hv
  obtain ⟨s0, s1⟩ := size_bd hu hv
  obtain ⟨n0, n1⟩ := num_bd (m := m) m0 (by omega) s0 s1
  obtain ⟨N0, N1⟩ := num_bd (m := M) (by omega) m1 s0 s1
  obtain ⟨_, _, c0, c1⟩ := cube_bd (d := rtU (qF u0 u1 v0 v1)) (by omega) r2
  obtain ⟨_, _, d0, d1⟩ := cube_bd (d := rt (qN u0 u1 v0 v1)) r0 (by omega)
  have cm := cube_mono (show 0 ≤ rt (qN u0 u1 v0 v1) by omega) r1
  have hmM := Int.mul_le_mul_of_nonneg_right hm (show 0 ≤ (u1 - u0) * (v1 - v0) * 1000 by omega)
  unfold shLo shHi
  generalize rtU (qF u0 u1 v0 v1) * rtU (qF u0 u1 v0 v1) * rtU (qF u0 u1 v0 v1) = D at *
  generalize rt (qN u0 u1 v0 v1) * rt (qN u0 u1 v0 v1) * rt (qN u0 u1 v0 v1) = d at *
  generalize m * ((u1 - u0) * (v1 - v0) * 1000) = x at *
  generalize M * ((u1 - u0) * (v1 - v0) * 1000) = y at *
  refine ⟨Int.ediv_nonneg n0 (by omega), ?_, (ceil_bd N0 (by omega) (by have := Int.mul_le_mul_of_nonneg_left d0 (show (0 : Int) ≤ 1000000000 by decide); omega)).2⟩
  refine Int.le_trans (div_anti n0 (show 0 < d by omega) cm) (Int.le_trans (Int.ediv_le_ediv (by omega) hmM) ?_)
  obtain ⟨a, b⟩ := ceil_up (a := y) (show 0 < d by omega)
  exact Int.ediv_le_of_le_mul (by omega) a

/-- a part that is divided: both sums -/
theorem sh_split4 {m u0 um u1 v0 vm v1 : Int} (h1 : u0 ≤ um) (h2 : um ≤ u1) (h3 : v0 ≤ vm) (h4 : vm ≤ v1) (hu : Part u0 u1) (hv : Part v0 v1) (m0 : 0 ≤ m) :
    shLo m u0 u1 v0 v1 - 3 ≤ (shLo m u0 um v0 vm + shLo m u0 um vm v1) + (shLo m um u1 v0 vm + shLo m um u1 vm v1) ∧
    (shHi m u0 um v0 vm + shHi m u0 um vm v1) + (shHi m um u1 v0 vm + shHi m um u1 vm v1) ≤ shHi m u0 u1 v0 v1 + 3 := by
  have lo0 := hu.lo; have hi0 := hu.hi; have lo1 := hv.lo; have hi1 := hv.hi
  obtain ⟨q0, q1, q2, r0, r1, r2⟩ := shq_bd hu hv
  obtain ⟨_, _, c0, c1⟩ := cube_bd (d := rtU (qF u0 u1 v0 v1)) (by omega) r2
  obtain ⟨_, _, d0, d1⟩ := cube_bd (d := rt (qN u0 u1 v0 v1)) r0 (by omega)
  have key : ∀ x y z w, u0 ≤ x → x ≤ y → y ≤ u1 → v0 ≤ z → z ≤ w → w ≤ v1 →
      m * ((y - x) * (w - z) * 1000) / (rtU (qF u0 u1 v0 v1) * rtU (qF u0 u1 v0 v1) * rtU (qF u0 u1 v0 v1)) ≤ shLo m x y z w ∧
      shHi m x y z w ≤ upD (m * ((y - x) * (w - z) * 1000)) (rt (qN u0 u1 v0 v1) * rt (qN u0 u1 v0 v1) * rt (qN u0 u1 v0 v1)) := fun x y z w a b c d e f => by
    have hx : Part x y := ⟨by omega, b, by omega⟩
    have hz : Part z w := ⟨by omega, e, by omega⟩
    obtain ⟨p0, p1, p2, t0, t1, t2⟩ := shq_bd hx hz
    obtain ⟨_, _, e0, e1⟩ := cube_bd (d := rtU (qF x y z w)) (by omega) t2
    obtain ⟨_, _, f0, f1⟩ := cube_bd (d := rt (qN x y z w)) t0 (by omega)
    have n0 : 0 ≤ m * ((y - x) * (w - z) * 1000) := Int.mul_nonneg m0 (by have := (size_bd hx hz).1; omega)
    have g1 : qF x y z w ≤ qF u0 u1 v0 v1 := by have := sqF_mono a b c; have := sqF_mono d e f; unfold qF; omega
    have g2 : qN u0 u1 v0 v1 ≤ qN x y z w := by have := sqN_mono a b c lo0 hi0; have := sqN_mono d e f lo1 hi1; unfold qN; omega
    unfold shLo shHi
    exact ⟨div_anti n0 (by omega) (cube_mono (by omega) (rtU_mono (by omega) g1)), up_anti n0 (by omega) (cube_mono (by omega) (rt_mono (by omega) g2))⟩
  have k1 := key u0 um v0 vm (Int.le_refl _) h1 h2 (Int.le_refl _) h3 h4
  have k2 := key u0 um vm v1 (Int.le_refl _) h1 h2 h3 h4 (Int.le_refl _)
  have k3 := key um u1 v0 vm h1 h2 (Int.le_refl _) (Int.le_refl _) h3 h4
  have k4 := key um u1 vm v1 h1 h2 (Int.le_refl _) h3 h4 (Int.le_refl _)
  clear key
  have es : m * ((u1 - u0) * (v1 - v0) * 1000) = (m * ((um - u0) * (vm - v0) * 1000) + m * ((um - u0) * (v1 - vm) * 1000)) + (m * ((u1 - um) * (vm - v0) * 1000) + m * ((u1 - um) * (v1 - vm) * 1000)) := by grind
  have eL : shLo m u0 u1 v0 v1 = ((m * ((um - u0) * (vm - v0) * 1000) + m * ((um - u0) * (v1 - vm) * 1000)) + (m * ((u1 - um) * (vm - v0) * 1000) + m * ((u1 - um) * (v1 - vm) * 1000))) / (rtU (qF u0 u1 v0 v1) * rtU (qF u0 u1 v0 v1) * rtU (qF u0 u1 v0 v1)) := by unfold shLo; rw [es]
  have eH : shHi m u0 u1 v0 v1 = upD ((m * ((um - u0) * (vm - v0) * 1000) + m * ((um - u0) * (v1 - vm) * 1000)) + (m * ((u1 - um) * (vm - v0) * 1000) + m * ((u1 - um) * (v1 - vm) * 1000))) (rt (qN u0 u1 v0 v1) * rt (qN u0 u1 v0 v1) * rt (qN u0 u1 v0 v1)) := by unfold shHi; rw [es]
  rw [eL, eH]
  clear eL eH es
  generalize rtU (qF u0 u1 v0 v1) * rtU (qF u0 u1 v0 v1) * rtU (qF u0 u1 v0 v1) = D at *
  generalize rt (qN u0 u1 v0 v1) * rt (qN u0 u1 v0 v1) * rt (qN u0 u1 v0 v1) = d at *
  generalize m * ((um - u0) * (vm - v0) * 1000) = a at *
  generalize m * ((um - u0) * (v1 - vm) * 1000) = b at *
  generalize m * ((u1 - um) * (vm - v0) * 1000) = c at *
  generalize m * ((u1 - um) * (v1 - vm) * 1000) = e at *
  have f1 := floor_add (a + b) (c + e) D (by omega)
  have f2 := floor_add a b D (by omega)
  have f3 := floor_add c e D (by omega)
  have g1 := ceil_add (a + b) (c + e) d (by omega)
  have g2 := ceil_add a b d (by omega)
  have g3 := ceil_add c e d (by omega)
  omega
theorem sh_mono {m m' u0 u1 v0 v1 : Int} (hu : Part u0 u1) (hv : Part v0 v1) (h : m ≤ m') : shLo m u0 u1 v0 v1 ≤ shLo m' u0 u1 v0 v1 ∧ shHi m u0 u1 v0 v1 ≤ shHi m' u0 u1 v0 v1 := by
  obtain ⟨q0, q1, q2, r0, r1, r2⟩ := shq_bd hu hv
  obtain ⟨s0, s1⟩ := size_bd hu hv
  obtain ⟨_, _, c0, c1⟩ := cube_bd (d := rtU (qF u0 u1 v0 v1)) (by omega) r2
  obtain ⟨_, _, d0, d1⟩ := cube_bd (d := rt (qN u0 u1 v0 v1)) r0 (by omega)
  have hmM := Int.mul_le_mul_of_nonneg_right h (show 0 ≤ (u1 - u0) * (v1 - v0) * 1000 by omega)
  unfold shLo shHi
  exact ⟨Int.ediv_le_ediv (by omega) hmM, ceil_mono (by omega) hmM⟩

/-- where a part of what is between a tangent and the next one begins -/
def cutU (us : List Int) (i s a : Nat) : Int := nth us i + (nth us (i + 1) - nth us i) * a / s
theorem cut_0 (us : List Int) (i s : Nat) : cutU us i s 0 = nth us i := by unfold cutU; simp
theorem cut_s (us : List Int) (i : Nat) {s : Nat} (hs : 0 < s) : cutU us i s s = nth us (i + 1) := by
  unfold cutU
  rw [Int.mul_ediv_cancel _ (by omega)]
  omega
theorem cut_mono {us : List Int} (ok : ListOk us) {i s a b : Nat} (hi : i + 1 < us.length) (hs : 0 < s) (hab : a ≤ b) : cutU us i s a ≤ cutU us i s b := by
  have up := ok.up i hi
  unfold cutU
  have := Int.ediv_le_ediv (show (0 : Int) < (s : Int) by omega) (Int.mul_le_mul_of_nonneg_left (show (a : Int) ≤ (b : Int) by omega) (show 0 ≤ nth us (i + 1) - nth us i by omega))
  omega
theorem cut_part {us : List Int} (ok : ListOk us) {i s a b : Nat} (hi : i + 1 < us.length) (hs : 0 < s) (hab : a ≤ b) (hb : b ≤ s) : Part (cutU us i s a) (cutU us i s b) := by
  have lo := ok.lo i (by omega)
  have hi' := ok.hi (i + 1) hi
  have m0 := cut_mono ok hi hs (Nat.zero_le a)
  have m1 := cut_mono ok hi hs hb
  rw [cut_0] at m0
  rw [cut_s us i hs] at m1
  exact ⟨by omega, cut_mono ok hi hs hab, by omega⟩
theorem cut_two (us : List Int) (i s a : Nat) : cutU us i (2 * s) (2 * a) = cutU us i s a := by
  unfold cutU
  rw [show ((2 * s : Nat) : Int) = 2 * (s : Int) by omega, show ((2 * a : Nat) : Int) = 2 * (a : Int) by omega, show (nth us (i + 1) - nth us i) * (2 * (a : Int)) = 2 * ((nth us (i + 1) - nth us i) * a) by grind, Int.mul_ediv_mul_of_pos _ _ (by decide)]

/-- the least and the greatest of the four values around a field -/
def mn4 (t : Tab) (i k : Nat) : Int := min (min (min (tval t i k) (tval t i (k + 1))) (tval t (i + 1) k)) (tval t (i + 1) (k + 1))
def mx4 (t : Tab) (i k : Nat) : Int := max (max (max (tval t i k) (tval t i (k + 1))) (tval t (i + 1) k)) (tval t (i + 1) (k + 1))
theorem m4_bd {t : Tab} (ok : TabOk t) {i k : Nat} (hi : i + 1 < t.us.xs.length) (hk : k + 1 < t.vs.xs.length) : 0 ≤ mn4 t i k ∧ mn4 t i k ≤ mx4 t i k ∧ mx4 t i k ≤ 10000000 := by
  have hr := ok.rows
  have v00 : 0 ≤ tval t i k := ok.v0 i k (by omega) (by omega)
  have v00' : tval t i k ≤ 10000000 := ok.v1 i k (by omega) (by omega)
  have v01 : 0 ≤ tval t i (k + 1) := ok.v0 i (k + 1) (by omega) (by omega)
  have v01' : tval t i (k + 1) ≤ 10000000 := ok.v1 i (k + 1) (by omega) (by omega)
  have v10 : 0 ≤ tval t (i + 1) k := ok.v0 (i + 1) k (by omega) (by omega)
  have v10' : tval t (i + 1) k ≤ 10000000 := ok.v1 (i + 1) k (by omega) (by omega)
  have v11 : 0 ≤ tval t (i + 1) (k + 1) := ok.v0 (i + 1) (k + 1) (by omega) (by omega)
  have v11' : tval t (i + 1) (k + 1) ≤ 10000000 := ok.v1 (i + 1) (k + 1) (by omega) (by omega)
  unfold mn4 mx4
  omega

/-- a part of a field; a field; a table -/
noncomputable def ptLo (t : Tab) (s i k a b : Nat) : Int := shLo (mn4 t i k) (cutU t.us.xs i s a) (cutU t.us.xs i s (a + 1)) (cutU t.vs.xs k s b) (cutU t.vs.xs k s (b + 1))
noncomputable def ptHi (t : Tab) (s i k a b : Nat) : Int := shHi (mx4 t i k) (cutU t.us.xs i s a) (cutU t.us.xs i s (a + 1)) (cutU t.vs.xs k s b) (cutU t.vs.xs k s (b + 1))
noncomputable def feLo (t : Tab) (s i k : Nat) : Int := sm (fun a => sm (ptLo t s i k a) s) s
noncomputable def feHi (t : Tab) (s i k : Nat) : Int := sm (fun a => sm (ptHi t s i k a) s) s
noncomputable def toLo (t : Tab) (s : Nat) : Int := sm (fun i => sm (feLo t s i) (t.vs.xs.length - 1)) (t.us.xs.length - 1)
noncomputable def toHi (t : Tab) (s : Nat) : Int := sm (fun i => sm (feHi t s i) (t.vs.xs.length - 1)) (t.us.xs.length - 1)

section
variable {t : Tab} (ok : TabOk t)
include ok
theorem pt_bd {s i k a b : Nat} (hi : i + 1 < t.us.xs.length) (hk : k + 1 < t.vs.xs.length) (ha : a < s) (hb : b < s) : 0 ≤ ptLo t s i k a b ∧ ptLo t s i k a b ≤ ptHi t s i k a b ∧ ptHi t s i k a b ≤ 1000000000 := by
  obtain ⟨m0, m1, m2⟩ := m4_bd ok hi hk
  exact sh_bd (cut_part ok.us hi (by omega) (by omega) (by omega)) (cut_part ok.vs hk (by omega) (by omega) (by omega)) m0 m1 m2
theorem pr_bd {s i k a b : Nat} (hi : i + 1 < t.us.xs.length) (hk : k + 1 < t.vs.xs.length) (ha : a < s) (hb : b ≤ s) (hs : s ≤ 4) : (0 ≤ sm (ptLo t s i k a) b ∧ sm (ptLo t s i k a) b ≤ 4000000000) ∧ (0 ≤ sm (ptHi t s i k a) b ∧ sm (ptHi t s i k a) b ≤ 4000000000) := by
  have l := sm_bd (f := ptLo t s i k a) (c := 1000000000) (n := b) (fun j hj => by have := pt_bd ok hi hk ha (b := j) (by omega); omega)
  have h := sm_bd (f := ptHi t s i k a) (c := 1000000000) (n := b) (fun j hj => by have := pt_bd ok hi hk ha (b := j) (by omega); omega)
  omega
theorem pf_bd {s i k a : Nat} (hi : i + 1 < t.us.xs.length) (hk : k + 1 < t.vs.xs.length) (ha : a ≤ s) (hs : s ≤ 4) : (0 ≤ sm (fun a => sm (ptLo t s i k a) s) a ∧ sm (fun a => sm (ptLo t s i k a) s) a ≤ 16000000000) ∧ (0 ≤ sm (fun a => sm (ptHi t s i k a) s) a ∧ sm (fun a => sm (ptHi t s i k a) s) a ≤ 16000000000) := by
  have l := sm_bd (f := fun a => sm (ptLo t s i k a) s) (c := 4000000000) (n := a) (fun j hj => (pr_bd ok hi hk (a := j) (by omega) (Nat.le_refl s) hs).1)
  have h := sm_bd (f := fun a => sm (ptHi t s i k a) s) (c := 4000000000) (n := a) (fun j hj => (pr_bd ok hi hk (a := j) (by omega) (Nat.le_refl s) hs).2)
  omega
theorem fe_bd {s i k : Nat} (hi : i + 1 < t.us.xs.length) (hk : k + 1 < t.vs.xs.length) (hs : s ≤ 4) : (0 ≤ feLo t s i k ∧ feLo t s i k ≤ 16000000000) ∧ (0 ≤ feHi t s i k ∧ feHi t s i k ≤ 16000000000) := pf_bd ok hi hk (Nat.le_refl s) hs
theorem fr_bd {s i k : Nat} (hi : i + 1 < t.us.xs.length) (hk : k + 1 ≤ t.vs.xs.length) (hs : s ≤ 4) : (0 ≤ sm (feLo t s i) k ∧ sm (feLo t s i) k ≤ 200000000000) ∧ (0 ≤ sm (feHi t s i) k ∧ sm (feHi t s i) k ≤ 200000000000) := by
  have l := sm_bd (f := feLo t s i) (c := 16000000000) (n := k) (fun j hj => (fe_bd ok hi (by omega) hs).1)
  have h := sm_bd (f := feHi t s i) (c := 16000000000) (n := k) (fun j hj => (fe_bd ok hi (by omega) hs).2)
  have := ok.vs.n1
  omega
theorem tr_bd {s i : Nat} (hi : i + 1 ≤ t.us.xs.length) (hs : s ≤ 4) : (0 ≤ sm (fun i => sm (feLo t s i) (t.vs.xs.length - 1)) i ∧ sm (fun i => sm (feLo t s i) (t.vs.xs.length - 1)) i ≤ 2400000000000) ∧ (0 ≤ sm (fun i => sm (feHi t s i) (t.vs.xs.length - 1)) i ∧ sm (fun i => sm (feHi t s i) (t.vs.xs.length - 1)) i ≤ 2400000000000) := by
  have n := ok.vs.n0
  have l := sm_bd (f := fun i => sm (feLo t s i) (t.vs.xs.length - 1)) (c := 200000000000) (n := i) (fun j hj => (fr_bd ok (by omega) (by omega) hs).1)
  have h := sm_bd (f := fun i => sm (feHi t s i) (t.vs.xs.length - 1)) (c := 200000000000) (n := i) (fun j hj => (fr_bd ok (by omega) (by omega) hs).2)
  have := ok.us.n1
  omega
theorem to_le {s : Nat} : toLo t s ≤ toHi t s :=
  sm_le (fun i hi => sm_le (fun k hk => sm_le (fun a ha => sm_le (fun b hb => (pt_bd ok (by omega) (by omega) ha hb).2.1))))

/-- a split that is twice as fine: a field -/
theorem fe_finer {s i k : Nat} (hi : i + 1 < t.us.xs.length) (hk : k + 1 < t.vs.xs.length) (hs : 0 < s) : feLo t s i k ≤ feLo t (2 * s) i k + (s : Int) * ((s : Int) * 3) ∧ feHi t (2 * s) i k ≤ feHi t s i k + (s : Int) * ((s : Int) * 3) := by
  obtain ⟨m0, m1, m2⟩ := m4_bd ok hi hk
  have key : ∀ a b, a < s → b < s → ptLo t s i k a b ≤ ((ptLo t (2 * s) i k (2 * a) (2 * b) + ptLo t (2 * s) i k (2 * a) (2 * b + 1)) + (ptLo t (2 * s) i k (2 * a + 1) (2 * b) + ptLo t (2 * s) i k (2 * a + 1) (2 * b + 1))) + 3 ∧
      ((ptHi t (2 * s) i k (2 * a) (2 * b) + ptHi t (2 * s) i k (2 * a) (2 * b + 1)) + (ptHi t (2 * s) i k (2 * a + 1) (2 * b) + ptHi t (2 * s) i k (2 * a + 1) (2 * b + 1))) ≤ ptHi t s i k a b + 3 := fun a b ha hb => by
    have h := fun m => sh_split4 (m := m) (cut_mono ok.us hi (show 0 < 2 * s by omega) (show 2 * a ≤ 2 * a + 1 by omega)) (cut_mono ok.us hi (show 0 < 2 * s by omega) (show 2 * a + 1 ≤ 2 * (a + 1) by omega))
      (cut_mono ok.vs hk (show 0 < 2 * s by omega) (show 2 * b ≤ 2 * b + 1 by omega)) (cut_mono ok.vs hk (show 0 < 2 * s by omega) (show 2 * b + 1 ≤ 2 * (b + 1) by omega))
      (cut_part ok.us hi (show 0 < 2 * s by omega) (show 2 * a ≤ 2 * (a + 1) by omega) (by omega)) (cut_part ok.vs hk (show 0 < 2 * s by omega) (show 2 * b ≤ 2 * (b + 1) by omega) (by omega))
    have hl := (h (mn4 t i k) m0).1
    have hh := (h (mx4 t i k) (by omega)).2
    clear h
    unfold ptLo ptHi
    rw [show 2 * a + 1 + 1 = 2 * (a + 1) by omega, show 2 * b + 1 + 1 = 2 * (b + 1) by omega]
    rw [cut_two, cut_two, cut_two, cut_two] at *
    omega
  have eL : feLo t (2 * s) i k = sm (fun a => sm (fun b => (ptLo t (2 * s) i k (2 * a) (2 * b) + ptLo t (2 * s) i k (2 * a) (2 * b + 1)) + (ptLo t (2 * s) i k (2 * a + 1) (2 * b) + ptLo t (2 * s) i k (2 * a + 1) (2 * b + 1))) s) s := by
    unfold feLo
    rw [sm_two]
    refine sm_eq fun a _ => ?_
    rw [sm_two, sm_two, ← sm_add]
  have eH : feHi t (2 * s) i k = sm (fun a => sm (fun b => (ptHi t (2 * s) i k (2 * a) (2 * b) + ptHi t (2 * s) i k (2 * a) (2 * b + 1)) + (ptHi t (2 * s) i k (2 * a + 1) (2 * b) + ptHi t (2 * s) i k (2 * a + 1) (2 * b + 1))) s) s := by
    unfold feHi
    rw [sm_two]
    refine sm_eq fun a _ => ?_
    rw [sm_two, sm_two, ← sm_add]
  rw [eL, eH]
  exact ⟨sm_off (fun a ha => sm_off (fun b hb => (key a b ha hb).1)), sm_off (fun a ha => sm_off (fun b hb => (key a b ha hb).2))⟩
theorem to_finer {s : Nat} (hs : 0 < s) : toLo t s ≤ toLo t (2 * s) + ((t.us.xs.length - 1 : Nat) : Int) * (((t.vs.xs.length - 1 : Nat) : Int) * ((s : Int) * ((s : Int) * 3))) ∧ toHi t (2 * s) ≤ toHi t s + ((t.us.xs.length - 1 : Nat) : Int) * (((t.vs.xs.length - 1 : Nat) : Int) * ((s : Int) * ((s : Int) * 3))) :=
  ⟨sm_off (fun i hi => sm_off (fun k hk => (fe_finer ok (by omega) (by omega) hs).1)), sm_off (fun i hi => sm_off (fun k hk => (fe_finer ok (by omega) (by omega) hs).2))⟩
end

/-- greater values, greater sums -/
theorem to_mono {t d : Tab} (ok : TabOk t) (hu : d.us.xs = t.us.xs) (hv : d.vs.xs = t.vs.xs) (h : ∀ i k, i < t.us.xs.length → k < t.vs.xs.length → tval t i k ≤ tval d i k) (s : Nat) : toLo t s ≤ toLo d s ∧ toHi t s ≤ toHi d s := by
  unfold toLo toHi
  rw [hu, hv]
  refine ⟨sm_le (fun i hi => sm_le (fun k hk => sm_le (fun a ha => sm_le (fun b hb => ?_)))), sm_le (fun i hi => sm_le (fun k hk => sm_le (fun a ha => sm_le (fun b hb => ?_))))⟩ <;>
  · have pu := cut_part ok.us (show i + 1 < _ by omega) (show 0 < s by omega) (show a ≤ a + 1 by omega) (by omega)
    have pv := cut_part ok.vs (show k + 1 < _ by omega) (show 0 < s by omega) (show b ≤ b + 1 by omega) (by omega)
    have h0 := h i k (by omega) (by omega)
    have h1 := h i (k + 1) (by omega) (by omega)
    have h2 := h (i + 1) k (by omega) (by omega)
    have h3 := h (i + 1) (k + 1) (by omega) (by omega)
    (try unfold ptLo)
    (try unfold ptHi)
    rw [hu, hv]
    first
      | exact (sh_mono pu pv (show mn4 t i k ≤ mn4 d i k by unfold mn4; omega)).1
      | exact (sh_mono pu pv (show mx4 t i k ≤ mx4 d i k by unfold mx4; omega)).2

theorem mix_mono {p : Plc} (h : PlcOk p) {x y x' y' : Int} (hx : x ≤ x') (hy : y ≤ y') : mixLo p x y ≤ mixLo p x' y' ∧ mixHi p x y ≤ mixHi p x' y' := by
  have a := Int.mul_le_mul_of_nonneg_left hx h.f0
  have b := Int.mul_le_mul_of_nonneg_left hy h.s0
  unfold mixLo mixHi
  exact ⟨Int.ediv_le_ediv h.pos (by omega), ceil_mono h.pos (by omega)⟩
/-- greater values, greater intensities -/
theorem rval_mono {t d : Tab} (ok : TabOk t) (hu : d.us.xs = t.us.xs) (hv : d.vs.xs = t.vs.xs) (hs : t.side ≤ d.side) (h : ∀ i k, i < t.us.xs.length → k < t.vs.xs.length → tval t i k ≤ tval d i k) {z : Int} (h0 : 1 ≤ z) (h1 : z ≤ 30000) (u v : Int) :
    (rval t z u v).1 ≤ (rval d z u v).1 ∧ (rval t z u v).2 ≤ (rval d z u v).2 := by
  have e : insB d u v z = insB t u v z := by unfold insB; rw [hu, hv]
  unfold rval
  rw [e]
  split
  · rename_i hin
    unfold insB at hin
    rw [Bool.and_eq_true] at hin
    obtain ⟨pu, iu, _, _⟩ := plc_ok ok.us h0 h1 hin.1
    obtain ⟨pv, iv, _, _⟩ := plc_ok ok.vs h0 h1 hin.2
    unfold itLo2 itHi2 itLo itHi
    rw [hu, hv]
    have row : ∀ i, i < t.us.xs.length → inLo t i (plc t.vs.xs v z) ≤ inLo d i (plc t.vs.xs v z) ∧ inHi t i (plc t.vs.xs v z) ≤ inHi d i (plc t.vs.xs v z) := fun i hi => by
      unfold inLo inHi
      have m := mix_mono pv (h i (plc t.vs.xs v z).i hi (show plcAt t.vs.xs v z < _ by omega)) (h i ((plc t.vs.xs v z).i + 1) hi iv)
      exact m
    have r0 := row (plc t.us.xs u z).i (show plcAt t.us.xs u z < _ by omega)
    have r1 := row ((plc t.us.xs u z).i + 1) iu
    exact ⟨(mix_mono pu r0.1 r1.1).1, (mix_mono pu r0.2 r1.2).2⟩
  · exact ⟨Int.le_refl _, hs⟩
end Go.Proofs.Ytgmpipciinphiaa
