/- Sunset and sunrise with a part of an altitude, in plain numbers: within those of all of it. -/
import Derived.Test.YtjcgojbfjefbcaaDoorMo
namespace Go.Proofs.YtjcgojbfjefbcaaDoor.Nw
set_option linter.unusedSimpArgs false
set_option linter.unusedVariables false
open Go.RowKit SineNear

/-- a span for which one may ask -/
def Spn (x : P2) : Prop := -172800 ≤ x.1 ∧ x.1 ≤ x.2 ∧ x.2 ≤ 4000000000 ∧ x.2 - x.1 ≤ 172800
theorem Spn.part {x y : P2} (h : Wi x y) (k : Spn y) : Spn x := by unfold Wi at h; unfold Spn at *; omega
/-- narrow angles -/
def Nar (B : Int) (x : P2) : Prop := 0 ≤ x.1 ∧ x.1 < 360000000 ∧ x.1 ≤ x.2 ∧ x.2 ≤ 360000000 + B
theorem rd_nar {B : Int} {x : P2} (h : x.1 ≤ x.2) (k : x.2 - x.1 ≤ B) : Nar B (rdP x) := by unfold Nar rdP; simp only; omega
theorem g_w {x : P2} (h : Spn x) : (grP 357528000 98560028 x).1 ≤ (grP 357528000 98560028 x).2 ∧ (grP 357528000 98560028 x).2 - (grP 357528000 98560028 x).1 ≤ 2000000 := by
  unfold Spn at h; unfold grP upD; simp only; omega
theorem q_w {x : P2} (h : Spn x) : (grP 280459000 98564736 x).1 ≤ (grP 280459000 98564736 x).2 ∧ (grP 280459000 98564736 x).2 - (grP 280459000 98564736 x).1 ≤ 2000000 := by
  unfold Spn at h; unfold grP upD; simp only; omega
theorem gM_nar {x : P2} (h : Spn x) : Nar 2000000 (gM x) := rd_nar (g_w h).1 (g_w h).2
theorem qM_nar {x : P2} (h : Spn x) : Nar 2000000 (qM x) := rd_nar (q_w h).1 (q_w h).2
theorem lM_nar {x : P2} (h : Spn x) : Nar 10000000 (lM x) := by
  have a := q_w h
  have c := cM_bd x
  refine rd_nar ?_ ?_ <;> unfold Bd at c <;> unfold qM slP adP rdP <;> simp only <;> omega
theorem o_nar {x : P2} (h : Spn x) : 0 ≤ (oM x).1 ∧ (oM x).1 ≤ (oM x).2 ∧ (oM x).2 ≤ 360000000 := by
  unfold Spn at h; unfold oM faP upD; simp only; omega
theorem gr_wi {s g : Int} (hg : 0 ≤ g) {x y : P2} (h : Wi x y) (k : (grP s g x).1 ≤ (grP s g x).2) : Wi (grP s g x) (grP s g y) := by
  obtain ⟨a, b, c⟩ := h
  have m1 := down_mono (c := 8640000) (by omega) (Int.mul_le_mul_of_nonneg_left a hg)
  have m2 := up_mono (c := 8640000) (by omega) (Int.mul_le_mul_of_nonneg_left c hg)
  exact ⟨Int.add_le_add_left m1 s, k, Int.add_le_add_left m2 s⟩
theorem g_ws {x y : P2} (h : Wi x y) (k : Spn y) : Ws (gM x) (gM y) := rd_ws (gr_wi (by omega) h (g_w (k.part h)).1).ws
theorem q_ws {x y : P2} (h : Wi x y) (k : Spn y) : Ws (qM x) (qM y) := rd_ws (gr_wi (by omega) h (q_w (k.part h)).1).ws
theorem si_nar {B : Int} {x y : P2} (h : Ws x y) (hx : Nar B x) (hy : Nar B y) (hB : B ≤ 100000000) : Wi (siP x) (siP y) := by
  unfold Nar at *
  exact si_ws h (by omega) (by omega)
theorem si_nar2 {B : Int} {x y : P2} (h : Ws x y) (hx : Nar B x) (hy : Nar B y) (hB : B ≤ 100000000) : Wi (siP (muP 2 x)) (siP (muP 2 y)) := by
  unfold Nar at *
  exact si_ws (mu_ws 2 (by omega) h) (by unfold muP; simp only; omega) (by unfold muP; simp only; omega)
theorem si_nar4 {B : Int} {x y : P2} (h : Ws x y) (hx : Nar B x) (hy : Nar B y) (hB : B ≤ 100000000) : Wi (siP (muP 4 x)) (siP (muP 4 y)) := by
  unfold Nar at *
  exact si_ws (mu_ws 4 (by omega) h) (by unfold muP; simp only; omega) (by unfold muP; simp only; omega)
theorem c_wi {x y : P2} (h : Wi x y) (k : Spn y) : Wi (cM x) (cM y) := by
  have g := g_ws h k
  have a := gM_nar (k.part h)
  have b := gM_nar k
  exact ad_wi (of_wi _ (by omega) (si_nar g a b (by omega))) (of_wi _ (by omega) (si_nar2 g a b (by omega)))
theorem l_ws {x y : P2} (h : Wi x y) (k : Spn y) : Ws (lM x) (lM y) := rd_ws (sl_ws (ad_ws (q_ws h k) (c_wi h k)))
theorem o_wi {x y : P2} (h : Wi x y) (k : Spn y) : Wi (oM x) (oM y) := by
  have o := o_nar (k.part h)
  unfold Wi at h ⊢
  unfold Spn at k
  unfold oM faP upD at *
  simp only at *
  omega
theorem s_wi {x y : P2} (h : Wi x y) (k : Spn y) : Wi (sM x) (sM y) := by
  have a := o_nar (k.part h)
  have b := o_nar k
  have so : Wi (siP (oM x)) (siP (oM y)) := si_ws (o_wi h k).ws (by omega) (by omega)
  have sl := si_nar (l_ws h k) (lM_nar (k.part h)) (lM_nar k) (by omega)
  exact tm_wi so sl (siP_bd _) (siP_bd _)
theorem e_wi {x y : P2} (h : Wi x y) (k : Spn y) : Wi (eM x) (eM y) := by
  have l := l_ws h k
  have a := lM_nar (k.part h)
  have b := lM_nar k
  exact sl_wi (ls_wi (ls_wi (of_wi _ (by omega) (si_nar2 l a b (by omega))) (c_wi h k)) (of_wi _ (by omega) (si_nar4 l a b (by omega))))
theorem div_lo {n0 n d0 d d1 : Int} (hn : n0 ≤ n) (h0 : 0 < d0) (h1 : d0 ≤ d) (h2 : d ≤ d1) : n0 / d0 ≤ n / d ∨ n0 / d1 ≤ n / d := by
  have m : n0 / d ≤ n / d := Int.ediv_le_ediv (by omega) hn
  by_cases c : 0 ≤ n0
  · right
    refine Int.le_trans ?_ m
    refine Int.le_ediv_of_mul_le (by omega) ?_
    have := Int.mul_le_mul_of_nonneg_left h2 (Int.ediv_nonneg c (show 0 ≤ d1 by omega))
    have := Int.ediv_mul_le n0 (show d1 ≠ 0 by omega)
    omega
  · left
    refine Int.le_trans ?_ m
    refine Int.le_ediv_of_mul_le (by omega) ?_
    have := Int.mul_le_mul_of_nonpos_left (show n0 / d0 ≤ 0 from Int.le_of_lt (Int.ediv_neg_of_neg_of_pos (by omega) h0)) h1
    have := Int.ediv_mul_le n0 (show d0 ≠ 0 by omega)
    omega

theorem over_holds {x0 x1 y0 y1 a b : Int} (h0 : x0 ≤ a) (h1 : a ≤ x1) (h2 : y0 ≤ b) (h3 : b ≤ y1) (hz : 0 < y0 ∨ y1 < 0) : oLo x0 x1 y0 y1 ≤ qLoQ (a * 100000000) b ∧ qHiQ (a * 100000000) b ≤ oHi x0 x1 y0 y1 := by
  obtain ⟨l1, l2, l3, l4⟩ := lo4_le (qLoQ (x0 * 100000000) y0) (qLoQ (x0 * 100000000) y1) (qLoQ (x1 * 100000000) y0) (qLoQ (x1 * 100000000) y1)
  obtain ⟨g1, g2, g3, g4⟩ := hi4_le (qHiQ (x0 * 100000000) y0) (qHiQ (x0 * 100000000) y1) (qHiQ (x1 * 100000000) y0) (qHiQ (x1 * 100000000) y1)
  change oLo x0 x1 y0 y1 ≤ _ at l1 l2 l3 l4
  change _ ≤ oHi x0 x1 y0 y1 at g1 g2 g3 g4
  rcases hz with hz | hz
  · have nb : ¬ b < 0 := by omega
    have n0 : ¬ y0 < 0 := by omega
    have n1 : ¬ y1 < 0 := by omega
    unfold qLoQ at *
    unfold qHiQ upD at *
    simp only [if_neg nb, if_neg n0, if_neg n1] at *
    have p := div_lo (n0 := x0 * 100000000) (n := a * 100000000) (by omega) hz h2 h3
    have q := div_lo (n0 := -(x1 * 100000000)) (n := -(a * 100000000)) (by omega) hz h2 h3
    constructor
    · rcases p with p | p
      · exact Int.le_trans l1 p
      · exact Int.le_trans l2 p
    · rcases q with q | q
      · exact Int.le_trans (Int.neg_le_neg q) g3
      · exact Int.le_trans (Int.neg_le_neg q) g4
  · have nb : b < 0 := by omega
    have n0 : y0 < 0 := by omega
    unfold qLoQ at *
    unfold qHiQ upD at *
    simp only [if_pos nb, if_pos n0, if_pos hz, Int.neg_neg] at *
    have p := div_lo (n0 := -(x1 * 100000000)) (n := -(a * 100000000)) (d0 := -y1) (d := -b) (d1 := -y0) (by omega) (by omega) (by omega) (by omega)
    have q := div_lo (n0 := x0 * 100000000) (n := a * 100000000) (d0 := -y1) (d := -b) (d1 := -y0) (by omega) (by omega) (by omega) (by omega)
    constructor
    · rcases p with p | p
      · exact Int.le_trans l4 p
      · exact Int.le_trans l3 p
    · rcases q with q | q
      · exact Int.le_trans (Int.neg_le_neg q) g2
      · exact Int.le_trans (Int.neg_le_neg q) g1

/-- a quotient over what is above 0 -/
theorem ov_in {x y : P2} {B : Int} (hx : Bd B x) (hB : B ≤ 75000000) (y0 : 2500000 ≤ y.1) (y1 : y.1 ≤ y.2) (y2 : y.2 ≤ 100000000) :
    ovP x y = (oLo x.1 x.2 y.1 y.2, oHi x.1 x.2 y.1 y.2) := by
  obtain ⟨a, b, c⟩ := hx
  have vx : valB x.1 x.2 = true := decide_eq_true (by omega)
  have vy : valB y.1 y.2 = true := decide_eq_true (by omega)
  have z : zeroIn y.1 y.2 = false := decide_eq_false (by omega)
  have n1 : ¬ y.1 < 0 := by omega
  have n2 : ¬ y.2 < 0 := by omega
  have key : ∀ u v : Int, -75000000 ≤ u → u ≤ 75000000 → 2500000 ≤ v → -3000000000 ≤ u * 100000000 / v ∧ upD (u * 100000000) v ≤ 3000000000 := by
    intro u v u0 u1 v0
    have m := Int.mul_le_mul_of_nonneg_left v0 (show (0 : Int) ≤ 3000000000 by omega)
    constructor
    · refine Int.le_ediv_of_mul_le (by omega) ?_
      omega
    · unfold upD
      have : -3000000000 ≤ -(u * 100000000) / v := Int.le_ediv_of_mul_le (by omega) (by omega)
      omega
  have k1 := key x.1 y.1 (by omega) (by omega) y0
  have k2 := key x.1 y.2 (by omega) (by omega) (by omega)
  have k3 := key x.2 y.1 (by omega) (by omega) y0
  have k4 := key x.2 y.2 (by omega) (by omega) (by omega)
  have o := @over_holds x.1 x.2 y.1 y.2 x.1 y.1 (by omega) (by omega) (by omega) (by omega) (by omega)
  have q := quoOrder (x.1 * 100000000) y.1 (by omega)
  have vt : valB (oLo x.1 x.2 y.1 y.2) (oHi x.1 x.2 y.1 y.2) = true := by
    refine decide_eq_true ⟨?_, Int.le_trans o.1 (Int.le_trans q o.2), ?_⟩
    · unfold oLo qLoQ
      rw [if_neg n1, if_neg n2, if_neg n1, if_neg n2]
      exact lo4_ge k1.1 k2.1 k3.1 k4.1
    · unfold oHi qHiQ
      rw [if_neg n1, if_neg n2, if_neg n1, if_neg n2]
      exact hi4_ge k1.2 k2.2 k3.2 k4.2
  unfold ovP vLo vHi
  rw [vx, vy, z, vt]
  rfl
theorem ov_wi {x y u v : P2} {B : Int} (h : Wi u x) (k : Wi v y) (hx : Bd B x) (hB : B ≤ 75000000) (y0 : 2500000 ≤ y.1) (y2 : y.2 ≤ 100000000) : Wi (ovP u v) (ovP x y) := by
  obtain ⟨h0, h1, h2⟩ := h
  obtain ⟨k0, k1, k2⟩ := k
  have hu : Bd B u := by unfold Bd at *; omega
  rw [ov_in hx hB y0 (by omega) y2, ov_in hu hB (show 2500000 ≤ v.1 by omega) k1 (by omega)]
  have p1 := @over_holds x.1 x.2 y.1 y.2 u.1 v.1 (by omega) (by omega) (by omega) (by omega) (by omega)
  have p2 := @over_holds x.1 x.2 y.1 y.2 u.1 v.2 (by omega) (by omega) (by omega) (by omega) (by omega)
  have p3 := @over_holds x.1 x.2 y.1 y.2 u.2 v.1 (by omega) (by omega) (by omega) (by omega) (by omega)
  have p4 := @over_holds x.1 x.2 y.1 y.2 u.2 v.2 (by omega) (by omega) (by omega) (by omega) (by omega)
  have o := @over_holds u.1 u.2 v.1 v.2 u.1 v.1 (by omega) (by omega) (by omega) (by omega) (by omega)
  have q := quoOrder (u.1 * 100000000) v.1 (by omega)
  exact ⟨lo4_ge p1.1 p2.1 p3.1 p4.1, Int.le_trans o.1 (Int.le_trans q o.2), hi4_ge p1.2 p2.2 p3.2 p4.2⟩
theorem mn_in {x y : P2} {B C : Int} (hx : Bd B x) (hy : Bd C y) (hB : B + C ≤ 1000000000) (b0 : 0 ≤ B) (c0 : 0 ≤ C) : mnP x y = (mnLo x y, mnHi x y) ∧ mnLo x y = x.1 - y.2 ∧ mnHi x y = x.2 - y.1 := by
  obtain ⟨a, b, c⟩ := hx
  obtain ⟨d, e, f⟩ := hy
  have vx : valB x.1 x.2 = true := decide_eq_true (by omega)
  have vy : valB y.1 y.2 = true := decide_eq_true (by omega)
  have e1 : mnLo x y = x.1 - y.2 := by unfold mnLo lo4; omega
  have e2 : mnHi x y = x.2 - y.1 := by unfold mnHi hi4; omega
  have vt : valB (mnLo x y) (mnHi x y) = true := by rw [e1, e2]; exact decide_eq_true (by omega)
  refine ⟨?_, e1, e2⟩
  unfold mnP vLo vHi
  rw [vx, vy, vt]
  rfl
/-- a product of what is above 0 -/
theorem tm_pos {x y : P2} {a b : Int} (hx : Bd 100000000 x) (hy : Bd 100000000 y) (a0 : 0 ≤ a) (b0 : 0 ≤ b) (ha : a ≤ x.1) (hb : b ≤ y.1) : a * b / 100000000 ≤ (tmP x y).1 ∧ (tmP x y).2 ≤ 100000000 := by
  rw [tm_in hx hy]
  obtain ⟨x0, x1, x2⟩ := hx
  obtain ⟨y0, y1, y2⟩ := hy
  have key : ∀ u v : Int, a ≤ u → b ≤ v → a * b ≤ u * v := by
    intro u v hu hv
    have m1 := Int.mul_le_mul_of_nonneg_left hv a0
    have m2 := Int.mul_le_mul_of_nonneg_right hu (show 0 ≤ v by omega)
    omega
  have m1 := mul_in x0 (show x.1 ≤ 100000000 by omega) y0 (show y.1 ≤ 100000000 by omega)
  have m2 := mul_in x0 (show x.1 ≤ 100000000 by omega) (show -100000000 ≤ y.2 by omega) y2
  have m3 := mul_in (show -100000000 ≤ x.2 by omega) x2 y0 (show y.1 ≤ 100000000 by omega)
  have m4 := mul_in (show -100000000 ≤ x.2 by omega) x2 (show -100000000 ≤ y.2 by omega) y2
  constructor
  · exact lo4_ge (down_mono (by omega) (key _ _ ha hb)) (down_mono (by omega) (key _ _ ha (by omega))) (down_mono (by omega) (key _ _ (by omega) hb)) (down_mono (by omega) (key _ _ (by omega) (by omega)))
  · exact hi4_ge (up_le _ _ (by omega)) (up_le _ _ (by omega)) (up_le _ _ (by omega)) (up_le _ _ (by omega))
/-- a product that is small -/
theorem mul_lt {a b A : Int} (A0 : 0 ≤ A) (a0 : -A ≤ a) (a1 : a ≤ A) (b0 : -100000000 ≤ b) (b1 : b ≤ 100000000) : -(A * 100000000) ≤ a * b ∧ a * b ≤ A * 100000000 := by
  have l := corner_lo a0 a1 b0 b1
  have u := corner_hi a0 a1 b0 b1
  have e1 : -A * -100000000 = A * 100000000 := by omega
  have e2 : -A * 100000000 = -(A * 100000000) := by omega
  have e3 : A * -100000000 = -(A * 100000000) := by omega
  rw [e1, e2, e3] at l u
  omega
theorem tm_small {x y : P2} {A : Int} (A0 : 0 ≤ A) (A1 : A ≤ 100000000) (hx : Bd A x) (hy : Bd 100000000 y) : Bd A (tmP x y) := by
  have hx' : Bd 100000000 x := hx.mono A1
  rw [tm_in hx' hy]
  obtain ⟨x0, x1, x2⟩ := hx
  obtain ⟨y0, y1, y2⟩ := hy
  have m1 := mul_lt A0 x0 (show x.1 ≤ A by omega) y0 (show y.1 ≤ 100000000 by omega)
  have m2 := mul_lt A0 x0 (show x.1 ≤ A by omega) (show -100000000 ≤ y.2 by omega) y2
  have m3 := mul_lt A0 (show -A ≤ x.2 by omega) x2 y0 (show y.1 ≤ 100000000 by omega)
  have m4 := mul_lt A0 (show -A ≤ x.2 by omega) x2 (show -100000000 ≤ y.2 by omega) y2
  refine ⟨?_, times_order x1 y1, ?_⟩
  · exact lo4_ge (by omega) (by omega) (by omega) (by omega)
  · exact hi4_ge (up_le _ _ (by omega)) (up_le _ _ (by omega)) (up_le _ _ (by omega)) (up_le _ _ (by omega))
theorem tm_small2 {x y : P2} {A : Int} (A0 : 0 ≤ A) (A1 : A ≤ 100000000) (hx : Bd 100000000 x) (hy : Bd A y) : Bd A (tmP x y) := by
  have hy' : Bd 100000000 y := hy.mono A1
  rw [tm_in hx hy']
  obtain ⟨x0, x1, x2⟩ := hx
  obtain ⟨y0, y1, y2⟩ := hy
  have m1 := mul_lt A0 y0 (show y.1 ≤ A by omega) x0 (show x.1 ≤ 100000000 by omega)
  have m2 := mul_lt A0 (show -A ≤ y.2 by omega) y2 x0 (show x.1 ≤ 100000000 by omega)
  have m3 := mul_lt A0 y0 (show y.1 ≤ A by omega) (show -100000000 ≤ x.2 by omega) x2
  have m4 := mul_lt A0 (show -A ≤ y.2 by omega) y2 (show -100000000 ≤ x.2 by omega) x2
  rw [Int.mul_comm y.1 x.1] at m1
  rw [Int.mul_comm y.2 x.1] at m2
  rw [Int.mul_comm y.1 x.2] at m3
  rw [Int.mul_comm y.2 x.2] at m4
  refine ⟨?_, times_order x1 y1, ?_⟩
  · exact lo4_ge (by omega) (by omega) (by omega) (by omega)
  · exact hi4_ge (up_le _ _ (by omega)) (up_le _ _ (by omega)) (up_le _ _ (by omega)) (up_le _ _ (by omega))

/-- the numbers, by the kernel -/
theorem k_ob : siLo 23000000 24000000 = 39073112 ∧ siHi 23000000 24000000 = 40673665 := by constructor <;> decide +kernel
theorem k_lat : siLo 2000000 178000000 = 3489949 := by decide +kernel
theorem k_dec : siLo 65000000 115000000 = 90630778 := by decide +kernel
theorem k_alt : siLo (-18000000) 0 = -30901700 ∧ siHi (-18000000) 0 = 0 := by constructor <;> decide +kernel
theorem k_arc : arcA 40673665 ≤ 25000000 := by
  have a : arcA 42261826 = 25000000 := arcA_is _ _ (by decide) (by decide) (Or.inr (by decide +kernel)) (Or.inr (by decide +kernel))
  have := arcA_mono (show (40673665 : Int) ≤ 42261826 by decide)
  omega

theorem asP_bd {s : P2} (h : Bd 40673665 s) : Bd 25000000 (asP s) := by
  obtain ⟨a, b, c⟩ := h
  have i : inB s.1 s.2 (-100000000) 100000000 = true := decide_eq_true (by omega)
  have k := k_arc
  have m1 := arcA_mono (show s.2 ≤ 40673665 by omega)
  have m2 := arcA_mono (show -s.1 ≤ 40673665 by omega)
  have n := arcA_neg s.1
  have o := arcA_mono b
  unfold asP asLo asHi
  rw [i]
  unfold Bd
  simp only [if_true]
  omega
theorem as_wi {u x : P2} (h : Wi u x) (hx : Bd 40673665 x) : Wi (asP u) (asP x) := by
  have hu : Bd 40673665 u := by unfold Wi at h; unfold Bd at *; omega
  obtain ⟨h0, h1, h2⟩ := h
  have n1 := arcA_neg u.1
  have n2 := arcA_mono h1
  obtain ⟨a, b, c⟩ := hx
  have i : inB x.1 x.2 (-100000000) 100000000 = true := decide_eq_true (by omega)
  have j : inB u.1 u.2 (-100000000) 100000000 = true := decide_eq_true (by omega)
  have m1 := arcA_mono h2
  have m2 := arcA_mono (show -u.1 ≤ -x.1 by omega)
  unfold asP asLo asHi
  rw [i, j]
  unfold Wi
  simp only [if_true]
  omega
theorem co_wi {u x : P2} (h : Wi u x) (hx : Bd 180000000 x) : Wi (coP u) (coP x) := by
  obtain ⟨h0, h1, h2⟩ := h
  obtain ⟨a, b, c⟩ := hx
  have i : inB x.1 x.2 (-3600000000) 3600000000 = true := decide_eq_true (by omega)
  have j : inB u.1 u.2 (-3600000000) 3600000000 = true := decide_eq_true (by omega)
  have l := @si_small_lo (u.1 + 90000000) (u.2 + 90000000) (x.1 + 90000000) (x.2 + 90000000) (by omega) (by omega) (by omega)
  have m := @si_small_hi (u.1 + 90000000) (u.2 + 90000000) (x.1 + 90000000) (x.2 + 90000000) (by omega) (by omega) (by omega)
  have o := (coP_bd u).2.1
  unfold coP cofLo cofHi at *
  rw [i]
  rw [j] at *
  simp only [if_true] at *
  exact ⟨l, o, m⟩
theorem co_low {x : P2} {B v : Int} (h : Bd B x) (hB : B ≤ 90000000) (hv : v ≤ siLo (90000000 - B) (90000000 + B)) : v ≤ (coP x).1 := by
  obtain ⟨a, b, c⟩ := h
  have i : inB x.1 x.2 (-3600000000) 3600000000 = true := decide_eq_true (by omega)
  have l := @si_small_lo (x.1 + 90000000) (x.2 + 90000000) (90000000 - B) (90000000 + B) (by omega) (by omega) (by omega)
  unfold coP cofLo
  rw [i]
  simp only [if_true]
  omega
theorem sM_small {x : P2} (h : Spn x) : Bd 40673665 (sM x) := by
  have o := o_nar h
  have ob : 23000000 ≤ (oM x).1 ∧ (oM x).2 ≤ 24000000 := by
    unfold Spn at h; unfold oM faP upD; simp only; omega
  have i : inB (oM x).1 (oM x).2 (-3600000000) 3600000000 = true := decide_eq_true (by omega)
  have l := @si_small_lo (oM x).1 (oM x).2 23000000 24000000 (by omega) (by omega) (by omega)
  have m := @si_small_hi (oM x).1 (oM x).2 23000000 24000000 (by omega) (by omega) (by omega)
  rw [k_ob.1] at l
  rw [k_ob.2] at m
  have so : Bd 40673665 (siP (oM x)) := by
    have q := (siP_bd (oM x)).2.1
    unfold siP sofLo sofHi at *
    rw [i] at *
    unfold Bd
    simp only [if_true] at *
    omega
  exact tm_small (by omega) (by omega) so (siP_bd _)
/-- the swing -/
theorem sw_low {lat : Int} (l0 : -88000000 ≤ lat) (l1 : lat ≤ 88000000) {s : P2} (h : Bd 40673665 s) : 2500000 ≤ (swP lat s).1 ∧ (swP lat s).1 ≤ (swP lat s).2 ∧ (swP lat s).2 ≤ 100000000 := by
  have a := co_low (x := onP lat) (B := 88000000) (v := 3489949) (onP_bd l0 l1) (by omega) (by rw [show (90000000 : Int) - 88000000 = 2000000 by decide, show (90000000 : Int) + 88000000 = 178000000 by decide, k_lat]; exact Int.le_refl _)
  have b := co_low (v := 90630778) (asP_bd h) (by omega) (by rw [show (90000000 : Int) - 25000000 = 65000000 by decide, show (90000000 : Int) + 25000000 = 115000000 by decide, k_dec]; exact Int.le_refl _)
  have p := tm_pos (coP_bd (onP lat)) (coP_bd (asP s)) (by omega) (by omega) a b
  have q := (tmP_bd (coP (onP lat)) (coP (asP s))).2.1
  rw [show (3489949 * 90630778 / 100000000 : Int) = 3162967 by decide] at p
  unfold swP
  omega
theorem sw_wi {lat : Int} (l0 : -88000000 ≤ lat) (l1 : lat ≤ 88000000) {u s : P2} (h : Wi u s) (hs : Bd 40673665 s) : Wi (swP lat u) (swP lat s) := by
  have c := co_wi (as_wi h hs) ((asP_bd hs).mono (by omega))
  have r : Wi (coP (onP lat)) (coP (onP lat)) := ⟨Int.le_refl _, (coP_bd _).2.1, Int.le_refl _⟩
  exact tm_wi r c (coP_bd _) (coP_bd _)
theorem mi_wi (lat : Int) {u s : P2} (h : Wi u s) (hs : Bd 40673665 s) : Wi (miP lat u) (miP lat s) := by
  have r : Wi (siP (onP lat)) (siP (onP lat)) := ⟨Int.le_refl _, (siP_bd _).2.1, Int.le_refl _⟩
  exact tm_wi r h (siP_bd _) (hs.mono (by omega))
theorem mi_small (lat : Int) {s : P2} (hs : Bd 40673665 s) : Bd 40673665 (miP lat s) := tm_small2 (by omega) (by omega) (siP_bd _) hs
/-- an altitude of which one may ask -/
def Alt (a : P2) : Prop := -18000000 ≤ a.1 ∧ a.1 ≤ a.2 ∧ a.2 ≤ 0
theorem al_small {a : P2} (h : Alt a) : Bd 30901700 (siP a) := by
  obtain ⟨h0, h1, h2⟩ := h
  have i : inB a.1 a.2 (-3600000000) 3600000000 = true := decide_eq_true (by omega)
  have l := @si_small_lo a.1 a.2 (-18000000) 0 h0 h1 h2
  have m := @si_small_hi a.1 a.2 (-18000000) 0 h0 h1 h2
  rw [k_alt.1] at l
  rw [k_alt.2] at m
  have q := (siP_bd a).2.1
  unfold siP sofLo sofHi at *
  rw [i] at *
  unfold Bd
  simp only [if_true] at *
  omega
theorem mn_wi {x y u v : P2} (h : Wi u x) (k : Wi v y) (hx : Bd 30901700 x) (hy : Bd 40673665 y) : Wi (mnP u v) (mnP x y) ∧ Bd 71575365 (mnP x y) := by
  have hu : Bd 30901700 u := by unfold Wi at h; unfold Bd at *; omega
  have hv : Bd 40673665 v := by unfold Wi at k; unfold Bd at *; omega
  obtain ⟨e1, e2, e3⟩ := mn_in hx hy (by omega) (by omega) (by omega)
  obtain ⟨f1, f2, f3⟩ := mn_in hu hv (by omega) (by omega) (by omega)
  rw [e1, f1, e2, e3, f2, f3]
  unfold Wi at *
  unfold Bd at *
  simp only
  omega
/-- the cosine of the hour angle -/
theorem ra_wi {lat : Int} (l0 : -88000000 ≤ lat) (l1 : lat ≤ 88000000) {a b w v : P2} (ha : Alt a) (hb : Wi b a) (hw : Spn w) (hv : Wi v w) : Wi (raP b lat v) (raP a lat w) := by
  have s := s_wi hv hw
  have sb := sM_small hw
  have al : Wi (siP b) (siP a) := by
    unfold Alt at ha
    exact si_ws hb.ws (by unfold Wi at hb; omega) (by omega)
  obtain ⟨m, mb⟩ := mn_wi al (mi_wi lat s sb) (al_small ha) (mi_small lat sb)
  have q := sw_low l0 l1 sb
  exact ov_wi m (sw_wi l0 l1 s sb) mb (by omega) q.1 q.2.2
/-- what it tells -/
theorem ki_wi {x y : P2} (h : Wi x y) : (kiM y = 0 → kiM x = 0) ∧ (kiM y = 1 → kiM x = 1) ∧ (kiM y = 2 → kiM x = 2) := by
  obtain ⟨a, b, c⟩ := h
  refine ⟨?_, ?_, ?_⟩
  · intro k
    unfold kiM at *
    split at k
    · exact absurd k (by decide)
    · split at k
      · exact absurd k (by decide)
      · split at k
        · rw [if_neg (by omega), if_neg (by omega), if_pos (by omega)]
        · exact absurd k (by decide)
  · intro k
    unfold kiM at *
    split at k
    · rw [if_pos (by omega)]
    · split at k
      · exact absurd k (by decide)
      · split at k
        · exact absurd k (by decide)
        · exact absurd k (by decide)
  · intro k
    unfold kiM at *
    split at k
    · exact absurd k (by decide)
    · split at k
      · rw [if_neg (by omega), if_pos (by omega)]
      · split at k
        · exact absurd k (by decide)
        · exact absurd k (by decide)
theorem ki_zero {x : P2} (h : kiM x = 0) : -100000000 ≤ x.1 ∧ x.1 ≤ x.2 ∧ x.2 ≤ 100000000 := by
  unfold kiM at h
  split at h
  · exact absurd h (by decide)
  · split at h
    · exact absurd h (by decide)
    · split at h
      · assumption
      · exact absurd h (by decide)
theorem ac_wi {x y : P2} (h : Wi x y) (k : kiM y = 0) : Wi (acP x) (acP y) := by
  obtain ⟨a, b, c⟩ := ki_zero k
  obtain ⟨h0, h1, h2⟩ := h
  have n1 := arcA_neg x.1
  have n2 := arcA_mono h1
  have i : inB y.1 y.2 (-100000000) 100000000 = true := decide_eq_true ⟨a, b, c⟩
  have j : inB x.1 x.2 (-100000000) 100000000 = true := decide_eq_true (by omega)
  have m1 := arcA_mono h2
  have m2 := arcA_mono (show -x.1 ≤ -y.1 by omega)
  unfold acP acLo acHi
  rw [i, j]
  unfold Wi
  simp only [if_true]
  omega
theorem ac_pos {x : P2} (k : kiM x = 0) : 0 ≤ (acP x).1 ∧ (acP x).1 ≤ (acP x).2 ∧ (acP x).2 ≤ 180000000 := by
  have i : inB x.1 x.2 (-100000000) 100000000 = true := decide_eq_true (ki_zero k)
  have m1 := arcA_bd x.2
  have m2 := arcA_bd (-x.1)
  have n1 := arcA_neg x.1
  have n2 := arcA_mono (ki_zero k).2.1
  unfold acP acLo acHi
  rw [i]
  simp only [if_true]
  omega
end Go.Proofs.YtjcgojbfjefbcaaDoor.Nw
