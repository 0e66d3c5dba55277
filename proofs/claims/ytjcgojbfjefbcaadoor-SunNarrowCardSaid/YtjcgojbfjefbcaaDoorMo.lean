/- The sun's plain numbers of a part of a span are within those of the span. -/
import Derived.Test.YtjcgojbfjefbcaaDoorSb
namespace Go.Proofs.YtjcgojbfjefbcaaDoor
set_option linter.unusedSimpArgs false
set_option linter.unusedVariables false
open Go.RowKit SineNear

theorem lo4_le (a b c d : Int) : lo4 a b c d ≤ a ∧ lo4 a b c d ≤ b ∧ lo4 a b c d ≤ c ∧ lo4 a b c d ≤ d := by unfold lo4; omega
theorem hi4_le (a b c d : Int) : a ≤ hi4 a b c d ∧ b ≤ hi4 a b c d ∧ c ≤ hi4 a b c d ∧ d ≤ hi4 a b c d := by unfold hi4; omega

theorem corner_lo {x0 x1 y0 y1 a b : Int} (h0 : x0 ≤ a) (h1 : a ≤ x1) (h2 : y0 ≤ b) (h3 : b ≤ y1) : x0 * y0 ≤ a * b ∨ x0 * y1 ≤ a * b ∨ x1 * y0 ≤ a * b ∨ x1 * y1 ≤ a * b := by
  by_cases hb : 0 ≤ b
  · have m := Int.mul_le_mul_of_nonneg_right h0 hb
    by_cases hx : 0 ≤ x0
    · have := Int.mul_le_mul_of_nonneg_left h2 hx; exact .inl (by omega)
    · have := Int.mul_le_mul_of_nonpos_left (show x0 ≤ 0 by omega) h3; exact .inr (.inl (by omega))
  · have m := Int.mul_le_mul_of_nonpos_right h1 (show b ≤ 0 by omega)
    by_cases hx : 0 ≤ x1
    · have := Int.mul_le_mul_of_nonneg_left h2 hx; exact .inr (.inr (.inl (by omega)))
    · have := Int.mul_le_mul_of_nonpos_left (show x1 ≤ 0 by omega) h3; exact .inr (.inr (.inr (by omega)))
theorem corner_hi {x0 x1 y0 y1 a b : Int} (h0 : x0 ≤ a) (h1 : a ≤ x1) (h2 : y0 ≤ b) (h3 : b ≤ y1) : a * b ≤ x0 * y0 ∨ a * b ≤ x0 * y1 ∨ a * b ≤ x1 * y0 ∨ a * b ≤ x1 * y1 := by
  have h := corner_lo (x0 := -x1) (x1 := -x0) (a := -a) (show -x1 ≤ -a by omega) (show -a ≤ -x0 by omega) h2 h3
  simp only [Int.neg_mul] at h
  omega

theorem fl_le (c t : Int) (h : t ≤ c / 100000000) : t * 100000000 ≤ c := by omega
theorem up_ge (c t : Int) (h : upD c 100000000 ≤ t) : c ≤ t * 100000000 := by unfold upD at h; omega

theorem times_holds {x0 x1 y0 y1 a b : Int} (h0 : x0 ≤ a) (h1 : a ≤ x1) (h2 : y0 ≤ b) (h3 : b ≤ y1) : tLo x0 x1 y0 y1 * 100000000 ≤ a * b ∧ a * b ≤ tHi x0 x1 y0 y1 * 100000000 := by
  obtain ⟨l1, l2, l3, l4⟩ := lo4_le (x0 * y0 / 100000000) (x0 * y1 / 100000000) (x1 * y0 / 100000000) (x1 * y1 / 100000000)
  obtain ⟨g1, g2, g3, g4⟩ := hi4_le (upD (x0 * y0) 100000000) (upD (x0 * y1) 100000000) (upD (x1 * y0) 100000000) (upD (x1 * y1) 100000000)
  change tLo x0 x1 y0 y1 ≤ _ at l1 l2 l3 l4
  change _ ≤ tHi x0 x1 y0 y1 at g1 g2 g3 g4
  constructor
  · rcases corner_lo h0 h1 h2 h3 with h | h | h | h
    · exact Int.le_trans (fl_le _ _ l1) h
    · exact Int.le_trans (fl_le _ _ l2) h
    · exact Int.le_trans (fl_le _ _ l3) h
    · exact Int.le_trans (fl_le _ _ l4) h
  · rcases corner_hi h0 h1 h2 h3 with h | h | h | h
    · exact Int.le_trans h (up_ge _ _ g1)
    · exact Int.le_trans h (up_ge _ _ g2)
    · exact Int.le_trans h (up_ge _ _ g3)
    · exact Int.le_trans h (up_ge _ _ g4)
theorem times_order {x0 x1 y0 y1 : Int} (hx : x0 ≤ x1) (hy : y0 ≤ y1) : tLo x0 x1 y0 y1 ≤ tHi x0 x1 y0 y1 := by
  have := times_holds (Int.le_refl x0) hx (Int.le_refl y0) hy
  omega

theorem pas_small {s0 s1 y0 y1 a : Int} (h0 : y0 ≤ s0) (h1 : s1 ≤ y1) (h : pas s0 s1 a = true) : pas y0 y1 a = true := by
  unfold pas at *
  simp only [decide_eq_true_eq] at *
  omega
theorem si_small_lo {s0 s1 y0 y1 : Int} (h0 : y0 ≤ s0) (h : s0 ≤ s1) (h1 : s1 ≤ y1) : siLo y0 y1 ≤ siLo s0 s1 := by
  by_cases p : pas s0 s1 (-90000000) = true
  · have q := pas_small h0 h1 p
    unfold siLo
    rw [if_pos p, if_pos q]
    exact Int.le_refl _
  · have a := si_below y0 s0 y1 h0 (by omega)
    have b := si_below y0 s1 y1 (by omega) h1
    have e : siLo s0 s1 = if sinLo s1 < sinLo s0 then sinLo s1 else sinLo s0 := by
      conv => lhs; unfold siLo
      rw [if_neg p]
      rfl
    rw [e]
    split
    · exact b
    · exact a
theorem si_small_hi {s0 s1 y0 y1 : Int} (h0 : y0 ≤ s0) (h : s0 ≤ s1) (h1 : s1 ≤ y1) : siHi s0 s1 ≤ siHi y0 y1 := by
  rw [si_odd, si_odd]
  have := @si_small_lo (-s1) (-s0) (-y1) (-y0) (by omega) (by omega) (by omega)
  omega
theorem inB_small {s0 s1 y0 y1 l m : Int} (h0 : y0 ≤ s0) (h : s0 ≤ s1) (h1 : s1 ≤ y1) (k : inB y0 y1 l m = true) : inB s0 s1 l m = true := by
  have := inB_bd k
  exact decide_eq_true (by omega)

theorem fl_ge (c t : Int) (h : t * 100000000 ≤ c) : t ≤ c / 100000000 := by omega
theorem up_le (c t : Int) (h : c ≤ t * 100000000) : upD c 100000000 ≤ t := by unfold upD; omega
theorem lo4_ge {t a b c d : Int} (h1 : t ≤ a) (h2 : t ≤ b) (h3 : t ≤ c) (h4 : t ≤ d) : t ≤ lo4 a b c d := by unfold lo4; omega
theorem hi4_ge {t a b c d : Int} (h1 : a ≤ t) (h2 : b ≤ t) (h3 : c ≤ t) (h4 : d ≤ t) : hi4 a b c d ≤ t := by unfold hi4; omega

/-- within -/
def Wi (x y : P2) : Prop := y.1 ≤ x.1 ∧ x.1 ≤ x.2 ∧ x.2 ≤ y.2
/-- within, some whole turns away -/
def Ws (x y : P2) : Prop := ∃ j : Int, y.1 ≤ x.1 + 360000000 * j ∧ x.1 ≤ x.2 ∧ x.2 + 360000000 * j ≤ y.2
theorem Wi.ws {x y : P2} (h : Wi x y) : Ws x y := ⟨0, by unfold Wi at h; omega⟩
theorem pas_turn (l h j a : Int) : pas (l + 360000000 * j) (h + 360000000 * j) a = pas l h a := by
  unfold pas
  have e : (a - (l + 360000000 * j)) % 360000000 = (a - l) % 360000000 := by omega
  rw [e]
  simp only [decide_eq_decide]
  omega
theorem si_shift (l h j : Int) : siLo (l + 360000000 * j) (h + 360000000 * j) = siLo l h ∧ siHi (l + 360000000 * j) (h + 360000000 * j) = siHi l h := by
  unfold siLo siHi
  rw [pas_turn, pas_turn]
  simp only [jLo, jHi]
  rw [(sin_turn l j).1, (sin_turn h j).1, (sin_turn l j).2, (sin_turn h j).2]
  exact ⟨rfl, rfl⟩
theorem si_ws {x y : P2} (h : Ws x y) (hx : -3600000000 ≤ x.1 ∧ x.2 ≤ 3600000000) (hy : -3600000000 ≤ y.1 ∧ y.2 ≤ 3600000000) : Wi (siP x) (siP y) := by
  obtain ⟨j, a, b, c⟩ := h
  have ix : inB x.1 x.2 (-3600000000) 3600000000 = true := decide_eq_true ⟨hx.1, b, hx.2⟩
  have iy : inB y.1 y.2 (-3600000000) 3600000000 = true := decide_eq_true ⟨hy.1, by omega, hy.2⟩
  obtain ⟨s1, s2⟩ := si_shift x.1 x.2 j
  have l := si_small_lo a (show x.1 + 360000000 * j ≤ x.2 + 360000000 * j by omega) c
  have u := si_small_hi a (show x.1 + 360000000 * j ≤ x.2 + 360000000 * j by omega) c
  have o := (si_bds b).2.1
  unfold Wi siP sofLo sofHi
  rw [ix, iy]
  simp only [if_true]
  rw [s1] at l
  rw [s2] at u
  exact ⟨l, o, u⟩
theorem of_wi (k : Int) (hk : 0 ≤ k) {x y : P2} (h : Wi (siP x) (siP y)) : Wi (ofP k x) (ofP k y) := by
  obtain ⟨a, b, c⟩ := h
  have m1 := down_mono (c := 100000000) (by omega) (Int.mul_le_mul_of_nonneg_left a hk)
  have m2 := up_mono (c := 100000000) (by omega) (Int.mul_le_mul_of_nonneg_left c hk)
  exact ⟨m1, (ofP_bd k hk x).2.1, m2⟩
theorem mul_in {a b : Int} (a0 : -100000000 ≤ a) (a1 : a ≤ 100000000) (b0 : -100000000 ≤ b) (b1 : b ≤ 100000000) : -10000000000000000 ≤ a * b ∧ a * b ≤ 10000000000000000 := by
  have l := corner_lo a0 a1 b0 b1
  have u := corner_hi a0 a1 b0 b1
  omega
theorem tm_in {x y : P2} (hx : Bd 100000000 x) (hy : Bd 100000000 y) : tmP x y = (tLo x.1 x.2 y.1 y.2, tHi x.1 x.2 y.1 y.2) := by
  obtain ⟨a, b, c⟩ := hx
  obtain ⟨d, e, f⟩ := hy
  have m1 := mul_in a (show x.1 ≤ 100000000 by omega) d (show y.1 ≤ 100000000 by omega)
  have m2 := mul_in a (show x.1 ≤ 100000000 by omega) (show -100000000 ≤ y.2 by omega) f
  have m3 := mul_in (show -100000000 ≤ x.2 by omega) c d (show y.1 ≤ 100000000 by omega)
  have m4 := mul_in (show -100000000 ≤ x.2 by omega) c (show -100000000 ≤ y.2 by omega) f
  have vx : valB x.1 x.2 = true := decide_eq_true (by omega)
  have vy : valB y.1 y.2 = true := decide_eq_true (by omega)
  have o := times_order b e
  have vt : valB (tLo x.1 x.2 y.1 y.2) (tHi x.1 x.2 y.1 y.2) = true := by
    refine decide_eq_true ⟨?_, o, ?_⟩
    · exact lo4_ge (by omega) (by omega) (by omega) (by omega)
    · exact hi4_ge (up_le _ _ (by omega)) (up_le _ _ (by omega)) (up_le _ _ (by omega)) (up_le _ _ (by omega))
  unfold tmP vLo vHi
  rw [vx, vy, vt]
  rfl
theorem tm_wi {x y u v : P2} (h : Wi u x) (k : Wi v y) (hx : Bd 100000000 x) (hy : Bd 100000000 y) : Wi (tmP u v) (tmP x y) := by
  have hu : Bd 100000000 u := by unfold Wi at h; unfold Bd at *; omega
  have hv : Bd 100000000 v := by unfold Wi at k; unfold Bd at *; omega
  rw [tm_in hx hy, tm_in hu hv]
  obtain ⟨h0, h1, h2⟩ := h
  obtain ⟨k0, k1, k2⟩ := k
  have p1 := @times_holds x.1 x.2 y.1 y.2 u.1 v.1 (by omega) (by omega) (by omega) (by omega)
  have p2 := @times_holds x.1 x.2 y.1 y.2 u.1 v.2 (by omega) (by omega) (by omega) (by omega)
  have p3 := @times_holds x.1 x.2 y.1 y.2 u.2 v.1 (by omega) (by omega) (by omega) (by omega)
  have p4 := @times_holds x.1 x.2 y.1 y.2 u.2 v.2 (by omega) (by omega) (by omega) (by omega)
  refine ⟨?_, times_order h1 k1, ?_⟩
  · exact lo4_ge (fl_ge _ _ p1.1) (fl_ge _ _ p2.1) (fl_ge _ _ p3.1) (fl_ge _ _ p4.1)
  · exact hi4_ge (up_le _ _ p1.2) (up_le _ _ p2.2) (up_le _ _ p3.2) (up_le _ _ p4.2)
theorem rd_ws {x y : P2} (h : Ws x y) : Ws (rdP x) (rdP y) := by
  obtain ⟨j, a, b, c⟩ := h
  refine ⟨j + x.1 / 360000000 - y.1 / 360000000, ?_⟩
  unfold rdP
  simp only
  omega
theorem mu_ws (n : Int) (hn : 0 < n) {x y : P2} (h : Ws x y) : Ws (muP n x) (muP n y) := by
  obtain ⟨j, a, b, c⟩ := h
  refine ⟨n * j, ?_⟩
  have m1 := Int.mul_le_mul_of_nonneg_left a (show 0 ≤ n by omega)
  have m2 := Int.mul_le_mul_of_nonneg_left b (show 0 ≤ n by omega)
  have m3 := Int.mul_le_mul_of_nonneg_left c (show 0 ≤ n by omega)
  rw [Int.mul_add] at m1 m3
  have e : n * (360000000 * j) = 360000000 * (n * j) := by rw [Int.mul_left_comm]
  rw [e] at m1 m3
  exact ⟨m1, m2, m3⟩
theorem ad_wi {x y u v : P2} (h : Wi u x) (k : Wi v y) : Wi (adP u v) (adP x y) := by unfold Wi adP at *; simp only; omega
theorem ad_ws {x y u v : P2} (h : Ws u x) (k : Wi v y) : Ws (adP u v) (adP x y) := by
  obtain ⟨j, a, b, c⟩ := h
  exact ⟨j, by unfold Wi at k; unfold adP; simp only; omega⟩
theorem ls_wi {x y u v : P2} (h : Wi u x) (k : Wi v y) : Wi (lsP u v) (lsP x y) := by unfold Wi lsP at *; simp only; omega
theorem sl_wi {x y : P2} (h : Wi x y) : Wi (slP x) (slP y) := by unfold Wi slP at *; simp only; omega
theorem sl_ws {x y : P2} (h : Ws x y) : Ws (slP x) (slP y) := by
  obtain ⟨j, a, b, c⟩ := h
  exact ⟨j, by unfold slP; simp only; omega⟩

/-- a span for which one may ask -/
def Spn (x : P2) : Prop := -172800 ≤ x.1 ∧ x.1 ≤ x.2 ∧ x.2 ≤ 3456172800 ∧ x.2 - x.1 ≤ 172800
theorem Spn.part {x y : P2} (h : Wi x y) (k : Spn y) : Spn x := by unfold Wi at h; unfold Spn at *; omega
/-- narrow angles -/
def Nar (B : Int) (x : P2) : Prop := 0 ≤ x.1 ∧ x.1 < 360000000 ∧ x.1 ≤ x.2 ∧ x.2 ≤ 360000000 + B
theorem rd_nar {B : Int} {x : P2} (h : x.1 ≤ x.2) (k : x.2 - x.1 ≤ B) : Nar B (rdP x) := by unfold Nar rdP; simp only; omega
theorem g_w {x : P2} (h : Spn x) : (grP 357528000 98560028 x).1 ≤ (grP 357528000 98560028 x).2 ∧ (grP 357528000 98560028 x).2 - (grP 357528000 98560028 x).1 ≤ 2000000 := by
  unfold Spn at h; unfold grP upD; simp only; omega
theorem q_w {x : P2} (h : Spn x) : (grP 280459000 98564736 x).1 ≤ (grP 280459000 98564736 x).2 ∧ (grP 280459000 98564736 x).2 - (grP 280459000 98564736 x).1 ≤ 2000000 := by
  unfold Spn at h; unfold grP upD; simp only; omega
theorem gM_nar {x : P2} (h : Spn x) : Nar 2000000 (gM x) := rd_nar (g_w h).1 (g_w h).2
theorem qM_nar {x : P2} (h : Spn x) : Nar 2000000 (qM x) := rd_nar (q_w h).1 (q_w h).2
theorem lM_nar {x : P2} (h : Spn x) : Nar 10000000 (lM x) := by
  have a := q_w h
  have c := cM_bd x
  refine rd_nar ?_ ?_ <;> unfold Bd at c <;> unfold qM slP adP rdP <;> simp only <;> omega
theorem o_nar {x : P2} (h : Spn x) : 0 ≤ (oM x).1 ∧ (oM x).1 ≤ (oM x).2 ∧ (oM x).2 ≤ 360000000 := by
  unfold Spn at h; unfold oM faP upD; simp only; omega
theorem gr_wi {s g : Int} (hg : 0 ≤ g) {x y : P2} (h : Wi x y) (k : (grP s g x).1 ≤ (grP s g x).2) : Wi (grP s g x) (grP s g y) := by
  obtain ⟨a, b, c⟩ := h
  have m1 := down_mono (c := 8640000) (by omega) (Int.mul_le_mul_of_nonneg_left a hg)
  have m2 := up_mono (c := 8640000) (by omega) (Int.mul_le_mul_of_nonneg_left c hg)
  exact ⟨Int.add_le_add_left m1 s, k, Int.add_le_add_left m2 s⟩
theorem g_ws {x y : P2} (h : Wi x y) (k : Spn y) : Ws (gM x) (gM y) := rd_ws (gr_wi (by omega) h (g_w (k.part h)).1).ws
theorem q_ws {x y : P2} (h : Wi x y) (k : Spn y) : Ws (qM x) (qM y) := rd_ws (gr_wi (by omega) h (q_w (k.part h)).1).ws
theorem si_nar {B : Int} {x y : P2} (h : Ws x y) (hx : Nar B x) (hy : Nar B y) (hB : B ≤ 100000000) : Wi (siP x) (siP y) := by
  unfold Nar at *
  exact si_ws h (by omega) (by omega)
theorem si_nar2 {B : Int} {x y : P2} (h : Ws x y) (hx : Nar B x) (hy : Nar B y) (hB : B ≤ 100000000) : Wi (siP (muP 2 x)) (siP (muP 2 y)) := by
  unfold Nar at *
  exact si_ws (mu_ws 2 (by omega) h) (by unfold muP; simp only; omega) (by unfold muP; simp only; omega)
theorem si_nar4 {B : Int} {x y : P2} (h : Ws x y) (hx : Nar B x) (hy : Nar B y) (hB : B ≤ 100000000) : Wi (siP (muP 4 x)) (siP (muP 4 y)) := by
  unfold Nar at *
  exact si_ws (mu_ws 4 (by omega) h) (by unfold muP; simp only; omega) (by unfold muP; simp only; omega)
theorem c_wi {x y : P2} (h : Wi x y) (k : Spn y) : Wi (cM x) (cM y) := by
  have g := g_ws h k
  have a := gM_nar (k.part h)
  have b := gM_nar k
  exact ad_wi (of_wi _ (by omega) (si_nar g a b (by omega))) (of_wi _ (by omega) (si_nar2 g a b (by omega)))
theorem l_ws {x y : P2} (h : Wi x y) (k : Spn y) : Ws (lM x) (lM y) := rd_ws (sl_ws (ad_ws (q_ws h k) (c_wi h k)))
theorem o_wi {x y : P2} (h : Wi x y) (k : Spn y) : Wi (oM x) (oM y) := by
  have o := o_nar (k.part h)
  unfold Wi at h ⊢
  unfold Spn at k
  unfold oM faP upD at *
  simp only at *
  omega
theorem s_wi {x y : P2} (h : Wi x y) (k : Spn y) : Wi (sM x) (sM y) := by
  have a := o_nar (k.part h)
  have b := o_nar k
  have so : Wi (siP (oM x)) (siP (oM y)) := si_ws (o_wi h k).ws (by omega) (by omega)
  have sl := si_nar (l_ws h k) (lM_nar (k.part h)) (lM_nar k) (by omega)
  exact tm_wi so sl (siP_bd _) (siP_bd _)
theorem e_wi {x y : P2} (h : Wi x y) (k : Spn y) : Wi (eM x) (eM y) := by
  have l := l_ws h k
  have a := lM_nar (k.part h)
  have b := lM_nar k
  exact sl_wi (ls_wi (ls_wi (of_wi _ (by omega) (si_nar2 l a b (by omega))) (c_wi h k)) (of_wi _ (by omega) (si_nar4 l a b (by omega))))
end Go.Proofs.YtjcgojbfjefbcaaDoor
