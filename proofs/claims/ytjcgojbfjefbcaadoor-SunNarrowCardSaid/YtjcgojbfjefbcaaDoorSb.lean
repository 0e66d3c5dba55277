/- Bounds of the sun's plain numbers. -/
import Derived.Test.YtjcgojbfjefbcaaDoorSm
namespace Go.Proofs.YtjcgojbfjefbcaaDoor
set_option linter.unusedSimpArgs false
set_option linter.unusedVariables false
open Go.RowKit SineNear

theorem si_bds {l h : Int} (hl : l ≤ h) : -100000000 ≤ siLo l h ∧ siLo l h ≤ siHi l h ∧ siHi l h ≤ 100000000 := by
  have a := si_below l l h (Int.le_refl _) hl
  have b := si_above l l h (Int.le_refl _) hl
  have c := (sin_le l).1
  obtain ⟨d, e⟩ := si_reach l h
  have f := sin_bd l
  have g := sin_bd h
  have c' := (sin_le h).1
  refine ⟨?_, by omega, ?_⟩
  · rcases d with d | d
    · omega
    · rw [d]; split <;> omega
  · rcases e with e | e
    · omega
    · rw [e]; split <;> omega
theorem siP_bd (x : P2) : -100000000 ≤ (siP x).1 ∧ (siP x).1 ≤ (siP x).2 ∧ (siP x).2 ≤ 100000000 := by
  unfold siP sofLo sofHi
  cases h : inB x.1 x.2 (-3600000000) 3600000000
  · simp
  · have := inB_bd h
    simpa using si_bds this.2.1
theorem coP_bd (x : P2) : -100000000 ≤ (coP x).1 ∧ (coP x).1 ≤ (coP x).2 ∧ (coP x).2 ≤ 100000000 := by
  unfold coP cofLo cofHi
  cases h : inB x.1 x.2 (-3600000000) 3600000000
  · simp
  · have := inB_bd h
    simpa using si_bds (show x.1 + 90000000 ≤ x.2 + 90000000 by omega)
theorem downUp (a b : Int) (hb : 0 < b) : a / b ≤ upD a b := by
  obtain ⟨q, r, e1, e2, h0, h1, e3⟩ := pos_parts a b hb
  rw [e1, e3]; split <;> omega
theorem down_mono {a b c : Int} (hc : 0 < c) (h : a ≤ b) : a / c ≤ b / c := Int.ediv_le_ediv hc h
theorem up_mono {a b c : Int} (hc : 0 < c) (h : a ≤ b) : upD a c ≤ upD b c := by
  have := Int.ediv_le_ediv hc (show -b ≤ -a by omega)
  unfold upD; omega
theorem ofP_bd (k : Int) (hk : 0 ≤ k) (x : P2) : -k ≤ (ofP k x).1 ∧ (ofP k x).1 ≤ (ofP k x).2 ∧ (ofP k x).2 ≤ k := by
  have b := siP_bd x
  unfold ofP
  have m1 : k * -100000000 ≤ k * (siP x).1 := Int.mul_le_mul_of_nonneg_left b.1 hk
  have m2 : k * (siP x).1 ≤ k * (siP x).2 := Int.mul_le_mul_of_nonneg_left b.2.1 hk
  have m3 : k * (siP x).2 ≤ k * 100000000 := Int.mul_le_mul_of_nonneg_left b.2.2 hk
  generalize k * (siP x).1 = u at *
  generalize k * (siP x).2 = v at *
  have d := downUp u 100000000 (by omega)
  have e := up_mono (c := 100000000) (by omega) m2
  simp only
  refine ⟨by omega, by omega, ?_⟩
  unfold upD; omega
/-- between -B and B, in their order -/
def Bd (B : Int) (x : P2) : Prop := -B ≤ x.1 ∧ x.1 ≤ x.2 ∧ x.2 ≤ B
theorem rdP_bd {B : Int} {x : P2} (h : Bd B x) : 0 ≤ (rdP x).1 ∧ (rdP x).1 < 360000000 ∧ (rdP x).1 ≤ (rdP x).2 ∧ (rdP x).2 ≤ 2 * B + 360000000 := by
  obtain ⟨h0, h1, h2⟩ := h
  unfold rdP; simp only; omega
theorem adP_bd {B C : Int} {x y : P2} (h : Bd B x) (k : Bd C y) : Bd (B + C) (adP x y) := by
  unfold Bd adP at *; simp only; omega
theorem lsP_bd {B C : Int} {x y : P2} (h : Bd B x) (k : Bd C y) : Bd (B + C) (lsP x y) := by
  unfold Bd lsP at *; simp only; omega
theorem slP_bd {B : Int} {x : P2} (h : Bd B x) : Bd (B + 10000) (slP x) := by
  unfold Bd slP at *; simp only; omega
theorem onP_bd {B n : Int} (h0 : -B ≤ n) (h1 : n ≤ B) : Bd B (onP n) := ⟨h0, Int.le_refl _, h1⟩
theorem Bd.mono {B C : Int} {x : P2} (h : Bd B x) (k : B ≤ C) : Bd C x := by unfold Bd at *; omega
theorem mu2_bd {B : Int} {x : P2} (h : Bd B x) : Bd (2 * B) (muP 2 x) := by unfold Bd muP at *; simp only; omega
theorem mu4_bd {B : Int} {x : P2} (h : Bd B x) : Bd (4 * B) (muP 4 x) := by unfold Bd muP at *; simp only; omega
/-- spans of moments: up to 10 billion seconds -/
theorem g_bd {x : P2} (h : Bd 10000000000 x) : Bd 200000000000 (grP 357528000 98560028 x) := by
  obtain ⟨h0, h1, h2⟩ := h
  unfold Bd grP
  have d := downUp (98560028 * x.1) 8640000 (by omega)
  have u := up_mono (c := 8640000) (by omega) (show 98560028 * x.1 ≤ 98560028 * x.2 by omega)
  simp only
  refine ⟨by omega, by omega, ?_⟩
  unfold upD; omega
theorem q_bds {x : P2} (h : Bd 10000000000 x) : Bd 200000000000 (grP 280459000 98564736 x) := by
  obtain ⟨h0, h1, h2⟩ := h
  unfold Bd grP
  have d := downUp (98564736 * x.1) 8640000 (by omega)
  have u := up_mono (c := 8640000) (by omega) (show 98564736 * x.1 ≤ 98564736 * x.2 by omega)
  simp only
  refine ⟨by omega, by omega, ?_⟩
  unfold upD; omega
theorem o_bd {x : P2} (h : Bd 10000000000 x) : Bd 200000000000 (oM x) := by
  obtain ⟨h0, h1, h2⟩ := h
  unfold Bd oM faP
  have d := downUp (-36 * x.2) 8640000 (by omega)
  have u := up_mono (c := 8640000) (by omega) (show -36 * x.2 ≤ -36 * x.1 by omega)
  simp only
  refine ⟨by omega, by omega, ?_⟩
  unfold upD; omega
theorem gM_bd {x : P2} (h : Bd 10000000000 x) : Bd 500000000000 (gM x) := by
  have := rdP_bd (g_bd h)
  unfold gM Bd; omega
theorem qM_bd {x : P2} (h : Bd 10000000000 x) : Bd 500000000000 (qM x) := by
  have := rdP_bd (q_bds h)
  unfold qM Bd; omega
theorem cM_bd (x : P2) : Bd 1935000 (cM x) := by
  have a := ofP_bd 1915000 (by omega) (gM x)
  have b := ofP_bd 20000 (by omega) (muP 2 (gM x))
  unfold cM Bd adP; simp only; omega
theorem lM_pre {x : P2} (h : Bd 10000000000 x) : Bd 600000000000 (slP (adP (qM x) (cM x))) :=
  (slP_bd (adP_bd (qM_bd h) (cM_bd x))).mono (by omega)
theorem lM_bd {x : P2} (h : Bd 10000000000 x) : Bd 2000000000000 (lM x) := by
  have := rdP_bd (lM_pre h)
  unfold lM Bd; omega
theorem hM_bd (x : P2) : Bd 4401000 (hM x) := by
  have a := ofP_bd 2466000 (by omega) (muP 2 (lM x))
  have b := cM_bd x
  unfold Bd at b
  unfold hM Bd lsP; simp only; omega
theorem eM_bd (x : P2) : Bd 4464000 (eM x) := by
  have a := ofP_bd 53000 (by omega) (muP 4 (lM x))
  have b := hM_bd x
  unfold Bd at b
  unfold eM Bd slP lsP; simp only; omega
theorem v_bd {l h : Int} (hl : l ≤ h) : -3000000000 ≤ vLo l h ∧ vLo l h ≤ vHi l h ∧ vHi l h ≤ 3000000000 := by
  unfold vLo vHi
  cases k : valB l h
  · simp
  · have := valB_bd k; simpa using this
theorem lo_hi4 {a b c d p q r s : Int} (h1 : a ≤ p) (h2 : b ≤ q) (h3 : c ≤ r) (h4 : d ≤ s) : lo4 a b c d ≤ hi4 p q r s := by unfold lo4 hi4; omega
theorem tmP_bd (x y : P2) : Bd 3000000000 (tmP x y) := by
  unfold tmP
  split
  · exact v_bd (lo_hi4 (downUp _ _ (by omega)) (downUp _ _ (by omega)) (downUp _ _ (by omega)) (downUp _ _ (by omega)))
  · exact ⟨by simp, by simp, by simp⟩
theorem plP_bd (x y : P2) : Bd 3000000000 (plP x y) := by
  unfold plP
  split
  · exact v_bd (lo_hi4 (Int.le_refl _) (Int.le_refl _) (Int.le_refl _) (Int.le_refl _))
  · exact ⟨by simp, by simp, by simp⟩
theorem mnP_bd (x y : P2) : Bd 3000000000 (mnP x y) := by
  unfold mnP
  split
  · exact v_bd (lo_hi4 (Int.le_refl _) (Int.le_refl _) (Int.le_refl _) (Int.le_refl _))
  · exact ⟨by simp, by simp, by simp⟩
theorem quoOrder (a b : Int) (hb : b ≠ 0) : qLoQ a b ≤ qHiQ a b := by
  unfold qLoQ qHiQ
  by_cases c : b < 0
  · rw [if_pos c, if_pos c]; exact downUp _ _ (by omega)
  · rw [if_neg c, if_neg c]; exact downUp _ _ (by omega)
theorem ovP_bd (x y : P2) : Bd 3000000000 (ovP x y) := by
  unfold ovP
  split
  · rename_i h
    cases z : zeroIn y.1 y.2
    · have z' : ¬ (y.1 ≤ 0 ∧ 0 ≤ y.2) := of_decide_eq_false z
      have := valB_bd (and_yes h).2
      simp only [Bool.false_eq_true, if_false]
      exact v_bd (lo_hi4 (quoOrder _ _ (by omega)) (quoOrder _ _ (by omega)) (quoOrder _ _ (by omega)) (quoOrder _ _ (by omega)))
    · simp only [if_true]; exact ⟨by simp, by simp, by simp⟩
  · exact ⟨by simp, by simp, by simp⟩
theorem arcN_mono (n : Nat) {x x' : Int} (h : x ≤ x') : arcN n x ≤ arcN n x' := by
  unfold arcN
  refine List.countP_mono_left fun i _ hp => ?_
  unfold arcP at *
  simp only [Bool.not_eq_true', decide_eq_false_iff_not] at *
  omega
theorem arcA_mono {x x' : Int} (h : x ≤ x') : arcA x ≤ arcA x' := by
  have := arcN_mono 180000000 h
  unfold arcA
  generalize arcN 180000000 x = r at *
  generalize arcN 180000000 x' = r' at *
  omega
theorem arcA_neg (v : Int) : 0 ≤ arcA v + arcA (-v) := by
  have b1 := arcA_bd v
  have b2 := arcA_bd (-v)
  obtain ⟨_, p⟩ := arcA_has v
  obtain ⟨_, q⟩ := arcA_has (-v)
  by_cases c : 0 ≤ arcA v + arcA (-v)
  · exact c
  · exfalso
    have p' : v ≤ sinLo (arcA v) := by rcases p with h | h; omega; exact h
    have q' : -v ≤ sinLo (arcA (-v)) := by rcases q with h | h; omega; exact h
    have o := sin_odd (arcA (-v))
    have m := sin_mono (arcA v) (-(arcA (-v))) (by omega) (by omega) (by omega)
    omega
/-- angles of cosines -/
theorem acP_bd (x : P2) (h : kiM x = 0) : Bd 180000001 (acP x) := by
  have k : -100000000 ≤ x.1 ∧ x.1 ≤ x.2 ∧ x.2 ≤ 100000000 := by
    unfold kiM at h
    split at h
    · omega
    · split at h
      · omega
      · split at h
        · assumption
        · omega
  have i : inB x.1 x.2 (-100000000) 100000000 = true := decide_eq_true k
  unfold acP acLo acHi
  rw [i]
  have b1 := arcA_bd x.2
  have b2 := arcA_bd (-x.1)
  have o2 := arcA_mono k.2.1
  have o1 := arcA_neg x.1
  unfold Bd
  simp only [if_true]
  omega
theorem moP_bd {B day : Int} {a : P2} (h : Bd B a) (hB : 0 ≤ B) (hd0 : 0 ≤ day) (hd1 : day ≤ 100000) : Bd (8640000000 + B + 1) (moP day a) := by
  obtain ⟨h0, h1, h2⟩ := h
  have d := downUp (3 * a.1) 12500 (by omega)
  have u := up_mono (c := 12500) (by omega) (show 3 * a.1 ≤ 3 * a.2 by omega)
  unfold Bd moP adP onP
  simp only
  refine ⟨by omega, by omega, ?_⟩
  unfold upD; omega
end Go.Proofs.YtjcgojbfjefbcaaDoor
