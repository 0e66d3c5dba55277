/- The rounds of a pass, and nights, with a part of an altitude: plain numbers. -/
import Derived.Test.YtjcgojbfjefbcaaDoorNa
import Derived.Test.YtjcgojbfjefbcaaDoorSz
namespace Go.Proofs.YtjcgojbfjefbcaaDoor.Nw
set_option linter.unusedSimpArgs false
set_option linter.unusedVariables false
open Go.RowKit SineNear

theorem mo_wi (day : Int) {a b : P2} (h : Wi a b) : Wi (moP day a) (moP day b) := by
  obtain ⟨h0, h1, h2⟩ := h
  have m1 := down_mono (c := 12500) (by omega) (show 3 * b.1 ≤ 3 * a.1 by omega)
  have m2 := up_mono (c := 12500) (by omega) (show 3 * a.2 ≤ 3 * b.2 by omega)
  have m3 := downUp (3 * a.1) 12500 (by omega)
  have m4 := up_mono (c := 12500) (by omega) (show 3 * a.1 ≤ 3 * a.2 by omega)
  unfold Wi moP adP onP
  simp only
  omega
theorem on_wi (n : Int) : Wi (onP n) (onP n) := ⟨Int.le_refl _, Int.le_refl _, Int.le_refl _⟩
theorem ha_wi (rise : Bool) {a b : P2} (h : Wi a b) : Wi (haP rise a) (haP rise b) := by
  unfold haP
  cases rise
  · exact h
  · exact ls_wi (on_wi 0) h
theorem nx_wi {day lon : Int} {rise : Bool} {x y v w : P2} (h : Wi x y) (k : kiM y = 0) (hw : Spn w) (hv : Wi v w) : Wi (nxP day lon rise x v) (nxP day lon rise y w) :=
  mo_wi day (ls_wi (ls_wi (ha_wi rise (ac_wi h k)) (on_wi lon)) (e_wi hv hw))
theorem nx_in {day lon : Int} {rise : Bool} {y w : P2} (k : kiM y = 0) : Wi (nxP day lon rise y w) (wiP day lon rise) := by
  obtain ⟨a0, a1, a2⟩ := ac_pos k
  have e := eM_bd w
  unfold Bd at e
  unfold Wi nxP wiP moP haP reP adP lsP onP upD
  generalize acP y = a at *
  generalize eM w = q at *
  cases rise
  · simp only [Bool.false_eq_true, if_false]; omega
  · simp only [if_true]; omega
theorem wi_spn {day lon : Int} {rise : Bool} (d0 : 0 ≤ day) (d1 : day ≤ 40001) (l0 : -180000000 ≤ lon) (l1 : lon ≤ 180000000) : Spn (wiP day lon rise) := by
  unfold Spn wiP moP reP adP onP upD
  cases rise
  · simp only [Bool.false_eq_true, if_false]; omega
  · simp only [if_true]; omega

/-- what two passes have to do with each other -/
structure Nar2 (W : P2) (p q : Int × P2) : Prop where
  pass : p.1 = 0 → q.1 = 0 ∧ Wi q.2 p.2
  dark : p.1 = 1 → q.1 = 1
  light : p.1 = 2 → q.1 = 2
  pin : Wi p.2 W
  qin : Wi q.2 W
  pout : p.1 ≠ 0 → p.2 = W
  qout : q.1 ≠ 0 → q.2 = W
theorem wi_refl {x y : P2} (h : Wi x y) : Wi x x := ⟨Int.le_refl _, h.2.1, Int.le_refl _⟩
theorem ro_wi {lat lon day : Int} {rise : Bool} (l0 : -88000000 ≤ lat) (l1 : lat ≤ 88000000) (sp : Spn (wiP day lon rise)) :
    ∀ (n : Nat) (a b w v : P2), Alt a → Wi b a → Wi w (wiP day lon rise) → Wi v w → Nar2 (wiP day lon rise) (roM a lat lon day rise n w) (roM b lat lon day rise n v)
  | 0, a, b, w, v, ha, hb, hw, hv => by
    have vW : Wi v (wiP day lon rise) := by unfold Wi at *; omega
    exact ⟨fun _ => ⟨rfl, hv⟩, fun h => absurd (show (0 : Int) = 1 from h) (by decide), fun h => absurd (show (0 : Int) = 2 from h) (by decide), hw, vW, fun h => absurd rfl h, fun h => absurd rfl h⟩
  | n + 1, a, b, w, v, ha, hb, hw, hv => by
    have sw : Spn w := sp.part hw
    have r := ra_wi l0 l1 ha hb sw hv
    have hbA : Alt b := by unfold Wi at hb; unfold Alt at *; omega
    have wW : Wi (wiP day lon rise) (wiP day lon rise) := ⟨Int.le_refl _, sp.2.1, Int.le_refl _⟩
    obtain ⟨k0, k1, k2⟩ := ki_wi r
    by_cases hk : kiM (raP a lat w) = 0
    · have hl := k0 hk
      rw [show roM a lat lon day rise (n + 1) w = roM a lat lon day rise n (nxP day lon rise (raP a lat w) w) from if_pos hk,
        show roM b lat lon day rise (n + 1) v = roM b lat lon day rise n (nxP day lon rise (raP b lat v) v) from if_pos hl]
      exact ro_wi l0 l1 sp n a b _ _ ha hb (nx_in hk) (nx_wi r hk sw hv)
    · rw [show roM a lat lon day rise (n + 1) w = (kiM (raP a lat w), wiP day lon rise) from if_neg hk]
      by_cases hl : kiM (raP b lat v) = 0
      · rw [show roM b lat lon day rise (n + 1) v = roM b lat lon day rise n (nxP day lon rise (raP b lat v) v) from if_pos hl]
        have q := ro_wi l0 l1 sp n b b (nxP day lon rise (raP b lat v) v) (nxP day lon rise (raP b lat v) v) hbA (wi_refl hb) (nx_in hl) (wi_refl (nx_in (w := v) hl))
        exact ⟨fun h => absurd h hk, fun h => absurd (k1 h) (by rw [hl]; decide), fun h => absurd (k2 h) (by rw [hl]; decide), wW, q.qin, fun _ => rfl, q.qout⟩
      · rw [show roM b lat lon day rise (n + 1) v = (kiM (raP b lat v), wiP day lon rise) from if_neg hl]
        exact ⟨fun h => absurd h hk, k1, k2, wW, wW, fun _ => rfl, fun _ => rfl⟩
theorem pa_wi {lat lon day : Int} {rise : Bool} (l0 : -88000000 ≤ lat) (l1 : lat ≤ 88000000) (d0 : 0 ≤ day) (d1 : day ≤ 40001) (o0 : -180000000 ≤ lon) (o1 : lon ≤ 180000000) {a b : P2} (ha : Alt a) (hb : Wi b a) :
    Nar2 (wiP day lon rise) (paM a lat lon day rise) (paM b lat lon day rise) := by
  have sp := wi_spn (rise := rise) d0 d1 o0 o1
  have wW : Wi (wiP day lon rise) (wiP day lon rise) := ⟨Int.le_refl _, sp.2.1, Int.le_refl _⟩
  exact ro_wi l0 l1 sp 3 a b _ _ ha hb wW wW

/-- the night after a day -/
def dkP (a : P2) (lat lon day : Int) : P2 :=
  (if (paM a lat lon day false).1 = 2 then (wiP (day + 1) lon true).1 else (paM a lat lon day false).2.1,
   if (paM a lat lon (day + 1) true).1 = 2 then (wiP day lon false).2 else (paM a lat lon (day + 1) true).2.2)
def niP (a : P2) (lat lon zo day : Int) : P2 :=
  if (paM a lat lon day false).1 = 2 ∧ (paM a lat lon (day + 1) true).1 = 2 then (0, 0) else loP zo day (dkP a lat lon day)
theorem win_gap {day lon : Int} : (wiP day lon false).1 ≤ (wiP (day + 1) lon true).1 ∧ (wiP day lon false).2 ≤ (wiP (day + 1) lon true).2 ∧ (wiP (day + 1) lon true).1 ≤ (wiP day lon false).2 := by
  unfold wiP moP reP adP onP upD
  simp only [Bool.false_eq_true, if_false, if_true]
  omega
theorem dk_wi {W W' : P2} {p q p' q' : Int × P2} (s : Nar2 W p q) (r : Nar2 W' p' q') (g1 : W.1 ≤ W'.1) (g2 : W.2 ≤ W'.2) :
    (if p.1 = 2 then W'.1 else p.2.1) ≤ (if q.1 = 2 then W'.1 else q.2.1) ∧ (if q'.1 = 2 then W.2 else q'.2.2) ≤ (if p'.1 = 2 then W.2 else p'.2.2) := by
  constructor
  · by_cases h : p.1 = 2
    · rw [if_pos h, if_pos (s.light h)]; exact Int.le_refl _
    · rw [if_neg h]
      by_cases h0 : p.1 = 0
      · obtain ⟨k, w⟩ := s.pass h0
        rw [if_neg (by omega)]
        exact w.1
      · rw [s.pout h0]
        split
        · exact g1
        · exact s.qin.1
  · by_cases h : p'.1 = 2
    · rw [if_pos h, if_pos (r.light h)]; exact Int.le_refl _
    · rw [if_neg h]
      by_cases h0 : p'.1 = 0
      · obtain ⟨k, w⟩ := r.pass h0
        rw [if_neg (by omega)]
        exact w.2.2
      · rw [r.pout h0]
        split
        · exact g2
        · exact r.qin.2.2
theorem dk_order {W W' : P2} {p q p' q' : Int × P2} (s : Nar2 W p q) (r : Nar2 W' p' q') (g1 : W.1 ≤ W'.1) (g2 : W.2 ≤ W'.2) (g3 : W'.1 ≤ W.2) (hq : q.1 = 2) (hq' : q'.1 = 2) :
    (if p.1 = 2 then W'.1 else p.2.1) ≤ (if p'.1 = 2 then W.2 else p'.2.2) := by
  have n0 : p.1 ≠ 0 := fun h => by have := (s.pass h).1; omega
  have n1 : p'.1 ≠ 0 := fun h => by have := (r.pass h).1; omega
  have w := s.pin
  have w' := r.pin
  rw [s.pout n0] at w ⊢
  rw [r.pout n1] at w' ⊢
  unfold Wi at w w'
  split <;> split <;> omega
theorem night_wi {lat lon zo day : Int} (l0 : -88000000 ≤ lat) (l1 : lat ≤ 88000000) (d0 : 0 ≤ day) (d1 : day ≤ 40000) (o0 : -180000000 ≤ lon) (o1 : lon ≤ 180000000) {a b : P2} (ha : Alt a) (hb : Wi b a) :
    (niP b lat lon zo day = (0, 0) ∨ ((niP a lat lon zo day).1 ≤ (niP b lat lon zo day).1 ∧ (niP b lat lon zo day).2 ≤ (niP a lat lon zo day).2)) ∧
    (niP b lat lon zo day).2 - (niP b lat lon zo day).1 ≤ (niP a lat lon zo day).2 - (niP a lat lon zo day).1 := by
  have s := pa_wi (rise := false) l0 l1 d0 (by omega) o0 o1 ha hb
  have r := pa_wi (rise := true) l0 l1 (show 0 ≤ day + 1 by omega) (by omega) o0 o1 ha hb
  obtain ⟨g1, g2, g3⟩ := @win_gap day lon
  have dk := dk_wi s r g1 g2
  by_cases hq : (paM b lat lon day false).1 = 2 ∧ (paM b lat lon (day + 1) true).1 = 2
  · have eb : niP b lat lon zo day = (0, 0) := if_pos hq
    refine ⟨Or.inl eb, ?_⟩
    rw [eb]
    by_cases hp : (paM a lat lon day false).1 = 2 ∧ (paM a lat lon (day + 1) true).1 = 2
    · rw [show niP a lat lon zo day = (0, 0) from if_pos hp]; exact Int.le_refl _
    · rw [show niP a lat lon zo day = loP zo day (dkP a lat lon day) from if_neg hp]
      have o := dk_order s r g1 g2 g3 hq.1 hq.2
      unfold loP adP onP dkP
      simp only
      omega
  · have hp : ¬ ((paM a lat lon day false).1 = 2 ∧ (paM a lat lon (day + 1) true).1 = 2) := fun h => hq ⟨s.light h.1, r.light h.2⟩
    rw [show niP a lat lon zo day = loP zo day (dkP a lat lon day) from if_neg hp, show niP b lat lon zo day = loP zo day (dkP b lat lon day) from if_neg hq]
    unfold loP adP onP dkP
    simp only
    exact ⟨Or.inr ⟨by omega, by omega⟩, by omega⟩
end Go.Proofs.YtjcgojbfjefbcaaDoor.Nw
