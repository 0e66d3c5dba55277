/- What more hours, more months and a lower level do to the flux, the power and the intensity: plain mathematics. -/
import Derived.Test.YthmelkakgbchbaaTow
import Derived.Test.YthmelkakgbchbaaPow
namespace Go.Proofs.Ythmelkakgbchbaa
set_option linter.unusedSimpArgs false
set_option linter.unusedVariables false

theorem dn_mono {x y b : Int} (hb : 0 < b) (h : x ≤ y) : x / b ≤ y / b := Int.ediv_le_ediv hb h
theorem up_mono {x y b : Int} (hb : 0 < b) (h : x ≤ y) : upD x b ≤ upD y b := by
  unfold upD
  have := Int.ediv_le_ediv hb (show -y ≤ -x by omega)
  omega
theorem dn_up {x y b : Int} (hb : 0 < b) (h : x ≤ y) : x / b ≤ upD y b := by
  have e1 := Int.mul_ediv_add_emod x b
  have e2 := Int.emod_nonneg x (show b ≠ 0 by omega)
  have e3 := Int.mul_ediv_add_emod (-y) b
  have e4 := Int.emod_nonneg (-y) (show b ≠ 0 by omega)
  unfold upD
  generalize x / b = d at *
  generalize (-y) / b = e at *
  have : b * d ≤ b * (-e) := by rw [Int.mul_neg]; omega
  exact Int.le_of_mul_le_mul_left this hb
theorem mul_mono {x y x' y' : Int} (hx : x' ≤ x) (hy : y' ≤ y) (h0 : 0 ≤ x) (h1 : 0 ≤ y') : x' * y' ≤ x * y := Int.mul_le_mul hx hy h1 h0

/-- the shares' steps, rounded in one way for the greater and in another for the lesser -/
theorem rem_le {r s : Int → Int → Int} (hm : ∀ x y b : Int, 0 < b → x ≤ y → r x b ≤ s y b) (h0 : ∀ x b : Int, 0 < b → 0 ≤ x → 0 ≤ r x b) (h1 : ∀ x b : Int, 0 < b → 0 ≤ x → 0 ≤ s x b)
    {lum ag ag' di di' a a' m m' l l' : Int} (hl : 0 ≤ lum) (g : ag' * a' ≥ ag * a) (d : di' * m' ≥ di * m) (v0 : 0 ≤ l') (v : l' ≤ l) :
    rem r lum ag' di' a' m' l' ≤ rem s lum ag di a m l := by
  unfold rem
  have k1 : r (lum * max 0 (1000000 - ag' * a')) 1000000 ≤ s (lum * max 0 (1000000 - ag * a)) 1000000 := hm _ _ _ (by omega) (mul_mono (Int.le_refl _) (by omega) hl (by omega))
  have k2 : 0 ≤ s (lum * max 0 (1000000 - ag * a)) 1000000 := h1 _ _ (by omega) (Int.mul_nonneg hl (by omega))
  have k3 : r (r (lum * max 0 (1000000 - ag' * a')) 1000000 * max 0 (1000 - di' * m')) 1000 ≤ s (s (lum * max 0 (1000000 - ag * a)) 1000000 * max 0 (1000 - di * m)) 1000 := hm _ _ _ (by omega) (mul_mono k1 (by omega) k2 (by omega))
  have k4 : 0 ≤ s (s (lum * max 0 (1000000 - ag * a)) 1000000 * max 0 (1000 - di * m)) 1000 := h1 _ _ (by omega) (Int.mul_nonneg k2 (by omega))
  exact hm _ _ _ (by omega) (mul_mono k3 v k4 v0)
theorem dn0 : ∀ x b : Int, 0 < b → 0 ≤ x → 0 ≤ (fun a b : Int => a / b) x b := fun x b hb hx => Int.ediv_nonneg hx (by omega)
theorem up0 : ∀ x b : Int, 0 < b → 0 ≤ x → 0 ≤ upD x b := fun x b hb hx => by
  have := dn_up hb (show (0:Int) ≤ x from hx)
  simpa using this

theorem flx_ages {nt : Nat} {l : Lmp} (ok : LmpOk nt l) {a m v a' m' v' : Int} (ha : 0 ≤ a) (ha' : a ≤ a') (hm : 0 ≤ m) (hm' : m ≤ m') (hv : 0 ≤ v') (hv' : v' ≤ v) :
    flxLo l a' m' v' ≤ flxLo l a m v ∧ flxHi l a' m' v' ≤ flxHi l a m v ∧ flxLo l a m v ≤ flxHi l a m v ∧ 0 ≤ flxLo l a' m' v' := by
  have k0 := ok.l0
  have a0 := ok.a0
  have a1 := ok.a1
  have d0 := ok.d0
  have d1 := ok.d1
  have A1 := mul_mono (x := l.ahi) (x' := l.ahi) (y := a') (y' := a) (Int.le_refl _) ha' (by omega) ha
  have A2 := mul_mono (x := l.alo) (x' := l.alo) (y := a') (y' := a) (Int.le_refl _) ha' (by omega) ha
  have A3 := mul_mono (x := l.dhi) (x' := l.dhi) (y := m') (y' := m) (Int.le_refl _) hm' (by omega) hm
  have A4 := mul_mono (x := l.dlo) (x' := l.dlo) (y := m') (y' := m) (Int.le_refl _) hm' (by omega) hm
  have A5 := mul_mono (x := l.ahi) (x' := l.alo) (y := a) (y' := a) a1 (Int.le_refl _) (by omega) ha
  have A6 := mul_mono (x := l.dhi) (x' := l.dlo) (y := m) (y' := m) d1 (Int.le_refl _) (by omega) hm
  have k0' : 0 ≤ l.lumens := by omega
  have v0 : 0 ≤ v := by omega
  have R1 := rem_le (r := fun a b => a / b) (s := fun a b => a / b) (fun x y b hb h => dn_mono hb h) dn0 dn0 (lum := l.lumens) k0' A1 A3 hv hv'
  have R2 := rem_le (r := upD) (s := upD) (fun x y b hb h => up_mono hb h) up0 up0 (lum := l.lumens) k0' A2 A4 hv hv'
  have R3 := rem_le (r := fun a b => a / b) (s := upD) (fun x y b hb h => dn_up hb h) dn0 up0 (lum := l.lumens) k0' A5 A6 v0 (Int.le_refl v)
  have R4 : 0 ≤ rem (fun a b => a / b) l.lumens l.ahi l.dhi a' m' v' := by
    unfold rem
    dsimp only
    have e1 : 0 ≤ l.lumens * max 0 (1000000 - l.ahi * a') / 1000000 := Int.ediv_nonneg (Int.mul_nonneg k0' (by omega)) (by omega)
    have e2 : 0 ≤ l.lumens * max 0 (1000000 - l.ahi * a') / 1000000 * max 0 (1000 - l.dhi * m') / 1000 := Int.ediv_nonneg (Int.mul_nonneg e1 (by omega)) (by omega)
    exact Int.ediv_nonneg (Int.mul_nonneg e2 hv) (by omega)
  exact ⟨R1, R2, R3, R4⟩

theorem pw_ages {nt : Nat} {l : Lmp} (ok : LmpOk nt l) {v v' : Int} (hv : 0 ≤ v') (hv' : v' ≤ v) : pwLo l v' ≤ pwLo l v ∧ pwHi l v' ≤ pwHi l v := by
  have s0 := ok.s0
  have s1 := ok.s1
  have o0 := ok.o0
  have o1 := ok.o1
  have T := mul_mono (x := l.power - l.standing) (x' := l.power - l.standing) (Int.le_refl _) hv' (by omega) hv
  have T0 := Int.mul_nonneg (show 0 ≤ l.power - l.standing by omega) hv
  unfold pwLo pwHi pwT
  exact ⟨dn_mono (by omega) (mul_mono (by omega) (Int.le_refl _) (by omega) (by omega)), up_mono (by omega) (mul_mono (by omega) (Int.le_refl _) (by omega) (by omega))⟩

/-- all that LampAges compares -/
theorem ages_facts (c : Cat) (n a m v a' m' v' d0 d1 d2 x0 x1 y0 y1 h : Int) (e0 : 0 ≤ d0) (e0' : d0 ≤ 65535) (e1 : 0 ≤ d1) (e1' : d1 ≤ 65535) (e2 : 0 ≤ d2) (e2' : d2 ≤ 65535)
    (ha : IntKind.i64.wrap (a + d0) = a') (hm : IntKind.i64.wrap (m + d1) = m') (hv : IntKind.i64.wrap (v - d2) = v') (z : fxE c n a m v = 0) (z' : fxE c n a' m' v' = 0) :
    (fxLo c n a' m' v' ≤ fxLo c n a m v ∧ fxHi c n a' m' v' ≤ fxHi c n a m v ∧ fxLo c n a m v ≤ fxHi c n a m v ∧ 0 ≤ fxLo c n a' m' v') ∧
    (pwE c n v = 0 ∧ pwE c n v' = 0 ∧ pwLoN c n v' ≤ pwLoN c n v ∧ pwHiN c n v' ≤ pwHiN c n v) ∧
    (twE c n a m v x0 x1 y0 y1 h = twE c n a' m' v' x0 x1 y0 y1 h ∧ twLo c n a' m' v' x0 x1 y0 y1 h ≤ twLo c n a m v x0 x1 y0 y1 h ∧ twHi c n a' m' v' x0 x1 y0 y1 h ≤ twHi c n a m v x0 x1 y0 y1 h) := by
  obtain ⟨hz, hu⟩ := fxE_ok z
  obtain ⟨_, hu'⟩ := fxE_ok z'
  obtain ⟨ok, hn0, hn1⟩ := errOf_ok hz
  obtain ⟨u0, u1, u2, u3, u4, u5⟩ := useB_ok hu
  obtain ⟨w0, w1, w2, w3, w4, w5⟩ := useB_ok hu'
  rw [IntWalk.i64_in _ (by omega)] at ha hm hv
  have okl := ok.lmp n.toNat (by omega)
  have F := flx_ages okl u0 (show a ≤ a' by omega) u2 (show m ≤ m' by omega) w4 (show v' ≤ v by omega)
  have P := pw_ages okl w4 (show v' ≤ v by omega)
  have q1 : inB v 0 1000 = true := inB_iff.2 ⟨u4, u5⟩
  have q2 : inB v' 0 1000 = true := inB_iff.2 ⟨w4, w5⟩
  have p1 : pwE c n v = 0 := by unfold pwE; rw [if_neg (fun hh => hh hz), if_pos q1]
  have p2 : pwE c n v' = 0 := by unfold pwE; rw [if_neg (fun hh => hh hz), if_pos q2]
  have t1 : twE c n a m v x0 x1 y0 y1 h = rectE x0 x1 y0 y1 h := by unfold twE; rw [if_neg (fun hh => hh z)]
  have t2 : twE c n a' m' v' x0 x1 y0 y1 h = rectE x0 x1 y0 y1 h := by unfold twE; rw [if_neg (fun hh => hh z')]
  refine ⟨?_, ⟨p1, p2, ?_⟩, ⟨t1.trans t2.symm, ?_⟩⟩
  · unfold fxLo fxHi
    rw [if_neg (fun hh => hh z'), if_neg (fun hh => hh z), if_neg (fun hh => hh z'), if_neg (fun hh => hh z)]
    exact F
  · unfold pwLoN pwHiN
    rw [if_neg (fun hh => hh p2), if_neg (fun hh => hh p1), if_neg (fun hh => hh p2), if_neg (fun hh => hh p1)]
    exact P
  · unfold twLo twHi
    rw [t1, t2]
    by_cases hr : rectE x0 x1 y0 y1 h = 0
    · obtain ⟨b0, b1, b2, b3, b4, b5, b6, b7⟩ := rectE_ok hr
      have okt : TabOk (lamT c n) := ok.tab _ (by have := okl.t0; have := okl.t1; omega)
      obtain ⟨h0, h1, _⟩ := hull_bd okt b0 b1 b2 b3 b4 b5 b6 b7
      rw [if_neg (fun hh => hh hr), if_neg (fun hh => hh hr), if_neg (fun hh => hh hr), if_neg (fun hh => hh hr)]
      exact ⟨dn_mono (by omega) (mul_mono (Int.le_refl _) F.1 h0 F.2.2.2), up_mono (by omega) (mul_mono (Int.le_refl _) F.2.1 (by omega) (flx_bd okl hu').2.2.1)⟩
    · rw [if_pos hr, if_pos hr, if_pos hr, if_pos hr]
      exact ⟨Int.le_refl _, Int.le_refl _⟩
end Go.Proofs.Ythmelkakgbchbaa
