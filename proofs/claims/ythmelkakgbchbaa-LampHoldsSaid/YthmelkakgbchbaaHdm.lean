/- LampHolds: what Over, Intensity and the exact interpolation are to each other, in plain words. -/
import Derived.Test.YthmelkakgbchbaaPtm
import Derived.Test.YthmelkakgbchbaaHdx
import Derived.Test.YthmelkakgbchbaaBww
namespace Go.Proofs.Ythmelkakgbchbaa
set_option linter.unusedSimpArgs false
set_option linter.unusedVariables false
open Go.RowKit

/-- where all values are small, so is all that is found -/
theorem it_small {t : Tab} (ok : TabOk t) (sm : SmallOk t) {h u v : Int} (h0 : 1 ≤ h) (h1 : h ≤ 30000) (hu : inB2 t.us.xs h u u = true) (hv : inB2 t.vs.xs h v v = true) : itHi2 t h (u, v) ≤ 5000 := by
  obtain ⟨pu, iu, _, _⟩ := plc_ok ok.us h0 h1 hu
  obtain ⟨pv, iv, _, _⟩ := plc_ok ok.vs h0 h1 hv
  have row : ∀ j, j < t.us.xs.length → inHi t j (plc t.vs.xs v h) ≤ 5000 := fun j hj => mixHi_le pv (sm.1 j _ hj (show plcAt t.vs.xs v h < _ by omega)) (sm.1 j _ hj iv)
  exact mixHi_le pu (row _ (show plcAt t.us.xs u h < _ by omega)) (row _ iu)
theorem hull_small {t : Tab} (ok : TabOk t) (sm : SmallOk t) {x0 x1 y0 y1 h : Int} (h0 : 1 ≤ h) (h1 : h ≤ 30000) (a0 : -200000 ≤ x0) (a1 : x0 ≤ x1) (a2 : x1 ≤ 200000) (b0 : -200000 ≤ y0) (b1 : y0 ≤ y1) (b2 : y1 ≤ 200000) : hullHi (fnd t x0 x1 y0 y1 h) ≤ 5000 := by
  obtain ⟨q, hq, e⟩ := hullHi_is (fnd_ne (t := t) (h := h) a1 b1)
  rw [e]
  rcases mem_fnd.1 hq with ⟨u, v, hu, hv, rfl⟩ | ⟨_, rfl⟩
  · obtain ⟨i1, _, _⟩ := mem_stops ok.us h0 h1 (by omega) (by omega) (by omega) (by omega) hu
    obtain ⟨i2, _, _⟩ := mem_stops ok.vs h0 h1 (by omega) (by omega) (by omega) (by omega) hv
    exact it_small ok sm h0 h1 i1 i2
  · exact sm.2
theorem bilD_le {t : Tab} (ok : TabOk t) {h : Int} (h0 : 1 ≤ h) (h1 : h ≤ 1000) {i k : Nat} (hi : i + 1 < t.us.xs.length) (hk : k + 1 < t.vs.xs.length) : bilD t h i k ≤ 100000000000000 := by
  have a0 := mulh1 (ok.us.lo i (by omega)) (ok.us.hi i (by omega)) h0 h1
  have a1 := mulh1 (ok.us.lo (i + 1) hi) (ok.us.hi (i + 1) hi) h0 h1
  have b0 := mulh1 (ok.vs.lo k (by omega)) (ok.vs.hi k (by omega)) h0 h1
  have b1 := mulh1 (ok.vs.lo (k + 1) hk) (ok.vs.hi (k + 1) hk) h0 h1
  have m := lmonoh ok.us h0 (show i < i + 1 by omega) hi
  have m' := lmonoh ok.vs h0 (show k < k + 1 by omega) hk
  exact Int.mul_le_mul (show _ ≤ (10000000 : Int) by omega) (show _ ≤ (10000000 : Int) by omega) (by omega) (by decide)

/-- what the law asks, where the point is in the table -/
structure HoldsIn (o0 o1 i0 i1 n d : Int) : Prop where
  fd0 : 0 < d
  fd1 : d ≤ 100000000000000
  fa : i0 * d ≤ n
  fb : n ≤ i1 * d
  fc : o0 * d ≤ n
  fe : n ≤ o1 * d
  fw : i1 - i0 ≤ 3
  fi0 : 0 ≤ i0
  fi01 : i0 ≤ i1
  fi1 : i1 ≤ 5000
  fo0 : 0 ≤ o0
  fo01 : o0 ≤ o1
  fo1 : o1 ≤ 5000

theorem holds_in {c : Cat} {m x0 x1 y0 y1 h px py : Int} (k : OvOk c m x0 x1 y0 y1 h) (hh : h ≤ 1000) (sm : SmallOk (tabAt c.tabs m.toNat)) (e0 : x0 ≤ px) (e1 : px ≤ x1) (e2 : y0 ≤ py) (e3 : py ≤ y1)
    {i j : Nat} (hi : i + 1 < (tabAt c.tabs m.toNat).us.xs.length) (hj : j + 1 < (tabAt c.tabs m.toNat).vs.xs.length) (g : Brk (tabAt c.tabs m.toNat) (1000 * px) (1000 * py) h i j) :
    HoldsIn (ovLo c m x0 x1 y0 y1 h) (ovHi c m x0 x1 y0 y1 h) (ovLo c m px px py py h) (ovHi c m px px py py h) (bilT (tabAt c.tabs m.toNat) h i j (1000 * px) (1000 * py)) (bilD (tabAt c.tabs m.toNat) h i j) := by
  have x0b := k.gx0; have x1b := k.gx1; have y0b := k.gy0; have y1b := k.gy1; have h0 := k.gh0; have h1 := k.gh1
  obtain ⟨pe, _, _⟩ := k.part (a0 := px) (a1 := px) (b0 := py) (b1 := py) e0 (Int.le_refl _) e1 e2 (Int.le_refl _) e3
  obtain ⟨_, _, _, _, _, _, _, _, r0, r1⟩ := ov_point pe
  obtain ⟨g1, g2, g3, g4⟩ := g
  have bu := brk_in k.ok.us h0 hi g1 g2
  have bv := brk_in k.ok.vs h0 hj g3 g4
  have hin : insB (tabAt c.tabs m.toNat) (1000 * px) (1000 * py) h = true := by unfold insB; rw [bu, bv]; rfl
  have rv : rval (tabAt c.tabs m.toNat) h (1000 * px) (1000 * py) = (itLo2 (tabAt c.tabs m.toNat) h (1000 * px, 1000 * py), itHi2 (tabAt c.tabs m.toNat) h (1000 * px, 1000 * py)) := by unfold rval; rw [if_pos hin]
  rw [rv] at r0 r1
  obtain ⟨n0, n1, n2, n3⟩ := it_bil k.ok h0 h1 hi hj g1 g2 g3 g4
  obtain ⟨m0, m1⟩ := fnd_bil (x0 := x0) (x1 := x1) (y0 := y0) (y1 := y1) k.ok h0 h1 hi hj g1 g2 g3 g4 (by omega) (by omega) (by omega) (by omega)
  have D := bilD_pos k.ok h0 hi hj
  have D1 := bilD_le k.ok h0 hh hi hj
  have bd := k.bd
  have bp := (ov_ok pe).bd
  have s1 := hull_small k.ok sm h0 h1 k.gx0 k.gx01 k.gx1 k.gy0 k.gy01 k.gy1
  have s2 := it_small k.ok sm h0 h1 bu bv
  rw [← k.lo] at m0
  rw [← k.hi] at m1 s1
  have q0 : itLo2 (tabAt c.tabs m.toNat) h (1000 * px, 1000 * py) = ovLo c m px px py py h := r0.symm
  have q1 : itHi2 (tabAt c.tabs m.toNat) h (1000 * px, 1000 * py) = ovHi c m px px py py h := r1.symm
  rw [q0] at n0 n1
  rw [q1] at n2 n3 s2
  have wd : ovHi c m px px py py h - 2 < ovLo c m px px py py h + 2 := Int.lt_of_mul_lt_mul_right (Int.lt_trans n3 n1) (Int.le_of_lt D)
  exact ⟨D, D1, n0, n2, m0, m1, by omega, bp.1, bp.2.1, s2, bd.1, bd.2.1, s1⟩
theorem holds_out {c : Cat} {m x0 x1 y0 y1 h px py : Int} (k : OvOk c m x0 x1 y0 y1 h) (e0 : x0 ≤ px) (e1 : px ≤ x1) (e2 : y0 ≤ py) (e3 : py ≤ y1) (g : insB (tabAt c.tabs m.toNat) (1000 * px) (1000 * py) h = false) :
    ovLo c m x0 x1 y0 y1 h ≤ 0 ∧ (tabAt c.tabs m.toNat).side ≤ ovHi c m x0 x1 y0 y1 h := by
  have hm : ((0, (tabAt c.tabs m.toNat).side) : Int × Int) ∈ fnd (tabAt c.tabs m.toNat) x0 x1 y0 y1 h := by
    refine mem_fnd.2 (.inr ⟨?_, rfl⟩)
    unfold insB at g
    rw [Bool.and_eq_false_iff] at g ⊢
    rcases g with g | g
    · exact .inl (decide_eq_false (fun hh => of_decide_eq_false g ⟨by omega, by omega⟩))
    · exact .inr (decide_eq_false (fun hh => of_decide_eq_false g ⟨by omega, by omega⟩))
  rw [k.lo, k.hi]
  exact ⟨hullLo_le hm, hullHi_ge hm⟩
end Go.Proofs.Ythmelkakgbchbaa
