/- AngleFractions, at all of its arguments. -/
import Derived.Test.YtdikelijnachjaaDoorFra
import Derived.Test.YtdikelijnachjaaDoorFraM
namespace Go.Proofs.YtdikelijnachjaaDoor
set_option linter.unusedSimpArgs false
set_option linter.unusedVariables false
open Go.RowKit SineNear

theorem fra_any (x0 x1 y0 y1 u v : Int) (w : World) (t : Tabs w) (u0 : 0 ≤ u) (u1 : u ≤ 255) (v0 : 0 ≤ v) (v1 : v ≤ 255) :
    Calls Tryd.prog 9 #[encl x0 x1, encl y0 y1, .agg #[.int .u8 u, .int .u8 v]] w fun e w' => e = .returned (.bool true) ∧ Below w.heap.size w w' := by
  have C1 := times_any x0 x1 y0 y1
  have C2 := over_any x0 x1 y0 y1
  unfold timesV at C1
  unfold overV at C2
  cases h : (valB x0 x1 && valB y0 y1)
  · rw [h] at C1 C2
    exact fra_out x0 x1 y0 y1 u v w t h C1 C2
  · rw [h] at C1 C2
    simp only [if_true] at C1 C2
    obtain ⟨hx, hy⟩ := and_yes h
    have bx := valB_bd hx
    have bY := valB_bd hy
    have fx := frac_between bx.2.1 u0 u1 (by omega)
    have fy := frac_between bY.2.1 v0 v1 (by omega)
    have T := times_holds fx.2.2.1 fx.2.2.2 fy.2.2.1 fy.2.2.2
    have E : (vE (tLo x0 x1 y0 y1) (tHi x0 x1 y0 y1) = 0 ∧ vLo (tLo x0 x1 y0 y1) (tHi x0 x1 y0 y1) * 100000000 ≤ (x0 + (x1 - x0) * u / 255) * (y0 + (y1 - y0) * v / 255) ∧ (x0 + (x1 - x0) * u / 255) * (y0 + (y1 - y0) * v / 255) ≤ vHi (tLo x0 x1 y0 y1) (tHi x0 x1 y0 y1) * 100000000 ∧ -3000000000 ≤ vLo (tLo x0 x1 y0 y1) (tHi x0 x1 y0 y1) ∧ vLo (tLo x0 x1 y0 y1) (tHi x0 x1 y0 y1) ≤ vHi (tLo x0 x1 y0 y1) (tHi x0 x1 y0 y1) ∧ vHi (tLo x0 x1 y0 y1) (tHi x0 x1 y0 y1) ≤ 3000000000) ∨ vE (tLo x0 x1 y0 y1) (tHi x0 x1 y0 y1) = 7 := by
      unfold vE vLo vHi
      cases hv : valB (tLo x0 x1 y0 y1) (tHi x0 x1 y0 y1)
      · exact .inr rfl
      · have b := valB_bd hv
        exact .inl ⟨rfl, T.1, T.2, b.1, b.2.1, b.2.2⟩
    cases hz : zeroIn y0 y1
    · have z : ¬ (y0 ≤ 0 ∧ 0 ≤ y1) := of_decide_eq_false hz
      have z' : 0 < y0 ∨ y1 < 0 := by omega
      rw [hz] at C2
      have O := over_holds fx.2.2.1 fx.2.2.2 fy.2.2.1 fy.2.2.2 z'
      refine fra_in x0 x1 y0 y1 u v _ _ _ _ _ _ _ _ w t bx.1 bx.2.1 bx.2.2 bY.1 bY.2.1 bY.2.2 u0 u1 v0 v1 C1 C2 fx.1 fx.2.1 fy.1 fy.2.1 rfl rfl fx.2.2.1 fx.2.2.2 fy.2.2.1 fy.2.2.2 E (.inr ?_)
      unfold vE vLo vHi
      cases hv : valB (oLo x0 x1 y0 y1) (oHi x0 x1 y0 y1)
      · exact .inl ⟨rfl, z'⟩
      · have b := valB_bd hv
        exact .inr ⟨rfl, z', O.1, O.2, by simp only [if_true]; omega, by simp only [if_true]; omega⟩
    · have z : y0 ≤ 0 ∧ 0 ≤ y1 := of_decide_eq_true hz
      rw [hz] at C2
      exact fra_in x0 x1 y0 y1 u v _ _ _ _ _ _ _ _ w t bx.1 bx.2.1 bx.2.2 bY.1 bY.2.1 bY.2.2 u0 u1 v0 v1 C1 C2 fx.1 fx.2.1 fy.1 fy.2.1 rfl rfl fx.2.2.1 fx.2.2.2 fy.2.2.1 fy.2.2.2 E (.inl ⟨rfl, z.1, z.2⟩)
end Go.Proofs.YtdikelijnachjaaDoor
