/- The sun does not rise on December 21 at 80 degrees north: the numbers of Awake. -/
import Derived.Test.YtjcgojbfjefbcaaDoorSb
namespace Go.Proofs.YtjcgojbfjefbcaaDoor
set_option linter.unusedSimpArgs false
set_option linter.unusedVariables false
open Go.RowKit SineNear

theorem aw_s : sM (30670800, 30716400) = (-39777047, -39775697) := by decide +kernel
theorem aw_as : asP (-39777047, -39775697) = (-23438874, -23438030) := by
  have a1 : arcA 39777047 = 23438874 := arcA_is _ _ (by decide) (by decide) (Or.inr (by decide +kernel)) (Or.inr (by decide +kernel))
  have a2 : arcA (-39775697) = -23438030 := arcA_is _ _ (by decide) (by decide) (Or.inr (by decide +kernel)) (Or.inr (by decide +kernel))
  have i : inB (-39777047) (-39775697) (-100000000) 100000000 = true := by decide
  unfold asP asLo asHi
  rw [i, if_pos rfl, if_pos rfl, a2, show (- -39777047 : Int) = 39777047 from rfl, a1]
theorem aw_x : raP (-900000, -800000) 80000000 (30670800, 30716400) = (236006375, 237111641) := by
  unfold raP miP swP
  rw [aw_s, aw_as]
  decide +kernel
theorem aw_w : wiP 355 0 false = (30670800, 30716400) := by decide +kernel
theorem aw_pa : paM (-900000, -800000) 80000000 0 355 false = (1, 30670800, 30716400) := by
  unfold paM roM
  rw [aw_w, aw_x, if_neg (by decide)]
  rfl
end Go.Proofs.YtjcgojbfjefbcaaDoor
