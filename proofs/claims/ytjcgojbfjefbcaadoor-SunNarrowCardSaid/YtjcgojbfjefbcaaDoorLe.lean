/- What the list of the rows with both halves gives, and a world for their witness. -/
import Derived.Test.YtjcgojbfjefbcaaDoorFm
namespace Go.Proofs.YtjcgojbfjefbcaaDoor
set_option linter.unusedSimpArgs false
set_option linter.unusedVariables false
open Go.ChangeShapes Go.WideShapes Go.ChangeAt Go.RowKit

theorem gMor : Tryd.prog.globalNamed "linkboy/sun.morning" = some 2 := by kernel_rfl
theorem tMor : (Tryd.prog.globals[2]?).map (·.type) = some 116 := by kernel_rfl
theorem mor_of {W : World} {l : List (String × DataW Unit)} (h : laidMetH Tryd.prog l W) (hf : l.filter (fun x => x.1 == "linkboy/sun.morning") = [("linkboy/sun.morning", Rows.laid_linkboy_sun_morning)]) : TabM W := by
  obtain ⟨g, t, cs, fuel, p, enc, hg, ht, hv, hd⟩ := one_of_laid h "linkboy/sun.morning" Rows.laid_linkboy_sun_morning (by rfl) hf
  obtain rfl := Option.some.inj (gMor.symm.trans hg)
  obtain rfl := Option.some.inj (tMor.symm.trans ht)
  exact half_of gMor hv (half_cells hd)
abbrev theList2 : List (String × DataW Unit) := Rows.sunNarrowRow.laid
theorem tabs_of2 {W : World} (h : laidMetH Tryd.prog theList2 W) : (∃ ea, TabD ea W) ∧ TabE W ∧ TabM W := by
  have hl := lens_of h (by rfl)
  obtain ⟨ea, he⟩ := err_of h (by rfl)
  exact ⟨⟨ea, hl, he⟩, eve_of h (by rfl), mor_of h (by rfl)⟩
noncomputable def laidWorld2 (os : Os) : World :=
  { World.holding Tryd.prog os ⟨#[.cells #[.string errText] 209], #[], []⟩ with heap := putCells (laidHeap (World.holding Tryd.prog os ⟨#[.cells #[.string errText] 209], #[], []⟩).heap) 2 (cellsData Rows.laid_linkboy_sun_morning) }
theorem laid_met2 (os : Os) (args : Array Value) : laidMet Tryd.prog theList2 ((laidWorld2 os).forCall (fun _ _ => 0) ⟨#[], args, []⟩).memory :=
  laidMet_of_run' 8 (by kernel_rfl) (by kernel_rfl)
end Go.Proofs.YtjcgojbfjefbcaaDoor
