/-
  DERIVED. GIVEN WITH THE SEED: THE PROGRAM's TIES (one call each: nine closed facts by the kernel) AND EACH ROW's TIE, after the 31st guide's Derived/Test/Toyas{Tie, Card}.lean. No idea stands in it: it is a product of the set-up. Laid BY PROGRAM, IN A SANDBOX (cutbox-door.mjs). By AI agents, Wed Nov 11 2026. No macro, syntax, notation, axiom, sorry.
-/
import Derived.Test.YtjcgojbfjefbcaaDoorRows
import Derived.LaidByTextLater
import Derived.SevenTiedAt
import Derived.LaidSub
import Derived.LaidOnce
namespace Go.Proofs.YtjcgojbfjefbcaaDoor
open Go
set_option maxRecDepth 100000
theorem seatTie1 : Tryd.prog.laidByTextLater [("linkboy/sun.lengths", Rows.laid_linkboy_sun_lengths), ("linkboy/sun.errNoDate", Rows.laid_linkboy_sun_errNoDate), ("linkboy/sun.morning", Rows.laid_linkboy_sun_morning), ("linkboy/sun.evening", Rows.laid_linkboy_sun_evening)] [.data, .sentinel, .wider, .wider] true :=
  Program.laidByTextLater_by_one 45 8 13 (by kernel_rfl) (by kernel_rfl) (by kernel_rfl) (by kernel_rfl) (by kernel_rfl) (by kernel_rfl) (fun _ _ => by kernel_rfl)
theorem noOwnUnsafe : Tryd.pinned.checked.prog.headLifts.contains "ownunsafe" = false := by kernel_rfl
theorem tie : Tryd.prog.laidByTextLater [("linkboy/sun.lengths", Rows.laid_linkboy_sun_lengths), ("linkboy/sun.errNoDate", Rows.laid_linkboy_sun_errNoDate), ("linkboy/sun.evening", Rows.laid_linkboy_sun_evening)] [.data, .sentinel, .wider] true :=
  Program.laidByTextLater.sub seatTie1 ["linkboy/sun.lengths", "linkboy/sun.errNoDate", "linkboy/sun.evening"] (by kernel_rfl) (by kernel_rfl)
theorem sunDates_row_tie : Rows.sunDatesRow.laidByTextAt .later Tryd.pinned [.data, .sentinel, .wider] true :=
  OpenClaim.laidByTextAt_later rfl rfl tie noOwnUnsafe
theorem sunCells_row_tie : Rows.sunCellsRow.laidByTextAt .later Tryd.pinned [.data, .sentinel, .wider] true :=
  OpenClaim.laidByTextAt_later rfl rfl tie noOwnUnsafe
theorem sunLevels_row_tie : Rows.sunLevelsRow.laidByTextAt .later Tryd.pinned [.data, .sentinel, .wider] true :=
  OpenClaim.laidByTextAt_later rfl rfl tie noOwnUnsafe
theorem sunCalendar_row_tie : Rows.sunCalendarRow.laidByTextAt .later Tryd.pinned [.data, .sentinel, .wider] true :=
  OpenClaim.laidByTextAt_later rfl rfl tie noOwnUnsafe
theorem sunParts_row_tie : Rows.sunPartsRow.laidByTextAt .later Tryd.pinned [.data, .sentinel, .wider] true :=
  OpenClaim.laidByTextAt_later rfl rfl tie noOwnUnsafe
theorem sunSwitches_row_tie : Rows.sunSwitchesRow.laidByTextAt .later Tryd.pinned [.data, .sentinel, .wider] true :=
  OpenClaim.laidByTextAt_later rfl rfl tie noOwnUnsafe
theorem sunLater_row_tie : Rows.sunLaterRow.laidByTextAt .later Tryd.pinned [.data, .sentinel, .wider] true :=
  OpenClaim.laidByTextAt_later rfl rfl tie noOwnUnsafe
theorem sunLeast_row_tie : Rows.sunLeastRow.laidByTextAt .later Tryd.pinned [.data, .sentinel, .wider] true :=
  OpenClaim.laidByTextAt_later rfl rfl tie noOwnUnsafe
theorem sunTraffic_row_tie : Rows.sunTrafficRow.laidByTextAt .later Tryd.pinned [.data, .sentinel, .wider] true :=
  OpenClaim.laidByTextAt_later rfl rfl tie noOwnUnsafe
theorem tie2 : Tryd.prog.laidByTextLater [("linkboy/sun.lengths", Rows.laid_linkboy_sun_lengths), ("linkboy/sun.errNoDate", Rows.laid_linkboy_sun_errNoDate), ("linkboy/sun.morning", Rows.laid_linkboy_sun_morning), ("linkboy/sun.evening", Rows.laid_linkboy_sun_evening)] [.data, .sentinel, .wider, .wider] true :=
  Program.laidByTextLater.sub seatTie1 ["linkboy/sun.lengths", "linkboy/sun.errNoDate", "linkboy/sun.morning", "linkboy/sun.evening"] (by kernel_rfl) (by kernel_rfl)
theorem sunPasses_row_tie : Rows.sunPassesRow.laidByTextAt .later Tryd.pinned [.data, .sentinel, .wider, .wider] true :=
  OpenClaim.laidByTextAt_later rfl rfl tie2 noOwnUnsafe
theorem sunBurns_row_tie : Rows.sunBurnsRow.laidByTextAt .later Tryd.pinned [.data, .sentinel, .wider, .wider] true :=
  OpenClaim.laidByTextAt_later rfl rfl tie2 noOwnUnsafe
theorem sunLower_row_tie : Rows.sunLowerRow.laidByTextAt .later Tryd.pinned [.data, .sentinel, .wider, .wider] true :=
  OpenClaim.laidByTextAt_later rfl rfl tie2 noOwnUnsafe
theorem sunNarrow_row_tie : Rows.sunNarrowRow.laidByTextAt .later Tryd.pinned [.data, .sentinel, .wider, .wider] true :=
  OpenClaim.laidByTextAt_later rfl rfl tie2 noOwnUnsafe
theorem sunAdds_row_tie : Rows.sunAddsRow.laidByTextAt .later Tryd.pinned [.data, .sentinel, .wider, .wider] true :=
  OpenClaim.laidByTextAt_later rfl rfl tie2 noOwnUnsafe
theorem sunDatesUpto_row_tie : Rows.sunDatesUptoRow.laidByTextAt .later Tryd.pinned [.data, .sentinel, .wider] true :=
  OpenClaim.laidByTextAt_later rfl rfl tie noOwnUnsafe
theorem sunCellsUpto_row_tie : Rows.sunCellsUptoRow.laidByTextAt .later Tryd.pinned [.data, .sentinel, .wider] true :=
  OpenClaim.laidByTextAt_later rfl rfl tie noOwnUnsafe
theorem sunLevelsUpto_row_tie : Rows.sunLevelsUptoRow.laidByTextAt .later Tryd.pinned [.data, .sentinel, .wider] true :=
  OpenClaim.laidByTextAt_later rfl rfl tie noOwnUnsafe
theorem sunCalendarUpto_row_tie : Rows.sunCalendarUptoRow.laidByTextAt .later Tryd.pinned [.data, .sentinel, .wider] true :=
  OpenClaim.laidByTextAt_later rfl rfl tie noOwnUnsafe
theorem sunPassesUpto_row_tie : Rows.sunPassesUptoRow.laidByTextAt .later Tryd.pinned [.data, .sentinel, .wider, .wider] true :=
  OpenClaim.laidByTextAt_later rfl rfl tie2 noOwnUnsafe
theorem sunBurnsUpto_row_tie : Rows.sunBurnsUptoRow.laidByTextAt .later Tryd.pinned [.data, .sentinel, .wider, .wider] true :=
  OpenClaim.laidByTextAt_later rfl rfl tie2 noOwnUnsafe
theorem sunLowerUpto_row_tie : Rows.sunLowerUptoRow.laidByTextAt .later Tryd.pinned [.data, .sentinel, .wider, .wider] true :=
  OpenClaim.laidByTextAt_later rfl rfl tie2 noOwnUnsafe
theorem sunPartsUpto_row_tie : Rows.sunPartsUptoRow.laidByTextAt .later Tryd.pinned [.data, .sentinel, .wider] true :=
  OpenClaim.laidByTextAt_later rfl rfl tie noOwnUnsafe
theorem sunNarrowUpto_row_tie : Rows.sunNarrowUptoRow.laidByTextAt .later Tryd.pinned [.data, .sentinel, .wider, .wider] true :=
  OpenClaim.laidByTextAt_later rfl rfl tie2 noOwnUnsafe
theorem sunAddsUpto_row_tie : Rows.sunAddsUptoRow.laidByTextAt .later Tryd.pinned [.data, .sentinel, .wider, .wider] true :=
  OpenClaim.laidByTextAt_later rfl rfl tie2 noOwnUnsafe
theorem sunSwitchesUpto_row_tie : Rows.sunSwitchesUptoRow.laidByTextAt .later Tryd.pinned [.data, .sentinel, .wider] true :=
  OpenClaim.laidByTextAt_later rfl rfl tie noOwnUnsafe
theorem sunLaterUpto_row_tie : Rows.sunLaterUptoRow.laidByTextAt .later Tryd.pinned [.data, .sentinel, .wider] true :=
  OpenClaim.laidByTextAt_later rfl rfl tie noOwnUnsafe
theorem sunLeastUpto_row_tie : Rows.sunLeastUptoRow.laidByTextAt .later Tryd.pinned [.data, .sentinel, .wider] true :=
  OpenClaim.laidByTextAt_later rfl rfl tie noOwnUnsafe
theorem sunTrafficUpto_row_tie : Rows.sunTrafficUptoRow.laidByTextAt .later Tryd.pinned [.data, .sentinel, .wider] true :=
  OpenClaim.laidByTextAt_later rfl rfl tie noOwnUnsafe
end Go.Proofs.YtjcgojbfjefbcaaDoor
