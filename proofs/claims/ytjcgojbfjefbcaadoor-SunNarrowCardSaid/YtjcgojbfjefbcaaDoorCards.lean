/-
  DERIVED. GIVEN WITH THE SEED: THE CARDS: each row of YtjcgojbfjefbcaaDoorRows.lean that lists a variable, with what it lists TIED to the program's text (the seventh form; the later family's looks); each row that meets fmt, with fmt's text TOLD by the authors' own Lean function (tested against real Go, not proved from fmt's source: count such statements apart). THE CARD IS WHAT COUNTS. Prove the row's statement (the work); the ties are given (YtjcgojbfjefbcaaDoorTie.lean); close each card by the builder's one call (the guide's Derived/Test/ToyasCard.lean, 'card_holds'). Laid BY PROGRAM, IN A SANDBOX (cutbox-door.mjs). By AI agents, Wed Nov 11 2026. No macro, syntax, notation, axiom, sorry.
-/
import Derived.Test.YtjcgojbfjefbcaaDoorRows
import GoSem.ClaimSeven
namespace Go.Proofs.YtjcgojbfjefbcaaDoor
namespace Rows

/-- THE TIED CARD OF 'linkboylaw07.SunDates'. -/
def sunDatesCard : Claim7 := { stood := { row := sunDatesRow, standIns := [], harness := (true, "64ac5cd9450a8cda7db9734b8629d1bccf52f2bf7720a0b2c677bebe66fdba8d"), looks := true }, kinds := [], alts := [], laidByText := true, laidKinds := [.data, .sentinel, .wider], laidTests := true, laidLooks := .later }
def SunDatesCardSaid : Prop := Claim7.holds Tryd.pinned (.plain (OpenSpec.ofChange sunDatesSpec)) sunDatesCard

/-- THE TIED CARD OF 'linkboylaw07.SunCells'. -/
def sunCellsCard : Claim7 := { stood := { row := sunCellsRow, standIns := [], harness := (true, "64ac5cd9450a8cda7db9734b8629d1bccf52f2bf7720a0b2c677bebe66fdba8d"), looks := true }, kinds := [], alts := [], laidByText := true, laidKinds := [.data, .sentinel, .wider], laidTests := true, laidLooks := .later }
def SunCellsCardSaid : Prop := Claim7.holds Tryd.pinned (.plain (OpenSpec.ofChange sunCellsSpec)) sunCellsCard

/-- THE TIED CARD OF 'linkboylaw07.SunLevels'. -/
def sunLevelsCard : Claim7 := { stood := { row := sunLevelsRow, standIns := [], harness := (true, "64ac5cd9450a8cda7db9734b8629d1bccf52f2bf7720a0b2c677bebe66fdba8d"), looks := true }, kinds := [], alts := [], laidByText := true, laidKinds := [.data, .sentinel, .wider], laidTests := true, laidLooks := .later }
def SunLevelsCardSaid : Prop := Claim7.holds Tryd.pinned (.plain (OpenSpec.ofChange sunLevelsSpec)) sunLevelsCard

/-- THE TIED CARD OF 'linkboylaw07.SunCalendar'. -/
def sunCalendarCard : Claim7 := { stood := { row := sunCalendarRow, standIns := [], harness := (true, "64ac5cd9450a8cda7db9734b8629d1bccf52f2bf7720a0b2c677bebe66fdba8d"), looks := true }, kinds := [], alts := [], laidByText := true, laidKinds := [.data, .sentinel, .wider], laidTests := true, laidLooks := .later }
def SunCalendarCardSaid : Prop := Claim7.holds Tryd.pinned (.plain (OpenSpec.ofChange sunCalendarSpec)) sunCalendarCard

/-- THE TIED CARD OF 'linkboylaw07.SunPasses'. -/
def sunPassesCard : Claim7 := { stood := { row := sunPassesRow, standIns := [], harness := (true, "64ac5cd9450a8cda7db9734b8629d1bccf52f2bf7720a0b2c677bebe66fdba8d"), looks := true }, kinds := [], alts := [], laidByText := true, laidKinds := [.data, .sentinel, .wider, .wider], laidTests := true, laidLooks := .later }
def SunPassesCardSaid : Prop := Claim7.holds Tryd.pinned (.plain (OpenSpec.ofChange sunPassesSpec)) sunPassesCard

/-- THE TIED CARD OF 'linkboylaw07.SunBurns'. -/
def sunBurnsCard : Claim7 := { stood := { row := sunBurnsRow, standIns := [], harness := (true, "64ac5cd9450a8cda7db9734b8629d1bccf52f2bf7720a0b2c677bebe66fdba8d"), looks := true }, kinds := [], alts := [], laidByText := true, laidKinds := [.data, .sentinel, .wider, .wider], laidTests := true, laidLooks := .later }
def SunBurnsCardSaid : Prop := Claim7.holds Tryd.pinned (.plain (OpenSpec.ofChange sunBurnsSpec)) sunBurnsCard

/-- THE TIED CARD OF 'linkboylaw07.SunLower'. -/
def sunLowerCard : Claim7 := { stood := { row := sunLowerRow, standIns := [], harness := (true, "64ac5cd9450a8cda7db9734b8629d1bccf52f2bf7720a0b2c677bebe66fdba8d"), looks := true }, kinds := [], alts := [], laidByText := true, laidKinds := [.data, .sentinel, .wider, .wider], laidTests := true, laidLooks := .later }
def SunLowerCardSaid : Prop := Claim7.holds Tryd.pinned (.plain (OpenSpec.ofChange sunLowerSpec)) sunLowerCard

/-- THE TIED CARD OF 'linkboylaw07.SunParts'. -/
def sunPartsCard : Claim7 := { stood := { row := sunPartsRow, standIns := [], harness := (true, "64ac5cd9450a8cda7db9734b8629d1bccf52f2bf7720a0b2c677bebe66fdba8d"), looks := true }, kinds := [], alts := [], laidByText := true, laidKinds := [.data, .sentinel, .wider], laidTests := true, laidLooks := .later }
def SunPartsCardSaid : Prop := Claim7.holds Tryd.pinned (.plain (OpenSpec.ofChange sunPartsSpec)) sunPartsCard

/-- THE TIED CARD OF 'linkboylaw07.SunNarrow'. -/
def sunNarrowCard : Claim7 := { stood := { row := sunNarrowRow, standIns := [], harness := (true, "64ac5cd9450a8cda7db9734b8629d1bccf52f2bf7720a0b2c677bebe66fdba8d"), looks := true }, kinds := [], alts := [], laidByText := true, laidKinds := [.data, .sentinel, .wider, .wider], laidTests := true, laidLooks := .later }
def SunNarrowCardSaid : Prop := Claim7.holds Tryd.pinned (.plain (OpenSpec.ofChange sunNarrowSpec)) sunNarrowCard

/-- THE TIED CARD OF 'linkboylaw07.SunAdds'. -/
def sunAddsCard : Claim7 := { stood := { row := sunAddsRow, standIns := [], harness := (true, "64ac5cd9450a8cda7db9734b8629d1bccf52f2bf7720a0b2c677bebe66fdba8d"), looks := true }, kinds := [], alts := [], laidByText := true, laidKinds := [.data, .sentinel, .wider, .wider], laidTests := true, laidLooks := .later }
def SunAddsCardSaid : Prop := Claim7.holds Tryd.pinned (.plain (OpenSpec.ofChange sunAddsSpec)) sunAddsCard

/-- THE TIED CARD OF 'linkboylaw07.SunSwitches'. -/
def sunSwitchesCard : Claim7 := { stood := { row := sunSwitchesRow, standIns := [], harness := (true, "64ac5cd9450a8cda7db9734b8629d1bccf52f2bf7720a0b2c677bebe66fdba8d"), looks := true }, kinds := [], alts := [], laidByText := true, laidKinds := [.data, .sentinel, .wider], laidTests := true, laidLooks := .later }
def SunSwitchesCardSaid : Prop := Claim7.holds Tryd.pinned (.plain (OpenSpec.ofChange sunSwitchesSpec)) sunSwitchesCard

/-- THE TIED CARD OF 'linkboylaw07.SunLater'. -/
def sunLaterCard : Claim7 := { stood := { row := sunLaterRow, standIns := [], harness := (true, "64ac5cd9450a8cda7db9734b8629d1bccf52f2bf7720a0b2c677bebe66fdba8d"), looks := true }, kinds := [], alts := [], laidByText := true, laidKinds := [.data, .sentinel, .wider], laidTests := true, laidLooks := .later }
def SunLaterCardSaid : Prop := Claim7.holds Tryd.pinned (.plain (OpenSpec.ofChange sunLaterSpec)) sunLaterCard

/-- THE TIED CARD OF 'linkboylaw07.SunLeast'. -/
def sunLeastCard : Claim7 := { stood := { row := sunLeastRow, standIns := [], harness := (true, "64ac5cd9450a8cda7db9734b8629d1bccf52f2bf7720a0b2c677bebe66fdba8d"), looks := true }, kinds := [], alts := [], laidByText := true, laidKinds := [.data, .sentinel, .wider], laidTests := true, laidLooks := .later }
def SunLeastCardSaid : Prop := Claim7.holds Tryd.pinned (.plain (OpenSpec.ofChange sunLeastSpec)) sunLeastCard

/-- THE TIED CARD OF 'linkboylaw07.SunTraffic'. -/
def sunTrafficCard : Claim7 := { stood := { row := sunTrafficRow, standIns := [], harness := (true, "64ac5cd9450a8cda7db9734b8629d1bccf52f2bf7720a0b2c677bebe66fdba8d"), looks := true }, kinds := [], alts := [], laidByText := true, laidKinds := [.data, .sentinel, .wider], laidTests := true, laidLooks := .later }
def SunTrafficCardSaid : Prop := Claim7.holds Tryd.pinned (.plain (OpenSpec.ofChange sunTrafficSpec)) sunTrafficCard

/-- THE SECOND FORM's CARD OF 'linkboylaw07.SunDates'. -/
def sunDatesUptoCard : Claim7 := { stood := { row := sunDatesUptoRow, standIns := [], harness := (true, "64ac5cd9450a8cda7db9734b8629d1bccf52f2bf7720a0b2c677bebe66fdba8d"), looks := true }, kinds := [], alts := [], laidByText := true, laidKinds := [.data, .sentinel, .wider], laidTests := true, laidLooks := .later }
def SunDatesUptoCardSaid : Prop := Claim7.holds Tryd.pinned (.plain (OpenSpec.upto sunDatesSpec)) sunDatesUptoCard

/-- THE SECOND FORM's CARD OF 'linkboylaw07.SunCells'. -/
def sunCellsUptoCard : Claim7 := { stood := { row := sunCellsUptoRow, standIns := [], harness := (true, "64ac5cd9450a8cda7db9734b8629d1bccf52f2bf7720a0b2c677bebe66fdba8d"), looks := true }, kinds := [], alts := [], laidByText := true, laidKinds := [.data, .sentinel, .wider], laidTests := true, laidLooks := .later }
def SunCellsUptoCardSaid : Prop := Claim7.holds Tryd.pinned (.plain (OpenSpec.upto sunCellsSpec)) sunCellsUptoCard

/-- THE SECOND FORM's CARD OF 'linkboylaw07.SunLevels'. -/
def sunLevelsUptoCard : Claim7 := { stood := { row := sunLevelsUptoRow, standIns := [], harness := (true, "64ac5cd9450a8cda7db9734b8629d1bccf52f2bf7720a0b2c677bebe66fdba8d"), looks := true }, kinds := [], alts := [], laidByText := true, laidKinds := [.data, .sentinel, .wider], laidTests := true, laidLooks := .later }
def SunLevelsUptoCardSaid : Prop := Claim7.holds Tryd.pinned (.plain (OpenSpec.upto sunLevelsSpec)) sunLevelsUptoCard

/-- THE SECOND FORM's CARD OF 'linkboylaw07.SunCalendar'. -/
def sunCalendarUptoCard : Claim7 := { stood := { row := sunCalendarUptoRow, standIns := [], harness := (true, "64ac5cd9450a8cda7db9734b8629d1bccf52f2bf7720a0b2c677bebe66fdba8d"), looks := true }, kinds := [], alts := [], laidByText := true, laidKinds := [.data, .sentinel, .wider], laidTests := true, laidLooks := .later }
def SunCalendarUptoCardSaid : Prop := Claim7.holds Tryd.pinned (.plain (OpenSpec.upto sunCalendarSpec)) sunCalendarUptoCard

/-- THE SECOND FORM's CARD OF 'linkboylaw07.SunPasses'. -/
def sunPassesUptoCard : Claim7 := { stood := { row := sunPassesUptoRow, standIns := [], harness := (true, "64ac5cd9450a8cda7db9734b8629d1bccf52f2bf7720a0b2c677bebe66fdba8d"), looks := true }, kinds := [], alts := [], laidByText := true, laidKinds := [.data, .sentinel, .wider, .wider], laidTests := true, laidLooks := .later }
def SunPassesUptoCardSaid : Prop := Claim7.holds Tryd.pinned (.plain (OpenSpec.upto sunPassesSpec)) sunPassesUptoCard

/-- THE SECOND FORM's CARD OF 'linkboylaw07.SunBurns'. -/
def sunBurnsUptoCard : Claim7 := { stood := { row := sunBurnsUptoRow, standIns := [], harness := (true, "64ac5cd9450a8cda7db9734b8629d1bccf52f2bf7720a0b2c677bebe66fdba8d"), looks := true }, kinds := [], alts := [], laidByText := true, laidKinds := [.data, .sentinel, .wider, .wider], laidTests := true, laidLooks := .later }
def SunBurnsUptoCardSaid : Prop := Claim7.holds Tryd.pinned (.plain (OpenSpec.upto sunBurnsSpec)) sunBurnsUptoCard

/-- THE SECOND FORM's CARD OF 'linkboylaw07.SunLower'. -/
def sunLowerUptoCard : Claim7 := { stood := { row := sunLowerUptoRow, standIns := [], harness := (true, "64ac5cd9450a8cda7db9734b8629d1bccf52f2bf7720a0b2c677bebe66fdba8d"), looks := true }, kinds := [], alts := [], laidByText := true, laidKinds := [.data, .sentinel, .wider, .wider], laidTests := true, laidLooks := .later }
def SunLowerUptoCardSaid : Prop := Claim7.holds Tryd.pinned (.plain (OpenSpec.upto sunLowerSpec)) sunLowerUptoCard

/-- THE SECOND FORM's CARD OF 'linkboylaw07.SunParts'. -/
def sunPartsUptoCard : Claim7 := { stood := { row := sunPartsUptoRow, standIns := [], harness := (true, "64ac5cd9450a8cda7db9734b8629d1bccf52f2bf7720a0b2c677bebe66fdba8d"), looks := true }, kinds := [], alts := [], laidByText := true, laidKinds := [.data, .sentinel, .wider], laidTests := true, laidLooks := .later }
def SunPartsUptoCardSaid : Prop := Claim7.holds Tryd.pinned (.plain (OpenSpec.upto sunPartsSpec)) sunPartsUptoCard

/-- THE SECOND FORM's CARD OF 'linkboylaw07.SunNarrow'. -/
def sunNarrowUptoCard : Claim7 := { stood := { row := sunNarrowUptoRow, standIns := [], harness := (true, "64ac5cd9450a8cda7db9734b8629d1bccf52f2bf7720a0b2c677bebe66fdba8d"), looks := true }, kinds := [], alts := [], laidByText := true, laidKinds := [.data, .sentinel, .wider, .wider], laidTests := true, laidLooks := .later }
def SunNarrowUptoCardSaid : Prop := Claim7.holds Tryd.pinned (.plain (OpenSpec.upto sunNarrowSpec)) sunNarrowUptoCard

/-- THE SECOND FORM's CARD OF 'linkboylaw07.SunAdds'. -/
def sunAddsUptoCard : Claim7 := { stood := { row := sunAddsUptoRow, standIns := [], harness := (true, "64ac5cd9450a8cda7db9734b8629d1bccf52f2bf7720a0b2c677bebe66fdba8d"), looks := true }, kinds := [], alts := [], laidByText := true, laidKinds := [.data, .sentinel, .wider, .wider], laidTests := true, laidLooks := .later }
def SunAddsUptoCardSaid : Prop := Claim7.holds Tryd.pinned (.plain (OpenSpec.upto sunAddsSpec)) sunAddsUptoCard

/-- THE SECOND FORM's CARD OF 'linkboylaw07.SunSwitches'. -/
def sunSwitchesUptoCard : Claim7 := { stood := { row := sunSwitchesUptoRow, standIns := [], harness := (true, "64ac5cd9450a8cda7db9734b8629d1bccf52f2bf7720a0b2c677bebe66fdba8d"), looks := true }, kinds := [], alts := [], laidByText := true, laidKinds := [.data, .sentinel, .wider], laidTests := true, laidLooks := .later }
def SunSwitchesUptoCardSaid : Prop := Claim7.holds Tryd.pinned (.plain (OpenSpec.upto sunSwitchesSpec)) sunSwitchesUptoCard

/-- THE SECOND FORM's CARD OF 'linkboylaw07.SunLater'. -/
def sunLaterUptoCard : Claim7 := { stood := { row := sunLaterUptoRow, standIns := [], harness := (true, "64ac5cd9450a8cda7db9734b8629d1bccf52f2bf7720a0b2c677bebe66fdba8d"), looks := true }, kinds := [], alts := [], laidByText := true, laidKinds := [.data, .sentinel, .wider], laidTests := true, laidLooks := .later }
def SunLaterUptoCardSaid : Prop := Claim7.holds Tryd.pinned (.plain (OpenSpec.upto sunLaterSpec)) sunLaterUptoCard

/-- THE SECOND FORM's CARD OF 'linkboylaw07.SunLeast'. -/
def sunLeastUptoCard : Claim7 := { stood := { row := sunLeastUptoRow, standIns := [], harness := (true, "64ac5cd9450a8cda7db9734b8629d1bccf52f2bf7720a0b2c677bebe66fdba8d"), looks := true }, kinds := [], alts := [], laidByText := true, laidKinds := [.data, .sentinel, .wider], laidTests := true, laidLooks := .later }
def SunLeastUptoCardSaid : Prop := Claim7.holds Tryd.pinned (.plain (OpenSpec.upto sunLeastSpec)) sunLeastUptoCard

/-- THE SECOND FORM's CARD OF 'linkboylaw07.SunTraffic'. -/
def sunTrafficUptoCard : Claim7 := { stood := { row := sunTrafficUptoRow, standIns := [], harness := (true, "64ac5cd9450a8cda7db9734b8629d1bccf52f2bf7720a0b2c677bebe66fdba8d"), looks := true }, kinds := [], alts := [], laidByText := true, laidKinds := [.data, .sentinel, .wider], laidTests := true, laidLooks := .later }
def SunTrafficUptoCardSaid : Prop := Claim7.holds Tryd.pinned (.plain (OpenSpec.upto sunTrafficSpec)) sunTrafficUptoCard
end Rows
end Go.Proofs.YtjcgojbfjefbcaaDoor
