/-
  NARROWER THAN 'FOR EVERY INPUT', by the rows' own cells (each row's printed sentence says how): SunDates: laid · SunCells: laid · SunLevels: laid · SunCalendar: laid · SunPasses: laid · SunBurns: laid · SunLower: laid · SunParts: laid · SunNarrow: laid · SunAdds: laid · SunSwitches: laid · SunLater: laid · SunLeast: laid · SunTraffic: laid.
  DERIVED. THE GIVEN ROWS OF THIS SEAT. 14 by the template 'for every input the law returns true; each argument reads behind the call as it read before'; 0 by the template 'total and deterministic' (their statements: YtjcgojbfjefbcaaDoorTotals.lean).
  GIVEN WITH THE SEED: the statements are not yours to turn. If you find one false, say at which input.
  Laid BY PROGRAM, IN A SANDBOX (cutbox-rows.mjs): the forced cells as the released guide's own fill.sh prints them over the translation 9d394b84dbbefaaf… (all of the seat's roots in one cut). By AI agents, Wed Nov 11 2026. No macro, syntax, notation, axiom, sorry.
-/
import Derived.Test.YtjcgojbfjefbcaaDoorChecked
import GoSem.Claim
import GoSem.ClaimJoined
import GoSem.ClaimMapViews
import Derived.JoinedTies
import Derived.KernelRfl
namespace Go.Proofs.YtjcgojbfjefbcaaDoor
/- THE CELL 'sum', in the pinned program and in every row, IS THE sha256 OF THE DUMP (.gsa) THAT YtjcgojbfjefbcaaDoorProg.lean LOADS. Nothing in Lean hashes anything: it is a label: what it is worth is what the hold of that sum in a sandbox is worth. -/
noncomputable def Tryd.pinned : Pinned := { name := "ytjcgojbfjefbcaadoor", sum := "9d394b84dbbefaaff1c55ee90847ec485199182ba124faa7017ac5531658406f", checked := Tryd.checked }
namespace Rows
def none {H : Type} : Left H := { results := [], args := [] }

/- WHAT THE LISTED PACKAGE-LEVEL VARIABLES READ AS WHEN THE CALL BEGINS. Each datum BY PROGRAM (the guide's laid-datum.mjs) off the statement by which the dump's own 'gosem.cut.vars' lays the variable. In a bare row this is a premise. The card (YtjcgojbfjefbcaaDoorCards.lean) ties it to the program's text. -/
def laid_linkboy_sun_lengths {H : Type} : DataW H := .agg [.lit (.int .i64 31), .lit (.int .i64 28), .lit (.int .i64 31), .lit (.int .i64 30), .lit (.int .i64 31), .lit (.int .i64 30), .lit (.int .i64 31), .lit (.int .i64 31), .lit (.int .i64 30), .lit (.int .i64 31), .lit (.int .i64 30), .lit (.int .i64 31)]
def laid_linkboy_sun_errNoDate {H : Type} : DataW H := .iface "*errors.errorString" (.ptr (.agg [.lit (.string [116, 104, 101, 114, 101, 32, 105, 115, 32, 110, 111, 32, 115, 117, 99, 104, 32, 100, 97, 116, 101, 32, 105, 110, 32, 116, 104, 101, 32, 121, 101, 97, 114, 115, 32, 111, 102, 32, 102, 101, 115, 116, 105, 118, 97, 108, 115])]))
def laid_linkboy_sun_evening {H : Type} : DataW H := .agg [.agg [.lit (.int .i64 (-1200)), .lit (.int .i64 44400)], .lit (.bool false)]
def laid_linkboy_sun_morning {H : Type} : DataW H := .agg [.agg [.lit (.int .i64 (-44400)), .lit (.int .i64 1200)], .lit (.bool true)]

/-- 'linkboylaw07.SunDates': WHATEVER THE INPUT: true; the input reads as it did. -/
def sunDatesSpec : ChangeSpec := { name := "sunDates", fn := fun _ => fun
  | [d1, d2, d3] => { results := [.lit (.bool true)], args := [d1, d2, d3] }
  | _ => none }
def sunDatesRow : OpenClaim := { program := "ytjcgojbfjefbcaadoor", sum := "9d394b84dbbefaaff1c55ee90847ec485199182ba124faa7017ac5531658406f", func := "linkboy/linkboylaw07.SunDates", spec := "sunDates", inPlace := ["internal/reflectlite.TypeOf"], unfollowed := true, recurses := true, named := ["linkboy/sun.errNoDate", "linkboy/sun.lengths", "linkboy/sun.evening"], apart := false, laid := [("linkboy/sun.lengths", laid_linkboy_sun_lengths), ("linkboy/sun.errNoDate", laid_linkboy_sun_errNoDate), ("linkboy/sun.evening", laid_linkboy_sun_evening)] }
def SunDatesSaid : Prop := sunDatesRow.holds Tryd.pinned (OpenSpec.ofChange sunDatesSpec)

/-- ITS FALSE NEIGHBOUR: 'it returns false'. Refute it at one input. -/
def sunDatesWrong : ChangeSpec := { name := "sunDates", fn := fun _ => fun
  | [d1, d2, d3] => { results := [.lit (.bool false)], args := [d1, d2, d3] }
  | _ => none }
def SunDatesWrongFalsely : Prop := sunDatesRow.holds Tryd.pinned (OpenSpec.ofChange sunDatesWrong)

/-- 'linkboylaw07.SunCells': WHATEVER THE INPUT: true; the input reads as it did. -/
def sunCellsSpec : ChangeSpec := { name := "sunCells", fn := fun _ => fun
  | [d1, d2] => { results := [.lit (.bool true)], args := [d1, d2] }
  | _ => none }
def sunCellsRow : OpenClaim := { program := "ytjcgojbfjefbcaadoor", sum := "9d394b84dbbefaaff1c55ee90847ec485199182ba124faa7017ac5531658406f", func := "linkboy/linkboylaw07.SunCells", spec := "sunCells", inPlace := ["internal/reflectlite.TypeOf"], unfollowed := true, recurses := true, named := ["linkboy/sun.errNoDate", "linkboy/sun.lengths", "linkboy/sun.evening"], apart := false, laid := [("linkboy/sun.lengths", laid_linkboy_sun_lengths), ("linkboy/sun.errNoDate", laid_linkboy_sun_errNoDate), ("linkboy/sun.evening", laid_linkboy_sun_evening)] }
def SunCellsSaid : Prop := sunCellsRow.holds Tryd.pinned (OpenSpec.ofChange sunCellsSpec)

/-- ITS FALSE NEIGHBOUR: 'it returns false'. Refute it at one input. -/
def sunCellsWrong : ChangeSpec := { name := "sunCells", fn := fun _ => fun
  | [d1, d2] => { results := [.lit (.bool false)], args := [d1, d2] }
  | _ => none }
def SunCellsWrongFalsely : Prop := sunCellsRow.holds Tryd.pinned (OpenSpec.ofChange sunCellsWrong)

/-- 'linkboylaw07.SunLevels': WHATEVER THE INPUT: true; the input reads as it did. -/
def sunLevelsSpec : ChangeSpec := { name := "sunLevels", fn := fun _ => fun
  | [d1, d2, d3] => { results := [.lit (.bool true)], args := [d1, d2, d3] }
  | _ => none }
def sunLevelsRow : OpenClaim := { program := "ytjcgojbfjefbcaadoor", sum := "9d394b84dbbefaaff1c55ee90847ec485199182ba124faa7017ac5531658406f", func := "linkboy/linkboylaw07.SunLevels", spec := "sunLevels", inPlace := ["internal/reflectlite.TypeOf"], unfollowed := true, recurses := true, named := ["linkboy/sun.errNoDate", "linkboy/sun.lengths", "linkboy/sun.evening"], apart := false, laid := [("linkboy/sun.lengths", laid_linkboy_sun_lengths), ("linkboy/sun.errNoDate", laid_linkboy_sun_errNoDate), ("linkboy/sun.evening", laid_linkboy_sun_evening)] }
def SunLevelsSaid : Prop := sunLevelsRow.holds Tryd.pinned (OpenSpec.ofChange sunLevelsSpec)

/-- ITS FALSE NEIGHBOUR: 'it returns false'. Refute it at one input. -/
def sunLevelsWrong : ChangeSpec := { name := "sunLevels", fn := fun _ => fun
  | [d1, d2, d3] => { results := [.lit (.bool false)], args := [d1, d2, d3] }
  | _ => none }
def SunLevelsWrongFalsely : Prop := sunLevelsRow.holds Tryd.pinned (OpenSpec.ofChange sunLevelsWrong)

/-- 'linkboylaw07.SunCalendar': WHATEVER THE INPUT: true; the input reads as it did. -/
def sunCalendarSpec : ChangeSpec := { name := "sunCalendar", fn := fun _ => fun
  | [d1, d2, d3] => { results := [.lit (.bool true)], args := [d1, d2, d3] }
  | _ => none }
def sunCalendarRow : OpenClaim := { program := "ytjcgojbfjefbcaadoor", sum := "9d394b84dbbefaaff1c55ee90847ec485199182ba124faa7017ac5531658406f", func := "linkboy/linkboylaw07.SunCalendar", spec := "sunCalendar", inPlace := ["internal/reflectlite.TypeOf"], unfollowed := true, recurses := true, named := ["linkboy/sun.lengths", "linkboy/sun.errNoDate", "linkboy/sun.evening"], apart := false, laid := [("linkboy/sun.lengths", laid_linkboy_sun_lengths), ("linkboy/sun.errNoDate", laid_linkboy_sun_errNoDate), ("linkboy/sun.evening", laid_linkboy_sun_evening)] }
def SunCalendarSaid : Prop := sunCalendarRow.holds Tryd.pinned (OpenSpec.ofChange sunCalendarSpec)

/-- ITS FALSE NEIGHBOUR: 'it returns false'. Refute it at one input. -/
def sunCalendarWrong : ChangeSpec := { name := "sunCalendar", fn := fun _ => fun
  | [d1, d2, d3] => { results := [.lit (.bool false)], args := [d1, d2, d3] }
  | _ => none }
def SunCalendarWrongFalsely : Prop := sunCalendarRow.holds Tryd.pinned (OpenSpec.ofChange sunCalendarWrong)

/-- 'linkboylaw07.SunPasses': WHATEVER THE INPUT: true; the input reads as it did. -/
def sunPassesSpec : ChangeSpec := { name := "sunPasses", fn := fun _ => fun
  | [d1, d2, d3] => { results := [.lit (.bool true)], args := [d1, d2, d3] }
  | _ => none }
def sunPassesRow : OpenClaim := { program := "ytjcgojbfjefbcaadoor", sum := "9d394b84dbbefaaff1c55ee90847ec485199182ba124faa7017ac5531658406f", func := "linkboy/linkboylaw07.SunPasses", spec := "sunPasses", inPlace := ["internal/reflectlite.TypeOf"], unfollowed := true, recurses := true, named := ["linkboy/sun.evening", "linkboy/sun.morning", "linkboy/sun.errNoDate", "linkboy/sun.lengths"], apart := false, laid := [("linkboy/sun.lengths", laid_linkboy_sun_lengths), ("linkboy/sun.errNoDate", laid_linkboy_sun_errNoDate), ("linkboy/sun.morning", laid_linkboy_sun_morning), ("linkboy/sun.evening", laid_linkboy_sun_evening)] }
def SunPassesSaid : Prop := sunPassesRow.holds Tryd.pinned (OpenSpec.ofChange sunPassesSpec)

/-- ITS FALSE NEIGHBOUR: 'it returns false'. Refute it at one input. -/
def sunPassesWrong : ChangeSpec := { name := "sunPasses", fn := fun _ => fun
  | [d1, d2, d3] => { results := [.lit (.bool false)], args := [d1, d2, d3] }
  | _ => none }
def SunPassesWrongFalsely : Prop := sunPassesRow.holds Tryd.pinned (OpenSpec.ofChange sunPassesWrong)

/-- 'linkboylaw07.SunBurns': WHATEVER THE INPUT: true; the input reads as it did. -/
def sunBurnsSpec : ChangeSpec := { name := "sunBurns", fn := fun _ => fun
  | [d1, d2, d3] => { results := [.lit (.bool true)], args := [d1, d2, d3] }
  | _ => none }
def sunBurnsRow : OpenClaim := { program := "ytjcgojbfjefbcaadoor", sum := "9d394b84dbbefaaff1c55ee90847ec485199182ba124faa7017ac5531658406f", func := "linkboy/linkboylaw07.SunBurns", spec := "sunBurns", inPlace := ["internal/reflectlite.TypeOf"], unfollowed := true, recurses := true, named := ["linkboy/sun.errNoDate", "linkboy/sun.lengths", "linkboy/sun.evening", "linkboy/sun.morning"], apart := false, laid := [("linkboy/sun.lengths", laid_linkboy_sun_lengths), ("linkboy/sun.errNoDate", laid_linkboy_sun_errNoDate), ("linkboy/sun.morning", laid_linkboy_sun_morning), ("linkboy/sun.evening", laid_linkboy_sun_evening)] }
def SunBurnsSaid : Prop := sunBurnsRow.holds Tryd.pinned (OpenSpec.ofChange sunBurnsSpec)

/-- ITS FALSE NEIGHBOUR: 'it returns false'. Refute it at one input. -/
def sunBurnsWrong : ChangeSpec := { name := "sunBurns", fn := fun _ => fun
  | [d1, d2, d3] => { results := [.lit (.bool false)], args := [d1, d2, d3] }
  | _ => none }
def SunBurnsWrongFalsely : Prop := sunBurnsRow.holds Tryd.pinned (OpenSpec.ofChange sunBurnsWrong)

/-- 'linkboylaw07.SunLower': WHATEVER THE INPUT: true; the input reads as it did. -/
def sunLowerSpec : ChangeSpec := { name := "sunLower", fn := fun _ => fun
  | [d1, d2, d3] => { results := [.lit (.bool true)], args := [d1, d2, d3] }
  | _ => none }
def sunLowerRow : OpenClaim := { program := "ytjcgojbfjefbcaadoor", sum := "9d394b84dbbefaaff1c55ee90847ec485199182ba124faa7017ac5531658406f", func := "linkboy/linkboylaw07.SunLower", spec := "sunLower", inPlace := ["internal/reflectlite.TypeOf"], unfollowed := true, recurses := true, named := ["linkboy/sun.errNoDate", "linkboy/sun.lengths", "linkboy/sun.evening", "linkboy/sun.morning"], apart := false, laid := [("linkboy/sun.lengths", laid_linkboy_sun_lengths), ("linkboy/sun.errNoDate", laid_linkboy_sun_errNoDate), ("linkboy/sun.morning", laid_linkboy_sun_morning), ("linkboy/sun.evening", laid_linkboy_sun_evening)] }
def SunLowerSaid : Prop := sunLowerRow.holds Tryd.pinned (OpenSpec.ofChange sunLowerSpec)

/-- ITS FALSE NEIGHBOUR: 'it returns false'. Refute it at one input. -/
def sunLowerWrong : ChangeSpec := { name := "sunLower", fn := fun _ => fun
  | [d1, d2, d3] => { results := [.lit (.bool false)], args := [d1, d2, d3] }
  | _ => none }
def SunLowerWrongFalsely : Prop := sunLowerRow.holds Tryd.pinned (OpenSpec.ofChange sunLowerWrong)

/-- 'linkboylaw07.SunParts': WHATEVER THE INPUT: true; the input reads as it did. -/
def sunPartsSpec : ChangeSpec := { name := "sunParts", fn := fun _ => fun
  | [d1, d2, d3] => { results := [.lit (.bool true)], args := [d1, d2, d3] }
  | _ => none }
def sunPartsRow : OpenClaim := { program := "ytjcgojbfjefbcaadoor", sum := "9d394b84dbbefaaff1c55ee90847ec485199182ba124faa7017ac5531658406f", func := "linkboy/linkboylaw07.SunParts", spec := "sunParts", inPlace := ["internal/reflectlite.TypeOf"], unfollowed := true, recurses := true, named := ["linkboy/sun.errNoDate", "linkboy/sun.lengths", "linkboy/sun.evening"], apart := false, laid := [("linkboy/sun.lengths", laid_linkboy_sun_lengths), ("linkboy/sun.errNoDate", laid_linkboy_sun_errNoDate), ("linkboy/sun.evening", laid_linkboy_sun_evening)] }
def SunPartsSaid : Prop := sunPartsRow.holds Tryd.pinned (OpenSpec.ofChange sunPartsSpec)

/-- ITS FALSE NEIGHBOUR: 'it returns false'. Refute it at one input. -/
def sunPartsWrong : ChangeSpec := { name := "sunParts", fn := fun _ => fun
  | [d1, d2, d3] => { results := [.lit (.bool false)], args := [d1, d2, d3] }
  | _ => none }
def SunPartsWrongFalsely : Prop := sunPartsRow.holds Tryd.pinned (OpenSpec.ofChange sunPartsWrong)

/-- 'linkboylaw07.SunNarrow': WHATEVER THE INPUT: true; the input reads as it did. -/
def sunNarrowSpec : ChangeSpec := { name := "sunNarrow", fn := fun _ => fun
  | [d1, d2, d3] => { results := [.lit (.bool true)], args := [d1, d2, d3] }
  | _ => none }
def sunNarrowRow : OpenClaim := { program := "ytjcgojbfjefbcaadoor", sum := "9d394b84dbbefaaff1c55ee90847ec485199182ba124faa7017ac5531658406f", func := "linkboy/linkboylaw07.SunNarrow", spec := "sunNarrow", inPlace := ["internal/reflectlite.TypeOf"], unfollowed := true, recurses := true, named := ["linkboy/sun.errNoDate", "linkboy/sun.lengths", "linkboy/sun.evening", "linkboy/sun.morning"], apart := false, laid := [("linkboy/sun.lengths", laid_linkboy_sun_lengths), ("linkboy/sun.errNoDate", laid_linkboy_sun_errNoDate), ("linkboy/sun.morning", laid_linkboy_sun_morning), ("linkboy/sun.evening", laid_linkboy_sun_evening)] }
def SunNarrowSaid : Prop := sunNarrowRow.holds Tryd.pinned (OpenSpec.ofChange sunNarrowSpec)

/-- ITS FALSE NEIGHBOUR: 'it returns false'. Refute it at one input. -/
def sunNarrowWrong : ChangeSpec := { name := "sunNarrow", fn := fun _ => fun
  | [d1, d2, d3] => { results := [.lit (.bool false)], args := [d1, d2, d3] }
  | _ => none }
def SunNarrowWrongFalsely : Prop := sunNarrowRow.holds Tryd.pinned (OpenSpec.ofChange sunNarrowWrong)

/-- 'linkboylaw07.SunAdds': WHATEVER THE INPUT: true; the input reads as it did. -/
def sunAddsSpec : ChangeSpec := { name := "sunAdds", fn := fun _ => fun
  | [d1, d2, d3] => { results := [.lit (.bool true)], args := [d1, d2, d3] }
  | _ => none }
def sunAddsRow : OpenClaim := { program := "ytjcgojbfjefbcaadoor", sum := "9d394b84dbbefaaff1c55ee90847ec485199182ba124faa7017ac5531658406f", func := "linkboy/linkboylaw07.SunAdds", spec := "sunAdds", inPlace := ["internal/reflectlite.TypeOf"], unfollowed := true, recurses := true, named := ["linkboy/sun.evening", "linkboy/sun.morning", "linkboy/sun.errNoDate", "linkboy/sun.lengths"], apart := false, laid := [("linkboy/sun.lengths", laid_linkboy_sun_lengths), ("linkboy/sun.errNoDate", laid_linkboy_sun_errNoDate), ("linkboy/sun.morning", laid_linkboy_sun_morning), ("linkboy/sun.evening", laid_linkboy_sun_evening)] }
def SunAddsSaid : Prop := sunAddsRow.holds Tryd.pinned (OpenSpec.ofChange sunAddsSpec)

/-- ITS FALSE NEIGHBOUR: 'it returns false'. Refute it at one input. -/
def sunAddsWrong : ChangeSpec := { name := "sunAdds", fn := fun _ => fun
  | [d1, d2, d3] => { results := [.lit (.bool false)], args := [d1, d2, d3] }
  | _ => none }
def SunAddsWrongFalsely : Prop := sunAddsRow.holds Tryd.pinned (OpenSpec.ofChange sunAddsWrong)

/-- 'linkboylaw07.SunSwitches': WHATEVER THE INPUT: true; the input reads as it did. -/
def sunSwitchesSpec : ChangeSpec := { name := "sunSwitches", fn := fun _ => fun
  | [d1, d2] => { results := [.lit (.bool true)], args := [d1, d2] }
  | _ => none }
def sunSwitchesRow : OpenClaim := { program := "ytjcgojbfjefbcaadoor", sum := "9d394b84dbbefaaff1c55ee90847ec485199182ba124faa7017ac5531658406f", func := "linkboy/linkboylaw07.SunSwitches", spec := "sunSwitches", inPlace := ["internal/reflectlite.TypeOf"], unfollowed := true, recurses := true, named := ["linkboy/sun.errNoDate", "linkboy/sun.lengths", "linkboy/sun.evening"], apart := false, laid := [("linkboy/sun.lengths", laid_linkboy_sun_lengths), ("linkboy/sun.errNoDate", laid_linkboy_sun_errNoDate), ("linkboy/sun.evening", laid_linkboy_sun_evening)] }
def SunSwitchesSaid : Prop := sunSwitchesRow.holds Tryd.pinned (OpenSpec.ofChange sunSwitchesSpec)

/-- ITS FALSE NEIGHBOUR: 'it returns false'. Refute it at one input. -/
def sunSwitchesWrong : ChangeSpec := { name := "sunSwitches", fn := fun _ => fun
  | [d1, d2] => { results := [.lit (.bool false)], args := [d1, d2] }
  | _ => none }
def SunSwitchesWrongFalsely : Prop := sunSwitchesRow.holds Tryd.pinned (OpenSpec.ofChange sunSwitchesWrong)

/-- 'linkboylaw07.SunLater': WHATEVER THE INPUT: true; the input reads as it did. -/
def sunLaterSpec : ChangeSpec := { name := "sunLater", fn := fun _ => fun
  | [d1, d2, d3] => { results := [.lit (.bool true)], args := [d1, d2, d3] }
  | _ => none }
def sunLaterRow : OpenClaim := { program := "ytjcgojbfjefbcaadoor", sum := "9d394b84dbbefaaff1c55ee90847ec485199182ba124faa7017ac5531658406f", func := "linkboy/linkboylaw07.SunLater", spec := "sunLater", inPlace := ["internal/reflectlite.TypeOf"], unfollowed := true, recurses := true, named := ["linkboy/sun.errNoDate", "linkboy/sun.lengths", "linkboy/sun.evening"], apart := false, laid := [("linkboy/sun.lengths", laid_linkboy_sun_lengths), ("linkboy/sun.errNoDate", laid_linkboy_sun_errNoDate), ("linkboy/sun.evening", laid_linkboy_sun_evening)] }
def SunLaterSaid : Prop := sunLaterRow.holds Tryd.pinned (OpenSpec.ofChange sunLaterSpec)

/-- ITS FALSE NEIGHBOUR: 'it returns false'. Refute it at one input. -/
def sunLaterWrong : ChangeSpec := { name := "sunLater", fn := fun _ => fun
  | [d1, d2, d3] => { results := [.lit (.bool false)], args := [d1, d2, d3] }
  | _ => none }
def SunLaterWrongFalsely : Prop := sunLaterRow.holds Tryd.pinned (OpenSpec.ofChange sunLaterWrong)

/-- 'linkboylaw07.SunLeast': WHATEVER THE INPUT: true; the input reads as it did. -/
def sunLeastSpec : ChangeSpec := { name := "sunLeast", fn := fun _ => fun
  | [d1, d2, d3] => { results := [.lit (.bool true)], args := [d1, d2, d3] }
  | _ => none }
def sunLeastRow : OpenClaim := { program := "ytjcgojbfjefbcaadoor", sum := "9d394b84dbbefaaff1c55ee90847ec485199182ba124faa7017ac5531658406f", func := "linkboy/linkboylaw07.SunLeast", spec := "sunLeast", inPlace := ["internal/reflectlite.TypeOf"], unfollowed := true, recurses := true, named := ["linkboy/sun.errNoDate", "linkboy/sun.lengths", "linkboy/sun.evening"], apart := false, laid := [("linkboy/sun.lengths", laid_linkboy_sun_lengths), ("linkboy/sun.errNoDate", laid_linkboy_sun_errNoDate), ("linkboy/sun.evening", laid_linkboy_sun_evening)] }
def SunLeastSaid : Prop := sunLeastRow.holds Tryd.pinned (OpenSpec.ofChange sunLeastSpec)

/-- ITS FALSE NEIGHBOUR: 'it returns false'. Refute it at one input. -/
def sunLeastWrong : ChangeSpec := { name := "sunLeast", fn := fun _ => fun
  | [d1, d2, d3] => { results := [.lit (.bool false)], args := [d1, d2, d3] }
  | _ => none }
def SunLeastWrongFalsely : Prop := sunLeastRow.holds Tryd.pinned (OpenSpec.ofChange sunLeastWrong)

/-- 'linkboylaw07.SunTraffic': WHATEVER THE INPUT: true; the input reads as it did. -/
def sunTrafficSpec : ChangeSpec := { name := "sunTraffic", fn := fun _ => fun
  | [d1, d2, d3] => { results := [.lit (.bool true)], args := [d1, d2, d3] }
  | _ => none }
def sunTrafficRow : OpenClaim := { program := "ytjcgojbfjefbcaadoor", sum := "9d394b84dbbefaaff1c55ee90847ec485199182ba124faa7017ac5531658406f", func := "linkboy/linkboylaw07.SunTraffic", spec := "sunTraffic", inPlace := ["internal/reflectlite.TypeOf"], unfollowed := true, recurses := true, named := ["linkboy/sun.errNoDate", "linkboy/sun.lengths", "linkboy/sun.evening"], apart := false, laid := [("linkboy/sun.lengths", laid_linkboy_sun_lengths), ("linkboy/sun.errNoDate", laid_linkboy_sun_errNoDate), ("linkboy/sun.evening", laid_linkboy_sun_evening)] }
def SunTrafficSaid : Prop := sunTrafficRow.holds Tryd.pinned (OpenSpec.ofChange sunTrafficSpec)

/-- ITS FALSE NEIGHBOUR: 'it returns false'. Refute it at one input. -/
def sunTrafficWrong : ChangeSpec := { name := "sunTraffic", fn := fun _ => fun
  | [d1, d2, d3] => { results := [.lit (.bool false)], args := [d1, d2, d3] }
  | _ => none }
def SunTrafficWrongFalsely : Prop := sunTrafficRow.holds Tryd.pinned (OpenSpec.ofChange sunTrafficWrong)

/- THE SECOND FORM. 'bulk': how many values and letters a reading holds, each counted each time it is reached (what is shared counts as often as it is met; a slice's spare places count too). A statement '..UptoSaid' is the law's where the arguments, and the package variables that the reading takes, are together of bulk at most 1048576: NARROWER than '..Said'. Prove '..Said' where nothing that the law and all that it calls make is longer than what came in: it says more and counts as full. Else prove '..UptoSaid'. A law counts once. -/
mutual
def uptoBulk {H : Type} : DataW H → Nat
  | .lit (.string bytes) => bytes.length + 1
  | .lit _ => 1
  | .nil => 1
  | .ptr d => uptoBulk d + 1
  | .slice elems spare => uptoBulkAll elems + uptoBulkAll spare + 1
  | .agg parts => uptoBulkAll parts + 1
  | .iface _ d => uptoBulk d + 1
  | .map entries => uptoBulkEntries entries + 1
  | .held _ => 1
def uptoBulkAll {H : Type} : List (DataW H) → Nat
  | [] => 0
  | d :: r => uptoBulk d + uptoBulkAll r
def uptoBulkEntries {H : Type} : List (Lit × DataW H) → Nat
  | [] => 0
  | x :: r => uptoBulkEntry x + uptoBulkEntries r
def uptoBulkEntry {H : Type} : Lit × DataW H → Nat
  | (.string bytes, d) => bytes.length + uptoBulk d + 1
  | (_, d) => uptoBulk d + 1
 end
def uptoSmall : (H : Type) → List (DataW H) → Bool := fun _ ds => decide (uptoBulkAll ds ≤ 1048576)
def OpenSpec.upto (s : _root_.Go.ChangeSpec) : _root_.Go.OpenSpec := { _root_.Go.OpenSpec.ofChange s with cond := some uptoSmall }

/-- 'linkboylaw07.SunDates', WHERE WHAT IT READS IS OF BULK AT MOST 1048576: true; the input reads as it did. -/
def sunDatesUptoRow : OpenClaim := { program := "ytjcgojbfjefbcaadoor", sum := "9d394b84dbbefaaff1c55ee90847ec485199182ba124faa7017ac5531658406f", func := "linkboy/linkboylaw07.SunDates", spec := "sunDates", inPlace := ["internal/reflectlite.TypeOf"], unfollowed := true, recurses := true, named := ["linkboy/sun.errNoDate", "linkboy/sun.lengths", "linkboy/sun.evening"], apart := false, laid := [("linkboy/sun.lengths", laid_linkboy_sun_lengths), ("linkboy/sun.errNoDate", laid_linkboy_sun_errNoDate), ("linkboy/sun.evening", laid_linkboy_sun_evening)], narrowed := true }
def SunDatesUptoSaid : Prop := sunDatesUptoRow.holds Tryd.pinned (OpenSpec.upto sunDatesSpec)

/-- 'linkboylaw07.SunCells', WHERE WHAT IT READS IS OF BULK AT MOST 1048576: true; the input reads as it did. -/
def sunCellsUptoRow : OpenClaim := { program := "ytjcgojbfjefbcaadoor", sum := "9d394b84dbbefaaff1c55ee90847ec485199182ba124faa7017ac5531658406f", func := "linkboy/linkboylaw07.SunCells", spec := "sunCells", inPlace := ["internal/reflectlite.TypeOf"], unfollowed := true, recurses := true, named := ["linkboy/sun.errNoDate", "linkboy/sun.lengths", "linkboy/sun.evening"], apart := false, laid := [("linkboy/sun.lengths", laid_linkboy_sun_lengths), ("linkboy/sun.errNoDate", laid_linkboy_sun_errNoDate), ("linkboy/sun.evening", laid_linkboy_sun_evening)], narrowed := true }
def SunCellsUptoSaid : Prop := sunCellsUptoRow.holds Tryd.pinned (OpenSpec.upto sunCellsSpec)

/-- 'linkboylaw07.SunLevels', WHERE WHAT IT READS IS OF BULK AT MOST 1048576: true; the input reads as it did. -/
def sunLevelsUptoRow : OpenClaim := { program := "ytjcgojbfjefbcaadoor", sum := "9d394b84dbbefaaff1c55ee90847ec485199182ba124faa7017ac5531658406f", func := "linkboy/linkboylaw07.SunLevels", spec := "sunLevels", inPlace := ["internal/reflectlite.TypeOf"], unfollowed := true, recurses := true, named := ["linkboy/sun.errNoDate", "linkboy/sun.lengths", "linkboy/sun.evening"], apart := false, laid := [("linkboy/sun.lengths", laid_linkboy_sun_lengths), ("linkboy/sun.errNoDate", laid_linkboy_sun_errNoDate), ("linkboy/sun.evening", laid_linkboy_sun_evening)], narrowed := true }
def SunLevelsUptoSaid : Prop := sunLevelsUptoRow.holds Tryd.pinned (OpenSpec.upto sunLevelsSpec)

/-- 'linkboylaw07.SunCalendar', WHERE WHAT IT READS IS OF BULK AT MOST 1048576: true; the input reads as it did. -/
def sunCalendarUptoRow : OpenClaim := { program := "ytjcgojbfjefbcaadoor", sum := "9d394b84dbbefaaff1c55ee90847ec485199182ba124faa7017ac5531658406f", func := "linkboy/linkboylaw07.SunCalendar", spec := "sunCalendar", inPlace := ["internal/reflectlite.TypeOf"], unfollowed := true, recurses := true, named := ["linkboy/sun.lengths", "linkboy/sun.errNoDate", "linkboy/sun.evening"], apart := false, laid := [("linkboy/sun.lengths", laid_linkboy_sun_lengths), ("linkboy/sun.errNoDate", laid_linkboy_sun_errNoDate), ("linkboy/sun.evening", laid_linkboy_sun_evening)], narrowed := true }
def SunCalendarUptoSaid : Prop := sunCalendarUptoRow.holds Tryd.pinned (OpenSpec.upto sunCalendarSpec)

/-- 'linkboylaw07.SunPasses', WHERE WHAT IT READS IS OF BULK AT MOST 1048576: true; the input reads as it did. -/
def sunPassesUptoRow : OpenClaim := { program := "ytjcgojbfjefbcaadoor", sum := "9d394b84dbbefaaff1c55ee90847ec485199182ba124faa7017ac5531658406f", func := "linkboy/linkboylaw07.SunPasses", spec := "sunPasses", inPlace := ["internal/reflectlite.TypeOf"], unfollowed := true, recurses := true, named := ["linkboy/sun.evening", "linkboy/sun.morning", "linkboy/sun.errNoDate", "linkboy/sun.lengths"], apart := false, laid := [("linkboy/sun.lengths", laid_linkboy_sun_lengths), ("linkboy/sun.errNoDate", laid_linkboy_sun_errNoDate), ("linkboy/sun.morning", laid_linkboy_sun_morning), ("linkboy/sun.evening", laid_linkboy_sun_evening)], narrowed := true }
def SunPassesUptoSaid : Prop := sunPassesUptoRow.holds Tryd.pinned (OpenSpec.upto sunPassesSpec)

/-- 'linkboylaw07.SunBurns', WHERE WHAT IT READS IS OF BULK AT MOST 1048576: true; the input reads as it did. -/
def sunBurnsUptoRow : OpenClaim := { program := "ytjcgojbfjefbcaadoor", sum := "9d394b84dbbefaaff1c55ee90847ec485199182ba124faa7017ac5531658406f", func := "linkboy/linkboylaw07.SunBurns", spec := "sunBurns", inPlace := ["internal/reflectlite.TypeOf"], unfollowed := true, recurses := true, named := ["linkboy/sun.errNoDate", "linkboy/sun.lengths", "linkboy/sun.evening", "linkboy/sun.morning"], apart := false, laid := [("linkboy/sun.lengths", laid_linkboy_sun_lengths), ("linkboy/sun.errNoDate", laid_linkboy_sun_errNoDate), ("linkboy/sun.morning", laid_linkboy_sun_morning), ("linkboy/sun.evening", laid_linkboy_sun_evening)], narrowed := true }
def SunBurnsUptoSaid : Prop := sunBurnsUptoRow.holds Tryd.pinned (OpenSpec.upto sunBurnsSpec)

/-- 'linkboylaw07.SunLower', WHERE WHAT IT READS IS OF BULK AT MOST 1048576: true; the input reads as it did. -/
def sunLowerUptoRow : OpenClaim := { program := "ytjcgojbfjefbcaadoor", sum := "9d394b84dbbefaaff1c55ee90847ec485199182ba124faa7017ac5531658406f", func := "linkboy/linkboylaw07.SunLower", spec := "sunLower", inPlace := ["internal/reflectlite.TypeOf"], unfollowed := true, recurses := true, named := ["linkboy/sun.errNoDate", "linkboy/sun.lengths", "linkboy/sun.evening", "linkboy/sun.morning"], apart := false, laid := [("linkboy/sun.lengths", laid_linkboy_sun_lengths), ("linkboy/sun.errNoDate", laid_linkboy_sun_errNoDate), ("linkboy/sun.morning", laid_linkboy_sun_morning), ("linkboy/sun.evening", laid_linkboy_sun_evening)], narrowed := true }
def SunLowerUptoSaid : Prop := sunLowerUptoRow.holds Tryd.pinned (OpenSpec.upto sunLowerSpec)

/-- 'linkboylaw07.SunParts', WHERE WHAT IT READS IS OF BULK AT MOST 1048576: true; the input reads as it did. -/
def sunPartsUptoRow : OpenClaim := { program := "ytjcgojbfjefbcaadoor", sum := "9d394b84dbbefaaff1c55ee90847ec485199182ba124faa7017ac5531658406f", func := "linkboy/linkboylaw07.SunParts", spec := "sunParts", inPlace := ["internal/reflectlite.TypeOf"], unfollowed := true, recurses := true, named := ["linkboy/sun.errNoDate", "linkboy/sun.lengths", "linkboy/sun.evening"], apart := false, laid := [("linkboy/sun.lengths", laid_linkboy_sun_lengths), ("linkboy/sun.errNoDate", laid_linkboy_sun_errNoDate), ("linkboy/sun.evening", laid_linkboy_sun_evening)], narrowed := true }
def SunPartsUptoSaid : Prop := sunPartsUptoRow.holds Tryd.pinned (OpenSpec.upto sunPartsSpec)

/-- 'linkboylaw07.SunNarrow', WHERE WHAT IT READS IS OF BULK AT MOST 1048576: true; the input reads as it did. -/
def sunNarrowUptoRow : OpenClaim := { program := "ytjcgojbfjefbcaadoor", sum := "9d394b84dbbefaaff1c55ee90847ec485199182ba124faa7017ac5531658406f", func := "linkboy/linkboylaw07.SunNarrow", spec := "sunNarrow", inPlace := ["internal/reflectlite.TypeOf"], unfollowed := true, recurses := true, named := ["linkboy/sun.errNoDate", "linkboy/sun.lengths", "linkboy/sun.evening", "linkboy/sun.morning"], apart := false, laid := [("linkboy/sun.lengths", laid_linkboy_sun_lengths), ("linkboy/sun.errNoDate", laid_linkboy_sun_errNoDate), ("linkboy/sun.morning", laid_linkboy_sun_morning), ("linkboy/sun.evening", laid_linkboy_sun_evening)], narrowed := true }
def SunNarrowUptoSaid : Prop := sunNarrowUptoRow.holds Tryd.pinned (OpenSpec.upto sunNarrowSpec)

/-- 'linkboylaw07.SunAdds', WHERE WHAT IT READS IS OF BULK AT MOST 1048576: true; the input reads as it did. -/
def sunAddsUptoRow : OpenClaim := { program := "ytjcgojbfjefbcaadoor", sum := "9d394b84dbbefaaff1c55ee90847ec485199182ba124faa7017ac5531658406f", func := "linkboy/linkboylaw07.SunAdds", spec := "sunAdds", inPlace := ["internal/reflectlite.TypeOf"], unfollowed := true, recurses := true, named := ["linkboy/sun.evening", "linkboy/sun.morning", "linkboy/sun.errNoDate", "linkboy/sun.lengths"], apart := false, laid := [("linkboy/sun.lengths", laid_linkboy_sun_lengths), ("linkboy/sun.errNoDate", laid_linkboy_sun_errNoDate), ("linkboy/sun.morning", laid_linkboy_sun_morning), ("linkboy/sun.evening", laid_linkboy_sun_evening)], narrowed := true }
def SunAddsUptoSaid : Prop := sunAddsUptoRow.holds Tryd.pinned (OpenSpec.upto sunAddsSpec)

/-- 'linkboylaw07.SunSwitches', WHERE WHAT IT READS IS OF BULK AT MOST 1048576: true; the input reads as it did. -/
def sunSwitchesUptoRow : OpenClaim := { program := "ytjcgojbfjefbcaadoor", sum := "9d394b84dbbefaaff1c55ee90847ec485199182ba124faa7017ac5531658406f", func := "linkboy/linkboylaw07.SunSwitches", spec := "sunSwitches", inPlace := ["internal/reflectlite.TypeOf"], unfollowed := true, recurses := true, named := ["linkboy/sun.errNoDate", "linkboy/sun.lengths", "linkboy/sun.evening"], apart := false, laid := [("linkboy/sun.lengths", laid_linkboy_sun_lengths), ("linkboy/sun.errNoDate", laid_linkboy_sun_errNoDate), ("linkboy/sun.evening", laid_linkboy_sun_evening)], narrowed := true }
def SunSwitchesUptoSaid : Prop := sunSwitchesUptoRow.holds Tryd.pinned (OpenSpec.upto sunSwitchesSpec)

/-- 'linkboylaw07.SunLater', WHERE WHAT IT READS IS OF BULK AT MOST 1048576: true; the input reads as it did. -/
def sunLaterUptoRow : OpenClaim := { program := "ytjcgojbfjefbcaadoor", sum := "9d394b84dbbefaaff1c55ee90847ec485199182ba124faa7017ac5531658406f", func := "linkboy/linkboylaw07.SunLater", spec := "sunLater", inPlace := ["internal/reflectlite.TypeOf"], unfollowed := true, recurses := true, named := ["linkboy/sun.errNoDate", "linkboy/sun.lengths", "linkboy/sun.evening"], apart := false, laid := [("linkboy/sun.lengths", laid_linkboy_sun_lengths), ("linkboy/sun.errNoDate", laid_linkboy_sun_errNoDate), ("linkboy/sun.evening", laid_linkboy_sun_evening)], narrowed := true }
def SunLaterUptoSaid : Prop := sunLaterUptoRow.holds Tryd.pinned (OpenSpec.upto sunLaterSpec)

/-- 'linkboylaw07.SunLeast', WHERE WHAT IT READS IS OF BULK AT MOST 1048576: true; the input reads as it did. -/
def sunLeastUptoRow : OpenClaim := { program := "ytjcgojbfjefbcaadoor", sum := "9d394b84dbbefaaff1c55ee90847ec485199182ba124faa7017ac5531658406f", func := "linkboy/linkboylaw07.SunLeast", spec := "sunLeast", inPlace := ["internal/reflectlite.TypeOf"], unfollowed := true, recurses := true, named := ["linkboy/sun.errNoDate", "linkboy/sun.lengths", "linkboy/sun.evening"], apart := false, laid := [("linkboy/sun.lengths", laid_linkboy_sun_lengths), ("linkboy/sun.errNoDate", laid_linkboy_sun_errNoDate), ("linkboy/sun.evening", laid_linkboy_sun_evening)], narrowed := true }
def SunLeastUptoSaid : Prop := sunLeastUptoRow.holds Tryd.pinned (OpenSpec.upto sunLeastSpec)

/-- 'linkboylaw07.SunTraffic', WHERE WHAT IT READS IS OF BULK AT MOST 1048576: true; the input reads as it did. -/
def sunTrafficUptoRow : OpenClaim := { program := "ytjcgojbfjefbcaadoor", sum := "9d394b84dbbefaaff1c55ee90847ec485199182ba124faa7017ac5531658406f", func := "linkboy/linkboylaw07.SunTraffic", spec := "sunTraffic", inPlace := ["internal/reflectlite.TypeOf"], unfollowed := true, recurses := true, named := ["linkboy/sun.errNoDate", "linkboy/sun.lengths", "linkboy/sun.evening"], apart := false, laid := [("linkboy/sun.lengths", laid_linkboy_sun_lengths), ("linkboy/sun.errNoDate", laid_linkboy_sun_errNoDate), ("linkboy/sun.evening", laid_linkboy_sun_evening)], narrowed := true }
def SunTrafficUptoSaid : Prop := sunTrafficUptoRow.holds Tryd.pinned (OpenSpec.upto sunTrafficSpec)

end Rows
end Go.Proofs.YtjcgojbfjefbcaaDoor
