/- What every row of this seat needs: a world that holds the listed variables; a result that is true. -/
import Derived.Test.YtdikelijnachjaaDoorLaid
import Derived.Test.YtdikelijnachjaaDoorCards
import Derived.Test.YtdikelijnachjaaDoorTie
import Derived.ProofKit
import Derived.Deep.DeepHandedRow
import Derived.Lib.SmallJoins
import Derived.SevenTiedAt
namespace Go.Proofs.YtdikelijnachjaaDoor
set_option linter.unusedSimpArgs false
set_option linter.unusedVariables false
open Go.ChangeShapes Go.WideShapes Go.ChangeAt Go.RowKit

/-- the cells of a datum of integers, and rows of them -/
def cellOf : DataW Unit → List Value
  | .lit (.int k n) => [.int k n]
  | _ => []
def cellsRow : DataW Unit → List Value
  | .lit (.int k n) => [.int k n]
  | .agg l => l.flatMap cellOf
  | _ => []
def cellsData : DataW Unit → Array Value
  | .agg l => (l.flatMap cellsRow).toArray
  | _ => #[]
def putData (h : Array Obj) (g : Nat) (d : DataW Unit) : Array Obj := h.modify g fun
  | .cells _ t frozen => .cells (cellsData d) t frozen
  | o => o

noncomputable def laidHeap (h : Array Obj) : Array Obj :=
  putData (putData (putData (putData (putData (putData (putData h 0 Rows.laid_linkboy_angle_furthest) 1 Rows.laid_linkboy_angle_headings) 4 Rows.laid_internal_strconv_uint64pow10) 5 Rows.laid_unicode_utf8_first) 6 Rows.laid_unicode_utf8_acceptRanges) 7 Rows.laid_math_bits_deBruijn32tab) 8 Rows.laid_math_bits_deBruijn64tab

/-- a world for the witness: the settled one, the listed variables holding what their initialisers lay -/
noncomputable def laidWorld (os : Os) : World :=
  { World.holding Tryd.prog os ⟨#[], #[], []⟩ with heap := laidHeap (World.holding Tryd.prog os ⟨#[], #[], []⟩).heap }

theorem laid_met (os : Os) (args : Array Value) : laidMet Tryd.prog theList ((laidWorld os).forCall (fun _ _ => 0) ⟨#[], args, []⟩).memory :=
  laidMet_of_run' 8 (by kernel_rfl) (by kernel_rfl)

/-- the end of a row whose call makes memory of its own alone -/
theorem post_true {H : Type} {enc : TypeId × Value → H} {f : Func} {s : ChangeSpec} {W W' : World} {args : Array Value} {ds gs : List (DataW H)} {before : List MemPlace}
    (hW : DataW.Whole enc Tryd.prog f.params.toList s.vars false W args.toList ds gs before) (hb : Below W.heap.size W W')
    (hres : ∀ (b : Nat) (sp : Nat → Bool) (hd : Bool), DataW.TrodAll enc Tryd.prog W' b sp hd f.resultTypes.toList ((Value.bool true).resultList f.resultTypes.size) (s.fn H (ds ++ gs)).results [])
    (hargs : ∀ sp : Nat → Bool, DataW.TrodAll enc Tryd.prog W' 0 sp true f.params.toList args.toList (s.fn H (ds ++ gs)).args before)
    (hvars : ∀ sp : Nat → Bool, DataW.TrodVars enc Tryd.prog W' sp s.vars (s.fn H (ds ++ gs)).vars []) :
    s.post enc Tryd.prog f false true false false W args (.bool true) W' := by
  refine ⟨ds, gs, before, [], before, [], hW, hres _ _ _, hargs _, hvars _, hb.frame _, fun h => by cases h⟩
end Go.Proofs.YtdikelijnachjaaDoor
