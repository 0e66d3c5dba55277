/- What every row of this seat needs: a world that holds the listed variables; a result that is true. -/
import Derived.Test.YtjcgojbfjefbcaaDoorLd
import Derived.Test.YtjcgojbfjefbcaaDoorCards
import Derived.Test.YtjcgojbfjefbcaaDoorTie
import Derived.ProofKit
import Derived.Deep.DeepHandedRow
import Derived.Lib.SmallJoins
import Derived.SevenTiedAt
namespace Go.Proofs.YtjcgojbfjefbcaaDoor
set_option linter.unusedSimpArgs false
set_option linter.unusedVariables false
open Go.ChangeShapes Go.WideShapes Go.ChangeAt Go.RowKit

/-- the cells of a datum of integers and booleans, and rows of them -/
def cellOf : DataW Unit → List Value
  | .lit (.int k n) => [.int k n]
  | .lit (.bool b) => [.bool b]
  | _ => []
def cellsRow : DataW Unit → List Value
  | .lit (.int k n) => [.int k n]
  | .lit (.bool b) => [.bool b]
  | .agg l => l.flatMap cellOf
  | _ => []
def cellsData : DataW Unit → Array Value
  | .agg l => (l.flatMap cellsRow).toArray
  | _ => #[]
def putCells (h : Array Obj) (g : Nat) (d : Array Value) : Array Obj := h.modify g fun
  | .cells _ t frozen => .cells d t frozen
  | o => o
def textOf : DataW Unit → List UInt8
  | .iface _ (.ptr (.agg [.lit (.string l)])) => l
  | _ => []
noncomputable def errText : ByteArray := ⟨(textOf Rows.laid_linkboy_sun_errNoDate).toArray⟩
noncomputable def low : Nat := (World.holding Tryd.prog default ⟨#[], #[], []⟩).heap.size
noncomputable def laidHeap (h : Array Obj) : Array Obj :=
  putCells (putCells (putCells h 3 (cellsData Rows.laid_linkboy_sun_lengths)) 1 (cellsData Rows.laid_linkboy_sun_evening)) 0 #[.iface 184 (.pointer (some ⟨low, 0, none⟩))]

/-- a world for the witness: the settled one, the listed variables holding what their initialisers lay -/
noncomputable def laidWorld (os : Os) : World :=
  { World.holding Tryd.prog os ⟨#[.cells #[.string errText] 209], #[], []⟩ with heap := laidHeap (World.holding Tryd.prog os ⟨#[.cells #[.string errText] 209], #[], []⟩).heap }

theorem laid_met (os : Os) (args : Array Value) : laidMet Tryd.prog theList ((laidWorld os).forCall (fun _ _ => 0) ⟨#[], args, []⟩).memory :=
  laidMet_of_run' 8 (by kernel_rfl) (by kernel_rfl)

/-- the end of a row whose call makes memory of its own alone -/
theorem post_true {H : Type} {enc : TypeId × Value → H} {f : Func} {s : ChangeSpec} {W W' : World} {args : Array Value} {ds gs : List (DataW H)} {before : List MemPlace}
    (hW : DataW.Whole enc Tryd.prog f.params.toList s.vars false W args.toList ds gs before) (hb : Below W.heap.size W W')
    (hres : ∀ (b : Nat) (sp : Nat → Bool) (hd : Bool), DataW.TrodAll enc Tryd.prog W' b sp hd f.resultTypes.toList ((Value.bool true).resultList f.resultTypes.size) (s.fn H (ds ++ gs)).results [])
    (hargs : ∀ sp : Nat → Bool, DataW.TrodAll enc Tryd.prog W' 0 sp true f.params.toList args.toList (s.fn H (ds ++ gs)).args before)
    (hvars : ∀ sp : Nat → Bool, DataW.TrodVars enc Tryd.prog W' sp s.vars (s.fn H (ds ++ gs)).vars []) :
    s.post enc Tryd.prog f false true false false W args (.bool true) W' := by
  refine ⟨ds, gs, before, [], before, [], hW, hres _ _ _, hargs _, hvars _, hb.frame _, fun h => by cases h⟩
end Go.Proofs.YtjcgojbfjefbcaaDoor
