/- Whether an error is the one that says that there is no such date. -/
import Derived.Test.YtjcgojbfjefbcaaDoorChecked
import Derived.Test.YtjcgojbfjefbcaaDoorA2
import Derived.LaidEql
import Derived.Stop.Asserts
import Derived.RowKitTokens
namespace Go.Proofs.YtjcgojbfjefbcaaDoor
set_option linter.unusedSimpArgs false
set_option linter.unusedVariables false
open Go.RowKit Go.Extern.Stop Go.Stop Go.Extern Go.Extern.ReflectliteType

theorem isKind (v : Value) (w : World) : (Extern.ReflectliteType.typeOf #[.iface 184 v]).run Tryd.prog w = .ok (.iface 156 (.agg #[.pointer (some ⟨4, 184, none⟩)])) w := by kernel_rfl
/-- what the method asks -/
def cmpX : Array Value → Sem Value := Extern.ReflectliteType.method fun t => do Go.Extern.Rtype.noPackHeld "Comparable" t; pure (.bool (← typeInfo t).comparable)
theorem isCmp (w : World) : (cmpX #[.agg #[.pointer (some ⟨4, 184, none⟩)]]).run Tryd.prog w = .ok (.bool true) w := by kernel_rfl
theorem isMeth (v : Value) (w : World) : (Go.method 320 156 v "Comparable").run Tryd.prog w = .ok (151, v) w := by kernel_rfl
theorem isInfo : (Tryd.prog.info? 184).map (·.comparable) = some true := by kernel_rfl
theorem isLen : (Tryd.prog.info? 209).map (·.size) = some 1 := by kernel_rfl

theorem is_nil (b : Addr) (w : World) :
    Calls Tryd.prog 45 #[.nilIface, .iface 184 (.pointer (some b))] w fun e w' => e = .returned (.bool false) ∧ w' = w := by
  have hn := run_eql_iface_nil_left (P := Tryd.prog) w 184 (.pointer (some b)) Tryd.underlying90
  go_enter Tryd.func45, Tryd.ntmps45
  go_wp2
  go_ret
  exact ⟨rfl, rfl⟩

set_option maxRecDepth 100000 in
theorem is_same (a : Addr) (w : World) :
    Calls Tryd.prog 45 #[.iface 184 (.pointer (some a)), .iface 184 (.pointer (some a))] w fun e w' => e = .returned (.bool true) ∧ w' = w := by
  obtain ⟨i, hi, hcmp⟩ := Option.map_eq_some_iff.1 isInfo
  obtain ⟨j, hj, hjs⟩ := Option.map_eq_some_iff.1 isLen
  have h8 := @run_callFunc_extern Tryd.prog 75 _ Extern.ReflectliteType.typeOf Tryd.func75 (by kernel_rfl) (by kernel_rfl) (by kernel_rfl) (by kernel_rfl)
  have h32 := @run_callFunc_extern Tryd.prog 151 _ cmpX Tryd.func151 (by kernel_rfl) (by kernel_rfl) (by kernel_rfl) (by kernel_rfl)
  have tT := isKind
  have cT := isCmp
  have mR := isMeth
  have heq := run_eql_iface_ptr_same (P := Tryd.prog) w a Tryd.underlying90 Tryd.underlying184 hi hcmp hj
  go_enter Tryd.func45, Tryd.ntmps45
  go_wp2
  skip
  refine wp_loop_rounds 1 ?_
  rw [rounds_succ]
  go_wp2
  go_ret
  exact ⟨rfl, rfl⟩
end Go.Proofs.YtjcgojbfjefbcaaDoor
