/- The least and the greatest of some numbers, as the walk meets them; enclosures as values. -/
import Derived.Test.YtgmpipciinphiaaBase
namespace Go.Proofs.Ytgmpipciinphiaa
set_option linter.unusedSimpArgs false
set_option linter.unusedVariables false
open Go.RowKit

/-- an enclosure, as a value; one with an error; a number with an error -/
abbrev encl (lo hi : Int) : Value := .agg #[.int .i64 lo, .int .i64 hi]
abbrev enclE (lo hi e : Int) : Value := .tuple #[.agg #[.int .i64 lo, .int .i64 hi], .int .i64 e]
abbrev intE (n e : Int) : Value := .tuple #[.int .i64 n, .int .i64 e]

theorem min2_is (k : IntKind) (x y : Int) : Builtin.min2 (.int k x) (.int k y) = pure (.int k (min x y)) := by
  show (pure (.int k (if y < x then y else x)) : Sem Value) = _
  congr 2
  by_cases h : y < x
  · rw [if_pos h]; omega
  · rw [if_neg h]; omega
theorem max2_is (k : IntKind) (x y : Int) : Builtin.max2 (.int k x) (.int k y) = pure (.int k (max x y)) := by
  show (pure (.int k (if y > x then y else x)) : Sem Value) = _
  congr 2
  by_cases h : y > x
  · rw [if_pos h]; omega
  · rw [if_neg h]; omega
@[go_sem ↓] theorem min_four (ats : Array TypeId) (ty : TypeId) (k : IntKind) (p q r s : Int) : Builtin.min_ ats ty #[.int k p, .int k q, .int k r, .int k s] = pure (.int k (min (min (min p q) r) s)) := by
  show (Builtin.min2 (.int k p) (.int k q) >>= fun a => Builtin.min2 a (.int k r) >>= fun a => Builtin.min2 a (.int k s) >>= fun a => pure a) = _
  rw [min2_is]
  show (Builtin.min2 (.int k (min p q)) (.int k r) >>= fun a => Builtin.min2 a (.int k s) >>= fun a => pure a) = _
  rw [min2_is]
  show (Builtin.min2 (.int k (min (min p q) r)) (.int k s) >>= fun a => pure a) = _
  rw [min2_is]
  rfl
@[go_sem ↓] theorem max_four (ats : Array TypeId) (ty : TypeId) (k : IntKind) (p q r s : Int) : Builtin.max_ ats ty #[.int k p, .int k q, .int k r, .int k s] = pure (.int k (max (max (max p q) r) s)) := by
  show (Builtin.max2 (.int k p) (.int k q) >>= fun a => Builtin.max2 a (.int k r) >>= fun a => Builtin.max2 a (.int k s) >>= fun a => pure a) = _
  rw [max2_is]
  show (Builtin.max2 (.int k (max p q)) (.int k r) >>= fun a => Builtin.max2 a (.int k s) >>= fun a => pure a) = _
  rw [max2_is]
  show (Builtin.max2 (.int k (max (max p q) r)) (.int k s) >>= fun a => pure a) = _
  rw [max2_is]
  rfl
@[go_sem ↓] theorem min_two (ats : Array TypeId) (ty : TypeId) (k : IntKind) (p q : Int) : Builtin.min_ ats ty #[.int k p, .int k q] = pure (.int k (min p q)) := by
  show (Builtin.min2 (.int k p) (.int k q) >>= fun a => pure a) = _
  rw [min2_is]
  rfl
@[go_sem ↓] theorem max_two (ats : Array TypeId) (ty : TypeId) (k : IntKind) (p q : Int) : Builtin.max_ ats ty #[.int k p, .int k q] = pure (.int k (max p q)) := by
  show (Builtin.max2 (.int k p) (.int k q) >>= fun a => pure a) = _
  rw [max2_is]
  rfl

end Go.Proofs.Ytgmpipciinphiaa
