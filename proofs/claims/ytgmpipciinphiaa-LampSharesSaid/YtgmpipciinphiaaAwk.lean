/- Awake: that calls of the example return what the document says of them. -/
import Derived.Test.YtgmpipciinphiaaOve
import Derived.Test.YtgmpipciinphiaaFlx
import Derived.Test.YtgmpipciinphiaaSmp
namespace Go.Proofs.Ytgmpipciinphiaa
set_option linter.unusedSimpArgs false
set_option linter.unusedVariables false
open Go.RowKit

theorem smp_over (s : Nat) : ovE (smp s) 0 (-4000) 4000 0 8000 8000 = 0 ∧ ovLo (smp s) 0 (-4000) 4000 0 8000 8000 = 300 ∧ ovHi (smp s) 0 (-4000) 4000 0 8000 8000 = 600 := by
  refine ⟨?_, ?_, ?_⟩ <;> kernel_rfl
theorem smp_flux (s : Nat) : fxE (smp s) 0 10000 6 1000 = 0 ∧ fxLo (smp s) 0 10000 6 1000 = 7449 ∧ fxHi (smp s) 0 10000 6 1000 = 7699 := by
  refine ⟨?_, ?_, ?_⟩ <;> kernel_rfl

set_option maxRecDepth 100000 in
set_option maxHeartbeats 2000000 in
theorem awake_any (w : World) : Calls Try.prog 20 #[] w fun e w' => e = .returned (.bool true) ∧ Below w.heap.size w w' := by
  go_enter Try.func20, Try.ntmps20
  go_wp2_with fail
  refine (sample_any _).mono ?_
  rintro e w1 ⟨rfl, h1, o1⟩
  have K1 := Over_any (smp w.heap.size) 0 (-4000) 4000 0 8000 8000 w1 h1
  rw [(smp_over _).1, (smp_over _).2.1, (smp_over _).2.2] at K1
  have K1 := Lib.hid K1
  clear h1
  go_wp2_with fail
  refine K1.out.mono ?_
  rintro e w2 ⟨rfl, b2⟩
  have b12 := o1.below.trans (b2.mono o1.below.size)
  go_wp2_with fail
  have b23 : Below w.heap.size w (w2.alloc (.cells #[.int .i64 300, .int .i64 600] 35)) := b12.alloc b12.size _
  refine (sample_any _).mono ?_
  rintro e w4 ⟨rfl, h4, o4⟩
  have h4' : CatIn w4.heap.size (smp (w2.heap.size + 1)) w4 := by simpa using h4
  have K2 := Flux_any (smp (w2.heap.size + 1)) 0 10000 6 1000 w4 h4'
  rw [(smp_flux _).1, (smp_flux _).2.1, (smp_flux _).2.2] at K2
  have K2 := Lib.hid K2
  clear h4 h4'
  go_wp2_with fail
  refine K2.out.mono ?_
  rintro e w5 ⟨rfl, o5⟩
  have b35 := o4.below.trans (o5.below.mono o4.below.size)
  have d0 : w5.cell? ⟨w2.heap.size, 0, none⟩ = some (.int .i64 300) := by
    rw [b35.cell (p := ⟨w2.heap.size, 0, none⟩) (by simp)]; simp [go_sem]
  have d1 : w5.cell? ⟨w2.heap.size, 1, none⟩ = some (.int .i64 600) := by
    rw [b35.cell (p := ⟨w2.heap.size, 1, none⟩) (by simp)]; simp [go_sem]
  have lt5 : w2.heap.size < w5.heap.size := by have := b35.size; simp at this; omega
  have ne5 : w2.heap.size ≠ w5.heap.size := by omega
  have bz : Below w.heap.size w (w5.alloc (.cells #[.int .i64 7449, .int .i64 7699] 35)) := (b23.trans (b35.mono b23.size)).alloc (Nat.le_trans b23.size b35.size) _
  clear b35
  go_wp2_with fail
  go_ret
  exact ⟨rfl, bz⟩
end Go.Proofs.Ytgmpipciinphiaa
