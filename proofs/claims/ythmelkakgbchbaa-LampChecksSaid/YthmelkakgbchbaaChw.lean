/- The walk of LampChecks. -/
import Derived.Test.YthmelkakgbchbaaRck
import Derived.Test.YthmelkakgbchbaaAwk
namespace Go.Proofs.Ythmelkakgbchbaa
set_option linter.unusedSimpArgs false
set_option linter.unusedVariables false
open Go.RowKit
attribute [local go_sem ↓] Go.wp_at_zero Go.wp_at_succ

set_option maxRecDepth 100000 in
set_option maxHeartbeats 2000000 in
theorem checks_any (c : Cat) (s : ByteArray) (w : World) (hc : CatIn w.heap.size c w) (hs : s.size ≤ maxLen) :
    Calls Try.prog 3 #[.agg #[c.tv, c.lv], .string s] w fun e w' => e = .returned (.bool true) ∧ Below w.heap.size w w' := by
  have own0 : Own w.heap.size w (w.alloc (.cells #[c.tv, c.lv] 25)) := (Own.refl _ _).alloc (Nat.le_refl _) _
  have sz0 : w.heap.size < (w.alloc (.cells #[c.tv, c.lv] 25)).heap.size := by simp
  have H1 := Lib.hid ((hc.keep own0.below (Nat.le_refl _)).more (Nat.le_of_lt sz0))
  clear hc
  have t0 : (w.alloc (.cells #[c.tv, c.lv] 25)).cell? ⟨w.heap.size, 0, none⟩ = some (.slice c.ta c.tabs.length c.tc) := by simp [go_sem, Cat.tv]
  have t1 : (w.alloc (.cells #[c.tv, c.lv] 25)).cell? ⟨w.heap.size, 1, none⟩ = some (.slice c.la c.lamps.length c.lc) := by simp [go_sem, Cat.lv]
  have K := Lib.hid (fun W (h : CatIn W.heap.size c W) => check_any c W h)
  have R := Lib.hid (fun W (h : CatIn W.heap.size c W) => rcheck_any c W h)
  unfold Cat.tv Cat.lv chkV at *
  have T0 := Lib.hid t0
  have T1 := Lib.hid t1
  clear t0 t1
  generalize chkP c = p at *
  generalize chkA c = a at *
  generalize chkE c = x at *
  go_enter Try.func3, Try.ntmps3
  go_wp2_with fail
  refine (K.out _ H1.out).mono ?_
  rintro e w1 ⟨rfl, hb1⟩
  have hb2 := own0.trans (hb1.mono (Nat.le_of_lt sz0))
  have r0 := (hb1.cell (p := ⟨w.heap.size, 0, none⟩) sz0).trans T0.out
  have r1 := (hb1.cell (p := ⟨w.heap.size, 1, none⟩) sz0).trans T1.out
  go_wp2_with fail
  refine (R.out _ ((H1.out.keep hb1.below (Nat.le_refl _)).more hb1.size)).mono ?_
  rintro e w2 ⟨rfl, hb3⟩
  have hb4 := hb2.trans (hb3.mono hb2.size)
  clear r0 r1
  go_wp2_with fail
  refine (name_any _ _ hs).mono ?_
  rintro e w3 ⟨rfl, rfl⟩
  go_wp2_with fail
  refine (rname_any _ _ hs).mono ?_
  rintro e w3 ⟨rfl, rfl⟩
  go_wp2_with fail
  refine (awake_any _).mono ?_
  rintro e w4 ⟨rfl, b4⟩
  go_wp2_with fail
  go_ret
  exact ⟨rfl, hb4.below.trans (b4.mono hb4.size)⟩
end Go.Proofs.Ythmelkakgbchbaa
