/- The examples of the document: what each call returns. -/
import Derived.Test.YtdikelijnachjaaDoorRdm
import Derived.Test.YtdikelijnachjaaDoorRooA
import Derived.Test.YtdikelijnachjaaDoorAri
import Derived.Test.YtdikelijnachjaaDoorWawk
namespace Go.Proofs.YtdikelijnachjaaDoor
set_option linter.unusedSimpArgs false
set_option linter.unusedVariables false
open Go.RowKit SineNear

theorem k1 : RetT 15 #[.int .i64 30000000] (enclE (50000000) (50000000) 0) := fun w => by
  have h := sin_any 30000000 w
  rw [show sofLo 30000000 30000000 = 50000000 by decide +kernel, show sofHi 30000000 30000000 = 50000000 by decide +kernel, show angE 30000000 30000000 = 0 by decide +kernel] at h
  exact h.mono fun _ _ ⟨a, o⟩ => ⟨a, o.below⟩
theorem k2 : RetT 15 #[.int .i64 (-90000000)] (enclE (-100000000) (-100000000) 0) := fun w => by
  have h := sin_any (-90000000) w
  rw [show sofLo (-90000000) (-90000000) = -100000000 by decide +kernel, show sofHi (-90000000) (-90000000) = -100000000 by decide +kernel, show angE (-90000000) (-90000000) = 0 by decide +kernel] at h
  exact h.mono fun _ _ ⟨a, o⟩ => ⟨a, o.below⟩
theorem k3 : RetT 17 #[.int .i64 60000000] (enclE (50000000) (50000000) 0) := fun w => by
  have h := cos_any 60000000 w
  rw [show cofLo 60000000 60000000 = 50000000 by decide +kernel, show cofHi 60000000 60000000 = 50000000 by decide +kernel, show angE 60000000 60000000 = 0 by decide +kernel] at h
  exact h.mono fun _ _ ⟨a, o⟩ => ⟨a, o.below⟩
theorem k4 : RetT 17 #[.int .i64 1000000] (enclE (99984769) (99984770) 0) := fun w => by
  have h := cos_any 1000000 w
  rw [show cofLo 1000000 1000000 = 99984769 by decide +kernel, show cofHi 1000000 1000000 = 99984770 by decide +kernel, show angE 1000000 1000000 = 0 by decide +kernel] at h
  exact h.mono fun _ _ ⟨a, o⟩ => ⟨a, o.below⟩
theorem k5 : RetT 17 #[.int .i64 450000000] (enclE (0) (0) 0) := fun w => by
  have h := cos_any 450000000 w
  rw [show cofLo 450000000 450000000 = 0 by decide +kernel, show cofHi 450000000 450000000 = 0 by decide +kernel, show angE 450000000 450000000 = 0 by decide +kernel] at h
  exact h.mono fun _ _ ⟨a, o⟩ => ⟨a, o.below⟩
theorem k6 : RetT 19 #[encl 45000000 135000000] (enclE (70710678) (100000000) 0) := fun w => by
  have h := sinOf_any 45000000 135000000 w
  rw [show sofLo 45000000 135000000 = 70710678 by decide +kernel, show sofHi 45000000 135000000 = 100000000 by decide +kernel, show angE 45000000 135000000 = 0 by decide +kernel] at h
  exact h.mono fun _ _ ⟨a, o⟩ => ⟨a, o.below⟩
theorem k7 : RetT 19 #[encl 0 30000000] (enclE (0) (50000000) 0) := fun w => by
  have h := sinOf_any 0 30000000 w
  rw [show sofLo 0 30000000 = 0 by decide +kernel, show sofHi 0 30000000 = 50000000 by decide +kernel, show angE 0 30000000 = 0 by decide +kernel] at h
  exact h.mono fun _ _ ⟨a, o⟩ => ⟨a, o.below⟩
theorem k8 : RetT 26 #[encl 70710678 70710678] (enclE 44999999 45000000 0) := fun w => by
  have h := arcsin_yes 70710678 70710678 w (by decide +kernel)
  have a1 : arcA 70710678 = 45000000 := arcA_is _ _ (by decide) (by decide) (Or.inr (by decide +kernel)) (Or.inr (by decide +kernel))
  have a2 : arcA (-70710678) = -44999999 := arcA_is _ _ (by decide) (by decide) (Or.inr (by decide +kernel)) (Or.inr (by decide +kernel))
  rw [a1, a2] at h
  exact h.mono fun _ _ ⟨a, o⟩ => ⟨a, o.below⟩
theorem rt_eq (a r : Int) (h0 : 0 ≤ a) (r0 : 0 ≤ r) (h1 : r * r ≤ a) (h2 : a < (r + 1) * (r + 1)) : rt a = r :=
  root_one (rt_is h0).1 (rt_is h0).2.1 (rt_is h0).2.2 r0 h1 h2
theorem k9 : RetT 28 #[encl 200000000 200000000] (enclE 141421356 141421357 0) := fun w => by
  have h := rootA_yes 200000000 200000000 w (by decide +kernel)
  have r1 : rt (200000000 * 100000000) = 141421356 := rt_eq _ _ (by decide) (by decide) (by decide) (by decide)
  have r2 : rtU (200000000 * 100000000) = 141421357 := by unfold rtU; rw [r1, if_neg (by decide)]; rfl
  rw [r1, r2] at h
  exact h.mono fun _ _ ⟨a, o⟩ => ⟨a, o.below⟩
theorem k10 : RetT 28 #[encl 0 225000000] (enclE 0 150000000 0) := fun w => by
  have h := rootA_yes 0 225000000 w (by decide +kernel)
  have r1 : rt (0 * 100000000) = 0 := rt_eq _ _ (by decide) (by decide) (by decide) (by decide)
  have r3 : rt (225000000 * 100000000) = 150000000 := rt_eq _ _ (by decide) (by decide) (by decide) (by decide)
  have r2 : rtU (225000000 * 100000000) = 150000000 := by unfold rtU; rw [r3, if_pos (by decide)]
  rw [r1, r2] at h
  exact h.mono fun _ _ ⟨a, o⟩ => ⟨a, o.below⟩
theorem k11 : RetT 34 #[encl 3 3, encl 50000000 50000000] (enclE 1 2 0) := by
  have h := times_any 3 3 50000000 50000000
  rw [show timesV 3 3 50000000 50000000 = enclE 1 2 0 by kernel_rfl] at h
  exact h
theorem k12 : RetT 34 #[encl (-100000000) 200000000, encl 300000000 400000000] (enclE (-400000000) 800000000 0) := by
  have h := times_any (-100000000) 200000000 300000000 400000000
  rw [show timesV (-100000000) 200000000 300000000 400000000 = enclE (-400000000) 800000000 0 by kernel_rfl] at h
  exact h
theorem k13 : RetT 36 #[encl 100000000 100000000, encl 300000000 300000000] (enclE 33333333 33333334 0) := by
  have h := over_any 100000000 100000000 300000000 300000000
  rw [show overV 100000000 100000000 300000000 300000000 = enclE 33333333 33333334 0 by kernel_rfl] at h
  exact h
theorem k14 : RetT 36 #[encl 100000000 100000000, encl (-100000000) 100000000] (enclE 0 0 8) := by
  have h := over_any 100000000 100000000 (-100000000) 100000000
  rw [show overV 100000000 100000000 (-100000000) 100000000 = enclE 0 0 8 by kernel_rfl] at h
  exact h
theorem k15 : RetT 30 #[encl 2000000000 2000000000, encl 2000000000 2000000000] (enclE 0 0 7) := by
  have h := plus_any 2000000000 2000000000 2000000000 2000000000
  rw [show plusV 2000000000 2000000000 2000000000 2000000000 = enclE 0 0 7 by kernel_rfl] at h
  exact h
/-- a call that reads the tables, too -/
def RetK (f : FuncId) (args : Array Value) (v : Value) : Prop := ∀ w : World, Tabs w → Calls Tryd.prog f args w fun e w' => e = .returned v ∧ Below w.heap.size w w'
theorem RetK.at {f : FuncId} {args : Array Value} {v : Value} (h : RetK f args v) (w : World) (t : Tabs w) : Calls Tryd.prog f args w fun e w' => e = .returned v ∧ Below w.heap.size w w' := h w t
theorem k16 : RetK 38 #[.string ⟨#[48, 48, 55, 46, 53, 48, 83]⟩] (read3 (-7500000) 0 0) := fun w t => by
  have h := read_any [48, 48, 55, 46, 53, 48, 83] w t (by decide)
  rw [show reA [48, 48, 55, 46, 53, 48, 83] = -7500000 by decide +kernel, show reX [48, 48, 55, 46, 53, 48, 83] = 0 by decide +kernel, show reE [48, 48, 55, 46, 53, 48, 83] = 0 by decide +kernel] at h
  exact h
theorem k17 : RetK 38 #[.string ⟨#[57, 48, 46, 48, 48, 48, 48, 48, 49, 78]⟩] (read3 (0) 0 7) := fun w t => by
  have h := read_any [57, 48, 46, 48, 48, 48, 48, 48, 49, 78] w t (by decide)
  rw [show reA [57, 48, 46, 48, 48, 48, 48, 48, 49, 78] = 0 by decide +kernel, show reX [57, 48, 46, 48, 48, 48, 48, 48, 49, 78] = 0 by decide +kernel, show reE [57, 48, 46, 48, 48, 48, 48, 48, 49, 78] = 7 by decide +kernel] at h
  exact h
theorem k18 : RetK 38 #[.string ⟨#[53, 32, 78]⟩] (read3 (0) 0 6) := fun w t => by
  have h := read_any [53, 32, 78] w t (by decide)
  rw [show reA [53, 32, 78] = 0 by decide +kernel, show reX [53, 32, 78] = 0 by decide +kernel, show reE [53, 32, 78] = 6 by decide +kernel] at h
  exact h
theorem k19 : RetK 40 #[.int .i64 (-180000000), .int .i64 1] (strE [49, 56, 48, 87] 0) := fun w t => by
  have h := write_any (-180000000) 1 w t
  have d180 : Lib.decDigits 180 = [49, 56, 48] := by rw [Lib.decDigits, dif_neg (by decide), Lib.decDigits_two (by decide) (by decide)]; rfl
  have e1 : wsz 180000000 = [49, 56, 48] := by
    unfold wsz
    rw [if_pos (by decide)]
    unfold Lib.itoa
    rw [if_neg (by decide)]
    show Lib.decDigits 180 = _
    rw [d180]
  have e2 : wE (-180000000) 1 = 0 := by decide
  have e3 : wS (-180000000) 1 = [49, 56, 48, 87] := by
    unfold wS
    rw [e2, if_pos rfl]
    show wsz 180000000 ++ [wLetter (-180000000) 1] = _
    rw [e1]; rfl
  rw [e2, e3] at h
  exact h
end Go.Proofs.YtdikelijnachjaaDoor
