/- isUse, remainder and flux of the code. -/
import Derived.Test.YtgmpipciinphiaaFac
import Derived.Test.YtgmpipciinphiaaMnx
import Derived.Test.YtgmpipciinphiaaQup
namespace Go.Proofs.Ytgmpipciinphiaa
set_option linter.unusedSimpArgs false
set_option linter.unusedVariables false
open Go.RowKit

/-- whether a use is as it must be -/
def useB (a m l : Int) : Bool := inB a 0 200000 && (inB m 0 600 && inB l 0 1000)

set_option maxHeartbeats 1000000 in
theorem isUse_any (a m l : Int) (w : World) :
    Calls Try.prog 62 #[.agg #[.int .i64 a, .int .i64 m, .int .i64 l]] w fun e w' => e = .returned (.bool (useB a m l)) ∧ Own w.heap.size w w' := by
  have own0 : Own w.heap.size w (w.alloc (.cells #[.int .i64 a, .int .i64 m, .int .i64 l] 48)) := (Own.refl _ _).alloc (Nat.le_refl _) _
  have HU : Hid (useB a m l = (inB a 0 200000 && (inB m 0 600 && inB l 0 1000))) := rfl
  cases h1 : inB a 0 200000
  · have H1 := Lib.hid h1
    have HF : Hid (useB a m l = false) := by show useB a m l = false; rw [HU.out, h1]; rfl
    clear h1
    go_enter Try.func62, Try.ntmps62
    go_wp2_with fail
    refine (isFrom_any _ _ _ _).mono ?_
    rintro e w1 ⟨rfl, rfl⟩
    rw [H1.out]
    go_wp2_with fail
    go_ret
    exact ⟨by rw [HF.out]; rfl, own0⟩
  · have H1 := Lib.hid h1
    cases h2 : inB m 0 600
    · have H2 := Lib.hid h2
      have HF : Hid (useB a m l = false) := by show useB a m l = false; rw [HU.out, h1, h2]; rfl
      clear h1 h2
      go_enter Try.func62, Try.ntmps62
      go_wp2_with fail
      refine (isFrom_any _ _ _ _).mono ?_
      rintro e w1 ⟨rfl, rfl⟩
      rw [H1.out]
      go_wp2_with fail
      refine (isFrom_any _ _ _ _).mono ?_
      rintro e w1 ⟨rfl, rfl⟩
      rw [H2.out]
      go_wp2_with fail
      go_ret
      exact ⟨by rw [HF.out]; rfl, own0⟩
    · have H2 := Lib.hid h2
      have HF : Hid (useB a m l = inB l 0 1000) := by show useB a m l = _; rw [HU.out, h1, h2]; rfl
      clear h1 h2
      go_enter Try.func62, Try.ntmps62
      go_wp2_with fail
      refine (isFrom_any _ _ _ _).mono ?_
      rintro e w1 ⟨rfl, rfl⟩
      rw [H1.out]
      go_wp2_with fail
      refine (isFrom_any _ _ _ _).mono ?_
      rintro e w1 ⟨rfl, rfl⟩
      rw [H2.out]
      go_wp2_with fail
      refine (isFrom_any _ _ _ _).mono ?_
      rintro e w1 ⟨rfl, rfl⟩
      rw [← HF.out]
      go_wp2_with fail
      go_ret
      exact ⟨rfl, own0⟩
theorem useB_ok {a m l : Int} (h : useB a m l = true) : 0 ≤ a ∧ a ≤ 200000 ∧ 0 ≤ m ∧ m ≤ 600 ∧ 0 ≤ l ∧ l ≤ 1000 := by
  simp [useB, inB] at h
  omega

/-- what is left of the lumens, each share rounded by r -/
def rem (r : Int → Int → Int) (lum ag di a m l : Int) : Int := r (r (r (lum * max 0 (1000000 - ag * a)) 1000000 * max 0 (1000 - di * m)) 1000 * l) 1000
/-- a rounding of quotients, as a function of the code -/
def Rounds (f : Nat) (r : Int → Int → Int) : Prop := ∀ (a b : Int) (w : World), 0 < b → b ≤ 9100000000000000000 → -9100000000000000000 ≤ a → a ≤ 9100000000000000000 → Calls Try.prog f #[.int .i64 a, .int .i64 b] w fun e w' => e = .returned (.int .i64 (r a b)) ∧ w = w'
theorem rounds_down : Rounds 57 (fun a b => a / b) := fun a b w h1 h2 h3 h4 => down_any a b w h1 h2 h3 h4
theorem rounds_up : Rounds 58 upD := fun a b w h1 h2 h3 h4 => up_any a b w h1 h2 h3 h4
/-- a share of a number is from 0 to it -/
theorem share_bd {r : Int → Int → Int} (hr : ∀ x k b : Int, 0 ≤ x → 0 ≤ k → k ≤ b → 0 < b → 0 ≤ r (x * k) b ∧ r (x * k) b ≤ x) : True := trivial
theorem down_share (x k b : Int) (h0 : 0 ≤ x) (h1 : 0 ≤ k) (h2 : k ≤ b) (h3 : 0 < b) : 0 ≤ (x * k) / b ∧ (x * k) / b ≤ x := by
  refine ⟨Int.ediv_nonneg (Int.mul_nonneg h0 h1) (by omega), ?_⟩
  have h4 : x * k ≤ x * b := Int.mul_le_mul_of_nonneg_left h2 h0
  calc (x * k) / b ≤ (x * b) / b := Int.ediv_le_ediv h3 h4
    _ = x := Int.mul_ediv_cancel _ (by omega)
theorem up_share (x k b : Int) (h0 : 0 ≤ x) (h1 : 0 ≤ k) (h2 : k ≤ b) (h3 : 0 < b) : 0 ≤ upD (x * k) b ∧ upD (x * k) b ≤ x := by
  unfold upD
  have h4 : x * k ≤ x * b := Int.mul_le_mul_of_nonneg_left h2 h0
  have h5 : 0 ≤ x * k := Int.mul_nonneg h0 h1
  constructor
  · have : (-(x * k)) / b ≤ 0 := by
      have := Int.ediv_le_ediv h3 (show -(x * k) ≤ 0 by omega)
      simpa using this
    omega
  · have : (-(x * b)) / b ≤ (-(x * k)) / b := Int.ediv_le_ediv h3 (by omega)
    rw [show -(x * b) = (-x) * b by rw [Int.neg_mul], Int.mul_ediv_cancel _ (by omega)] at this
    omega
end Go.Proofs.Ytgmpipciinphiaa
