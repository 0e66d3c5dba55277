/- rectError of the code. -/
import Derived.Test.YtgmpipciinphiaaSml
namespace Go.Proofs.Ytgmpipciinphiaa
set_option linter.unusedSimpArgs false
set_option linter.unusedVariables false
open Go.RowKit

/-- what is wrong with a rectangle -/
def rectE (x0 x1 y0 y1 h : Int) : Int := if (inB h 1 30000 && allB [x0, x1, y0, y1] (-200000) 200000) = false then 7 else if (decide (x1 < x0) || decide (y1 < y0)) = true then 2 else 0
theorem rectE_ok {x0 x1 y0 y1 h : Int} (hr : rectE x0 x1 y0 y1 h = 0) : 1 ≤ h ∧ h ≤ 30000 ∧ -200000 ≤ x0 ∧ x0 ≤ x1 ∧ x1 ≤ 200000 ∧ -200000 ≤ y0 ∧ y0 ≤ y1 ∧ y1 ≤ 200000 := by
  unfold rectE at hr
  split at hr
  · omega
  · rename_i h1
    split at hr
    · omega
    · rename_i h2
      simp [inB, allB] at h1 h2
      omega

set_option maxHeartbeats 1000000 in
theorem rectError_any (x0 x1 y0 y1 h : Int) (w : World) :
    Calls Try.prog 50 #[.agg #[.int .i64 x0, .int .i64 x1, .int .i64 y0, .int .i64 y1], .int .i64 h] w fun e w' => e = .returned (.int .i64 (rectE x0 x1 y0 y1 h)) ∧ Own w.heap.size w w' := by
  have own0 : Own w.heap.size w (w.alloc (.cells #[.int .i64 x0, .int .i64 x1, .int .i64 y0, .int .i64 y1] 40)) := (Own.refl _ _).alloc (Nat.le_refl _) _
  have own1 : Own w.heap.size w ((w.alloc (.cells #[.int .i64 x0, .int .i64 x1, .int .i64 y0, .int .i64 y1] 40)).alloc (.cells #[.int .i64 x0, .int .i64 x1, .int .i64 y0, .int .i64 y1] 3)) := own0.alloc (by simp) _
  have hin : IntsIn ((w.alloc (.cells #[.int .i64 x0, .int .i64 x1, .int .i64 y0, .int .i64 y1] 40)).alloc (.cells #[.int .i64 x0, .int .i64 x1, .int .i64 y0, .int .i64 y1] 3)).heap.size (some ⟨w.heap.size + 1, 0, none⟩) [x0, x1, y0, y1] ((w.alloc (.cells #[.int .i64 x0, .int .i64 x1, .int .i64 y0, .int .i64 y1] 40)).alloc (.cells #[.int .i64 x0, .int .i64 x1, .int .i64 y0, .int .i64 y1] 3)) := by
    refine ⟨by unfold maxLen; simp, fun _ => ⟨w.heap.size + 1, 0, rfl, by simp, fun j hj => ?_⟩⟩
    match j, hj with
    | 0, _ => simp [go_sem, nth]
    | 1, _ => simp [go_sem, nth]
    | 2, _ => simp [go_sem, nth]
    | 3, _ => simp [go_sem, nth]
    | n + 4, hj => exact absurd hj (by simp)
  have HI := Lib.hid hin
  clear hin
  have HR : Hid (rectE x0 x1 y0 y1 h = if (inB h 1 30000 && allB [x0, x1, y0, y1] (-200000) 200000) = false then 7 else if (decide (x1 < x0) || decide (y1 < y0)) = true then 2 else 0) := rfl
  cases hh : inB h 1 30000
  · have HH := Lib.hid hh
    have HF : Hid (rectE x0 x1 y0 y1 h = 7) := HR.out.trans (if_pos (by rw [hh]; rfl))
    clear hh
    go_enter Try.func50, Try.ntmps50
    go_wp2_with fail
    refine (isFrom_any _ _ _ _).mono ?_
    rintro e w1 ⟨rfl, rfl⟩
    rw [HH.out]
    go_wp2_with fail
    go_ret
    exact ⟨by rw [HF.out]; rfl, own0⟩
  · have HH := Lib.hid hh
    cases ha : allB [x0, x1, y0, y1] (-200000) 200000
    · have HA := Lib.hid ha
      have HF : Hid (rectE x0 x1 y0 y1 h = 7) := HR.out.trans (if_pos (by rw [hh, ha]; rfl))
      clear hh ha
      go_enter Try.func50, Try.ntmps50
      go_wp2_with fail
      refine (isFrom_any _ _ _ _).mono ?_
      rintro e w1 ⟨rfl, rfl⟩
      rw [HH.out]
      go_wp2_with fail
      refine (areFrom_any _ _ [x0, x1, y0, y1] _ _ _ HI.out).mono ?_
      rintro e w1 ⟨rfl, rfl⟩
      rw [HA.out]
      go_wp2_with fail
      go_ret
      exact ⟨by rw [HF.out]; rfl, own1⟩
    · have HA := Lib.hid ha
      have HF : Hid (rectE x0 x1 y0 y1 h = if (decide (x1 < x0) || decide (y1 < y0)) = true then 2 else 0) := HR.out.trans (if_neg (by rw [hh, ha]; decide))
      clear hh ha
      by_cases h1 : x1 < x0
      · have HF2 : Hid (rectE x0 x1 y0 y1 h = 2) := HF.out.trans (if_pos (by simp [h1]))
        go_enter Try.func50, Try.ntmps50
        go_wp2_with fail
        refine (isFrom_any _ _ _ _).mono ?_
        rintro e w1 ⟨rfl, rfl⟩
        rw [HH.out]
        go_wp2_with fail
        refine (areFrom_any _ _ [x0, x1, y0, y1] _ _ _ HI.out).mono ?_
        rintro e w1 ⟨rfl, rfl⟩
        rw [HA.out]
        go_wp2_with fail
        go_ret
        exact ⟨by rw [HF2.out]; rfl, own1⟩
      · by_cases h2 : y1 < y0
        · have HF2 : Hid (rectE x0 x1 y0 y1 h = 2) := HF.out.trans (if_pos (by simp [h2]))
          go_enter Try.func50, Try.ntmps50
          go_wp2_with fail
          refine (isFrom_any _ _ _ _).mono ?_
          rintro e w1 ⟨rfl, rfl⟩
          rw [HH.out]
          go_wp2_with fail
          refine (areFrom_any _ _ [x0, x1, y0, y1] _ _ _ HI.out).mono ?_
          rintro e w1 ⟨rfl, rfl⟩
          rw [HA.out]
          go_wp2_with fail
          go_ret
          exact ⟨by rw [HF2.out]; rfl, own1⟩
        · have HF2 : Hid (rectE x0 x1 y0 y1 h = 0) := HF.out.trans (if_neg (by simp [h1, h2]))
          go_enter Try.func50, Try.ntmps50
          go_wp2_with fail
          refine (isFrom_any _ _ _ _).mono ?_
          rintro e w1 ⟨rfl, rfl⟩
          rw [HH.out]
          go_wp2_with fail
          refine (areFrom_any _ _ [x0, x1, y0, y1] _ _ _ HI.out).mono ?_
          rintro e w1 ⟨rfl, rfl⟩
          rw [HA.out]
          go_wp2_with fail
          go_ret
          exact ⟨by rw [HF2.out]; rfl, own1⟩
end Go.Proofs.Ytgmpipciinphiaa
