/- AngleEncloses, for every enclosure. -/
import Derived.Test.YtdikelijnachjaaDoorEncA
import Derived.Test.YtdikelijnachjaaDoorEncB
import Derived.Test.YtdikelijnachjaaDoorEncC
import Derived.Test.YtdikelijnachjaaDoorEncD
import Derived.Test.YtdikelijnachjaaDoorEncL
namespace Go.Proofs.YtdikelijnachjaaDoor
set_option linter.unusedSimpArgs false
set_option linter.unusedVariables false
open Go.RowKit SineNear

theorem sinOf_yes (l h : Int) (hb : inB l h (-3600000000) 3600000000 = true) : RetE 19 #[encl l h] (siLo l h) (siHi l h) := by
  intro w
  have h1 := sinOf_any l h w
  unfold sofLo sofHi angE at h1
  rw [if_pos hb, if_pos hb, if_pos hb] at h1
  exact h1
theorem cosOf_yes (l h : Int) (hb : inB l h (-3600000000) 3600000000 = true) : RetE 21 #[encl l h] (siLo (l + 90000000) (h + 90000000)) (siHi (l + 90000000) (h + 90000000)) := by
  intro w
  have h1 := cosOf_any l h w
  unfold cofLo cofHi angE at h1
  rw [if_pos hb, if_pos hb, if_pos hb] at h1
  exact h1
theorem cos_val2 (a : Int) (h0 : -3600000000 ≤ a) (h1 : a ≤ 3600000000) : RetE 17 #[.int .i64 a] (sinLo (a + 90000000)) (sinHi (a + 90000000)) := by
  intro w
  have h := cos_val a h0 h1 w
  have e := sin_half (90000000 - a)
  rw [show 180000000 - (90000000 - a) = a + 90000000 from by omega] at e
  rw [e.1, e.2]
  exact h

theorem min_if (a b : Int) : min a b = if b < a then b else a := by
  by_cases c : b < a
  · rw [if_pos c]; omega
  · rw [if_neg c]; omega
theorem max_if (a b : Int) : max a b = if a < b then b else a := by
  by_cases c : a < b
  · rw [if_pos c]; omega
  · rw [if_neg c]; omega

theorem encl_any (l h u : Int) (w : World) (t : Tabs w) (u0 : 0 ≤ u) (u1 : u ≤ 255) :
    Calls Tryd.prog 8 #[encl l h, .int .u8 u] w fun e w' => e = .returned (.bool true) ∧ Below w.heap.size w w' := by
  by_cases hb : inB l h (-3600000000) 3600000000 = true
  · obtain ⟨b0, b1, b2⟩ := inB_bd hb
    have y0 : 0 ≤ (h - l) * u := Int.mul_nonneg (by omega) u0
    have y2 : (h - l) * u ≤ (h - l) * 255 := Int.mul_le_mul_of_nonneg_left u1 (by omega)
    have y1 : (h - l) * u ≤ 1836000000000 := by omega
    have m0 : l ≤ l + (h - l) * u / 255 := by omega
    have m1 : l + (h - l) * u / 255 ≤ h := by omega
    have i1 := si_below l _ h m0 m1
    have i2 := si_above l _ h m0 m1
    have i3 := si_below (l + 90000000) (l + (h - l) * u / 255 + 90000000) (h + 90000000) (by omega) (by omega)
    have i4 := si_above (l + 90000000) (l + (h - l) * u / 255 + 90000000) (h + 90000000) (by omega) (by omega)
    have C1 := sinOf_yes l h hb
    have C2 := cosOf_yes l h hb
    have C3 : RetE 15 #[.int .i64 (l + (h - l) * u / 255)] _ _ := fun w => sin_val (l + (h - l) * u / 255) (by omega) (by omega) w
    have C4 := cos_val2 (l + (h - l) * u / 255) (by omega) (by omega)
    have C5 : RetE 15 #[.int .i64 l] _ _ := fun w => sin_val l (by omega) (by omega) w
    have C6 : RetE 15 #[.int .i64 h] _ _ := fun w => sin_val h (by omega) (by omega) w
    by_cases ht : 360000000 ≤ h - l
    · obtain ⟨t1, t2⟩ := si_turn l h ht
      rw [t1] at i1 C1
      rw [t2] at i2 C1
      exact encl_long l h u _ _ _ _ _ _ _ _ _ _ w t b0 b1 b2 u0 u1 y0 y1 C1 C2 C3 C4 C5 C6 i1 i2 i3 i4 ht
    · obtain ⟨r0, r1⟩ := si_reach l h
      rw [← min_if] at r0
      rw [← max_if] at r1
      by_cases e0 : siLo l h = min (sinLo l) (sinLo h) <;> by_cases e1 : siHi l h = max (sinHi l) (sinHi h)
      · rw [e0] at i1 C1; rw [e1] at i2 C1
        exact encl_s1 l h u _ _ _ _ _ _ _ _ _ _ w t b0 b1 b2 u0 u1 y0 y1 C1 C2 C3 C4 C5 C6 i1 i2 i3 i4 (by omega)
      · have f1 : siHi l h = 100000000 := by rcases r1 with r | r; exact r; exact absurd r e1
        rw [f1] at e1
        rw [e0] at i1 C1; rw [f1] at i2 C1
        exact encl_s3 l h u _ _ _ _ _ _ _ _ _ _ w t b0 b1 b2 u0 u1 y0 y1 C1 C2 C3 C4 C5 C6 i1 i2 i3 i4 (beq_no e1) (by omega)
      · have f0 : siLo l h = -100000000 := by rcases r0 with r | r; exact r; exact absurd r e0
        rw [f0] at e0
        rw [f0] at i1 C1; rw [e1] at i2 C1
        exact encl_s2 l h u _ _ _ _ _ _ _ _ _ _ w t b0 b1 b2 u0 u1 y0 y1 C1 C2 C3 C4 C5 C6 i1 i2 i3 i4 (beq_no e0) (by omega)
      · have f0 : siLo l h = -100000000 := by rcases r0 with r | r; exact r; exact absurd r e0
        have f1 : siHi l h = 100000000 := by rcases r1 with r | r; exact r; exact absurd r e1
        rw [f0] at e0
        rw [f1] at e1
        rw [f0] at i1 C1; rw [f1] at i2 C1
        exact encl_s4 l h u _ _ _ _ _ _ _ _ _ _ w t b0 b1 b2 u0 u1 y0 y1 C1 C2 C3 C4 C5 C6 i1 i2 i3 i4 (beq_no e0) (beq_no e1) (by omega)
  · refine encl_no l h u w t (fun w => ?_) (fun w => ?_)
    · have h1 := sinOf_any l h w
      unfold sofLo sofHi angE at h1
      rw [if_neg hb, if_neg hb, if_neg hb] at h1
      exact h1
    · have h1 := cosOf_any l h w
      unfold cofLo cofHi angE at h1
      rw [if_neg hb, if_neg hb, if_neg hb] at h1
      exact h1
end Go.Proofs.YtdikelijnachjaaDoor
