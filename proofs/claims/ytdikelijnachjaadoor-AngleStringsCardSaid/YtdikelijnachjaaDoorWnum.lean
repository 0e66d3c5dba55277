/- The numbers of angles: reduced, mirrored, hundredMillionths, as the code computes them. -/
import Derived.Test.YtdikelijnachjaaDoorShBits
import Derived.Test.YtdikelijnachjaaDoorBase
import Derived.Test.YtdikelijnachjaaDoorAng
namespace Go.Proofs.YtdikelijnachjaaDoor
set_option linter.unusedSimpArgs false
set_option linter.unusedVariables false
open Go.RowKit SineNear

set_option maxHeartbeats 400000 in
theorem mirrored_any (a : Int) (w : World) (h0 : 0 ≤ a) (h1 : a ≤ 180000000) :
    Calls Tryd.prog 101 #[.int .i64 a] w fun e w' => e = .returned (.int .i64 (min a (180000000 - a))) ∧ w = w' := by
  go_enter Tryd.func101, Tryd.ntmps101
  go_wp2
  all_goals go_ret
  all_goals exact ⟨ret_int (by omega), rfl⟩

set_option maxHeartbeats 400000 in
theorem reduced_any (a : Int) (w : World) (h0 : -9000000000000 ≤ a) (h1 : a ≤ 9000000000000) :
    Calls Tryd.prog 99 #[.int .i64 a] w fun e w' => e = .returned (.int .i64 (a % 360000000)) ∧ w = w' := by
  by_cases ha : 0 ≤ a
  · go_enter Tryd.func99, Tryd.ntmps99
    go_wp2
    go_ret
    exact ⟨rfl, rfl⟩
  · have e : a.tmod 360000000 = -((-a) % 360000000) := by
      rw [← Int.tmod_eq_emod_of_nonneg (by omega), Int.neg_tmod, Int.neg_neg]
    go_enter Tryd.func99, Tryd.ntmps99
    go_wp2
    all_goals go_ret
    all_goals exact ⟨ret_int (by omega), rfl⟩

theorem mul64 (x y : Int) (hx0 : 0 ≤ x) (hx : x < 18446744073709551616) (hy0 : 0 ≤ y) (hy : y < 18446744073709551616) (w : World) :
    Calls Tryd.prog 120 #[.int .u64 x, .int .u64 y] w fun e w' => e = .returned (.tuple #[.int .u64 (x * y / 18446744073709551616), .int .u64 (x * y % 18446744073709551616)]) ∧ w = w' := by
  obtain ⟨a, rfl⟩ := Int.eq_ofNat_of_zero_le hx0
  obtain ⟨b, rfl⟩ := Int.eq_ofNat_of_zero_le hy0
  refine (Tryd.bits_Mul64 a b (by omega) (by omega) w).mono ?_
  rintro e w' ⟨rfl, rfl⟩
  exact ⟨by simp, rfl⟩

theorem or_shift (k : Nat) (K x y : Int) (hK : K = ((2^k : Nat) : Int)) (hx : 0 ≤ x) (hy : 0 ≤ y) (hyk : y < K) (hs : x * K < 18446744073709551616) (hy2 : y < 18446744073709551616) :
    bits .or .u64 (x * K) y = x * K + y := by
  subst hK
  obtain ⟨a, rfl⟩ := Int.eq_ofNat_of_zero_le hx
  obtain ⟨b, rfl⟩ := Int.eq_ofNat_of_zero_le hy
  have h1 : b < 2^k := by omega
  have h2 : a * 2^k < 18446744073709551616 := by
    have : ((a * 2^k : Nat) : Int) < 18446744073709551616 := by rw [Int.natCast_mul]; exact hs
    omega
  rw [← Int.natCast_mul, bits_or_u64_nat _ _ h2 (by omega), Nat.mul_comm, ← Nat.two_pow_add_eq_or_of_lt h1, Int.natCast_add]

set_option maxHeartbeats 400000 in
theorem hundred_any (s : Int) (w : World) (h0 : 0 ≤ s) (h1 : s < 18446744073709551616) :
    Calls Tryd.prog 116 #[.int .u64 s] w fun e w' => e = .returned (.int .i64 (s * 100000000 / 9223372036854775808)) ∧ w = w' := by
  go_enter Tryd.func116, Tryd.ntmps116
  go_wp2_with (go_at_call 120; refine (mul64 _ _ (by omega) (by omega) (by omega) (by omega) _).mono ?_; rintro e w' ⟨rfl, rfl⟩)
  go_ret
  refine ⟨ret_int ?_, rfl⟩
  rw [or_shift 1 2 _ _ (by decide) (by omega) (by omega) (by omega) (by omega) (by omega)]
  rw [show wrap64 (s * 100000000 / 18446744073709551616 * 2 + s * 100000000 % 18446744073709551616 / 9223372036854775808) = s * 100000000 / 18446744073709551616 * 2 + s * 100000000 % 18446744073709551616 / 9223372036854775808 from IntWalk.wrap64_in _ ⟨by omega, by omega⟩]
  omega

theorem cX_or (a : Int) (h0 : 0 ≤ a) (h1 : a ≤ 90000000) : bits .or .u64 (a * 10803064813898918630 / 18446744073709551616 * 274877906944) (a * 10803064813898918630 % 18446744073709551616 / 67108864) = cX a := by
  rw [or_shift 38 274877906944 _ _ (by decide) (by omega) (by omega) (by omega) (by omega) (by omega)]
  show _ = a * 10803064813898918630 / 67108864
  omega

theorem or_63 (t : Int) (h0 : 0 ≤ t) (h1 : t < 170141183460469231731687303715884105728) : bits .or .u64 (t / 18446744073709551616 * 2) (t % 18446744073709551616 / 9223372036854775808) = t / 9223372036854775808 := by
  rw [or_shift 1 2 _ _ (by decide) (by omega) (by omega) (by omega) (by omega) (by omega)]
  omega

/-- what a round of the series does -/
theorem cRound (a : Int) (h0 : 0 ≤ a) (h1 : a ≤ 90000000) (i : Nat) (hi : i < 12) : ∃ d : Int, IntKind.u64.wrap ((12 - (i:Int)) * (2 * (12 - (i:Int)) + 1)) = d ∧ 3 ≤ d ∧
    cLoop (cQ a) (i+1) = 9223372036854775808 - cQ a * cLoop (cQ a) i / 9223372036854775808 / d ∧
    0 ≤ cQ a * cLoop (cQ a) i / 9223372036854775808 / d ∧ cQ a * cLoop (cQ a) i / 9223372036854775808 / d ≤ 9223372036854775808 := by
  obtain ⟨q0, q1⟩ := cQ_bd a h0 h1
  obtain ⟨b0, b1⟩ := cLoop_bd (cQ a) q0 q1 (i+1) (by omega)
  obtain ⟨c0, c1⟩ := cLoop_bd (cQ a) q0 q1 i (by omega)
  have e : cLoop (cQ a) (i+1) = 9223372036854775808 - cQ a * cLoop (cQ a) i / 9223372036854775808 / ((12 - i) * (2 * (12 - i) + 1)) := rfl
  have hd3 : (3:Int) ≤ (12 - i) * (2 * (12 - i) + 1) := by
    have := Int.mul_le_mul (show (1:Int) ≤ 12 - i by omega) (show (3:Int) ≤ 2 * (12 - i) + 1 by omega) (by omega) (by omega)
    omega
  have hd4 : ((12 - i) * (2 * (12 - i) + 1) : Int) ≤ 12 * 25 := Int.mul_le_mul (by omega) (by omega) (by omega) (by omega)
  refine ⟨(12 - i) * (2 * (12 - i) + 1), ?_, hd3, e, ?_, ?_⟩
  · rw [IntKind.wrap_u64]; omega
  · exact Int.ediv_nonneg (Int.ediv_nonneg (Int.mul_nonneg q0 c0) (by omega)) (by omega)
  · omega

set_option maxHeartbeats 1000000 in
theorem series_any (a : Int) (w : World) (h0 : 0 ≤ a) (h1 : a ≤ 90000000) :
    Calls Tryd.prog 117 #[.int .u64 a] w fun e w' => e = .returned (.int .u64 (cSeries a)) ∧ w = w' := by
  obtain ⟨x0, x1⟩ := cX_bd a h0 h1
  obtain ⟨q0, q1⟩ := cQ_bd a h0 h1
  have HX : Hid (bits .or .u64 (a * 10803064813898918630 / 18446744073709551616 * 274877906944) (a * 10803064813898918630 % 18446744073709551616 / 67108864) = cX a) := cX_or a h0 h1
  have HQ : Hid (cX a * cX a / 18446744073709551616 = cQ a) := (rfl : cX a * cX a / 18446744073709551616 = cQ a)
  go_enter Tryd.func117, Tryd.ntmps117
  go_wp2_with fail
  refine (mul64 a 10803064813898918630 (by omega) (by omega) (by omega) (by omega) w).mono ?_
  rintro e w' ⟨rfl, rfl⟩
  go_wp2_with fail
  simp only [HX.out]
  refine (mul64 (cX a) (cX a) (by omega) (by omega) (by omega) (by omega) w).mono ?_
  rintro e w' ⟨rfl, rfl⟩
  go_wp2_with fail
  simp only [HQ.out]
  go_loop [3, 4, 8, 9] (fun h l s k => ∃ i : Nat, i ≤ 12 ∧ k = .int .u64 (12 - i) ∧ s = .int .u64 (cLoop (cQ a) i) ∧ ∃ hv lv, h = .int .u64 hv ∧ l = .int .u64 lv) (fun _ _ _ k => (intOf k).toNat)
  case atStart => exact ⟨0, by omega, rfl, rfl, _, _, rfl, rfl⟩
  case round =>
    obtain ⟨i, hi, rfl, rfl, hv, lv, rfl, rfl⟩ := hrel
    obtain ⟨s0, s1⟩ := cLoop_bd (cQ a) q0 q1 i hi
    by_cases hlt : i < 12
    · obtain ⟨d, hd, hd3, hnext, hq0, hq1⟩ := cRound a h0 h1 i hlt
      have t0 := Int.mul_nonneg q0 s0
      have t1 := Int.mul_le_mul q1 s1 s0 (by omega)
      have hb := or_63 (cQ a * cLoop (cQ a) i) t0 (by omega)
      have HN : Hid (cLoop (cQ a) (i+1) = 9223372036854775808 - cQ a * cLoop (cQ a) i / 9223372036854775808 / d) := hnext
      clear hnext
      go_wp2_with fail
      refine (mul64 (cQ a) (cLoop (cQ a) i) (by omega) (by omega) (by omega) (by omega) w).mono ?_
      rintro e w' ⟨rfl, rfl⟩
      generalize cQ a * cLoop (cQ a) i = t at *
      go_wp2_with fail
      go_round
      case rel => exact ⟨i + 1, by omega, by go_num, by rw [HN.out], _, _, rfl, rfl⟩
      case measure => simp [intOf]; omega
    · obtain rfl : i = 12 := by omega
      have t0 := Int.mul_nonneg x0 s0
      have t1 := Int.mul_le_mul x1 s1 s0 (by omega)
      have hb := or_63 (cX a * cLoop (cQ a) 12) t0 (by omega)
      have HS : Hid (cX a * cLoop (cQ a) 12 / 9223372036854775808 = cSeries a) := (rfl : cX a * cLoop (cQ a) 12 / 9223372036854775808 = cSeries a)
      go_wp2_with fail
      refine (mul64 (cX a) (cLoop (cQ a) 12) (by omega) (by omega) (by omega) (by omega) w).mono ?_
      rintro e w' ⟨rfl, rfl⟩
      generalize cX a * cLoop (cQ a) 12 = t at *
      go_wp2_with fail
      go_ret
      exact ⟨ret_int (k := .u64) HS.out, rfl⟩
end Go.Proofs.YtdikelijnachjaaDoor
