/- The root of the code, as layer 2 needs it. -/
import Derived.Test.YtgmpipciinphiaaBxs
import Derived.Test.YtgmpipciinphiaaFlo
import Derived.WalkLawsBesides
import Derived.Test.YtgmpipciinphiaaInr
namespace Go.Proofs.Ytgmpipciinphiaa
set_option linter.unusedSimpArgs false
set_option linter.unusedVariables false
open Go.RowKit

/-- the model's square root -/
theorem run_sqrt (x y : Nat) (h : D.sqrt x = some y) (w : World) : (callFunc 119 #[.float .f64 x]).run Try.prog w = .ok (.value (.float .f64 y)) w := by
  rw [run_callFunc_extern (e := Extern.MathSqrt.sqrt) Try.func119 (by kernel_rfl) (by kernel_rfl) (by kernel_rfl) (by kernel_rfl)]
  have e : Extern.MathSqrt.sqrt #[.float .f64 x] = (match D.sqrt x with | some r => pure (.float .f64 r) | none => do pure (.float .f64 (← choose (.nanBits .f64 x x)))) := rfl
  rw [e, h]
  rfl

set_option maxHeartbeats 400000 in
theorem sqrt_any (x y : Nat) (w : World) (h : D.sqrt x = some y) :
    Calls Try.prog 118 #[.float .f64 x] w fun e w' => e = .returned (.float .f64 y) ∧ w = w' := by
  have hd := run_sqrt x y h
  have H := Lib.hid h
  clear h
  go_enter Try.func118, Try.ntmps118
  go_wp2_with fail
  go_ret
  exact ⟨rfl, rfl⟩

/-- the conversions -/
theorem run_toFloat (a : Int) (w : World) : (Go.convert 3 147 (.int .i64 a)).run Try.prog w = .ok (.float .f64 (FloatKind.f64.nearest a)) w := by kernel_rfl
theorem run_toInt (y : Nat) (n : Int) (h : (D.read y).toInt .zero = some n) (h0 : 0 ≤ n) (h1 : n ≤ 2147483648) (w : World) : (Go.convert 147 3 (.float .f64 y)).run Try.prog w = .ok (.int .i64 n) w := by
  have e : (Go.convert 147 3 (.float .f64 y)).run Try.prog w = (Conv.floatToInt .f64 y .i64).run Try.prog w := by kernel_rfl
  have e2 : Conv.floatToInt .f64 y .i64 = (match (D.read y).toInt .zero with
    | some n => if IntKind.i64.min ≤ n ∧ n ≤ IntKind.i64.max then pure (.int .i64 n) else (do pure (.int .i64 (IntKind.i64.wrap (← choose (.floatToInt .f64 y .i64)))))
    | none => (do pure (.int .i64 (IntKind.i64.wrap (← choose (.floatToInt .f64 y .i64)))))) := rfl
  rw [e, e2, h]
  have m0 : IntKind.i64.min = -9223372036854775808 := by decide
  have m1 : IntKind.i64.max = 9223372036854775807 := by decide
  show (if IntKind.i64.min ≤ n ∧ n ≤ IntKind.i64.max then _ else _ : Sem Value).run _ _ = _
  rw [if_pos (by rw [m0, m1]; omega)]
  rfl

theorem sq_bd {k b : Int} (h0 : 0 ≤ k) (h1 : k ≤ b) : 0 ≤ k * k ∧ k * k ≤ b * b := ⟨Int.mul_nonneg h0 h0, Int.mul_le_mul h1 h1 h0 (by omega)⟩
theorem root_one {a k r : Int} (hk0 : 0 ≤ k) (h1 : k * k ≤ a) (h2 : a < (k + 1) * (k + 1)) (hr0 : 0 ≤ r) (h3 : r * r ≤ a) (h4 : a < (r + 1) * (r + 1)) : k = r := by
  by_cases c : k < r
  · have := (sq_bd (show 0 ≤ k + 1 by omega) (show k + 1 ≤ r by omega)).2; omega
  · by_cases c2 : r < k
    · have := (sq_bd (show 0 ≤ r + 1 by omega) (show r + 1 ≤ k by omega)).2; omega
    · omega
theorem root_lt {a k : Int} (hk0 : 0 ≤ k) (h1 : k * k ≤ a) (ha : a ≤ 300000000000000000) : k ≤ 600000000 := by
  by_cases c : k ≤ 600000000
  · exact c
  · have := (sq_bd (show (0:Int) ≤ 600000001 by decide) (show 600000001 ≤ k by omega)).2; omega

set_option maxHeartbeats 1000000 in
theorem root_walk (a r h n : Int) (x y : Nat) (w : World) (a0 : 0 ≤ a) (a1 : a ≤ 300000000000000000) (n0 : 0 ≤ n) (n1 : n ≤ 2147483648) (r0 : 0 ≤ r) (h1 : r * r ≤ a) (h2 : a < (r + 1) * (r + 1)) (hh : (r * r = a ∧ h = r) ∨ (r * r ≠ a ∧ h = r + 1))
    (hc1 : ∀ w, (Go.convert 3 147 (.int .i64 a)).run Try.prog w = .ok (.float .f64 x) w)
    (hs : ∀ w, Calls Try.prog 118 #[.float .f64 x] w fun e w' => e = .returned (.float .f64 y) ∧ w = w')
    (hc2 : ∀ w, (Go.convert 147 3 (.float .f64 y)).run Try.prog w = .ok (.int .i64 n) w) :
    Calls Try.prog 108 #[.int .i64 a] w fun e w' => e = .returned (encl r h) ∧ Own w.heap.size w w' := by
  have HS := Lib.hid hs
  have H1 := Lib.hid h1
  have H2 := Lib.hid h2
  have HH := Lib.hid hh
  clear hs h1 h2 hh
  go_enter Try.func108, Try.ntmps108
  go_wp2_with fail
  refine (HS.out _).mono ?_
  rintro e w' ⟨rfl, rfl⟩
  go_wp2_with fail
  go_loop [3] (fun t => ∃ k : Int, 0 ≤ k ∧ k ≤ 2147483648 ∧ t = .int .i64 k) (fun t => (intOf t).toNat)
  case atStart => exact ⟨n, n0, n1, rfl⟩
  case round =>
    obtain ⟨k, k0, k1, rfl⟩ := hrel
    obtain ⟨q0, q1⟩ := sq_bd k0 k1
    by_cases hlt : a < k * k
    · have kp : 0 < k := by
        by_cases c : 0 < k
        · exact c
        · have : k = 0 := by omega
          subst this
          omega
      go_wp2_with fail
      go_round
      case rel => exact ⟨k - 1, by omega, by omega, rfl⟩
      case measure => simp [intOf]; omega
    · have hle : k * k ≤ a := by omega
      clear q1
      go_wp2_with fail
      clear hlt
      go_loop [3] (fun t => ∃ j : Int, 0 ≤ j ∧ j * j ≤ a ∧ t = .int .i64 j) (fun t => (600000001 - intOf t).toNat)
      case atStart => exact ⟨k, k0, hle, rfl⟩
      case round =>
        obtain ⟨j, j0, j1, rfl⟩ := hrel
        have j2 := root_lt j0 j1 a1
        obtain ⟨p0, p1⟩ := sq_bd (show 0 ≤ j + 1 by omega) (show j + 1 ≤ 600000001 by omega)
        by_cases hlt : (j + 1) * (j + 1) ≤ a
        · have j3 := root_lt (show 0 ≤ j + 1 by omega) hlt a1
          have HJ := Lib.hid j1
          go_wp2_with fail
          go_round
          case rel => exact ⟨j + 1, by omega, hlt, rfl⟩
          case measure => simp [intOf]; omega
        · obtain rfl : j = r := root_one j0 j1 (by omega) r0 H1.out H2.out
          have z := Int.mul_nonneg j0 j0
          rcases HH.out with ⟨he, rfl⟩ | ⟨he, rfl⟩
          · have hb : (h * h == a) = true := by simp [he]
            have HE := Lib.hid he
            clear he
            go_wp2_with fail
            refine (only_any h _).mono ?_
            rintro e w1 ⟨rfl, hb1⟩
            obtain ⟨hc, hf⟩ := bcell hb1
            go_wp2_with fail
            refine bodyPost_ret (v := encl _ _) (by simp [results, Try.results108, go_sem, hc]) rfl ⟨rfl, ?_⟩
            exact ((((Own.refl _ _).alloc (Nat.le_refl _) _).trans (hb1.mono (by simp))).setCell (by simp) _).setCell (by simp) _
          · have hb : (j * j == a) = false := beq_no he
            have HE := Lib.hid he
            clear he
            go_wp2_with fail
            refine bodyPost_ret (v := encl _ _) (by simp [results, Try.results108, go_sem]) rfl ⟨rfl, ?_⟩
            exact (Own.refl _ _).alloc (Nat.le_refl _) _

/-- the whole root of a number -/
theorem root_ex : ∀ n : Nat, ∃ r : Nat, r * r ≤ n ∧ n < (r + 1) * (r + 1)
  | 0 => ⟨0, by decide, by decide⟩
  | n + 1 => by
    obtain ⟨r, h1, h2⟩ := root_ex n
    by_cases c : n + 1 < (r + 1) * (r + 1)
    · exact ⟨r, by omega, c⟩
    · refine ⟨r + 1, by omega, ?_⟩
      have e : n + 1 = (r + 1) * (r + 1) := by omega
      rw [e]
      exact Nat.mul_lt_mul_of_lt_of_lt (by omega) (by omega)
noncomputable def rt (a : Int) : Int := ((root_ex a.toNat).choose : Int)
theorem rt_is {a : Int} (h : 0 ≤ a) : 0 ≤ rt a ∧ rt a * rt a ≤ a ∧ a < (rt a + 1) * (rt a + 1) := by
  obtain ⟨h1, h2⟩ := (root_ex a.toNat).choose_spec
  unfold rt
  generalize (root_ex a.toNat).choose = r at *
  refine ⟨by omega, ?_, ?_⟩
  · have : ((r * r : Nat) : Int) ≤ a := by omega
    simpa using this
  · have : a < (((r + 1) * (r + 1) : Nat) : Int) := by omega
    simpa using this
/-- and rounded up -/
noncomputable def rtU (a : Int) : Int := if rt a * rt a = a then rt a else rt a + 1

theorem root_any (a : Int) (w : World) (a0 : 0 ≤ a) (a1 : a ≤ 300000000000000000) :
    Calls Try.prog 108 #[.int .i64 a] w fun e w' => e = .returned (encl (rt a) (rtU a)) ∧ Own w.heap.size w w' := by
  obtain ⟨r0, r1, r2⟩ := rt_is a0
  obtain ⟨y, n, h1, h2, h3, h4⟩ := guess_bd a.toNat (by omega)
  have e : FloatKind.f64.nearest a = D.nearest false a.toNat 0 := by
    show D.nearest (decide (a < 0)) a.natAbs 0 = _
    rw [decide_eq_false (by omega), show a.natAbs = a.toNat by omega]
  refine root_walk a (rt a) (rtU a) n _ y w a0 a1 h3 h4 r0 r1 r2 ?_ (run_toFloat a) (fun w => sqrt_any _ y w (by rw [e]; exact h1)) (run_toInt y n h2 h3 h4)
  unfold rtU
  by_cases c : rt a * rt a = a
  · exact .inl ⟨c, if_pos c⟩
  · exact .inr ⟨c, if_neg c⟩
end Go.Proofs.Ytgmpipciinphiaa
