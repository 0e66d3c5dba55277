/- Small functions of the reference: ranges, names, quotients, uses. -/
import Derived.Test.YtgmpipciinphiaaFac
import Derived.Test.YtgmpipciinphiaaUse
namespace Go.Proofs.Ytgmpipciinphiaa
set_option linter.unusedSimpArgs false
set_option linter.unusedVariables false
open Go.RowKit
attribute [local go_sem ↓] Go.wp_at_zero Go.wp_at_succ

set_option maxHeartbeats 400000 in
theorem rin_any (n a b : Int) (w : World) : Calls Try.prog 46 #[.int .i64 n, .int .i64 a, .int .i64 b] w fun e w' => e = .returned (.bool (inB n a b)) ∧ w = w' := by
  unfold inB
  by_cases h0 : a ≤ n
  · by_cases h1 : n ≤ b
    · rw [decide_eq_true ⟨h0, h1⟩]
      go_enter Try.func46, Try.ntmps46
      go_wp2_with fail
      go_ret
      exact ⟨rfl, rfl⟩
    · rw [decide_eq_false (fun h => h1 h.2)]
      go_enter Try.func46, Try.ntmps46
      go_wp2_with fail
      go_ret
      exact ⟨rfl, rfl⟩
  · rw [decide_eq_false (fun h => h0 h.1)]
    go_enter Try.func46, Try.ntmps46
    go_wp2_with fail
    go_ret
    exact ⟨rfl, rfl⟩
theorem rin_is {n a b : Int} {x : Bool} (h : inB n a b = x) (w : World) : Calls Try.prog 46 #[.int .i64 n, .int .i64 a, .int .i64 b] w fun e w' => e = .returned (.bool x) ∧ w = w' := by
  rw [← h]; exact rin_any n a b w

/-- an enclosure in order, and of a range -/
def withB (lo hi a b : Int) : Bool := decide (lo ≤ hi) && (inB lo a b && inB hi a b)
set_option maxHeartbeats 400000 in
theorem rwithin_any (lo hi a b : Int) (w : World) : Calls Try.prog 76 #[.agg #[.int .i64 lo, .int .i64 hi], .int .i64 a, .int .i64 b] w fun e w' => e = .returned (.bool (withB lo hi a b)) ∧ Own w.heap.size w w' := by
  have own0 : Own w.heap.size w (w.alloc (.cells #[.int .i64 lo, .int .i64 hi] 35)) := (Own.refl _ _).alloc (Nat.le_refl _) _
  have HU : Hid (withB lo hi a b = (decide (lo ≤ hi) && (inB lo a b && inB hi a b))) := rfl
  by_cases h0 : lo ≤ hi
  · cases h1 : inB lo a b
    · have HF : Hid (withB lo hi a b = false) := by show withB _ _ _ _ = false; rw [HU.out, h1]; simp
      have H1 := Lib.hid h1
      clear h1
      go_enter Try.func76, Try.ntmps76
      go_wp2_with fail
      refine (rin_is H1.out _).mono ?_
      rintro e w1 ⟨rfl, rfl⟩
      go_wp2_with fail
      go_ret
      exact ⟨by rw [HF.out]; rfl, own0⟩
    · cases h2 : inB hi a b
      · have HF : Hid (withB lo hi a b = false) := by show withB _ _ _ _ = false; rw [HU.out, h2]; simp
        have H1 := Lib.hid h1
        have H2 := Lib.hid h2
        clear h1 h2
        go_enter Try.func76, Try.ntmps76
        go_wp2_with fail
        refine (rin_is H1.out _).mono ?_
        rintro e w1 ⟨rfl, rfl⟩
        go_wp2_with fail
        refine (rin_is H2.out _).mono ?_
        rintro e w1 ⟨rfl, rfl⟩
        go_wp2_with fail
        go_ret
        exact ⟨by rw [HF.out]; rfl, own0⟩
      · have HF : Hid (withB lo hi a b = true) := by show withB _ _ _ _ = true; rw [HU.out, h1, h2, decide_eq_true h0]; rfl
        have H1 := Lib.hid h1
        have H2 := Lib.hid h2
        clear h1 h2
        go_enter Try.func76, Try.ntmps76
        go_wp2_with fail
        refine (rin_is H1.out _).mono ?_
        rintro e w1 ⟨rfl, rfl⟩
        go_wp2_with fail
        refine (rin_is H2.out _).mono ?_
        rintro e w1 ⟨rfl, rfl⟩
        go_wp2_with fail
        go_ret
        exact ⟨by rw [HF.out]; rfl, own0⟩
  · have HF : Hid (withB lo hi a b = false) := by show withB _ _ _ _ = false; rw [HU.out, decide_eq_false h0]; rfl
    go_enter Try.func76, Try.ntmps76
    go_wp2_with fail
    go_ret
    exact ⟨by rw [HF.out]; rfl, own0⟩
theorem rwithin_is {lo hi a b : Int} {x : Bool} (h : withB lo hi a b = x) (w : World) : Calls Try.prog 76 #[.agg #[.int .i64 lo, .int .i64 hi], .int .i64 a, .int .i64 b] w fun e w' => e = .returned (.bool x) ∧ Own w.heap.size w w' := by
  rw [← h]; exact rwithin_any lo hi a b w

set_option maxHeartbeats 400000 in
theorem rdown_any (a b : Int) (w : World) (hb : 0 < b) (hb1 : b ≤ 9100000000000000000) (h0 : -9100000000000000000 ≤ a) (h1 : a ≤ 9100000000000000000) :
    Calls Try.prog 60 #[.int .i64 a, .int .i64 b] w fun e w' => e = .returned (.int .i64 (a / b)) ∧ w = w' := by
  by_cases ha : 0 ≤ a
  · obtain ⟨q, r, e1, e2, e3, e4, _⟩ := pos_parts a b hb
    have b1 := q_bd a b hb h0 h1
    rw [e1] at b1
    have hr : ¬ r < 0 := by omega
    have H1 : Hid (a / b = q) := e1
    clear e1
    go_enter Try.func60, Try.ntmps60
    go_wp2
    go_ret
    exact ⟨rfl, rfl⟩
  · obtain ⟨q, r, e1, e2, e3, e4, e5, e6⟩ := neg_parts a b hb
    have b1 := q_bd a b hb h0 h1
    have t1 : a.tdiv b = -q := by rw [← e1, ← Int.tdiv_eq_ediv_of_nonneg (by omega), Int.neg_tdiv, Int.neg_neg]
    have t2 : a.tmod b = -r := by rw [← e2, ← Int.tmod_eq_emod_of_nonneg (by omega), Int.neg_tmod, Int.neg_neg]
    have hne : b ≠ 0 := by omega
    rw [e6] at b1 ⊢
    clear e1 e2 e5 e6
    by_cases hr : 0 < r
    · rw [if_pos hr] at b1 ⊢
      go_enter Try.func60, Try.ntmps60
      go_wp2
      go_ret
      exact ⟨rfl, rfl⟩
    · rw [if_neg hr] at b1 ⊢
      go_enter Try.func60, Try.ntmps60
      go_wp2
      go_ret
      exact ⟨rfl, rfl⟩
set_option maxHeartbeats 400000 in
theorem rup_any (a b : Int) (w : World) (hb : 0 < b) (hb1 : b ≤ 9100000000000000000) (h0 : -9100000000000000000 ≤ a) (h1 : a ≤ 9100000000000000000) :
    Calls Try.prog 61 #[.int .i64 a, .int .i64 b] w fun e w' => e = .returned (.int .i64 (upD a b)) ∧ w = w' := by
  have k := rdown_any (-a) b w hb hb1 (by omega) (by omega)
  have bd := q_bd (-a) b hb (by omega) (by omega)
  unfold upD
  generalize (-a) / b = q at *
  have K := Lib.hid k
  clear k
  go_enter Try.func61, Try.ntmps61
  go_wp2_with fail
  refine K.out.mono ?_
  rintro e w1 ⟨rfl, rfl⟩
  go_wp2_with fail
  go_ret
  exact ⟨rfl, rfl⟩

/-- the error of a use -/
def usE (a m l : Int) : Int := if useB a m l = true then 0 else 7
theorem usE_7 {a m l : Int} (h : useB a m l = false) : usE a m l = 7 := by unfold usE; rw [h]; rfl
theorem usE_0 {a m l : Int} (h : useB a m l = true) : usE a m l = 0 := by unfold usE; rw [h]; rfl

set_option maxHeartbeats 1000000 in
theorem rused_any (a m l : Int) (w : World) :
    Calls Try.prog 65 #[.agg #[.int .i64 a, .int .i64 m, .int .i64 l]] w fun e w' => e = .returned (.int .i64 (usE a m l)) ∧ Own w.heap.size w w' := by
  have own0 : Own w.heap.size w (w.alloc (.cells #[.int .i64 a, .int .i64 m, .int .i64 l] 48)) := (Own.refl _ _).alloc (Nat.le_refl _) _
  have HU : Hid (useB a m l = (inB a 0 200000 && (inB m 0 600 && inB l 0 1000))) := rfl
  cases h1 : inB a 0 200000
  · have H1 := Lib.hid h1
    have HF : Hid (usE a m l = 7) := usE_7 (by rw [HU.out, h1]; rfl)
    clear h1
    go_enter Try.func65, Try.ntmps65
    go_wp2_with fail
    refine (rin_is H1.out _).mono ?_
    rintro e w1 ⟨rfl, rfl⟩
    go_wp2_with fail
    go_ret
    exact ⟨by rw [HF.out]; rfl, own0⟩
  · have H1 := Lib.hid h1
    cases h2 : inB m 0 600
    · have H2 := Lib.hid h2
      have HF : Hid (usE a m l = 7) := usE_7 (by rw [HU.out, h1, h2]; rfl)
      clear h1 h2
      go_enter Try.func65, Try.ntmps65
      go_wp2_with fail
      refine (rin_is H1.out _).mono ?_
      rintro e w1 ⟨rfl, rfl⟩
      go_wp2_with fail
      refine (rin_is H2.out _).mono ?_
      rintro e w1 ⟨rfl, rfl⟩
      go_wp2_with fail
      go_ret
      exact ⟨by rw [HF.out]; rfl, own0⟩
    · have H2 := Lib.hid h2
      cases h3 : inB l 0 1000
      · have H3 := Lib.hid h3
        have HF : Hid (usE a m l = 7) := usE_7 (by rw [HU.out, h1, h2, h3]; rfl)
        clear h1 h2 h3
        go_enter Try.func65, Try.ntmps65
        go_wp2_with fail
        refine (rin_is H1.out _).mono ?_
        rintro e w1 ⟨rfl, rfl⟩
        go_wp2_with fail
        refine (rin_is H2.out _).mono ?_
        rintro e w1 ⟨rfl, rfl⟩
        go_wp2_with fail
        refine (rin_is H3.out _).mono ?_
        rintro e w1 ⟨rfl, rfl⟩
        go_wp2_with fail
        go_ret
        exact ⟨by rw [HF.out]; rfl, own0⟩
      · have H3 := Lib.hid h3
        have HF : Hid (usE a m l = 0) := usE_0 (by rw [HU.out, h1, h2, h3]; rfl)
        clear h1 h2 h3
        go_enter Try.func65, Try.ntmps65
        go_wp2_with fail
        refine (rin_is H1.out _).mono ?_
        rintro e w1 ⟨rfl, rfl⟩
        go_wp2_with fail
        refine (rin_is H2.out _).mono ?_
        rintro e w1 ⟨rfl, rfl⟩
        go_wp2_with fail
        refine (rin_is H3.out _).mono ?_
        rintro e w1 ⟨rfl, rfl⟩
        go_wp2_with fail
        go_ret
        exact ⟨by rw [HF.out]; rfl, own0⟩
end Go.Proofs.Ytgmpipciinphiaa
