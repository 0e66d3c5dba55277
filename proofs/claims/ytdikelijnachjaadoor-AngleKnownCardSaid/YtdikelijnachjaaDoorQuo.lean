/- Quotients of the code, rounded down and up. -/
import Derived.Test.YtdikelijnachjaaDoorWof
import Derived.IntWalk
import Derived.Lib.Hide
namespace Go.Proofs.YtdikelijnachjaaDoor
set_option linter.unusedSimpArgs false
set_option linter.unusedVariables false
open Go.RowKit SineNear

/-- a by b, rounded up -/
def upD (a b : Int) : Int := -((-a) / b)

theorem neg_parts (a b : Int) (hb : 0 < b) : ∃ q r : Int, (-a) / b = q ∧ (-a) % b = r ∧ 0 ≤ r ∧ r < b ∧ a = -(b * q) - r ∧ a / b = if 0 < r then -q - 1 else -q := by
  refine ⟨(-a) / b, (-a) % b, rfl, rfl, Int.emod_nonneg _ (by omega), Int.emod_lt_of_pos _ hb, ?_, ?_⟩
  · have := Int.mul_ediv_add_emod (-a) b; omega
  · have h := Int.mul_ediv_add_emod (-a) b
    have h0 := Int.emod_nonneg (-a) (show b ≠ 0 by omega)
    have h1 := Int.emod_lt_of_pos (-a) hb
    generalize (-a) / b = q at *
    generalize (-a) % b = r at *
    split
    · exact ((Int.ediv_emod_unique hb (r := b - r)).2 ⟨by rw [Int.mul_sub, Int.mul_neg]; omega, by omega, by omega⟩).1
    · exact ((Int.ediv_emod_unique hb (r := 0)).2 ⟨by rw [Int.mul_neg]; omega, by omega, by omega⟩).1
theorem pos_parts (a b : Int) (hb : 0 < b) : ∃ q r : Int, a / b = q ∧ a % b = r ∧ 0 ≤ r ∧ r < b ∧ upD a b = if 0 < r then q + 1 else q := by
  obtain ⟨q, r, h1, h2, h3, h4, h5, h6⟩ := neg_parts (-a) b hb
  rw [Int.neg_neg] at h1 h2
  refine ⟨q, r, h1, h2, h3, h4, ?_⟩
  unfold upD; rw [h6]; split <;> omega

theorem q_bd (a b : Int) (hb : 0 < b) (h0 : -9100000000000000000 ≤ a) (h1 : a ≤ 9100000000000000000) : -9100000000000000000 ≤ a / b ∧ a / b ≤ 9100000000000000000 := by
  constructor
  · exact Int.le_ediv_of_mul_le hb (by have := Int.mul_le_mul_of_nonneg_left (show (1:Int) ≤ b by omega) (show (0:Int) ≤ 9100000000000000000 by decide); omega)
  · by_cases c : 0 ≤ a
    · exact Int.le_trans (Int.ediv_le_self _ c) h1
    · have := Int.ediv_neg_of_neg_of_pos (show a < 0 by omega) hb; omega

set_option maxHeartbeats 400000 in
theorem down_any (a b : Int) (w : World) (hb : 0 < b) (hb1 : b ≤ 9100000000000000000) (h0 : -9100000000000000000 ≤ a) (h1 : a ≤ 9100000000000000000) :
    Calls Tryd.prog 86 #[.int .i64 a, .int .i64 b] w fun e w' => e = .returned (.int .i64 (a / b)) ∧ w = w' := by
  by_cases ha : 0 ≤ a
  · obtain ⟨q, r, e1, e2, e3, e4, _⟩ := pos_parts a b hb
    have b1 := q_bd a b hb h0 h1
    rw [e1] at b1
    have hr : ¬ r < 0 := by omega
    have H1 : Hid (a / b = q) := e1
    clear e1
    go_enter Tryd.func86, Tryd.ntmps86
    go_wp2
    go_ret
    exact ⟨rfl, rfl⟩
  · obtain ⟨q, r, e1, e2, e3, e4, e5, e6⟩ := neg_parts a b hb
    have b1 := q_bd a b hb h0 h1
    have t1 : a.tdiv b = -q := by rw [← e1, ← Int.tdiv_eq_ediv_of_nonneg (by omega), Int.neg_tdiv, Int.neg_neg]
    have t2 : a.tmod b = -r := by rw [← e2, ← Int.tmod_eq_emod_of_nonneg (by omega), Int.neg_tmod, Int.neg_neg]
    have hne : b ≠ 0 := by omega
    rw [e6] at b1 ⊢
    clear e1 e2 e5 e6
    by_cases hr : 0 < r
    · rw [if_pos hr] at b1 ⊢
      go_enter Tryd.func86, Tryd.ntmps86
      go_wp2
      go_ret
      exact ⟨rfl, rfl⟩
    · rw [if_neg hr] at b1 ⊢
      go_enter Tryd.func86, Tryd.ntmps86
      go_wp2
      go_ret
      exact ⟨rfl, rfl⟩

theorem up_bd (a b : Int) (hb : 0 < b) (h0 : -9100000000000000000 ≤ a) (h1 : a ≤ 9100000000000000000) : -9100000000000000000 ≤ upD a b ∧ upD a b ≤ 9100000000000000000 := by
  have := q_bd (-a) b hb (by omega) (by omega)
  unfold upD; omega

set_option maxHeartbeats 400000 in
theorem up_any (a b : Int) (w : World) (hb : 0 < b) (hb1 : b ≤ 9100000000000000000) (h0 : -9100000000000000000 ≤ a) (h1 : a ≤ 9100000000000000000) :
    Calls Tryd.prog 87 #[.int .i64 a, .int .i64 b] w fun e w' => e = .returned (.int .i64 (upD a b)) ∧ w = w' := by
  by_cases ha : 0 ≤ a
  · obtain ⟨q, r, e1, e2, e3, e4, e5⟩ := pos_parts a b hb
    have b1 := q_bd a b hb h0 h1
    rw [e1] at b1
    rw [e5]
    clear e5
    have t1 : a.tdiv b = q := by rw [← e1, ← Int.tdiv_eq_ediv_of_nonneg ha]
    have t2 : a.tmod b = r := by rw [← e2, ← Int.tmod_eq_emod_of_nonneg ha]
    by_cases hr : 0 < r
    · rw [if_pos hr]
      go_enter Tryd.func87, Tryd.ntmps87
      go_wp2
      go_ret
      exact ⟨rfl, rfl⟩
    · rw [if_neg hr]
      go_enter Tryd.func87, Tryd.ntmps87
      go_wp2
      go_ret
      exact ⟨rfl, rfl⟩
  · obtain ⟨q, r, e1, e2, e3, e4, e5, e6⟩ := neg_parts a b hb
    have b1 := q_bd (-a) b hb (by omega) (by omega)
    rw [e1] at b1
    have t1 : a.tdiv b = -q := by rw [← e1, ← Int.tdiv_eq_ediv_of_nonneg (by omega), Int.neg_tdiv, Int.neg_neg]
    have t2 : a.tmod b = -r := by rw [← e2, ← Int.tmod_eq_emod_of_nonneg (by omega), Int.neg_tmod, Int.neg_neg]
    have hne : b ≠ 0 := by omega
    have hr : ¬ 0 < -r := by omega
    unfold upD
    rw [e1]
    clear e1 e2 e5 e6
    go_enter Tryd.func87, Tryd.ntmps87
    go_wp2
    go_ret
    exact ⟨rfl, rfl⟩

/-- the least enclosure of a by b, which is not 0 -/
def qLoQ (a b : Int) : Int := if b < 0 then (-a) / (-b) else a / b
def qHiQ (a b : Int) : Int := if b < 0 then upD (-a) (-b) else upD a b

set_option maxHeartbeats 400000 in
theorem quotient_any (a b : Int) (w : World) (hb : b ≠ 0) (hb0 : -9100000000000000000 ≤ b) (hb1 : b ≤ 9100000000000000000) (h0 : -9100000000000000000 ≤ a) (h1 : a ≤ 9100000000000000000) :
    Calls Tryd.prog 65 #[.int .i64 a, .int .i64 b] w fun e w' => e = .returned (encl (qLoQ a b) (qHiQ a b)) ∧ Own w.heap.size w w' := by
  by_cases hn : b < 0
  · unfold qLoQ qHiQ
    rw [if_pos hn, if_pos hn]
    go_enter Tryd.func65, Tryd.ntmps65
    go_wp2_with fail
    refine (down_any (-a) (-b) _ (by omega) (by omega) (by omega) (by omega)).mono ?_
    rintro e w' ⟨rfl, rfl⟩
    go_wp2_with fail
    refine (up_any (-a) (-b) _ (by omega) (by omega) (by omega) (by omega)).mono ?_
    rintro e w' ⟨rfl, rfl⟩
    go_wp2_with fail
    refine bodyPost_ret (v := encl _ _) (by simp [results, Tryd.results65, go_sem]) rfl ⟨rfl, ?_⟩
    exact (Own.refl _ _).alloc (Nat.le_refl _) _
  · unfold qLoQ qHiQ
    rw [if_neg hn, if_neg hn]
    go_enter Tryd.func65, Tryd.ntmps65
    go_wp2_with fail
    refine (down_any a b _ (by omega) (by omega) (by omega) (by omega)).mono ?_
    rintro e w' ⟨rfl, rfl⟩
    go_wp2_with fail
    refine (up_any a b _ (by omega) (by omega) (by omega) (by omega)).mono ?_
    rintro e w' ⟨rfl, rfl⟩
    go_wp2_with fail
    refine bodyPost_ret (v := encl _ _) (by simp [results, Tryd.results65, go_sem]) rfl ⟨rfl, ?_⟩
    exact (Own.refl _ _).alloc (Nat.le_refl _) _

/-- valid enclosures of values -/
def valB (lo hi : Int) : Bool := inB lo hi (-3000000000) 3000000000

set_option maxHeartbeats 400000 in
theorem isValues_any (lo hi : Int) (w : World) :
    Calls Tryd.prog 67 #[encl lo hi] w fun e w' => e = .returned (.bool (valB lo hi)) ∧ Own w.heap.size w w' := by
  go_enter Tryd.func67, Tryd.ntmps67
  go_wp2_with fail
  refine (isWithin_any lo hi (-3000000000) 3000000000 _).mono ?_
  rintro e w1 ⟨rfl, hb1⟩
  have hbw : Own w.heap.size w w1 := (((Own.refl _ _).alloc (Nat.le_refl _) _)).trans (hb1.mono (by simp))
  go_wp2_with fail
  go_ret
  exact ⟨rfl, hbw⟩

/-- a call that returns v -/
def Ret1 (f : FuncId) (args : Array Value) (v : Value) : Prop := ∀ w : World, Calls Tryd.prog f args w fun e w' => e = .returned v ∧ Own w.heap.size w w'
theorem Ret1.at {f : FuncId} {args : Array Value} {v : Value} (h : Ret1 f args v) (w : World) : Calls Tryd.prog f args w fun e w' => e = .returned v ∧ Own w.heap.size w w' := h w

set_option maxHeartbeats 400000 in
theorem times1_any (a b : Int) (h0 : -9000000000000000000 ≤ a * b) (h1 : a * b ≤ 9000000000000000000) :
    Ret1 64 #[.int .i64 a, .int .i64 b] (encl (a * b / 100000000) (upD (a * b) 100000000)) := by
  intro w
  have hw := IntWalk.i64_in (a * b) (by omega)
  have e1 : qLoQ (a * b) 100000000 = a * b / 100000000 := rfl
  have e2 : qHiQ (a * b) 100000000 = upD (a * b) 100000000 := rfl
  have Q := fun w => quotient_any (a * b) 100000000 w (by omega) (by omega) (by omega) (by omega) (by omega)
  rw [e1, e2] at Q
  have Q := Lib.hid Q
  clear e1 e2
  go_enter Tryd.func64, Tryd.ntmps64
  go_wp2_with fail
  refine (Q.out _).mono ?_
  rintro e w1 ⟨rfl, hb1⟩
  obtain ⟨hc, hf⟩ := bcell hb1
  go_wp2_with fail
  refine bodyPost_ret (v := encl _ _) (by simp [results, Tryd.results64, go_sem, hc]) rfl ⟨rfl, ?_⟩
  exact ((((Own.refl _ _).alloc (Nat.le_refl _) _).trans (hb1.mono (by simp))).setCell (by simp) _).setCell (by simp) _

set_option maxHeartbeats 400000 in
theorem over1_any (a b : Int) (hb : b ≠ 0) (h0 : -3000000000 ≤ a) (h1 : a ≤ 3000000000) (h2 : -3000000000 ≤ b) (h3 : b ≤ 3000000000) :
    Ret1 68 #[.int .i64 a, .int .i64 b] (encl (qLoQ (a * 100000000) b) (qHiQ (a * 100000000) b)) := by
  intro w
  go_enter Tryd.func68, Tryd.ntmps68
  go_wp2_with fail
  refine (quotient_any (a * 100000000) b _ (by omega) (by omega) (by omega) (by omega) (by omega)).mono ?_
  rintro e w1 ⟨rfl, hb1⟩
  obtain ⟨hc, hf⟩ := bcell hb1
  go_wp2_with fail
  refine bodyPost_ret (v := encl _ _) (by simp [results, Tryd.results68, go_sem, hc]) rfl ⟨rfl, ?_⟩
  exact ((((Own.refl _ _).alloc (Nat.le_refl _) _).trans (hb1.mono (by simp))).setCell (by simp) _).setCell (by simp) _

set_option maxHeartbeats 400000 in
theorem plus1_any (a b : Int) (h0 : -3000000000 ≤ a) (h1 : a ≤ 3000000000) (h2 : -3000000000 ≤ b) (h3 : b ≤ 3000000000) :
    Ret1 61 #[.int .i64 a, .int .i64 b] (encl (a + b) (a + b)) := by
  intro w
  go_enter Tryd.func61, Tryd.ntmps61
  go_wp2_with fail
  refine (only_any (a + b) _).mono ?_
  rintro e w1 ⟨rfl, hb1⟩
  obtain ⟨hc, hf⟩ := bcell hb1
  go_wp2_with fail
  refine bodyPost_ret (v := encl _ _) (by simp [results, Tryd.results61, go_sem, hc]) rfl ⟨rfl, ?_⟩
  exact ((((Own.refl _ _).alloc (Nat.le_refl _) _).trans (hb1.mono (by simp))).setCell (by simp) _).setCell (by simp) _

set_option maxHeartbeats 400000 in
theorem minus1_any (a b : Int) (h0 : -3000000000 ≤ a) (h1 : a ≤ 3000000000) (h2 : -3000000000 ≤ b) (h3 : b ≤ 3000000000) :
    Ret1 63 #[.int .i64 a, .int .i64 b] (encl (a - b) (a - b)) := by
  intro w
  go_enter Tryd.func63, Tryd.ntmps63
  go_wp2_with fail
  refine (only_any (a - b) _).mono ?_
  rintro e w1 ⟨rfl, hb1⟩
  obtain ⟨hc, hf⟩ := bcell hb1
  go_wp2_with fail
  refine bodyPost_ret (v := encl _ _) (by simp [results, Tryd.results63, go_sem, hc]) rfl ⟨rfl, ?_⟩
  exact ((((Own.refl _ _).alloc (Nat.le_refl _) _).trans (hb1.mono (by simp))).setCell (by simp) _).setCell (by simp) _
end Go.Proofs.YtdikelijnachjaaDoor
