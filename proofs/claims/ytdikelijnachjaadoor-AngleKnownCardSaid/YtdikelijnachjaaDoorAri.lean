/- Plus, Minus, Times and Over of the code. -/
import Derived.Test.YtdikelijnachjaaDoorCmb
namespace Go.Proofs.YtdikelijnachjaaDoor
set_option linter.unusedSimpArgs false
set_option linter.unusedVariables false
open Go.RowKit SineNear

theorem bcellB {W w1 : World} (hb : Below W.heap.size W w1) : (∀ b o, b < W.heap.size → w1.cell? ⟨b, o, none⟩ = W.cell? ⟨b, o, none⟩) ∧ (∀ b o, b < W.heap.size → w1.frozen? ⟨b, o, none⟩ = W.frozen? ⟨b, o, none⟩) :=
  ⟨fun b o h => hb.cell (p := ⟨b, o, none⟩) h, fun b o h => hb.frozen (p := ⟨b, o, none⟩) h⟩

theorem valB_bd {lo hi : Int} (h : valB lo hi = true) : -3000000000 ≤ lo ∧ lo ≤ hi ∧ hi ≤ 3000000000 := of_decide_eq_true h

/-- a call that returns v, and makes memory of its own alone -/
def RetT (f : FuncId) (args : Array Value) (v : Value) : Prop := ∀ w : World, Calls Tryd.prog f args w fun e w' => e = .returned v ∧ Below w.heap.size w w'
theorem RetT.at {f : FuncId} {args : Array Value} {v : Value} (h : RetT f args v) (w : World) : Calls Tryd.prog f args w fun e w' => e = .returned v ∧ Below w.heap.size w w' := h w
theorem Ret1.toT {f : FuncId} {args : Array Value} {v : Value} (h : Ret1 f args v) : RetT f args v := fun w => (h w).mono fun _ _ ⟨e, o⟩ => ⟨e, o.below⟩

theorem prod_bd {a b : Int} (h0 : -3000000000 ≤ a) (h1 : a ≤ 3000000000) (h2 : -3000000000 ≤ b) (h3 : b ≤ 3000000000) : -9000000000000000000 ≤ a * b ∧ a * b ≤ 9000000000000000000 := by
  have p1 := Int.mul_nonneg (show 0 ≤ 3000000000 - a by omega) (show 0 ≤ 3000000000 - b by omega)
  have p2 := Int.mul_nonneg (show 0 ≤ 3000000000 + a by omega) (show 0 ≤ 3000000000 + b by omega)
  have p3 := Int.mul_nonneg (show 0 ≤ 3000000000 - a by omega) (show 0 ≤ 3000000000 + b by omega)
  have p4 := Int.mul_nonneg (show 0 ≤ 3000000000 + a by omega) (show 0 ≤ 3000000000 - b by omega)
  simp only [Int.sub_mul, Int.mul_sub, Int.add_mul, Int.mul_add] at p1 p2 p3 p4
  omega

/-- what the four operations return -/
def plusV (x0 x1 y0 y1 : Int) : Value := if valB x0 x1 && valB y0 y1 then resE (lo4 (x0 + y0) (x0 + y1) (x1 + y0) (x1 + y1)) (hi4 (x0 + y0) (x0 + y1) (x1 + y0) (x1 + y1)) else enclE 0 0 7
def minusV (x0 x1 y0 y1 : Int) : Value := if valB x0 x1 && valB y0 y1 then resE (lo4 (x0 - y0) (x0 - y1) (x1 - y0) (x1 - y1)) (hi4 (x0 - y0) (x0 - y1) (x1 - y0) (x1 - y1)) else enclE 0 0 7
def tLo (x0 x1 y0 y1 : Int) : Int := lo4 (x0 * y0 / 100000000) (x0 * y1 / 100000000) (x1 * y0 / 100000000) (x1 * y1 / 100000000)
def tHi (x0 x1 y0 y1 : Int) : Int := hi4 (upD (x0 * y0) 100000000) (upD (x0 * y1) 100000000) (upD (x1 * y0) 100000000) (upD (x1 * y1) 100000000)
def timesV (x0 x1 y0 y1 : Int) : Value := if valB x0 x1 && valB y0 y1 then resE (tLo x0 x1 y0 y1) (tHi x0 x1 y0 y1) else enclE 0 0 7
def oLo (x0 x1 y0 y1 : Int) : Int := lo4 (qLoQ (x0 * 100000000) y0) (qLoQ (x0 * 100000000) y1) (qLoQ (x1 * 100000000) y0) (qLoQ (x1 * 100000000) y1)
def oHi (x0 x1 y0 y1 : Int) : Int := hi4 (qHiQ (x0 * 100000000) y0) (qHiQ (x0 * 100000000) y1) (qHiQ (x1 * 100000000) y0) (qHiQ (x1 * 100000000) y1)
def zeroIn (y0 y1 : Int) : Bool := decide (y0 ≤ 0 ∧ 0 ≤ y1)
def overV (x0 x1 y0 y1 : Int) : Value := if valB x0 x1 && valB y0 y1 then (if zeroIn y0 y1 then enclE 0 0 8 else resE (oLo x0 x1 y0 y1) (oHi x0 x1 y0 y1)) else enclE 0 0 7

set_option maxHeartbeats 1000000 in
theorem plus_wrap (x0 x1 y0 y1 L H E : Int) (C : RetT 60 #[encl x0 x1, encl y0 y1, .func (.func 61) #[] #[]] (enclE L H E)) : RetT 30 #[encl x0 x1, encl y0 y1] (enclE L H E) := by
  intro w
  have C' := Lib.hid C
  clear C
  go_enter Tryd.func30, Tryd.ntmps30
  go_wp2_with fail
  refine (C'.out _).mono ?_
  rintro e w1 ⟨rfl, hb1⟩
  obtain ⟨hc, hf⟩ := bcellB hb1
  have hz1 : w.heap.size + 1 + 1 < w1.heap.size := by have := hb1.size; simp at this; omega
  have hbw : Below w.heap.size w w1 := ((((Below.refl _ _).alloc (Nat.le_refl _) _).alloc (by simp) _).alloc (by simp; omega) _).trans (hb1.mono (by simp; omega))
  go_wp2_with fail
  refine bodyPost_ret (v := enclE L H E) (by simp [results, Tryd.results30, go_sem, hc, hz1]) rfl ⟨rfl, ?_⟩
  exact (hbw.setCell (by simp; omega) _).setCell (by simp; omega) _
set_option maxHeartbeats 1000000 in
theorem minus_wrap (x0 x1 y0 y1 L H E : Int) (C : RetT 60 #[encl x0 x1, encl y0 y1, .func (.func 63) #[] #[]] (enclE L H E)) : RetT 32 #[encl x0 x1, encl y0 y1] (enclE L H E) := by
  intro w
  have C' := Lib.hid C
  clear C
  go_enter Tryd.func32, Tryd.ntmps32
  go_wp2_with fail
  refine (C'.out _).mono ?_
  rintro e w1 ⟨rfl, hb1⟩
  obtain ⟨hc, hf⟩ := bcellB hb1
  have hz1 : w.heap.size + 1 + 1 < w1.heap.size := by have := hb1.size; simp at this; omega
  have hbw : Below w.heap.size w w1 := ((((Below.refl _ _).alloc (Nat.le_refl _) _).alloc (by simp) _).alloc (by simp; omega) _).trans (hb1.mono (by simp; omega))
  go_wp2_with fail
  refine bodyPost_ret (v := enclE L H E) (by simp [results, Tryd.results32, go_sem, hc, hz1]) rfl ⟨rfl, ?_⟩
  exact (hbw.setCell (by simp; omega) _).setCell (by simp; omega) _
set_option maxHeartbeats 1000000 in
theorem times_wrap (x0 x1 y0 y1 L H E : Int) (C : RetT 60 #[encl x0 x1, encl y0 y1, .func (.func 64) #[] #[]] (enclE L H E)) : RetT 34 #[encl x0 x1, encl y0 y1] (enclE L H E) := by
  intro w
  have C' := Lib.hid C
  clear C
  go_enter Tryd.func34, Tryd.ntmps34
  go_wp2_with fail
  refine (C'.out _).mono ?_
  rintro e w1 ⟨rfl, hb1⟩
  obtain ⟨hc, hf⟩ := bcellB hb1
  have hz1 : w.heap.size + 1 + 1 < w1.heap.size := by have := hb1.size; simp at this; omega
  have hbw : Below w.heap.size w w1 := ((((Below.refl _ _).alloc (Nat.le_refl _) _).alloc (by simp) _).alloc (by simp; omega) _).trans (hb1.mono (by simp; omega))
  go_wp2_with fail
  refine bodyPost_ret (v := enclE L H E) (by simp [results, Tryd.results34, go_sem, hc, hz1]) rfl ⟨rfl, ?_⟩
  exact (hbw.setCell (by simp; omega) _).setCell (by simp; omega) _

set_option maxHeartbeats 1000000 in
theorem over_no (x0 x1 y0 y1 : Int) (h : valB x0 x1 = false ∨ valB y0 y1 = false) : RetT 36 #[encl x0 x1, encl y0 y1] (enclE 0 0 7) := by
  intro w
  cases hx : valB x0 x1
  · clear h
    go_enter Tryd.func36, Tryd.ntmps36
    go_wp2_with fail
    refine (isValues_any x0 x1 _).mono ?_
    rintro e w1 ⟨rfl, hb1⟩
    obtain ⟨hc, hf⟩ := bcell hb1
    have hz1 : w.heap.size + 1 + 1 < w1.heap.size := by have := hb1.size; simp at this; omega
    have hbw : Own w.heap.size w w1 := ((((Own.refl _ _).alloc (Nat.le_refl _) _).alloc (by simp) _).alloc (by simp; omega) _).trans (hb1.mono (by simp; omega))
    rw [hx]
    go_wp2_with fail
    refine bodyPost_ret (v := enclE 0 0 7) (by simp [results, Tryd.results36, go_sem, hc, hz1]) rfl ⟨rfl, Own.below ?_⟩
    exact (hbw.setCell (by simp; omega) _).setCell (by simp; omega) _
  · have hy : valB y0 y1 = false := by rcases h with h | h; rw [hx] at h; cases h; exact h
    clear h
    go_enter Tryd.func36, Tryd.ntmps36
    go_wp2_with fail
    refine (isValues_any x0 x1 _).mono ?_
    rintro e w1 ⟨rfl, hb1⟩
    obtain ⟨hc, hf⟩ := bcell hb1
    have hz1 : w.heap.size + 1 + 1 < w1.heap.size := by have := hb1.size; simp at this; omega
    have hbw : Own w.heap.size w w1 := ((((Own.refl _ _).alloc (Nat.le_refl _) _).alloc (by simp) _).alloc (by simp; omega) _).trans (hb1.mono (by simp; omega))
    rw [hx]
    go_wp2_with fail
    refine (isValues_any y0 y1 _).mono ?_
    rintro e w2 ⟨rfl, hb2⟩
    obtain ⟨hc2, hf2⟩ := bcell hb2
    have hz2 : w.heap.size + 1 + 1 < w2.heap.size := by have := hb2.size; omega
    have hbw2 : Own w.heap.size w w2 := hbw.trans (hb2.mono (by omega))
    rw [hy]
    go_wp2_with fail
    refine bodyPost_ret (v := enclE 0 0 7) (by simp [results, Tryd.results36, go_sem, hc, hc2, hz1, hz2]) rfl ⟨rfl, Own.below ?_⟩
    exact (hbw2.setCell (by simp; omega) _).setCell (by simp; omega) _

set_option maxHeartbeats 1000000 in
theorem over_zero (x0 x1 y0 y1 : Int) (hx : valB x0 x1 = true) (hy : valB y0 y1 = true) (z0 : y0 ≤ 0) (z1 : 0 ≤ y1) : RetT 36 #[encl x0 x1, encl y0 y1] (enclE 0 0 8) := by
  intro w
  go_enter Tryd.func36, Tryd.ntmps36
  go_wp2_with fail
  refine (isValues_any x0 x1 _).mono ?_
  rintro e w1 ⟨rfl, hb1⟩
  obtain ⟨hc, hf⟩ := bcell hb1
  have hz1 : w.heap.size + 1 + 1 < w1.heap.size := by have := hb1.size; simp at this; omega
  have hbw : Own w.heap.size w w1 := ((((Own.refl _ _).alloc (Nat.le_refl _) _).alloc (by simp) _).alloc (by simp; omega) _).trans (hb1.mono (by simp; omega))
  rw [hx]
  go_wp2_with fail
  refine (isValues_any y0 y1 _).mono ?_
  rintro e w2 ⟨rfl, hb2⟩
  obtain ⟨hc2, hf2⟩ := bcell hb2
  have hz2 : w.heap.size + 1 + 1 < w2.heap.size := by have := hb2.size; omega
  have hz3 : w.heap.size + 1 < w1.heap.size := by omega
  have hbw2 : Own w.heap.size w w2 := hbw.trans (hb2.mono (by omega))
  rw [hy]
  go_wp2_with fail
  refine bodyPost_ret (v := enclE 0 0 8) (by simp [results, Tryd.results36, go_sem, hc, hc2, hz1, hz2]) rfl ⟨rfl, Own.below ?_⟩
  exact (hbw2.setCell (by simp; omega) _).setCell (by simp; omega) _

set_option maxHeartbeats 1000000 in
theorem over_wrap (x0 x1 y0 y1 L H E : Int) (hx : valB x0 x1 = true) (hy : valB y0 y1 = true) (z : 0 < y0 ∨ y1 < 0) (C : RetT 60 #[encl x0 x1, encl y0 y1, .func (.func 68) #[] #[]] (enclE L H E)) : RetT 36 #[encl x0 x1, encl y0 y1] (enclE L H E) := by
  intro w
  have C' := Lib.hid C
  clear C
  by_cases z0 : y0 ≤ 0
  all_goals
    have z1 : 0 < y0 ∨ ¬ (0 ≤ y1) := by omega
    go_enter Tryd.func36, Tryd.ntmps36
    go_wp2_with fail
    refine (isValues_any x0 x1 _).mono ?_
    rintro e w1 ⟨rfl, hb1⟩
    obtain ⟨hc, hf⟩ := bcell hb1
    have hz1 : w.heap.size + 1 + 1 < w1.heap.size := by have := hb1.size; simp at this; omega
    have hbw : Own w.heap.size w w1 := ((((Own.refl _ _).alloc (Nat.le_refl _) _).alloc (by simp) _).alloc (by simp; omega) _).trans (hb1.mono (by simp; omega))
    rw [hx]
    go_wp2_with fail
    refine (isValues_any y0 y1 _).mono ?_
    rintro e w2 ⟨rfl, hb2⟩
    obtain ⟨hc2, hf2⟩ := bcell hb2
    have hz2 : w.heap.size + 1 + 1 < w2.heap.size := by have := hb2.size; omega
    have hz3 : w.heap.size + 1 < w1.heap.size := by omega
    have hz4 : w.heap.size < w1.heap.size := by omega
    have hbw2 : Own w.heap.size w w2 := hbw.trans (hb2.mono (by omega))
    rw [hy]
    (first | (have z2 : ¬ (0 ≤ y1) := by omega) | skip)
    go_wp2_with fail
    refine (C'.out _).mono ?_
    rintro e w3 ⟨rfl, hb3⟩
    obtain ⟨hc3, hf3⟩ := bcellB hb3
    have hbw3 : Below w.heap.size w w3 := hbw2.below.trans (hb3.mono hbw2.size)
    go_wp2_with fail
    refine bodyPost_ret (v := enclE L H E) (by simp [results, Tryd.results36, go_sem, hc, hc2, hc3, hz1, hz2]) rfl ⟨rfl, ?_⟩
    exact (hbw3.setCell (by simp; omega) _).setCell (by simp; omega) _

theorem egP : ∀ args w, (callFunc 61 args).run Tryd.prog w = .ok (.enter 61 args) w := enters_of Tryd.func61 (by kernel_rfl) rfl
theorem egM : ∀ args w, (callFunc 63 args).run Tryd.prog w = .ok (.enter 63 args) w := enters_of Tryd.func63 (by kernel_rfl) rfl
theorem egT : ∀ args w, (callFunc 64 args).run Tryd.prog w = .ok (.enter 64 args) w := enters_of Tryd.func64 (by kernel_rfl) rfl
theorem egO : ∀ args w, (callFunc 68 args).run Tryd.prog w = .ok (.enter 68 args) w := enters_of Tryd.func68 (by kernel_rfl) rfl

theorem and_no {a b : Bool} (h : (a && b) = false) : a = false ∨ b = false := by cases a <;> cases b <;> simp_all
theorem and_yes {a b : Bool} (h : (a && b) = true) : a = true ∧ b = true := by cases a <;> cases b <;> simp_all

theorem plus_any (x0 x1 y0 y1 : Int) : RetT 30 #[encl x0 x1, encl y0 y1] (plusV x0 x1 y0 y1) := by
  unfold plusV
  cases h : (valB x0 x1 && valB y0 y1)
  · exact plus_wrap _ _ _ _ _ _ _ fun w => (combine_no _ _ _ _ _ w (and_no h)).mono fun _ _ ⟨e, o⟩ => ⟨e, o.below⟩
  · obtain ⟨hx, hy⟩ := and_yes h
    have bx := valB_bd hx
    have bY := valB_bd hy
    exact plus_wrap _ _ _ _ _ _ _ fun w => combine_yes _ _ _ _ _ _ _ _ _ _ _ _ _ w hx hy egP (plus1_any _ _ (by omega) (by omega) (by omega) (by omega)) (plus1_any _ _ (by omega) (by omega) (by omega) (by omega)) (plus1_any _ _ (by omega) (by omega) (by omega) (by omega)) (plus1_any _ _ (by omega) (by omega) (by omega) (by omega))
theorem minus_any (x0 x1 y0 y1 : Int) : RetT 32 #[encl x0 x1, encl y0 y1] (minusV x0 x1 y0 y1) := by
  unfold minusV
  cases h : (valB x0 x1 && valB y0 y1)
  · exact minus_wrap _ _ _ _ _ _ _ fun w => (combine_no _ _ _ _ _ w (and_no h)).mono fun _ _ ⟨e, o⟩ => ⟨e, o.below⟩
  · obtain ⟨hx, hy⟩ := and_yes h
    have bx := valB_bd hx
    have bY := valB_bd hy
    exact minus_wrap _ _ _ _ _ _ _ fun w => combine_yes _ _ _ _ _ _ _ _ _ _ _ _ _ w hx hy egM (minus1_any _ _ (by omega) (by omega) (by omega) (by omega)) (minus1_any _ _ (by omega) (by omega) (by omega) (by omega)) (minus1_any _ _ (by omega) (by omega) (by omega) (by omega)) (minus1_any _ _ (by omega) (by omega) (by omega) (by omega))
theorem times_any (x0 x1 y0 y1 : Int) : RetT 34 #[encl x0 x1, encl y0 y1] (timesV x0 x1 y0 y1) := by
  unfold timesV tLo tHi
  cases h : (valB x0 x1 && valB y0 y1)
  · exact times_wrap _ _ _ _ _ _ _ fun w => (combine_no _ _ _ _ _ w (and_no h)).mono fun _ _ ⟨e, o⟩ => ⟨e, o.below⟩
  · obtain ⟨hx, hy⟩ := and_yes h
    have bx := valB_bd hx
    have bY := valB_bd hy
    have p1 := @prod_bd x0 y0 (by omega) (by omega) (by omega) (by omega)
    have p2 := @prod_bd x0 y1 (by omega) (by omega) (by omega) (by omega)
    have p3 := @prod_bd x1 y0 (by omega) (by omega) (by omega) (by omega)
    have p4 := @prod_bd x1 y1 (by omega) (by omega) (by omega) (by omega)
    exact times_wrap _ _ _ _ _ _ _ fun w => combine_yes _ _ _ _ _ _ _ _ _ _ _ _ _ w hx hy egT (times1_any _ _ p1.1 p1.2) (times1_any _ _ p2.1 p2.2) (times1_any _ _ p3.1 p3.2) (times1_any _ _ p4.1 p4.2)
theorem over_any (x0 x1 y0 y1 : Int) : RetT 36 #[encl x0 x1, encl y0 y1] (overV x0 x1 y0 y1) := by
  unfold overV oLo oHi
  cases h : (valB x0 x1 && valB y0 y1)
  · exact over_no _ _ _ _ (and_no h)
  · obtain ⟨hx, hy⟩ := and_yes h
    have bx := valB_bd hx
    have bY := valB_bd hy
    cases hz : zeroIn y0 y1
    · have z : ¬ (y0 ≤ 0 ∧ 0 ≤ y1) := of_decide_eq_false hz
      exact over_wrap _ _ _ _ _ _ _ hx hy (by omega) fun w => combine_yes _ _ _ _ _ _ _ _ _ _ _ _ _ w hx hy egO (over1_any _ _ (by omega) (by omega) (by omega) (by omega) (by omega)) (over1_any _ _ (by omega) (by omega) (by omega) (by omega) (by omega)) (over1_any _ _ (by omega) (by omega) (by omega) (by omega) (by omega)) (over1_any _ _ (by omega) (by omega) (by omega) (by omega) (by omega))
    · have z : y0 ≤ 0 ∧ 0 ≤ y1 := of_decide_eq_true hz
      exact over_zero _ _ _ _ hx hy z.1 z.2
end Go.Proofs.YtdikelijnachjaaDoor
