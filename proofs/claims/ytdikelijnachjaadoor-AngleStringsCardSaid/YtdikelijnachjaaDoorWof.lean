/- SinOf, CosOf, Sin, Cos of the code. -/
import Derived.Test.YtdikelijnachjaaDoorWjoin
namespace Go.Proofs.YtdikelijnachjaaDoor
set_option linter.unusedSimpArgs false
set_option linter.unusedVariables false
open Go.RowKit SineNear

/-- an enclosure and an error -/
abbrev enclE (lo hi e : Int) : Value := .tuple #[.agg #[.int .i64 lo, .int .i64 hi], .int .i64 e]

/-- what SinOf returns -/
def sofLo (lo hi : Int) : Int := if inB lo hi (-3600000000) 3600000000 then siLo lo hi else 0
def sofHi (lo hi : Int) : Int := if inB lo hi (-3600000000) 3600000000 then siHi lo hi else 0
def cofLo (lo hi : Int) : Int := if inB lo hi (-3600000000) 3600000000 then siLo (lo + 90000000) (hi + 90000000) else 0
def cofHi (lo hi : Int) : Int := if inB lo hi (-3600000000) 3600000000 then siHi (lo + 90000000) (hi + 90000000) else 0
def angE (lo hi : Int) : Int := if inB lo hi (-3600000000) 3600000000 then 0 else 7

set_option maxHeartbeats 1000000 in
theorem sinOf_any (lo hi : Int) (w : World) :
    Calls Tryd.prog 19 #[encl lo hi] w fun e w' => e = .returned (enclE (sofLo lo hi) (sofHi lo hi) (angE lo hi)) ∧ Own w.heap.size w w' := by
  unfold sofLo sofHi angE
  cases h : inB lo hi (-3600000000) 3600000000
  · simp only [Bool.false_eq_true, if_false]
    go_enter Tryd.func19, Tryd.ntmps19
    go_wp2_with fail
    refine (isWithin_any lo hi (-3600000000) 3600000000 _).mono ?_
    rintro e w1 ⟨rfl, hb1⟩
    obtain ⟨hc, hf⟩ := bcell hb1
    have hz1 : w.heap.size + 1 < w1.heap.size := by have := hb1.size; simp at this; omega
    have hbw : Own w.heap.size w w1 := (((Own.refl _ _).alloc (Nat.le_refl _) _).alloc (by simp) _).trans (hb1.mono (by simp; omega))
    go_wp2_with fail
    refine bodyPost_ret (v := enclE 0 0 7) (by simp [results, Tryd.results19, go_sem, hc]) rfl ⟨rfl, ?_⟩
    repeat' (first | exact hbw | exact Nat.le_refl _ | refine Own.setCell ?_ ?_ _ | refine Own.alloc ?_ ?_ _)
    all_goals (first | (simp; done) | (simp; omega))
  · simp only [if_true]
    obtain ⟨i1, i2, i3⟩ := inB_bd h
    go_enter Tryd.func19, Tryd.ntmps19
    go_wp2_with fail
    refine (isWithin_any lo hi (-3600000000) 3600000000 _).mono ?_
    rintro e w1 ⟨rfl, hb1⟩
    obtain ⟨hc, hf⟩ := bcell hb1
    have hz1 : w.heap.size + 1 < w1.heap.size := by have := hb1.size; simp at this; omega
    have hbw : Own w.heap.size w w1 := (((Own.refl _ _).alloc (Nat.le_refl _) _).alloc (by simp) _).trans (hb1.mono (by simp; omega))
    go_wp2_with fail
    refine (sines_any lo hi _ (by omega) (by omega) (by omega) (by omega)).mono ?_
    rintro e w2 ⟨rfl, hb2⟩
    have hc2 : ∀ o, w2.cell? ⟨w.heap.size + 1, o, none⟩ = w1.cell? ⟨w.heap.size + 1, o, none⟩ := fun o => hb2.cell (p := ⟨w.heap.size + 1, o, none⟩) hz1
    have hf2 : ∀ o, w2.frozen? ⟨w.heap.size + 1, o, none⟩ = w1.frozen? ⟨w.heap.size + 1, o, none⟩ := fun o => hb2.frozen (p := ⟨w.heap.size + 1, o, none⟩) hz1
    have hbw2 : Own w.heap.size w w2 := hbw.trans (hb2.mono (by omega))
    go_wp2_with fail
    refine bodyPost_ret (v := enclE _ _ 0) (by simp [results, Tryd.results19, go_sem, hc, hc2]) rfl ⟨rfl, ?_⟩
    repeat' (first | exact hbw2 | exact Nat.le_refl _ | refine Own.setCell ?_ ?_ _ | refine Own.alloc ?_ ?_ _)
    all_goals (first | (simp; done) | (simp; omega))

set_option maxHeartbeats 1000000 in
theorem cosOf_any (lo hi : Int) (w : World) :
    Calls Tryd.prog 21 #[encl lo hi] w fun e w' => e = .returned (enclE (cofLo lo hi) (cofHi lo hi) (angE lo hi)) ∧ Own w.heap.size w w' := by
  unfold cofLo cofHi angE
  cases h : inB lo hi (-3600000000) 3600000000
  · simp only [Bool.false_eq_true, if_false]
    go_enter Tryd.func21, Tryd.ntmps21
    go_wp2_with fail
    refine (isWithin_any lo hi (-3600000000) 3600000000 _).mono ?_
    rintro e w1 ⟨rfl, hb1⟩
    obtain ⟨hc, hf⟩ := bcell hb1
    have hz1 : w.heap.size + 1 < w1.heap.size := by have := hb1.size; simp at this; omega
    have hbw : Own w.heap.size w w1 := (((Own.refl _ _).alloc (Nat.le_refl _) _).alloc (by simp) _).trans (hb1.mono (by simp; omega))
    go_wp2_with fail
    refine bodyPost_ret (v := enclE 0 0 7) (by simp [results, Tryd.results21, go_sem, hc]) rfl ⟨rfl, ?_⟩
    repeat' (first | exact hbw | exact Nat.le_refl _ | refine Own.setCell ?_ ?_ _ | refine Own.alloc ?_ ?_ _)
    all_goals (first | (simp; done) | (simp; omega))
  · simp only [if_true]
    obtain ⟨i1, i2, i3⟩ := inB_bd h
    go_enter Tryd.func21, Tryd.ntmps21
    go_wp2_with fail
    refine (isWithin_any lo hi (-3600000000) 3600000000 _).mono ?_
    rintro e w1 ⟨rfl, hb1⟩
    obtain ⟨hc, hf⟩ := bcell hb1
    have hz1 : w.heap.size + 1 < w1.heap.size := by have := hb1.size; simp at this; omega
    have hbw : Own w.heap.size w w1 := (((Own.refl _ _).alloc (Nat.le_refl _) _).alloc (by simp) _).trans (hb1.mono (by simp; omega))
    go_wp2_with fail
    refine (sines_any (lo + 90000000) (hi + 90000000) _ (by omega) (by omega) (by omega) (by omega)).mono ?_
    rintro e w2 ⟨rfl, hb2⟩
    have hc2 : ∀ o, w2.cell? ⟨w.heap.size + 1, o, none⟩ = w1.cell? ⟨w.heap.size + 1, o, none⟩ := fun o => hb2.cell (p := ⟨w.heap.size + 1, o, none⟩) hz1
    have hf2 : ∀ o, w2.frozen? ⟨w.heap.size + 1, o, none⟩ = w1.frozen? ⟨w.heap.size + 1, o, none⟩ := fun o => hb2.frozen (p := ⟨w.heap.size + 1, o, none⟩) hz1
    have hbw2 : Own w.heap.size w w2 := hbw.trans (hb2.mono (by omega))
    go_wp2_with fail
    refine bodyPost_ret (v := enclE _ _ 0) (by simp [results, Tryd.results21, go_sem, hc, hc2]) rfl ⟨rfl, ?_⟩
    repeat' (first | exact hbw2 | exact Nat.le_refl _ | refine Own.setCell ?_ ?_ _ | refine Own.alloc ?_ ?_ _)
    all_goals (first | (simp; done) | (simp; omega))

set_option maxHeartbeats 400000 in
theorem sin_any (a : Int) (w : World) :
    Calls Tryd.prog 15 #[.int .i64 a] w fun e w' => e = .returned (enclE (sofLo a a) (sofHi a a) (angE a a)) ∧ Own w.heap.size w w' := by
  go_enter Tryd.func15, Tryd.ntmps15
  go_wp2_with fail
  refine (sinOf_any a a _).mono ?_
  rintro e w1 ⟨rfl, hb1⟩
  obtain ⟨hc, hf⟩ := bcell hb1
  have hbw : Own w.heap.size w w1 := (((Own.refl _ _).alloc (Nat.le_refl _) _)).trans (hb1.mono (by simp))
  go_wp2_with fail
  refine bodyPost_ret (v := enclE _ _ _) (by simp [results, Tryd.results15, go_sem, hc]) rfl ⟨rfl, ?_⟩
  repeat' (first | exact hbw | exact Nat.le_refl _ | refine Own.setCell ?_ ?_ _ | refine Own.alloc ?_ ?_ _)

set_option maxHeartbeats 400000 in
theorem cos_any (a : Int) (w : World) :
    Calls Tryd.prog 17 #[.int .i64 a] w fun e w' => e = .returned (enclE (cofLo a a) (cofHi a a) (angE a a)) ∧ Own w.heap.size w w' := by
  go_enter Tryd.func17, Tryd.ntmps17
  go_wp2_with fail
  refine (cosOf_any a a _).mono ?_
  rintro e w1 ⟨rfl, hb1⟩
  obtain ⟨hc, hf⟩ := bcell hb1
  have hbw : Own w.heap.size w w1 := (((Own.refl _ _).alloc (Nat.le_refl _) _)).trans (hb1.mono (by simp))
  go_wp2_with fail
  refine bodyPost_ret (v := enclE _ _ _) (by simp [results, Tryd.results17, go_sem, hc]) rfl ⟨rfl, ?_⟩
  repeat' (first | exact hbw | exact Nat.le_refl _ | refine Own.setCell ?_ ?_ _ | refine Own.alloc ?_ ?_ _)
end Go.Proofs.YtdikelijnachjaaDoor
