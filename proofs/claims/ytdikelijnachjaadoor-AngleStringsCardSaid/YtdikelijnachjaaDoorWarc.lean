/- Arcsin and Arccos of the code. -/
import Derived.Test.YtdikelijnachjaaDoorWof
import Derived.Test.YtdikelijnachjaaDoorShSearch
import Derived.Deep.RegionHeld3
import Derived.IntWalk
namespace Go.Proofs.YtdikelijnachjaaDoor
set_option linter.unusedSimpArgs false
set_option linter.unusedVariables false
open Go.RowKit SineNear Go.Lib Go.Sort

/-- a cell of old memory, and all that a region leaves as it was -/
def Kp (W : World) (b : Nat) (v : Value) (w : World) : Prop := w.cell? ⟨b, 0, none⟩ = some v ∧ Own W.heap.size W w
theorem Kp.drew {W : World} {b : Nat} {v : Value} {w : World} (h : Kp W b v w) : Kp W b v w.drew := ⟨h.1, h.2.drew⟩
theorem Kp.call {W : World} {b : Nat} {v : Value} {w w1 : World} (h : Kp W b v w) (hlt : b < W.heap.size) (hb : Own w.heap.size w w1) : Kp W b v w1 :=
  ⟨by rw [hb.cell (p := ⟨b, 0, none⟩) (Nat.lt_of_lt_of_le hlt h.2.size)]; exact h.1, h.2.trans (hb.mono h.2.size)⟩

/-- the fields of an enclosure that is a value -/
theorem field0 (l h : Int) (w : World) : (Instr.field 23 (encl l h) 0).run Tryd.prog w = .ok (.int .i64 l) w := by kernel_rfl
theorem field1 (l h : Int) (w : World) : (Instr.field 23 (encl l h) 1).run Tryd.prog w = .ok (.int .i64 h) w := by kernel_rfl

set_option maxRecDepth 100000 in
set_option maxHeartbeats 400000 in
theorem arcTest_any (b : Nat) (i x : Int) (w : World) (h0 : 0 ≤ i) (h1 : i ≤ 180000000) (hb : b < w.heap.size) (hc : w.cell? ⟨b, 0, none⟩ = some (.int .i64 x)) :
    Calls Tryd.prog 83 #[.int .i64 i, .pointer (some ⟨b, 0, none⟩)] w fun e w' => e = .returned (.bool (decide (x ≤ sinLo (i - 90000000)))) ∧ Own w.heap.size w w' := by
  go_enter Tryd.func83, Tryd.ntmps83
  go_wp2
  have hw : IntKind.i64.wrap (i - 90000000) = i - 90000000 := IntWalk.i64_in _ (by omega)
  have hfl := field0 (sinLo (i - 90000000)) (sinHi (i - 90000000))
  have hS : w.cell? ⟨b, 0, none⟩ = some (.int .i64 x) ∧ Own w.heap.size w w := ⟨hc, Own.refl _ _⟩
  go_region_held3 (fun w' => w'.cell? ⟨b, 0, none⟩ = some (.int .i64 x) ∧ Own w.heap.size w w') (first | exact Kp.drew hS | exact Kp.drew (by assumption) | exact Kp.call (by assumption) hb (by assumption) | assumption)
    (first | (go_at_call 79; (with_reducible refine (sine_any (i - 90000000) _ ?_ ?_).mono ?_); omega; omega; rintro e w1 ⟨rfl, hb1⟩))
  go_wp2
  go_ret
  exact ⟨rfl, (show w1.cell? ⟨b, 0, none⟩ = some (.int .i64 x) ∧ Own w.heap.size w w1 by assumption).2⟩

/-- how many of the angles from -90 degrees on, up to 90, have a sine below x -/
def arcP (x : Int) (i : Nat) : Bool := decide (x ≤ sinLo (i - 90000000))
def arcN (n : Nat) (x : Int) : Nat := (List.range n).countP (fun i => !arcP x i)

theorem own_grow (B : Nat) (w : World) (q : Nat) (os : Array Obj) (hB : B ≤ w.heap.size) : Own B w (Go.Sort.grow (w.drewN q) os) :=
  ⟨below_grown_sl B w q os hB, by show w.drawn ≤ w.drawn + q; omega⟩

theorem arcP_mono (x : Int) (a b : Nat) (h : a ≤ b) (hb : b < 180000000) (hp : arcP x a = true) : arcP x b = true := by
  unfold arcP at *
  simp only [decide_eq_true_eq] at *
  by_cases e : a = b
  · subst e; exact hp
  · have := sin_mono ((a:Int) - 90000000) ((b:Int) - 90000000) (by omega) (by omega) (by omega)
    omega

set_option maxHeartbeats 400000 in
theorem arcAbove_any (x : Int) (n : Nat) (hn : n = 180000000) (w : World) :
    Calls Tryd.prog 54 #[.int .i64 x] w fun e w' => e = .returned (.int .i64 (arcN n x - 90000000)) ∧ Own w.heap.size w w' := by
  obtain ⟨W0, hW0⟩ : ∃ W0, W0 = w.alloc (.cells #[.int .i64 x] 3) := ⟨_, rfl⟩
  have hsize : W0.heap.size = w.heap.size + 1 := by rw [hW0]; simp
  have cx : W0.cell? ⟨w.heap.size, 0, none⟩ = some (.int .i64 x) := by rw [hW0]; exact cell_new_sl w (.int .i64 x) 3
  have eg : ∀ args w, (callFunc 83 args).run Tryd.prog w = .ok (.enter 83 args) w := enters_of Tryd.func83 (by kernel_rfl) rfl
  have hle : arcN n x ≤ n := by
    have := List.countP_le_length (p := fun i => !arcP x i) (l := List.range n)
    rw [List.length_range] at this
    exact this
  have hS := Any.sort_Search Tryd.search 83 #[.pointer (some ⟨w.heap.size, 0, none⟩)] n (arcP x) W0 eg (by omega)
    (fun m os i hi => by
      have hc : (Go.Sort.grow (W0.drewN m) os).cell? ⟨w.heap.size, 0, none⟩ = some (.int .i64 x) := cell_grown (by simp [hsize]) cx m os
      have hlt : w.heap.size < (Go.Sort.grow (W0.drewN m) os).heap.size := by simp [Go.Sort.grow, World.drewN, hsize]; omega
      refine (arcTest_any w.heap.size i x _ (by omega) (by omega) hlt hc).mono ?_
      rintro e w' ⟨rfl, ho⟩
      exact ⟨rfl, ho.grown⟩) (fun a b hab hb hp => arcP_mono x a b hab (by omega) hp)
  change Calls Tryd.prog 82 _ _ _ at hS
  have e0 : (n : Int) = 180000000 := by omega
  rw [e0] at hS
  have hS' : Calls Tryd.prog 82 #[.int .i64 180000000, .func (.func 83) #[] #[.pointer (some ⟨w.heap.size, 0, none⟩)]] W0 fun e w' => e = .returned (.int .i64 (arcN n x)) ∧ ∃ q os, w' = Go.Sort.grow (W0.drewN q) os := hS
  clear hS
  have hr : (arcN n x : Int) ≤ 180000000 := by omega
  generalize arcN n x = r at *
  clear cx eg hle e0 hn
  go_enter Tryd.func54, Tryd.ntmps54
  go_wp2_with (go_at_call 82; rw [← hW0]; refine hS'.mono ?_; rintro e w' ⟨rfl, q, os, rfl⟩)
  go_ret
  refine ⟨rfl, ?_⟩
  rw [← hW0]
  have hB0 : Own w.heap.size w W0 := by rw [hW0]; exact (Own.refl _ w).alloc (Nat.le_refl _) _
  exact hB0.trans (own_grow w.heap.size W0 q os (by omega))

/-- the least angle from -90 to 90 degrees whose sine is not below x -/
def arcA (x : Int) : Int := arcN 180000000 x - 90000000
theorem arcA_bd (x : Int) : -90000000 ≤ arcA x ∧ arcA x ≤ 90000000 := by
  have := List.countP_le_length (p := fun i => !arcP x i) (l := List.range 180000000)
  rw [List.length_range] at this
  have h : arcN 180000000 x ≤ 180000000 := this
  unfold arcA
  generalize arcN 180000000 x = r at *
  omega
theorem arcA_any (x : Int) (w : World) :
    Calls Tryd.prog 54 #[.int .i64 x] w fun e w' => e = .returned (.int .i64 (arcA x)) ∧ Own w.heap.size w w' := arcAbove_any x 180000000 rfl w

/-- what Arcsin returns -/
def asLo (lo hi : Int) : Int := if inB lo hi (-100000000) 100000000 then - arcA (-lo) else 0
def asHi (lo hi : Int) : Int := if inB lo hi (-100000000) 100000000 then arcA hi else 0
def oneE (lo hi : Int) : Int := if inB lo hi (-100000000) 100000000 then 0 else 7

/-- the number in a cell -/
def rd (w : World) (b o : Nat) : Int := match w.cell? ⟨b, o, none⟩ with | some (.int _ n) => n | _ => 0
theorem rd_of {w : World} {b o : Nat} {n : Int} (h : w.cell? ⟨b, o, none⟩ = some (.int .i64 n)) : w.cell? ⟨b, o, none⟩ = some (.int .i64 (rd w b o)) := by
  have : rd w b o = n := by unfold rd; rw [h]
  rw [this]; exact h

/-- an argument in its box, a result's box, and all that a region leaves as it was -/
def Kp4 (W : World) (b c : Nat) (l h : Int) (w : World) : Prop :=
  w.cell? ⟨b, 0, none⟩ = some (.int .i64 l) ∧ w.cell? ⟨b, 1, none⟩ = some (.int .i64 h) ∧ w.cell? ⟨c, 0, none⟩ = some (.int .i64 (rd w c 0)) ∧ w.cell? ⟨c, 1, none⟩ = some (.int .i64 (rd w c 1)) ∧ w.frozen? ⟨c, 0, none⟩ = false ∧ w.frozen? ⟨c, 1, none⟩ = false ∧ (b < w.heap.size ∧ c < w.heap.size) ∧ Own W.heap.size W w

theorem Kp4.call {W w w1 : World} {b c : Nat} {l h : Int} (k : Kp4 W b c l h w) (o : Own w.heap.size w w1) : Kp4 W b c l h w1 := by
  obtain ⟨k0, k1, k2, k3, k4, k5, ⟨hb', hc'⟩, k6⟩ := k
  have hsz := o.size
  refine ⟨?_, ?_, ?_, ?_, ?_, ?_, ⟨by omega, by omega⟩, k6.trans (o.mono k6.size)⟩
  · rw [o.cell (p := ⟨b, 0, none⟩) hb']; exact k0
  · rw [o.cell (p := ⟨b, 1, none⟩) hb']; exact k1
  · exact rd_of (by rw [o.cell (p := ⟨c, 0, none⟩) hc']; exact k2)
  · exact rd_of (by rw [o.cell (p := ⟨c, 1, none⟩) hc']; exact k3)
  · rw [o.frozen (p := ⟨c, 0, none⟩) hc']; exact k4
  · rw [o.frozen (p := ⟨c, 1, none⟩) hc']; exact k5

theorem Kp4.store {W w : World} {b c : Nat} {l h : Int} (k : Kp4 W b c l h w) (hbc : b ≠ c) (hW : W.heap.size ≤ c) (u v : Int) : Kp4 W b c l h ((w.setCell ⟨c, 0, none⟩ (.int .i64 u)).setCell ⟨c, 1, none⟩ (.int .i64 v)) := by
  obtain ⟨k0, k1, k2, k3, k4, k5, ⟨hb', hc'⟩, k6⟩ := k
  refine ⟨?_, ?_, rd_of (n := u) ?_, rd_of (n := v) ?_, ?_, ?_, ⟨by simpa using hb', by simpa using hc'⟩, (k6.setCell hW _).setCell hW _⟩
  all_goals simp [go_sem, k0, k1, k2, k3, k4, k5, hbc, Ne.symm hbc]

set_option maxRecDepth 100000 in
set_option maxHeartbeats 1000000 in
theorem arcsin_yes (lo hi : Int) (w : World) (h : inB lo hi (-100000000) 100000000 = true) :
    Calls Tryd.prog 26 #[encl lo hi] w fun e w' => e = .returned (enclE (- arcA (-lo)) (arcA hi) 0) ∧ Own w.heap.size w w' := by
  obtain ⟨i1, i2, i3⟩ := inB_bd h
  have b1 := arcA_bd (-lo)
  have b2 := arcA_bd hi
  have hw1 : IntKind.i64.wrap (-lo) = -lo := IntWalk.i64_in _ (by omega)
  have hw2 : IntKind.i64.wrap (-arcA (-lo)) = -arcA (-lo) := IntWalk.i64_in _ (by omega)
  go_enter Tryd.func26, Tryd.ntmps26
  go_wp2_with fail
  refine (isWithin_any lo hi (-100000000) 100000000 _).mono ?_
  rintro e w1 ⟨rfl, hb1⟩
  obtain ⟨hc, hf⟩ := bcell hb1
  have hz1 : w.heap.size + 1 < w1.heap.size := by have := hb1.size; simp at this; omega
  have hbw : Own w.heap.size w w1 := (((Own.refl _ _).alloc (Nat.le_refl _) _).alloc (by simp) _).trans (hb1.mono (by simp; omega))
  have hS : Kp4 w w.heap.size (w.heap.size + 1) lo hi w1 := by
    refine ⟨?_, ?_, rd_of (n := 0) ?_, rd_of (n := 0) ?_, ?_, ?_, ⟨by omega, hz1⟩, hbw⟩ <;> simp [hc, hf, go_sem]
  go_wp2_with fail
  clear hc hf
  go_region_held3 (fun w' => w'.cell? ⟨w.heap.size, 0, none⟩ = some (.int .i64 lo) ∧ w'.cell? ⟨w.heap.size, 1, none⟩ = some (.int .i64 hi) ∧ w'.cell? ⟨w.heap.size + 1, 0, none⟩ = some (.int .i64 (rd w' (w.heap.size + 1) 0)) ∧ w'.cell? ⟨w.heap.size + 1, 1, none⟩ = some (.int .i64 (rd w' (w.heap.size + 1) 1)) ∧ w'.frozen? ⟨w.heap.size + 1, 0, none⟩ = false ∧ w'.frozen? ⟨w.heap.size + 1, 1, none⟩ = false ∧ (w.heap.size < w'.heap.size ∧ w.heap.size + 1 < w'.heap.size) ∧ Own w.heap.size w w')
    (first | exact Kp4.call hS (Own.refl _ _).drew | exact Kp4.call (by assumption) hbq | exact Kp4.store (by assumption) (by omega) (by omega) _ _ | fail)
    (first | (go_at_call 54; with_reducible refine (arcA_any _ _).mono ?_; rintro e wq ⟨rfl, hbq⟩))
  go_wp2
  obtain ⟨_, _, k2, k3, k4, k5, _, k6⟩ := ((hS.call (Own.refl _ _).drew).call (by assumption)).call hbq
  refine bodyPost_ret (v := enclE (- arcA (-lo)) (arcA hi) 0) (by simp [results, Tryd.results26, go_sem, k2, k3]) rfl ⟨rfl, ?_⟩
  exact (k6.setCell (by simp) _).setCell (by simp) _

set_option maxHeartbeats 400000 in
theorem arcsin_no (lo hi : Int) (w : World) (h : inB lo hi (-100000000) 100000000 = false) :
    Calls Tryd.prog 26 #[encl lo hi] w fun e w' => e = .returned (enclE 0 0 7) ∧ Own w.heap.size w w' := by
  go_enter Tryd.func26, Tryd.ntmps26
  go_wp2_with fail
  refine (isWithin_any lo hi (-100000000) 100000000 _).mono ?_
  rintro e w1 ⟨rfl, hb1⟩
  obtain ⟨hc, hf⟩ := bcell hb1
  have hz1 : w.heap.size + 1 < w1.heap.size := by have := hb1.size; simp at this; omega
  have hbw : Own w.heap.size w w1 := (((Own.refl _ _).alloc (Nat.le_refl _) _).alloc (by simp) _).trans (hb1.mono (by simp; omega))
  go_wp2_with fail
  refine bodyPost_ret (v := enclE 0 0 7) (by simp [results, Tryd.results26, go_sem, hc]) rfl ⟨rfl, ?_⟩
  exact (hbw.setCell (by simp) _).setCell (by simp) _

theorem arcsin_any (lo hi : Int) (w : World) :
    Calls Tryd.prog 26 #[encl lo hi] w fun e w' => e = .returned (enclE (asLo lo hi) (asHi lo hi) (oneE lo hi)) ∧ Own w.heap.size w w' := by
  unfold asLo asHi oneE
  cases h : inB lo hi (-100000000) 100000000
  · rw [if_neg (by decide), if_neg (by decide), if_neg (by decide)]; exact arcsin_no lo hi w h
  · rw [if_pos rfl, if_pos rfl, if_pos rfl]; exact arcsin_yes lo hi w h

/-- what Arccos returns -/
def acLo (lo hi : Int) : Int := if inB lo hi (-100000000) 100000000 then 90000000 - arcA hi else 0
def acHi (lo hi : Int) : Int := if inB lo hi (-100000000) 100000000 then 90000000 - - arcA (-lo) else 0

set_option maxHeartbeats 400000 in
theorem arccos_yes (lo hi : Int) (w : World) (h : inB lo hi (-100000000) 100000000 = true) :
    Calls Tryd.prog 24 #[encl lo hi] w fun e w' => e = .returned (enclE (90000000 - arcA hi) (90000000 - - arcA (-lo)) 0) ∧ Own w.heap.size w w' := by
  have b1 := arcA_bd (-lo)
  have b2 := arcA_bd hi
  go_enter Tryd.func24, Tryd.ntmps24
  go_wp2_with fail
  refine (arcsin_yes lo hi _ h).mono ?_
  rintro e w1 ⟨rfl, hb1⟩
  obtain ⟨hc, hf⟩ := bcell hb1
  have hz1 : w.heap.size + 1 < w1.heap.size := by have := hb1.size; simp at this; omega
  have hbw : Own w.heap.size w w1 := (((Own.refl _ _).alloc (Nat.le_refl _) _).alloc (by simp) _).trans (hb1.mono (by simp; omega))
  go_wp2_with fail
  refine bodyPost_ret (v := enclE _ _ 0) (by simp [results, Tryd.results24, go_sem, hc, hz1]) rfl ⟨rfl, ?_⟩
  repeat' (first | exact hbw | exact Nat.le_refl _ | refine Own.setCell ?_ ?_ _ | refine Own.alloc ?_ ?_ _)
  all_goals (first | (simp; done) | (simp; omega))

set_option maxHeartbeats 400000 in
theorem arccos_no (lo hi : Int) (w : World) (h : inB lo hi (-100000000) 100000000 = false) :
    Calls Tryd.prog 24 #[encl lo hi] w fun e w' => e = .returned (enclE 0 0 7) ∧ Own w.heap.size w w' := by
  go_enter Tryd.func24, Tryd.ntmps24
  go_wp2_with fail
  refine (arcsin_no lo hi _ h).mono ?_
  rintro e w1 ⟨rfl, hb1⟩
  obtain ⟨hc, hf⟩ := bcell hb1
  have hz1 : w.heap.size + 1 < w1.heap.size := by have := hb1.size; simp at this; omega
  have hbw : Own w.heap.size w w1 := (((Own.refl _ _).alloc (Nat.le_refl _) _).alloc (by simp) _).trans (hb1.mono (by simp; omega))
  go_wp2_with fail
  refine bodyPost_ret (v := enclE 0 0 7) (by simp [results, Tryd.results24, go_sem, hc, hz1]) rfl ⟨rfl, ?_⟩
  repeat' (first | exact hbw | exact Nat.le_refl _ | refine Own.setCell ?_ ?_ _ | refine Own.alloc ?_ ?_ _)
  all_goals (first | (simp; done) | (simp; omega))

theorem arccos_any (lo hi : Int) (w : World) :
    Calls Tryd.prog 24 #[encl lo hi] w fun e w' => e = .returned (enclE (acLo lo hi) (acHi lo hi) (oneE lo hi)) ∧ Own w.heap.size w w' := by
  unfold acLo acHi oneE
  cases h : inB lo hi (-100000000) 100000000
  · rw [if_neg (by decide), if_neg (by decide), if_neg (by decide)]; exact arccos_no lo hi w h
  · rw [if_pos rfl, if_pos rfl, if_pos rfl]; exact arccos_yes lo hi w h
end Go.Proofs.YtdikelijnachjaaDoor
