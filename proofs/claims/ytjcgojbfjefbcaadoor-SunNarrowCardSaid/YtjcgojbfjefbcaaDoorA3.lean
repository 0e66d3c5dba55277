/- Arcs of the code. -/
import Derived.Shelf.SlSorted.Search
import Derived.Test.YtjcgojbfjefbcaaDoorProg
import Derived.Deep.RegionHeld3
import Derived.IntWalk
import Derived.Test.YtjcgojbfjefbcaaDoorA2

/- The contract of sort.Search, at this program. -/
namespace Go.Proofs
set_option linter.unusedSimpArgs false
set_option linter.unusedVariables false
open Go.Shelf
def Tryd.search_ren : Go.Shelf.Ren := ⟨fun | 16 => 131 | n => n, fun | 3 => 3 | 35 => 94 | 4 => 4 | 38 => 182 | n => n, fun | n => n⟩
theorem Tryd.search : Go.Proofs.SlLaysO.n16 Tryd.prog Tryd.search_ren := {
  mixed := by kernel_rfl
  f16 := Tryd.func131.trans (congrArg some (by kernel_rfl))
  t3 := Tryd.underlying3
  a3 := Tryd.isAgg3
  z3 := Tryd.sizeOf3
  v3 := Tryd.zeroValue3
  t4 := Tryd.underlying4
  a4 := Tryd.isAgg4
  z4 := Tryd.sizeOf4
  v4 := Tryd.zeroValue4
  t35 := Tryd.underlying94
  a35 := Tryd.isAgg94
  z35 := Tryd.sizeOf94
  v35 := Tryd.zeroValue94
  t38 := Tryd.underlying182
  a38 := Tryd.isAgg182
  z38 := Tryd.sizeOf182
  v38 := Tryd.zeroValue182 }
end Go.Proofs

/- Arcsin and Arccos of the code. -/
namespace Go.Proofs.YtjcgojbfjefbcaaDoor
set_option linter.unusedSimpArgs false
set_option linter.unusedVariables false
open Go.RowKit SineNear Go.Lib Go.Sort

/-- a cell of old memory, and all that a region leaves as it was -/
def Kp (W : World) (b : Nat) (v : Value) (w : World) : Prop := w.cell? ⟨b, 0, none⟩ = some v ∧ Own W.heap.size W w
theorem Kp.drew {W : World} {b : Nat} {v : Value} {w : World} (h : Kp W b v w) : Kp W b v w.drew := ⟨h.1, h.2.drew⟩
theorem Kp.call {W : World} {b : Nat} {v : Value} {w w1 : World} (h : Kp W b v w) (hlt : b < W.heap.size) (hb : Own w.heap.size w w1) : Kp W b v w1 :=
  ⟨by rw [hb.cell (p := ⟨b, 0, none⟩) (Nat.lt_of_lt_of_le hlt h.2.size)]; exact h.1, h.2.trans (hb.mono h.2.size)⟩

/-- the fields of an enclosure that is a value -/
theorem field0 (l h : Int) (w : World) : (Instr.field 51 (encl l h) 0).run Tryd.prog w = .ok (.int .i64 l) w := by kernel_rfl
theorem field1 (l h : Int) (w : World) : (Instr.field 51 (encl l h) 1).run Tryd.prog w = .ok (.int .i64 h) w := by kernel_rfl

set_option maxRecDepth 100000 in
set_option maxHeartbeats 400000 in
theorem arcTest_any (b : Nat) (i x : Int) (w : World) (h0 : 0 ≤ i) (h1 : i ≤ 180000000) (hb : b < w.heap.size) (hc : w.cell? ⟨b, 0, none⟩ = some (.int .i64 x)) :
    Calls Tryd.prog 132 #[.int .i64 i, .pointer (some ⟨b, 0, none⟩)] w fun e w' => e = .returned (.bool (decide (x ≤ sinLo (i - 90000000)))) ∧ Own w.heap.size w w' := by
  go_enter Tryd.func132, Tryd.ntmps132
  go_wp2
  have hw : IntKind.i64.wrap (i - 90000000) = i - 90000000 := IntWalk.i64_in _ (by omega)
  have hfl := field0 (sinLo (i - 90000000)) (sinHi (i - 90000000))
  have hS : w.cell? ⟨b, 0, none⟩ = some (.int .i64 x) ∧ Own w.heap.size w w := ⟨hc, Own.refl _ _⟩
  go_region_held3 (fun w' => w'.cell? ⟨b, 0, none⟩ = some (.int .i64 x) ∧ Own w.heap.size w w') (first | exact Kp.drew hS | exact Kp.drew (by assumption) | exact Kp.call (by assumption) hb (by assumption) | assumption)
    (first | (go_at_call 84; (with_reducible refine (sine_any (i - 90000000) _ ?_ ?_).mono ?_); omega; omega; rintro e w1 ⟨rfl, hb1⟩))
  go_wp2
  go_ret
  exact ⟨rfl, (show w1.cell? ⟨b, 0, none⟩ = some (.int .i64 x) ∧ Own w.heap.size w w1 by assumption).2⟩

/-- how many of the angles from -90 degrees on, up to 90, have a sine below x -/
def arcP (x : Int) (i : Nat) : Bool := decide (x ≤ sinLo (i - 90000000))
def arcN (n : Nat) (x : Int) : Nat := (List.range n).countP (fun i => !arcP x i)

theorem own_grow (B : Nat) (w : World) (q : Nat) (os : Array Obj) (hB : B ≤ w.heap.size) : Own B w (Go.Sort.grow (w.drewN q) os) :=
  ⟨below_grown_sl B w q os hB, by show w.drawn ≤ w.drawn + q; omega⟩

theorem arcP_mono (x : Int) (a b : Nat) (h : a ≤ b) (hb : b < 180000000) (hp : arcP x a = true) : arcP x b = true := by
  unfold arcP at *
  simp only [decide_eq_true_eq] at *
  by_cases e : a = b
  · subst e; exact hp
  · have := sin_mono ((a:Int) - 90000000) ((b:Int) - 90000000) (by omega) (by omega) (by omega)
    omega

set_option maxHeartbeats 400000 in
theorem arcAbove_any (x : Int) (n : Nat) (hn : n = 180000000) (w : World) :
    Calls Tryd.prog 128 #[.int .i64 x] w fun e w' => e = .returned (.int .i64 (arcN n x - 90000000)) ∧ Own w.heap.size w w' := by
  obtain ⟨W0, hW0⟩ : ∃ W0, W0 = w.alloc (.cells #[.int .i64 x] 3) := ⟨_, rfl⟩
  have hsize : W0.heap.size = w.heap.size + 1 := by rw [hW0]; simp
  have cx : W0.cell? ⟨w.heap.size, 0, none⟩ = some (.int .i64 x) := by rw [hW0]; exact cell_new_sl w (.int .i64 x) 3
  have eg : ∀ args w, (callFunc 132 args).run Tryd.prog w = .ok (.enter 132 args) w := enters_of Tryd.func132 (by kernel_rfl) rfl
  have hle : arcN n x ≤ n := by
    have := List.countP_le_length (p := fun i => !arcP x i) (l := List.range n)
    rw [List.length_range] at this
    exact this
  have hS := Any.sort_Search Tryd.search 132 #[.pointer (some ⟨w.heap.size, 0, none⟩)] n (arcP x) W0 eg (by omega)
    (fun m os i hi => by
      have hc : (Go.Sort.grow (W0.drewN m) os).cell? ⟨w.heap.size, 0, none⟩ = some (.int .i64 x) := cell_grown (by simp [hsize]) cx m os
      have hlt : w.heap.size < (Go.Sort.grow (W0.drewN m) os).heap.size := by simp [Go.Sort.grow, World.drewN, hsize]; omega
      refine (arcTest_any w.heap.size i x _ (by omega) (by omega) hlt hc).mono ?_
      rintro e w' ⟨rfl, ho⟩
      exact ⟨rfl, ho.grown⟩) (fun a b hab hb hp => arcP_mono x a b hab (by omega) hp)
  change Calls Tryd.prog 131 _ _ _ at hS
  have e0 : (n : Int) = 180000000 := by omega
  rw [e0] at hS
  have hS' : Calls Tryd.prog 131 #[.int .i64 180000000, .func (.func 132) #[] #[.pointer (some ⟨w.heap.size, 0, none⟩)]] W0 fun e w' => e = .returned (.int .i64 (arcN n x)) ∧ ∃ q os, w' = Go.Sort.grow (W0.drewN q) os := hS
  clear hS
  have hr : (arcN n x : Int) ≤ 180000000 := by omega
  generalize arcN n x = r at *
  clear cx eg hle e0 hn
  go_enter Tryd.func128, Tryd.ntmps128
  go_wp2_with (go_at_call 131; rw [← hW0]; refine hS'.mono ?_; rintro e w' ⟨rfl, q, os, rfl⟩)
  go_ret
  refine ⟨rfl, ?_⟩
  rw [← hW0]
  have hB0 : Own w.heap.size w W0 := by rw [hW0]; exact (Own.refl _ w).alloc (Nat.le_refl _) _
  exact hB0.trans (own_grow w.heap.size W0 q os (by omega))

/-- the least angle from -90 to 90 degrees whose sine is not below x -/
def arcA (x : Int) : Int := arcN 180000000 x - 90000000
theorem arcA_bd (x : Int) : -90000000 ≤ arcA x ∧ arcA x ≤ 90000000 := by
  have := List.countP_le_length (p := fun i => !arcP x i) (l := List.range 180000000)
  rw [List.length_range] at this
  have h : arcN 180000000 x ≤ 180000000 := this
  unfold arcA
  generalize arcN 180000000 x = r at *
  omega
theorem arcA_any (x : Int) (w : World) :
    Calls Tryd.prog 128 #[.int .i64 x] w fun e w' => e = .returned (.int .i64 (arcA x)) ∧ Own w.heap.size w w' := arcAbove_any x 180000000 rfl w

/-- what Arcsin returns -/
def asLo (lo hi : Int) : Int := if inB lo hi (-100000000) 100000000 then - arcA (-lo) else 0
def asHi (lo hi : Int) : Int := if inB lo hi (-100000000) 100000000 then arcA hi else 0
def oneE (lo hi : Int) : Int := if inB lo hi (-100000000) 100000000 then 0 else 7

/-- the number in a cell -/
def rd (w : World) (b o : Nat) : Int := match w.cell? ⟨b, o, none⟩ with | some (.int _ n) => n | _ => 0
theorem rd_of {w : World} {b o : Nat} {n : Int} (h : w.cell? ⟨b, o, none⟩ = some (.int .i64 n)) : w.cell? ⟨b, o, none⟩ = some (.int .i64 (rd w b o)) := by
  have : rd w b o = n := by unfold rd; rw [h]
  rw [this]; exact h

/-- an argument in its box, a result's box, and all that a region leaves as it was -/
def Kp4 (W : World) (b c : Nat) (l h : Int) (w : World) : Prop :=
  w.cell? ⟨b, 0, none⟩ = some (.int .i64 l) ∧ w.cell? ⟨b, 1, none⟩ = some (.int .i64 h) ∧ w.cell? ⟨c, 0, none⟩ = some (.int .i64 (rd w c 0)) ∧ w.cell? ⟨c, 1, none⟩ = some (.int .i64 (rd w c 1)) ∧ w.frozen? ⟨c, 0, none⟩ = false ∧ w.frozen? ⟨c, 1, none⟩ = false ∧ (b < w.heap.size ∧ c < w.heap.size) ∧ Own W.heap.size W w

theorem Kp4.call {W w w1 : World} {b c : Nat} {l h : Int} (k : Kp4 W b c l h w) (o : Own w.heap.size w w1) : Kp4 W b c l h w1 := by
  obtain ⟨k0, k1, k2, k3, k4, k5, ⟨hb', hc'⟩, k6⟩ := k
  have hsz := o.size
  refine ⟨?_, ?_, ?_, ?_, ?_, ?_, ⟨by omega, by omega⟩, k6.trans (o.mono k6.size)⟩
  · rw [o.cell (p := ⟨b, 0, none⟩) hb']; exact k0
  · rw [o.cell (p := ⟨b, 1, none⟩) hb']; exact k1
  · exact rd_of (by rw [o.cell (p := ⟨c, 0, none⟩) hc']; exact k2)
  · exact rd_of (by rw [o.cell (p := ⟨c, 1, none⟩) hc']; exact k3)
  · rw [o.frozen (p := ⟨c, 0, none⟩) hc']; exact k4
  · rw [o.frozen (p := ⟨c, 1, none⟩) hc']; exact k5

theorem Kp4.store {W w : World} {b c : Nat} {l h : Int} (k : Kp4 W b c l h w) (hbc : b ≠ c) (hW : W.heap.size ≤ c) (u v : Int) : Kp4 W b c l h ((w.setCell ⟨c, 0, none⟩ (.int .i64 u)).setCell ⟨c, 1, none⟩ (.int .i64 v)) := by
  obtain ⟨k0, k1, k2, k3, k4, k5, ⟨hb', hc'⟩, k6⟩ := k
  refine ⟨?_, ?_, rd_of (n := u) ?_, rd_of (n := v) ?_, ?_, ?_, ⟨by simpa using hb', by simpa using hc'⟩, (k6.setCell hW _).setCell hW _⟩
  all_goals simp [go_sem, k0, k1, k2, k3, k4, k5, hbc, Ne.symm hbc]

set_option maxRecDepth 100000 in
set_option maxHeartbeats 1000000 in
theorem arcsin_yes (lo hi : Int) (w : World) (h : inB lo hi (-100000000) 100000000 = true) :
    Calls Tryd.prog 115 #[encl lo hi] w fun e w' => e = .returned (enclE (- arcA (-lo)) (arcA hi) 0) ∧ Own w.heap.size w w' := by
  obtain ⟨i1, i2, i3⟩ := inB_bd h
  have b1 := arcA_bd (-lo)
  have b2 := arcA_bd hi
  have hw1 : IntKind.i64.wrap (-lo) = -lo := IntWalk.i64_in _ (by omega)
  have hw2 : IntKind.i64.wrap (-arcA (-lo)) = -arcA (-lo) := IntWalk.i64_in _ (by omega)
  go_enter Tryd.func115, Tryd.ntmps115
  go_wp2_with fail
  refine (isWithin_any lo hi (-100000000) 100000000 _).mono ?_
  rintro e w1 ⟨rfl, hb1⟩
  obtain ⟨hc, hf⟩ := bcell hb1
  have hz1 : w.heap.size + 1 < w1.heap.size := by have := hb1.size; simp at this; omega
  have hbw : Own w.heap.size w w1 := (((Own.refl _ _).alloc (Nat.le_refl _) _).alloc (by simp) _).trans (hb1.mono (by simp; omega))
  have hS : Kp4 w w.heap.size (w.heap.size + 1) lo hi w1 := by
    refine ⟨?_, ?_, rd_of (n := 0) ?_, rd_of (n := 0) ?_, ?_, ?_, ⟨by omega, hz1⟩, hbw⟩ <;> simp [hc, hf, go_sem]
  go_wp2_with fail
  clear hc hf
  go_region_held3 (fun w' => w'.cell? ⟨w.heap.size, 0, none⟩ = some (.int .i64 lo) ∧ w'.cell? ⟨w.heap.size, 1, none⟩ = some (.int .i64 hi) ∧ w'.cell? ⟨w.heap.size + 1, 0, none⟩ = some (.int .i64 (rd w' (w.heap.size + 1) 0)) ∧ w'.cell? ⟨w.heap.size + 1, 1, none⟩ = some (.int .i64 (rd w' (w.heap.size + 1) 1)) ∧ w'.frozen? ⟨w.heap.size + 1, 0, none⟩ = false ∧ w'.frozen? ⟨w.heap.size + 1, 1, none⟩ = false ∧ (w.heap.size < w'.heap.size ∧ w.heap.size + 1 < w'.heap.size) ∧ Own w.heap.size w w')
    (first | exact Kp4.call hS (Own.refl _ _).drew | exact Kp4.call (by assumption) hbq | exact Kp4.store (by assumption) (by omega) (by omega) _ _ | fail)
    (first | (go_at_call 128; with_reducible refine (arcA_any _ _).mono ?_; rintro e wq ⟨rfl, hbq⟩))
  go_wp2
  obtain ⟨_, _, k2, k3, k4, k5, _, k6⟩ := ((hS.call (Own.refl _ _).drew).call (by assumption)).call hbq
  refine bodyPost_ret (v := enclE (- arcA (-lo)) (arcA hi) 0) (by simp [results, Tryd.results115, go_sem, k2, k3]) rfl ⟨rfl, ?_⟩
  exact (k6.setCell (by simp) _).setCell (by simp) _

set_option maxHeartbeats 400000 in
theorem arcsin_no (lo hi : Int) (w : World) (h : inB lo hi (-100000000) 100000000 = false) :
    Calls Tryd.prog 115 #[encl lo hi] w fun e w' => e = .returned (enclE 0 0 7) ∧ Own w.heap.size w w' := by
  go_enter Tryd.func115, Tryd.ntmps115
  go_wp2_with fail
  refine (isWithin_any lo hi (-100000000) 100000000 _).mono ?_
  rintro e w1 ⟨rfl, hb1⟩
  obtain ⟨hc, hf⟩ := bcell hb1
  have hz1 : w.heap.size + 1 < w1.heap.size := by have := hb1.size; simp at this; omega
  have hbw : Own w.heap.size w w1 := (((Own.refl _ _).alloc (Nat.le_refl _) _).alloc (by simp) _).trans (hb1.mono (by simp; omega))
  go_wp2_with fail
  refine bodyPost_ret (v := enclE 0 0 7) (by simp [results, Tryd.results115, go_sem, hc]) rfl ⟨rfl, ?_⟩
  exact (hbw.setCell (by simp) _).setCell (by simp) _

theorem arcsin_any (lo hi : Int) (w : World) :
    Calls Tryd.prog 115 #[encl lo hi] w fun e w' => e = .returned (enclE (asLo lo hi) (asHi lo hi) (oneE lo hi)) ∧ Own w.heap.size w w' := by
  unfold asLo asHi oneE
  cases h : inB lo hi (-100000000) 100000000
  · rw [if_neg (by decide), if_neg (by decide), if_neg (by decide)]; exact arcsin_no lo hi w h
  · rw [if_pos rfl, if_pos rfl, if_pos rfl]; exact arcsin_yes lo hi w h

/-- what Arccos returns -/
def acLo (lo hi : Int) : Int := if inB lo hi (-100000000) 100000000 then 90000000 - arcA hi else 0
def acHi (lo hi : Int) : Int := if inB lo hi (-100000000) 100000000 then 90000000 - - arcA (-lo) else 0

set_option maxHeartbeats 400000 in
theorem arccos_yes (lo hi : Int) (w : World) (h : inB lo hi (-100000000) 100000000 = true) :
    Calls Tryd.prog 110 #[encl lo hi] w fun e w' => e = .returned (enclE (90000000 - arcA hi) (90000000 - - arcA (-lo)) 0) ∧ Own w.heap.size w w' := by
  have b1 := arcA_bd (-lo)
  have b2 := arcA_bd hi
  go_enter Tryd.func110, Tryd.ntmps110
  go_wp2_with fail
  refine (arcsin_yes lo hi _ h).mono ?_
  rintro e w1 ⟨rfl, hb1⟩
  obtain ⟨hc, hf⟩ := bcell hb1
  have hz1 : w.heap.size + 1 < w1.heap.size := by have := hb1.size; simp at this; omega
  have hbw : Own w.heap.size w w1 := (((Own.refl _ _).alloc (Nat.le_refl _) _).alloc (by simp) _).trans (hb1.mono (by simp; omega))
  go_wp2_with fail
  refine bodyPost_ret (v := enclE _ _ 0) (by simp [results, Tryd.results110, go_sem, hc, hz1]) rfl ⟨rfl, ?_⟩
  repeat' (first | exact hbw | exact Nat.le_refl _ | refine Own.setCell ?_ ?_ _ | refine Own.alloc ?_ ?_ _)
  all_goals (first | (simp; done) | (simp; omega))

set_option maxHeartbeats 400000 in
theorem arccos_no (lo hi : Int) (w : World) (h : inB lo hi (-100000000) 100000000 = false) :
    Calls Tryd.prog 110 #[encl lo hi] w fun e w' => e = .returned (enclE 0 0 7) ∧ Own w.heap.size w w' := by
  go_enter Tryd.func110, Tryd.ntmps110
  go_wp2_with fail
  refine (arcsin_no lo hi _ h).mono ?_
  rintro e w1 ⟨rfl, hb1⟩
  obtain ⟨hc, hf⟩ := bcell hb1
  have hz1 : w.heap.size + 1 < w1.heap.size := by have := hb1.size; simp at this; omega
  have hbw : Own w.heap.size w w1 := (((Own.refl _ _).alloc (Nat.le_refl _) _).alloc (by simp) _).trans (hb1.mono (by simp; omega))
  go_wp2_with fail
  refine bodyPost_ret (v := enclE 0 0 7) (by simp [results, Tryd.results110, go_sem, hc, hz1]) rfl ⟨rfl, ?_⟩
  repeat' (first | exact hbw | exact Nat.le_refl _ | refine Own.setCell ?_ ?_ _ | refine Own.alloc ?_ ?_ _)
  all_goals (first | (simp; done) | (simp; omega))

theorem arccos_any (lo hi : Int) (w : World) :
    Calls Tryd.prog 110 #[encl lo hi] w fun e w' => e = .returned (enclE (acLo lo hi) (acHi lo hi) (oneE lo hi)) ∧ Own w.heap.size w w' := by
  unfold acLo acHi oneE
  cases h : inB lo hi (-100000000) 100000000
  · rw [if_neg (by decide), if_neg (by decide), if_neg (by decide)]; exact arccos_no lo hi w h
  · rw [if_pos rfl, if_pos rfl, if_pos rfl]; exact arccos_yes lo hi w h
end Go.Proofs.YtjcgojbfjefbcaaDoor

/- Where the least angle lies whose sine is not below a number. -/
namespace Go.Proofs.YtjcgojbfjefbcaaDoor
set_option linter.unusedSimpArgs false
set_option linter.unusedVariables false
open Go.RowKit SineNear

theorem count_from (q : Nat → Bool) (r n : Nat) (h0 : ∀ i, i < r → i < n → q i = true) (h1 : ∀ i, r ≤ i → i < n → q i = false) : (List.range n).countP q = min r n := by
  induction n with
  | zero => simp
  | succ n ih =>
    rw [List.range_succ, List.countP_append, ih (fun i a b => h0 i a (by omega)) (fun i a b => h1 i a (by omega))]
    by_cases c : n < r
    · rw [List.countP_cons_of_pos (h0 n c (by omega)), List.countP_nil]; omega
    · rw [List.countP_cons_of_neg (by rw [h1 n (by omega) (by omega)]; decide), List.countP_nil]; omega

/-- the angle a is the least one: its sine is not below x, that of the one before is -/
theorem arcA_is (x a : Int) (h0 : -90000000 ≤ a) (h1 : a ≤ 90000000) (hlo : a = -90000000 ∨ sinLo (a - 1) < x) (hhi : a = 90000000 ∨ x ≤ sinLo a) : arcA x = a := by
  have key : arcN 180000000 x = min (a + 90000000).toNat 180000000 := by
    refine count_from _ _ _ (fun i hi hn => ?_) (fun i hi hn => ?_)
    · unfold arcP
      simp only [Bool.not_eq_true', decide_eq_false_iff_not]
      rcases hlo with hlo | hlo
      · omega
      · by_cases e : (i:Int) - 90000000 = a - 1
        · rw [e]; omega
        · have := sin_mono ((i:Int) - 90000000) (a - 1) (by omega) (by omega) (by omega)
          omega
    · unfold arcP
      simp only [Bool.not_eq_false', decide_eq_true_eq]
      rcases hhi with hhi | hhi
      · omega
      · by_cases e : (i:Int) - 90000000 = a
        · rw [e]; exact hhi
        · have := sin_mono a ((i:Int) - 90000000) (by omega) (by omega) (by omega)
          omega
  unfold arcA
  rw [key]
  omega

/-- and such an angle there is -/
theorem arcA_has (x : Int) : (arcA x = -90000000 ∨ sinLo (arcA x - 1) < x) ∧ (arcA x = 90000000 ∨ x ≤ sinLo (arcA x)) := by
  -- the least number for which it holds, or the end
  have ex : ∃ r : Nat, r ≤ 180000000 ∧ (r = 0 ∨ sinLo ((r:Int) - 90000000 - 1) < x) ∧ (r = 180000000 ∨ x ≤ sinLo ((r:Int) - 90000000)) := by
    have step : ∀ n : Nat, n ≤ 180000000 → (∃ r : Nat, r ≤ n ∧ (r = 0 ∨ sinLo ((r:Int) - 90000000 - 1) < x) ∧ (r = 180000000 ∨ x ≤ sinLo ((r:Int) - 90000000))) ∨ (n = 0 ∨ sinLo ((n:Int) - 90000000 - 1) < x) := by
      intro n
      induction n with
      | zero => intro _; exact Or.inr (Or.inl rfl)
      | succ n ih =>
        intro hn
        rcases ih (by omega) with ⟨r, h1, h2, h3⟩ | h
        · exact Or.inl ⟨r, by omega, h2, h3⟩
        · by_cases c : x ≤ sinLo ((n:Int) - 90000000)
          · exact Or.inl ⟨n, by omega, h, Or.inr c⟩
          · refine Or.inr (Or.inr ?_)
            rw [show (((n+1:Nat):Int) - 90000000 - 1) = (n:Int) - 90000000 from by omega]
            omega
    rcases step 180000000 (Nat.le_refl _) with ⟨r, h1, h2, h3⟩ | h
    · exact ⟨r, h1, h2, h3⟩
    · exact ⟨180000000, Nat.le_refl _, h, Or.inl rfl⟩
  obtain ⟨r, hr, h1, h2⟩ := ex
  have e : arcA x = (r:Int) - 90000000 := by
    refine arcA_is x _ (by omega) (by omega) ?_ ?_
    · rcases h1 with h | h
      · exact Or.inl (by omega)
      · exact Or.inr h
    · rcases h2 with h | h
      · exact Or.inl (by omega)
      · exact Or.inr h
  rw [e]
  refine ⟨?_, ?_⟩
  · rcases h1 with h | h
    · exact Or.inl (by omega)
    · exact Or.inr h
  · rcases h2 with h | h
    · exact Or.inl (by omega)
    · exact Or.inr h
end Go.Proofs.YtjcgojbfjefbcaaDoor

/- Angles back from their sines: plain facts. -/
namespace Go.Proofs.YtjcgojbfjefbcaaDoor
set_option linter.unusedSimpArgs false
set_option linter.unusedVariables false
open Go.RowKit SineNear

theorem sin_90 : sinLo 90000000 = 100000000 ∧ sinHi 90000000 = 100000000 := by
  have := sin_up 90000000 (by decide) (by decide)
  have h := s_90
  omega
theorem sin_m90 : sinLo (-90000000) = -100000000 ∧ sinHi (-90000000) = -100000000 := by
  have := sin_down (-90000000) (by decide) (by decide)
  have h := s_90
  rw [show - (-90000000 : Int) = 90000000 from rfl] at this
  omega

/-- of one angle alone -/
theorem si_one (l : Int) : siLo l l = sinLo l ∧ siHi l l = sinHi l := by
  have j1 : jLo (sinLo l) (fun _ => sinLo l) 1 = sinLo l := by
    show (if sinLo l < sinLo l then sinLo l else sinLo l) = sinLo l
    split <;> rfl
  have j2 : jHi (sinHi l) (fun _ => sinHi l) 1 = sinHi l := by
    show (if sinHi l < sinHi l then sinHi l else sinHi l) = sinHi l
    split <;> rfl
  constructor
  · unfold siLo
    by_cases c : pas l l (-90000000) = true
    · rw [if_pos c]
      have h : l + (-90000000 - l) % 360000000 ≤ l := of_decide_eq_true c
      have e : l = -90000000 + 360000000 * ((l + 90000000) / 360000000) := by omega
      rw [e, (sin_turn _ _).1]; exact sin_m90.1.symm
    · rw [if_neg c]; exact j1
  · unfold siHi
    by_cases c : pas l l 90000000 = true
    · rw [if_pos c]
      have h : l + (90000000 - l) % 360000000 ≤ l := of_decide_eq_true c
      have e : l = 90000000 + 360000000 * ((l - 90000000) / 360000000) := by omega
      rw [e, (sin_turn _ _).2]; exact sin_90.2.symm
    · rw [if_neg c]; exact j2

theorem inB_yes {lo hi l m : Int} (h1 : l ≤ lo) (h2 : lo ≤ hi) (h3 : hi ≤ m) : inB lo hi l m = true := decide_eq_true ⟨h1, h2, h3⟩

/-- Sin and Cos of an angle -/
theorem sof_one (a : Int) (h0 : -3600000000 ≤ a) (h1 : a ≤ 3600000000) : sofLo a a = sinLo a ∧ sofHi a a = sinHi a ∧ angE a a = 0 := by
  have h := inB_yes h0 (Int.le_refl a) h1
  unfold sofLo sofHi angE
  rw [if_pos h, if_pos h, if_pos h]
  exact ⟨(si_one a).1, (si_one a).2, rfl⟩
theorem cof_one (a : Int) (h0 : -3600000000 ≤ a) (h1 : a ≤ 3600000000) : cofLo a a = sinLo (90000000 - a) ∧ cofHi a a = sinHi (90000000 - a) ∧ angE a a = 0 := by
  have h := inB_yes h0 (Int.le_refl a) h1
  have e := sin_half (90000000 - a)
  rw [show 180000000 - (90000000 - a) = a + 90000000 from by omega] at e
  unfold cofLo cofHi angE
  rw [if_pos h, if_pos h, if_pos h]
  exact ⟨(si_one _).1.trans e.1, (si_one _).2.trans e.2, rfl⟩

theorem sin_val (a : Int) (h0 : -3600000000 ≤ a) (h1 : a ≤ 3600000000) (w : World) :
    Calls Tryd.prog 116 #[.int .i64 a] w fun e w' => e = .returned (enclE (sinLo a) (sinHi a) 0) ∧ Own w.heap.size w w' := by
  have h := sin_any a w
  obtain ⟨e1, e2, e3⟩ := sof_one a h0 h1
  rw [e1, e2, e3] at h
  exact h
theorem cos_val (a : Int) (h0 : -3600000000 ≤ a) (h1 : a ≤ 3600000000) (w : World) :
    Calls Tryd.prog 117 #[.int .i64 a] w fun e w' => e = .returned (enclE (sinLo (90000000 - a)) (sinHi (90000000 - a)) 0) ∧ Own w.heap.size w w' := by
  have h := cos_any a w
  obtain ⟨e1, e2, e3⟩ := cof_one a h0 h1
  rw [e1, e2, e3] at h
  exact h

theorem arcA_ge (t : Int) (h0 : -90000000 ≤ t) (h1 : t ≤ 90000000) : t ≤ arcA (sinHi t) := by
  have b := arcA_bd (sinHi t)
  obtain ⟨_, h2⟩ := arcA_has (sinHi t)
  by_cases c : arcA (sinHi t) < t
  · have m := sin_mono (arcA (sinHi t)) t b.1 c h1
    omega
  · omega
theorem arcA_up (v : Int) (h1 : v ≤ 100000000) : v ≤ sinHi (arcA v) := by
  obtain ⟨_, h2⟩ := arcA_has v
  rcases h2 with h | h
  · rw [h, sin_90.2]; exact h1
  · exact Int.le_trans h (sin_le _).1
theorem arcA_one (v : Int) (h0 : -100000000 ≤ v) (h1 : v ≤ 100000000) : arcA v + arcA (-v) ≤ 1 := by
  have b1 := arcA_bd v
  have b2 := arcA_bd (-v)
  obtain ⟨p1, _⟩ := arcA_has v
  obtain ⟨p2, _⟩ := arcA_has (-v)
  by_cases c : arcA v + arcA (-v) ≤ 1
  · exact c
  · exfalso
    have q1 : sinLo (arcA v - 1) < v := by rcases p1 with h | h; omega; exact h
    have q2 : sinLo (arcA (-v) - 1) < -v := by rcases p2 with h | h; omega; exact h
    have o := sin_odd (arcA (-v) - 1)
    have l1 := sin_le (arcA v - 1)
    by_cases e : -(arcA (-v) - 1) = arcA v - 1
    · rw [e] at o; omega
    · have m := sin_mono (-(arcA (-v) - 1)) (arcA v - 1) (by omega) (by omega) (by omega)
      omega

/-- what the statement asks, in numbers -/
theorem back_cos (a : Int) (h0 : 0 ≤ a) (h1 : a ≤ 180000000) : 90000000 - arcA (sinHi (90000000 - a)) ≤ a ∧ a ≤ 90000000 - - arcA (- sinLo (90000000 - a)) := by
  have g1 := arcA_ge (90000000 - a) (by omega) (by omega)
  have g2 := arcA_ge (-(90000000 - a)) (by omega) (by omega)
  rw [(sin_odd _).2] at g2
  omega
theorem back_sin (s : Int) (h0 : -90000000 ≤ s) (h1 : s ≤ 90000000) : - arcA (- sinLo s) ≤ s ∧ s ≤ arcA (sinHi s) := by
  have g1 := arcA_ge s h0 h1
  have g2 := arcA_ge (-s) (by omega) (by omega)
  rw [(sin_odd _).2] at g2
  omega
theorem back_value (v : Int) (h0 : -100000000 ≤ v) (h1 : v ≤ 100000000) :
    v ≤ sinHi (90000000 - (90000000 - arcA v)) ∧ sinLo (90000000 - (90000000 - - arcA (-v))) ≤ v := by
  have u1 := arcA_up v h1
  have u2 := arcA_up (-v) (by omega)
  have o := sin_odd (arcA (-v))
  rw [show 90000000 - (90000000 - arcA v) = arcA v from by omega, show 90000000 - (90000000 - - arcA (-v)) = - arcA (-v) from by omega]
  omega
theorem sin_ok (a : Int) : inB (sinLo a) (sinHi a) (-100000000) 100000000 = true := inB_yes (sin_bd a).1 (sin_le a).1 (sin_bd a).2
end Go.Proofs.YtjcgojbfjefbcaaDoor
