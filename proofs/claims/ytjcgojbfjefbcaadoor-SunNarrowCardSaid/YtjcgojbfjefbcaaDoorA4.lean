/- Arithmetic of the code. -/
import Derived.IntWalk
import Derived.Lib.Hide
import Derived.Deep.RegionHeld3
import Derived.Deep.AppendLies
import Derived.Deep.DrawnRows
import Derived.Deep.RegionLaw
import Derived.Test.YtjcgojbfjefbcaaDoorA2
import Derived.Test.YtjcgojbfjefbcaaDoorA3

/- Quotients of the code, rounded down and up. -/
namespace Go.Proofs.YtjcgojbfjefbcaaDoor
set_option linter.unusedSimpArgs false
set_option linter.unusedVariables false
open Go.RowKit SineNear

/-- a by b, rounded up -/
def upD (a b : Int) : Int := -((-a) / b)

theorem neg_parts (a b : Int) (hb : 0 < b) : ∃ q r : Int, (-a) / b = q ∧ (-a) % b = r ∧ 0 ≤ r ∧ r < b ∧ a = -(b * q) - r ∧ a / b = if 0 < r then -q - 1 else -q := by
  refine ⟨(-a) / b, (-a) % b, rfl, rfl, Int.emod_nonneg _ (by omega), Int.emod_lt_of_pos _ hb, ?_, ?_⟩
  · have := Int.mul_ediv_add_emod (-a) b; omega
  · have h := Int.mul_ediv_add_emod (-a) b
    have h0 := Int.emod_nonneg (-a) (show b ≠ 0 by omega)
    have h1 := Int.emod_lt_of_pos (-a) hb
    generalize (-a) / b = q at *
    generalize (-a) % b = r at *
    split
    · exact ((Int.ediv_emod_unique hb (r := b - r)).2 ⟨by rw [Int.mul_sub, Int.mul_neg]; omega, by omega, by omega⟩).1
    · exact ((Int.ediv_emod_unique hb (r := 0)).2 ⟨by rw [Int.mul_neg]; omega, by omega, by omega⟩).1
theorem pos_parts (a b : Int) (hb : 0 < b) : ∃ q r : Int, a / b = q ∧ a % b = r ∧ 0 ≤ r ∧ r < b ∧ upD a b = if 0 < r then q + 1 else q := by
  obtain ⟨q, r, h1, h2, h3, h4, h5, h6⟩ := neg_parts (-a) b hb
  rw [Int.neg_neg] at h1 h2
  refine ⟨q, r, h1, h2, h3, h4, ?_⟩
  unfold upD; rw [h6]; split <;> omega

theorem q_bd (a b : Int) (hb : 0 < b) (h0 : -9100000000000000000 ≤ a) (h1 : a ≤ 9100000000000000000) : -9100000000000000000 ≤ a / b ∧ a / b ≤ 9100000000000000000 := by
  constructor
  · exact Int.le_ediv_of_mul_le hb (by have := Int.mul_le_mul_of_nonneg_left (show (1:Int) ≤ b by omega) (show (0:Int) ≤ 9100000000000000000 by decide); omega)
  · by_cases c : 0 ≤ a
    · exact Int.le_trans (Int.ediv_le_self _ c) h1
    · have := Int.ediv_neg_of_neg_of_pos (show a < 0 by omega) hb; omega

set_option maxHeartbeats 400000 in
theorem down_any (a b : Int) (w : World) (hb : 0 < b) (hb1 : b ≤ 9100000000000000000) (h0 : -9100000000000000000 ≤ a) (h1 : a ≤ 9100000000000000000) :
    Calls Tryd.prog 118 #[.int .i64 a, .int .i64 b] w fun e w' => e = .returned (.int .i64 (a / b)) ∧ w = w' := by
  by_cases ha : 0 ≤ a
  · obtain ⟨q, r, e1, e2, e3, e4, _⟩ := pos_parts a b hb
    have b1 := q_bd a b hb h0 h1
    rw [e1] at b1
    have hr : ¬ r < 0 := by omega
    have H1 : Hid (a / b = q) := e1
    clear e1
    go_enter Tryd.func118, Tryd.ntmps118
    go_wp2
    go_ret
    exact ⟨rfl, rfl⟩
  · obtain ⟨q, r, e1, e2, e3, e4, e5, e6⟩ := neg_parts a b hb
    have b1 := q_bd a b hb h0 h1
    have t1 : a.tdiv b = -q := by rw [← e1, ← Int.tdiv_eq_ediv_of_nonneg (by omega), Int.neg_tdiv, Int.neg_neg]
    have t2 : a.tmod b = -r := by rw [← e2, ← Int.tmod_eq_emod_of_nonneg (by omega), Int.neg_tmod, Int.neg_neg]
    have hne : b ≠ 0 := by omega
    rw [e6] at b1 ⊢
    clear e1 e2 e5 e6
    by_cases hr : 0 < r
    · rw [if_pos hr] at b1 ⊢
      go_enter Tryd.func118, Tryd.ntmps118
      go_wp2
      go_ret
      exact ⟨rfl, rfl⟩
    · rw [if_neg hr] at b1 ⊢
      go_enter Tryd.func118, Tryd.ntmps118
      go_wp2
      go_ret
      exact ⟨rfl, rfl⟩

theorem up_bd (a b : Int) (hb : 0 < b) (h0 : -9100000000000000000 ≤ a) (h1 : a ≤ 9100000000000000000) : -9100000000000000000 ≤ upD a b ∧ upD a b ≤ 9100000000000000000 := by
  have := q_bd (-a) b hb (by omega) (by omega)
  unfold upD; omega

set_option maxHeartbeats 400000 in
theorem up_any (a b : Int) (w : World) (hb : 0 < b) (hb1 : b ≤ 9100000000000000000) (h0 : -9100000000000000000 ≤ a) (h1 : a ≤ 9100000000000000000) :
    Calls Tryd.prog 119 #[.int .i64 a, .int .i64 b] w fun e w' => e = .returned (.int .i64 (upD a b)) ∧ w = w' := by
  by_cases ha : 0 ≤ a
  · obtain ⟨q, r, e1, e2, e3, e4, e5⟩ := pos_parts a b hb
    have b1 := q_bd a b hb h0 h1
    rw [e1] at b1
    rw [e5]
    clear e5
    have t1 : a.tdiv b = q := by rw [← e1, ← Int.tdiv_eq_ediv_of_nonneg ha]
    have t2 : a.tmod b = r := by rw [← e2, ← Int.tmod_eq_emod_of_nonneg ha]
    by_cases hr : 0 < r
    · rw [if_pos hr]
      go_enter Tryd.func119, Tryd.ntmps119
      go_wp2
      go_ret
      exact ⟨rfl, rfl⟩
    · rw [if_neg hr]
      go_enter Tryd.func119, Tryd.ntmps119
      go_wp2
      go_ret
      exact ⟨rfl, rfl⟩
  · obtain ⟨q, r, e1, e2, e3, e4, e5, e6⟩ := neg_parts a b hb
    have b1 := q_bd (-a) b hb (by omega) (by omega)
    rw [e1] at b1
    have t1 : a.tdiv b = -q := by rw [← e1, ← Int.tdiv_eq_ediv_of_nonneg (by omega), Int.neg_tdiv, Int.neg_neg]
    have t2 : a.tmod b = -r := by rw [← e2, ← Int.tmod_eq_emod_of_nonneg (by omega), Int.neg_tmod, Int.neg_neg]
    have hne : b ≠ 0 := by omega
    have hr : ¬ 0 < -r := by omega
    unfold upD
    rw [e1]
    clear e1 e2 e5 e6
    go_enter Tryd.func119, Tryd.ntmps119
    go_wp2
    go_ret
    exact ⟨rfl, rfl⟩

/-- the least enclosure of a by b, which is not 0 -/
def qLoQ (a b : Int) : Int := if b < 0 then (-a) / (-b) else a / b
def qHiQ (a b : Int) : Int := if b < 0 then upD (-a) (-b) else upD a b

set_option maxHeartbeats 400000 in
theorem quotient_any (a b : Int) (w : World) (hb : b ≠ 0) (hb0 : -9100000000000000000 ≤ b) (hb1 : b ≤ 9100000000000000000) (h0 : -9100000000000000000 ≤ a) (h1 : a ≤ 9100000000000000000) :
    Calls Tryd.prog 89 #[.int .i64 a, .int .i64 b] w fun e w' => e = .returned (encl (qLoQ a b) (qHiQ a b)) ∧ Own w.heap.size w w' := by
  by_cases hn : b < 0
  · unfold qLoQ qHiQ
    rw [if_pos hn, if_pos hn]
    go_enter Tryd.func89, Tryd.ntmps89
    go_wp2_with fail
    refine (down_any (-a) (-b) _ (by omega) (by omega) (by omega) (by omega)).mono ?_
    rintro e w' ⟨rfl, rfl⟩
    go_wp2_with fail
    refine (up_any (-a) (-b) _ (by omega) (by omega) (by omega) (by omega)).mono ?_
    rintro e w' ⟨rfl, rfl⟩
    go_wp2_with fail
    refine bodyPost_ret (v := encl _ _) (by simp [results, Tryd.results89, go_sem]) rfl ⟨rfl, ?_⟩
    exact (Own.refl _ _).alloc (Nat.le_refl _) _
  · unfold qLoQ qHiQ
    rw [if_neg hn, if_neg hn]
    go_enter Tryd.func89, Tryd.ntmps89
    go_wp2_with fail
    refine (down_any a b _ (by omega) (by omega) (by omega) (by omega)).mono ?_
    rintro e w' ⟨rfl, rfl⟩
    go_wp2_with fail
    refine (up_any a b _ (by omega) (by omega) (by omega) (by omega)).mono ?_
    rintro e w' ⟨rfl, rfl⟩
    go_wp2_with fail
    refine bodyPost_ret (v := encl _ _) (by simp [results, Tryd.results89, go_sem]) rfl ⟨rfl, ?_⟩
    exact (Own.refl _ _).alloc (Nat.le_refl _) _

/-- valid enclosures of values -/
def valB (lo hi : Int) : Bool := inB lo hi (-3000000000) 3000000000

set_option maxHeartbeats 400000 in
theorem isValues_any (lo hi : Int) (w : World) :
    Calls Tryd.prog 123 #[encl lo hi] w fun e w' => e = .returned (.bool (valB lo hi)) ∧ Own w.heap.size w w' := by
  go_enter Tryd.func123, Tryd.ntmps123
  go_wp2_with fail
  refine (isWithin_any lo hi (-3000000000) 3000000000 _).mono ?_
  rintro e w1 ⟨rfl, hb1⟩
  have hbw : Own w.heap.size w w1 := (((Own.refl _ _).alloc (Nat.le_refl _) _)).trans (hb1.mono (by simp))
  go_wp2_with fail
  go_ret
  exact ⟨rfl, hbw⟩

/-- a call that returns v -/
def Ret1 (f : FuncId) (args : Array Value) (v : Value) : Prop := ∀ w : World, Calls Tryd.prog f args w fun e w' => e = .returned v ∧ Own w.heap.size w w'
theorem Ret1.at {f : FuncId} {args : Array Value} {v : Value} (h : Ret1 f args v) (w : World) : Calls Tryd.prog f args w fun e w' => e = .returned v ∧ Own w.heap.size w w' := h w

set_option maxHeartbeats 400000 in
theorem times1_any (a b : Int) (h0 : -9000000000000000000 ≤ a * b) (h1 : a * b ≤ 9000000000000000000) :
    Ret1 121 #[.int .i64 a, .int .i64 b] (encl (a * b / 100000000) (upD (a * b) 100000000)) := by
  intro w
  have hw := IntWalk.i64_in (a * b) (by omega)
  have e1 : qLoQ (a * b) 100000000 = a * b / 100000000 := rfl
  have e2 : qHiQ (a * b) 100000000 = upD (a * b) 100000000 := rfl
  have Q := fun w => quotient_any (a * b) 100000000 w (by omega) (by omega) (by omega) (by omega) (by omega)
  rw [e1, e2] at Q
  have Q := Lib.hid Q
  clear e1 e2
  go_enter Tryd.func121, Tryd.ntmps121
  go_wp2_with fail
  refine (Q.out _).mono ?_
  rintro e w1 ⟨rfl, hb1⟩
  obtain ⟨hc, hf⟩ := bcell hb1
  go_wp2_with fail
  refine bodyPost_ret (v := encl _ _) (by simp [results, Tryd.results121, go_sem, hc]) rfl ⟨rfl, ?_⟩
  exact ((((Own.refl _ _).alloc (Nat.le_refl _) _).trans (hb1.mono (by simp))).setCell (by simp) _).setCell (by simp) _

set_option maxHeartbeats 400000 in
theorem over1_any (a b : Int) (hb : b ≠ 0) (h0 : -3000000000 ≤ a) (h1 : a ≤ 3000000000) (h2 : -3000000000 ≤ b) (h3 : b ≤ 3000000000) :
    Ret1 124 #[.int .i64 a, .int .i64 b] (encl (qLoQ (a * 100000000) b) (qHiQ (a * 100000000) b)) := by
  intro w
  go_enter Tryd.func124, Tryd.ntmps124
  go_wp2_with fail
  refine (quotient_any (a * 100000000) b _ (by omega) (by omega) (by omega) (by omega) (by omega)).mono ?_
  rintro e w1 ⟨rfl, hb1⟩
  obtain ⟨hc, hf⟩ := bcell hb1
  go_wp2_with fail
  refine bodyPost_ret (v := encl _ _) (by simp [results, Tryd.results124, go_sem, hc]) rfl ⟨rfl, ?_⟩
  exact ((((Own.refl _ _).alloc (Nat.le_refl _) _).trans (hb1.mono (by simp))).setCell (by simp) _).setCell (by simp) _

set_option maxHeartbeats 400000 in
theorem plus1_any (a b : Int) (h0 : -3000000000 ≤ a) (h1 : a ≤ 3000000000) (h2 : -3000000000 ≤ b) (h3 : b ≤ 3000000000) :
    Ret1 122 #[.int .i64 a, .int .i64 b] (encl (a + b) (a + b)) := by
  intro w
  go_enter Tryd.func122, Tryd.ntmps122
  go_wp2_with fail
  refine (only_any (a + b) _).mono ?_
  rintro e w1 ⟨rfl, hb1⟩
  obtain ⟨hc, hf⟩ := bcell hb1
  go_wp2_with fail
  refine bodyPost_ret (v := encl _ _) (by simp [results, Tryd.results122, go_sem, hc]) rfl ⟨rfl, ?_⟩
  exact ((((Own.refl _ _).alloc (Nat.le_refl _) _).trans (hb1.mono (by simp))).setCell (by simp) _).setCell (by simp) _

set_option maxHeartbeats 400000 in
theorem minus1_any (a b : Int) (h0 : -3000000000 ≤ a) (h1 : a ≤ 3000000000) (h2 : -3000000000 ≤ b) (h3 : b ≤ 3000000000) :
    Ret1 125 #[.int .i64 a, .int .i64 b] (encl (a - b) (a - b)) := by
  intro w
  go_enter Tryd.func125, Tryd.ntmps125
  go_wp2_with fail
  refine (only_any (a - b) _).mono ?_
  rintro e w1 ⟨rfl, hb1⟩
  obtain ⟨hc, hf⟩ := bcell hb1
  go_wp2_with fail
  refine bodyPost_ret (v := encl _ _) (by simp [results, Tryd.results125, go_sem, hc]) rfl ⟨rfl, ?_⟩
  exact ((((Own.refl _ _).alloc (Nat.le_refl _) _).trans (hb1.mono (by simp))).setCell (by simp) _).setCell (by simp) _
end Go.Proofs.YtjcgojbfjefbcaaDoor

/- Ends that are collected by a closure. -/
namespace Go.Proofs.YtjcgojbfjefbcaaDoor
set_option linter.unusedSimpArgs false
set_option linter.unusedVariables false
open Go.RowKit SineNear

theorem infoEncl : (Tryd.prog.info? 51).map (fun i => (i.zero, i.size, i.bytes)) = some (some (.agg #[.int .i64 0, .int .i64 0]), 2, 16) := by kernel_rfl

/-- a list of ends in its variable -/
structure Ends (bE : Nat) (n : Nat) (xs : List Value) (w : World) : Prop where
  big : bE < w.heap.size
  some : ∃ v, w.cell? ⟨bE, 0, none⟩ = some v ∧ w.frozen? ⟨bE, 0, none⟩ = false ∧ w.ownsRow (bE + 1) 51 2 v n xs

/-- what is in a cell -/
def rdV (w : World) (b : Nat) : Value := match w.cell? ⟨b, 0, none⟩ with | some v => v | none => .int .i64 0
theorem rdV_of {w : World} {b : Nat} {v : Value} (h : w.cell? ⟨b, 0, none⟩ = some v) : rdV w b = v := by unfold rdV; rw [h]

/-- what the region reads, and leaves -/
def KqE (W : World) (bE bO : Nat) (o : Value) (w : World) : Prop :=
  w.cell? ⟨bE, 0, none⟩ = some (rdV w bE) ∧ w.cell? ⟨bO, 0, none⟩ = some o ∧ w.frozen? ⟨bE, 0, none⟩ = false ∧ bE < w.heap.size ∧ bO < w.heap.size ∧ Below bE W w

theorem ownsRow_below {w w1 : World} {base n : Nat} {e : TypeId} {s : Nat} {v : Value} {xs : List Value} (h : w.ownsRow base e s v n xs) (hb : Below w.heap.size w w1) : w1.ownsRow base e s v n xs :=
  h.kept (row := none) ⟨hb.os, hb.tape, hb.output, hb.size, fun k hk _ => hb.block k hk⟩ (by by_cases c : v.ownBlock = none; exact .inl c; exact .inr c)

theorem KqE.call {W w w1 : World} {bE bO : Nat} {o : Value} (k : KqE W bE bO o w) (hb : Below w.heap.size w w1) : KqE W bE bO o w1 := by
  obtain ⟨k0, k1, k2, k3, k4, k6⟩ := k
  have hz := hb.size
  refine ⟨?_, ?_, ?_, by omega, by omega, k6.trans (hb.mono (by omega))⟩
  · have e := hb.cell (p := ⟨bE, 0, none⟩) k3; rw [k0] at e; rw [rdV_of e]; exact e
  · rw [hb.cell (p := ⟨bO, 0, none⟩) k4]; exact k1
  · rw [hb.frozen (p := ⟨bE, 0, none⟩) k3]; exact k2
theorem KqE.grown {W w w1 : World} {bE bO n : Nat} {o u : Value} {xs : List Value} {e : TypeId} {s : Nat} (k : KqE W bE bO o w) (hown : w.ownsRow (bE + 1) e s u n xs) (hO : bO < bE) (hg : w.grownBy w1 u.ownBlock) : KqE W bE bO o w1 := by
  obtain ⟨k0, k1, k2, k3, k4, k6⟩ := k
  have hz := hg.size
  have hr : ∀ j, u.ownBlock = some j → bE + 1 ≤ j := fun j hj => (hown.lt j hj).1
  have nE : some bE ≠ u.ownBlock := fun h => by have := hr bE h.symm; omega
  have nO : some bO ≠ u.ownBlock := fun h => by have := hr bO h.symm; omega
  refine ⟨?_, ?_, ?_, by omega, by omega, k6.grown hg (by omega) (fun j hj => by have := hr j hj; omega)⟩
  · have e := hg.cell_far ⟨bE, 0, none⟩ k3 nE; rw [k0] at e; rw [rdV_of e]; exact e
  · rw [hg.cell_far ⟨bO, 0, none⟩ k4 nO]; exact k1
  · rw [hg.frozen_far ⟨bE, 0, none⟩ k3 nE]; exact k2
theorem KqE.set {W w : World} {bE bO : Nat} {o : Value} (k : KqE W bE bO o w) (hO : bO < bE) (u : Value) : KqE W bE bO o (w.setCell ⟨bE, 0, none⟩ u) := by
  obtain ⟨k0, k1, k2, k3, k4, k6⟩ := k
  have e : (w.setCell ⟨bE, 0, none⟩ u).cell? ⟨bE, 0, none⟩ = some u := by simp [go_sem, k0]
  refine ⟨by rw [rdV_of e]; exact e, ?_, ?_, by simpa using k3, by simpa using k4, k6.setCell (Nat.le_refl _) _⟩
  · simp [go_sem, k1, show bE ≠ bO by omega, show bO ≠ bE by omega]
  · simp [go_sem, k2]
theorem hb_cell {w wq : World} {b : Nat} {v : Value} (hb : b < w.heap.size) (h : w.cell? ⟨b, 0, none⟩ = some v) (hq : Own w.drew.heap.size w.drew wq) : wq.cell? ⟨b, 0, none⟩ = some v := by
  rw [hq.cell (p := ⟨b, 0, none⟩) hb]; exact h
theorem hb_frozen {w wq : World} {b : Nat} (hb : b < w.heap.size) (h : w.frozen? ⟨b, 0, none⟩ = false) (hq : Own w.drew.heap.size w.drew wq) : wq.frozen? ⟨b, 0, none⟩ = false := by
  rw [hq.frozen (p := ⟨b, 0, none⟩) hb]; exact h
theorem far_cell {w w1 : World} {bE n s : Nat} {u v : Value} {xs : List Value} {e : TypeId} (h : w.cell? ⟨bE, 0, none⟩ = some v) (hb : bE < w.heap.size) (o : Obj) (hown : (w.alloc o).ownsRow (bE + 1) e s u n xs) (hg : (w.alloc o).grownBy w1 u.ownBlock) : w1.cell? ⟨bE, 0, none⟩ = some v := by
  rw [hg.cell_far ⟨bE, 0, none⟩ (by simp; omega) (fun h => by have := (hown.lt bE h.symm).1; omega), World.cell?_alloc_old _ _ _ (by simp; omega)]; exact h
theorem far_frozen {w w1 : World} {bE n s : Nat} {u : Value} {xs : List Value} {e : TypeId} (h : w.frozen? ⟨bE, 0, none⟩ = false) (hb : bE < w.heap.size) (c : Array Value) (t : TypeId) (hown : (w.alloc (.cells c t)).ownsRow (bE + 1) e s u n xs) (hg : (w.alloc (.cells c t)).grownBy w1 u.ownBlock) : w1.frozen? ⟨bE, 0, none⟩ = false := by
  rw [hg.frozen_far ⟨bE, 0, none⟩ (by simp; omega) (fun h => by have := (hown.lt bE h.symm).1; omega), frozen?_alloc_cells]; exact h
theorem far_own {w w1 : World} {bE n s : Nat} {u : Value} {xs : List Value} {e : TypeId} (W : World) (h : Below bE W w) (hb : bE < w.heap.size) (o : Obj) (hown : (w.alloc o).ownsRow (bE + 1) e s u n xs) (hg : (w.alloc o).grownBy w1 u.ownBlock) : Below bE W w1 :=
  (h.alloc (by omega) o).grown hg (by simp; omega) (fun j hj => by have := (hown.lt j hj).1; omega)
theorem ends_set {w : World} {bE n g cap m : Nat} {xs : List Value} {u : Value} (hown : w.ownsRow (bE + 1) 51 2 (.slice (some ⟨g, 0, none⟩) m cap) n xs) (hc : w.cell? ⟨bE, 0, none⟩ = some u) (hf : w.frozen? ⟨bE, 0, none⟩ = false) :
    Ends bE n xs (w.setCell ⟨bE, 0, none⟩ (.slice (some ⟨g, 0, none⟩) m cap)) := by
  have hb := World.block_lt_of_cell? w _ hc
  have hne := (hown.lt g rfl).1
  refine ⟨by simpa using hb, _, ?_, ?_, hown.kept (row := some bE) ⟨rfl, rfl, rfl, by simp [World.setCell], fun k hk hn => Below.heap_setCell _ _ _ _ (fun h => hn (by rw [h]))⟩ (.inr ?_)⟩
  · simp [go_sem, hc]
  · simp [go_sem, hf]
  · intro h
    have : g = bE := by simpa [Value.ownBlock] using h
    omega
attribute [local go_sem ↓] Go.wp_at_zero Go.wp_at_succ

set_option maxRecDepth 100000 in
set_option maxHeartbeats 1000000 in
theorem collect_any (bE bO n : Nat) (op : FuncId) (a b lo hi : Int) (xs : List Value) (w : World) (h : Ends bE n xs w) (hbOE : bO < bE) (hO : w.cell? ⟨bO, 0, none⟩ = some (.func (.func op) #[] #[])) (hn : n ≤ 3)
    (eg : ∀ args w, (callFunc op args).run Tryd.prog w = .ok (.enter op args) w) (C : Ret1 op #[.int .i64 a, .int .i64 b] (encl lo hi)) :
    Calls Tryd.prog 129 #[.int .i64 a, .int .i64 b, .pointer (some ⟨bE, 0, none⟩), .pointer (some ⟨bO, 0, none⟩)] w fun e w' => e = .returned (.tuple #[]) ∧ Ends bE (n + 1) (xs ++ [.int .i64 lo, .int .i64 hi]) w' ∧ Below bE w w' := by
  obtain ⟨i0, hi0, hz0, hz1, hz2⟩ := info_parts infoEncl
  obtain ⟨hbE, v, hE, hF, hown⟩ := h
  have hbO := World.block_lt_of_cell? w _ hO
  have hK : KqE w bE bO (.func (.func op) #[] #[]) w := ⟨by rw [rdV_of hE]; exact hE, hO, hF, hbE, hbO, Below.refl _ _⟩
  go_enter Tryd.func129, Tryd.ntmps129
  go_wp2_with fail
  go_region_law (first | ((refine step_append_lies _ (by rfl) _ _ _ (by rfl) (bE + 1) 51 i0 _ 2 16 Tryd.underlying172 hi0 hz0 hz1 hz2 rfl (by omega) v n xs (by rfl) ((ownsRow_below hown.drew hbq.below).alloc _) ⟨wq.heap.size, 0, none⟩ 1 1 [.int .i64 lo, .int .i64 hi] (by rfl) (by rfl) (World.news_of_block (cs := #[.int .i64 lo, .int .i64 hi]) (t := 51) (fr := (0, 0)) (heap_alloc_new wq _)) (by simp [Value.oneCell']) (by omega) (by unfold maxLen; omega) (by omega) (by have := hbq.below.size; simp at this ⊢; omega) (wq.heap.size + 1) (by simp) ?_; intro g cap w1 hown1 hgrow hat hlt; have hown0 := (ownsRow_below hown.drew hbq.below).alloc (.cells #[.int .i64 lo, .int .i64 hi] 51); have hc1 := far_cell hcq hzq _ hown0 hgrow; have hf1 := far_frozen hfq hzq _ _ hown0 hgrow; have hb1 := far_own w ((Below.refl _ _).drew.trans (hbq.below.mono (Nat.le_of_lt hbE))) hzq _ hown0 hgrow; clear hown0)) | (go_simp; refine (Ret1.at C _).mono ?_; rintro e wq ⟨rfl, hbq⟩; have hcq := (hb_cell hbE hE hbq); have hfq := hb_frozen hbE hF hbq; have hzq := Nat.lt_of_lt_of_le hbE hbq.below.size))
  all_goals (go_end0; exact ⟨rfl, ends_set hown1 hc1 hf1, hb1.setCell (Nat.le_refl _) _⟩)
end Go.Proofs.YtjcgojbfjefbcaaDoor

/- Ends that are combined: Plus, Minus, Times, Over of the code. -/
namespace Go.Proofs.YtjcgojbfjefbcaaDoor
set_option linter.unusedSimpArgs false
set_option linter.unusedVariables false
open Go.RowKit SineNear

set_option maxHeartbeats 1000000 in
theorem join_off (l h : Int) (n c b d : Nat) (f g : Nat → Int) (w : World) (hn : n ≤ 10) (hb : b < w.heap.size)
    (hf : ∀ j, j < n → w.cell? ⟨b, d + j*2, none⟩ = some (.int .i64 (f j))) (hg : ∀ j, j < n → w.cell? ⟨b, d + j*2+1, none⟩ = some (.int .i64 (g j))) :
    Calls Tryd.prog 83 #[encl l h, .slice (some ⟨b, d, none⟩) n c] w fun e w' => e = .returned (encl (jLo l f n) (jHi h g n)) ∧ Own w.heap.size w w' := by
  go_enter Tryd.func83, Tryd.ntmps83
  go_wp2_with fail
  go_loopw [9] (fun i wr => ∃ k : Nat, k ≤ n ∧ i = .int .i64 k ∧ Own w.heap.size w wr ∧ w.heap.size + 1 < wr.heap.size ∧
      wr.cell? ⟨w.heap.size, 0, none⟩ = some (.int .i64 (jLo l f k)) ∧ wr.cell? ⟨w.heap.size, 1, none⟩ = some (.int .i64 (jHi h g k)) ∧
      wr.frozen? ⟨w.heap.size, 0, none⟩ = false ∧ wr.frozen? ⟨w.heap.size, 1, none⟩ = false ∧
      wr.cell? ⟨w.heap.size+1, 0, none⟩ = some (.int .i64 0) ∧ wr.cell? ⟨w.heap.size+1, 1, none⟩ = some (.int .i64 0) ∧
      wr.frozen? ⟨w.heap.size+1, 0, none⟩ = false ∧ wr.frozen? ⟨w.heap.size+1, 1, none⟩ = false) (fun i _ => n - (intOf i).toNat)
  case atStart =>
    refine ⟨0, by omega, rfl, ?_, ?_, ?_⟩
    · exact ((Own.refl _ _).alloc (Nat.le_refl _) _).alloc (by simp) _
    · simp
    · simp [jLo, jHi, go_sem]
  case round =>
    obtain ⟨k, hk, rfl, hbw, hsz, c0, c1, z0, z1, d0, d1, y0, y1⟩ := hrel
    have hz : w.heap.size < wr.heap.size := by omega
    have hz1 : w.heap.size + 1 < wr.heap.size := by omega
    by_cases hlt : k < n
    · have e1 : wr.cell? ⟨b, d + k*2, none⟩ = some (.int .i64 (f k)) := by rw [hbw.cell (p := ⟨b, d + k*2, none⟩) hb]; exact hf k hlt
      have e2 : wr.cell? ⟨b, d + k*2+1, none⟩ = some (.int .i64 (g k)) := by rw [hbw.cell (p := ⟨b, d + k*2+1, none⟩) hb]; exact hg k hlt
      have hb2 : b < wr.heap.size := by omega
      clear hf hg
      go_wp2
      go_roundw
      case rel =>
        refine ⟨k + 1, by omega, by go_num, ?_, ?_, ?_⟩
        · refine Own.alloc (Own.setCell (Own.setCell hbw ?_ _) ?_ _) ?_ _ <;> first | exact Nat.le_refl _ | (simp; omega)
        · simp; omega
        · simp [jLo, jHi, go_sem, c0, c1, z0, z1, d0, d1, y0, y1, hz, hz1]
          try (refine ⟨?_, ?_⟩ <;> (split <;> omega))
      case measure => simp [intOf]; omega
    · obtain rfl : k = n := by omega
      go_wp2
      refine bodyPost_ret (v := encl _ _) (by simp [results, Tryd.results83, go_sem, d0, d1]) rfl ⟨rfl, ?_⟩
      refine Own.setCell (Own.setCell hbw ?_ _) ?_ _ <;> simp

set_option maxHeartbeats 1000000 in
theorem combine_no (x0 x1 y0 y1 : Int) (op : FuncId) (w : World) (h : valB x0 x1 = false ∨ valB y0 y1 = false) :
    Calls Tryd.prog 120 #[encl x0 x1, encl y0 y1, .func (.func op) #[] #[]] w fun e w' => e = .returned (enclE 0 0 7) ∧ Own w.heap.size w w' := by
  cases hx : valB x0 x1
  · clear h
    go_enter Tryd.func120, Tryd.ntmps120
    go_wp2_with fail
    refine (isValues_any x0 x1 _).mono ?_
    rintro e w1 ⟨rfl, hb1⟩
    obtain ⟨hc, hf⟩ := bcell hb1
    have hz1 : w.heap.size + 3 < w1.heap.size := by have := hb1.size; simp at this; omega
    have hbw : Own w.heap.size w w1 := (((((Own.refl _ _).alloc (Nat.le_refl _) _).alloc (by simp) _).alloc (by simp; omega) _).alloc (by simp; omega) _).trans (hb1.mono (by simp; omega))
    rw [hx]
    go_wp2_with fail
    refine bodyPost_ret (v := enclE 0 0 7) (by simp [results, Tryd.results120, go_sem, hc]) rfl ⟨rfl, ?_⟩
    repeat' (first | exact hbw | exact Nat.le_refl _ | refine Own.setCell ?_ ?_ _ | refine Own.alloc ?_ ?_ _)
    all_goals (first | (simp; done) | (simp; omega))
  · have hy : valB y0 y1 = false := by rcases h with h | h; rw [hx] at h; cases h; exact h
    clear h
    go_enter Tryd.func120, Tryd.ntmps120
    go_wp2_with fail
    refine (isValues_any x0 x1 _).mono ?_
    rintro e w1 ⟨rfl, hb1⟩
    obtain ⟨hc, hf⟩ := bcell hb1
    have hz1 : w.heap.size + 3 < w1.heap.size := by have := hb1.size; simp at this; omega
    have hbw : Own w.heap.size w w1 := (((((Own.refl _ _).alloc (Nat.le_refl _) _).alloc (by simp) _).alloc (by simp; omega) _).alloc (by simp; omega) _).trans (hb1.mono (by simp; omega))
    rw [hx]
    go_wp2_with fail
    refine (isValues_any y0 y1 _).mono ?_
    rintro e w2 ⟨rfl, hb2⟩
    obtain ⟨hc2, hf2⟩ := bcell hb2
    have hz2 : w.heap.size + 3 < w2.heap.size := by have := hb2.size; omega
    have q3 : w.heap.size + 1 + 1 + 1 < w1.heap.size := by omega
    have hbw2 : Own w.heap.size w w2 := hbw.trans (hb2.mono (by omega))
    rw [hy]
    go_wp2_with fail
    refine bodyPost_ret (v := enclE 0 0 7) (by simp [results, Tryd.results120, go_sem, hc, hc2, q3]) rfl ⟨rfl, ?_⟩
    repeat' (first | exact hbw2 | exact Nat.le_refl _ | refine Own.setCell ?_ ?_ _ | refine Own.alloc ?_ ?_ _)
    all_goals (first | (simp; done) | (simp; omega))

/-- the arguments in their boxes, and the box of the result -/
def KqF (s : Nat) (x0 x1 y0 y1 : Int) (o : Value) (w : World) : Prop :=
  w.cell? ⟨s, 0, none⟩ = some (.int .i64 x0) ∧ w.cell? ⟨s, 1, none⟩ = some (.int .i64 x1) ∧ w.cell? ⟨s + 1, 0, none⟩ = some (.int .i64 y0) ∧ w.cell? ⟨s + 1, 1, none⟩ = some (.int .i64 y1) ∧
  w.cell? ⟨s + 1 + 1, 0, none⟩ = some o ∧ w.cell? ⟨s + 1 + 1 + 1, 0, none⟩ = some (.int .i64 0) ∧ w.cell? ⟨s + 1 + 1 + 1, 1, none⟩ = some (.int .i64 0) ∧ w.frozen? ⟨s + 1 + 1 + 1, 0, none⟩ = false ∧ w.frozen? ⟨s + 1 + 1 + 1, 1, none⟩ = false ∧ s + 1 + 1 + 1 < w.heap.size
theorem KqF.below {s b : Nat} {x0 x1 y0 y1 : Int} {o : Value} {w w1 : World} (k : KqF s x0 x1 y0 y1 o w) (hs : s + 1 + 1 + 1 < b) (hb : Below b w w1) : KqF s x0 x1 y0 y1 o w1 := by
  obtain ⟨k0, k1, k2, k3, k4, k5, k6, k7, k8, k9⟩ := k
  have hz := hb.size
  refine ⟨?_, ?_, ?_, ?_, ?_, ?_, ?_, ?_, ?_, by omega⟩
  · rw [hb.cell (p := ⟨s, 0, none⟩) (by show s < b; omega)]; exact k0
  · rw [hb.cell (p := ⟨s, 1, none⟩) (by show s < b; omega)]; exact k1
  · rw [hb.cell (p := ⟨s + 1, 0, none⟩) (by show s + 1 < b; omega)]; exact k2
  · rw [hb.cell (p := ⟨s + 1, 1, none⟩) (by show s + 1 < b; omega)]; exact k3
  · rw [hb.cell (p := ⟨s + 1 + 1, 0, none⟩) (by show s + 1 + 1 < b; omega)]; exact k4
  · rw [hb.cell (p := ⟨s + 1 + 1 + 1, 0, none⟩) hs]; exact k5
  · rw [hb.cell (p := ⟨s + 1 + 1 + 1, 1, none⟩) hs]; exact k6
  · rw [hb.frozen (p := ⟨s + 1 + 1 + 1, 0, none⟩) hs]; exact k7
  · rw [hb.frozen (p := ⟨s + 1 + 1 + 1, 1, none⟩) hs]; exact k8

theorem ends_new (w : World) : Ends w.heap.size 0 [] (w.alloc (.cells #[.slice none 0 0] 172)) :=
  ⟨by simp, .slice none 0 0, by simp [go_sem], by simp [go_sem], World.ownsRow_nil _ _ _ _⟩

/-- what the region reads, and leaves -/
def KqG (W : World) (bE g : Nat) (v : Value) (l h : Int) (w : World) : Prop :=
  w.cell? ⟨bE, 0, none⟩ = some v ∧ w.cell? ⟨g, 0, none⟩ = some (.int .i64 l) ∧ w.cell? ⟨g, 1, none⟩ = some (.int .i64 h) ∧ (bE < W.heap.size ∧ g < W.heap.size) ∧ Below W.heap.size W w
theorem KqG.call {W w w1 : World} {bE g : Nat} {v : Value} {l h : Int} (k : KqG W bE g v l h w) (hb : Below w.heap.size w w1) : KqG W bE g v l h w1 := by
  obtain ⟨k0, k1, k2, ⟨k3, k4⟩, k5⟩ := k
  have hz := k5.size
  refine ⟨?_, ?_, ?_, ⟨k3, k4⟩, k5.trans (hb.mono hz)⟩
  · rw [hb.cell (p := ⟨bE, 0, none⟩) (by show bE < _; omega)]; exact k0
  · rw [hb.cell (p := ⟨g, 0, none⟩) (by show g < _; omega)]; exact k1
  · rw [hb.cell (p := ⟨g, 1, none⟩) (by show g < _; omega)]; exact k2
theorem KqG.set {W w : World} {bE g b : Nat} {v : Value} {l h : Int} (k : KqG W bE g v l h w) (hb : W.heap.size ≤ b) (x y : Value) : KqG W bE g v l h ((w.setCell ⟨b, 0, none⟩ x).setCell ⟨b, 1, none⟩ y) := by
  obtain ⟨k0, k1, k2, ⟨k3, k4⟩, k5⟩ := k
  have n1 : bE ≠ b := by omega
  have n2 : g ≠ b := by omega
  refine ⟨?_, ?_, ?_, ⟨k3, k4⟩, (k5.setCell hb _).setCell hb _⟩
  · simp [go_sem, k0, n1, Ne.symm n1]
  · simp [go_sem, k1, n2, Ne.symm n2]
  · simp [go_sem, k2, n2, Ne.symm n2]
attribute [local go_sem ↓] Go.wp_at_zero Go.wp_at_succ

theorem row_f {w w' : World} {base g cap : Nat} {l1 h1 l2 h2 l3 h3 l4 h4 : Int} {e : TypeId} (h : w.ownsRow base e 2 (.slice (some ⟨g, 0, none⟩) 4 cap) 4 [.int .i64 l1, .int .i64 h1, .int .i64 l2, .int .i64 h2, .int .i64 l3, .int .i64 h3, .int .i64 l4, .int .i64 h4]) (hg : g < w.heap.size) (hb : Below w.heap.size w w') :
    (∀ j, j < 3 → w'.cell? ⟨g, 2 + j*2, none⟩ = some (.int .i64 (match j with | 0 => l2 | 1 => l3 | _ => l4))) ∧ (∀ j, j < 3 → w'.cell? ⟨g, 2 + j*2+1, none⟩ = some (.int .i64 (match j with | 0 => h2 | 1 => h3 | _ => h4))) := by
  have c := h.cellAt
  refine ⟨fun j hj => ?_, fun j hj => ?_⟩
  · rw [hb.cell (p := ⟨g, 2 + j*2, none⟩) hg, c _ (by omega)]
    have : j = 0 ∨ j = 1 ∨ j = 2 := by omega
    rcases this with rfl | rfl | rfl <;> rfl
  · rw [hb.cell (p := ⟨g, 2 + j*2+1, none⟩) hg, c _ (by omega)]
    have : j = 0 ∨ j = 1 ∨ j = 2 := by omega
    rcases this with rfl | rfl | rfl <;> rfl

/-- the least of four, and the greatest -/
def lo4 (a b c d : Int) : Int := min (min (min a b) c) d
def hi4 (a b c d : Int) : Int := max (max (max a b) c) d
theorem jLo3 (a b c d : Int) : jLo a (fun j => match j with | 0 => b | 1 => c | _ => d) 3 = lo4 a b c d := by
  simp only [jLo, lo4]; repeat' split <;> omega
theorem jHi3 (a b c d : Int) : jHi a (fun j => match j with | 0 => b | 1 => c | _ => d) 3 = hi4 a b c d := by
  simp only [jHi, hi4]; repeat' split <;> omega

theorem join_row {w w' : World} {base g cap c : Nat} {l1 h1 l2 h2 l3 h3 l4 h4 : Int} {e : TypeId} (h : w.ownsRow base e 2 (.slice (some ⟨g, 0, none⟩) 4 cap) 4 [.int .i64 l1, .int .i64 h1, .int .i64 l2, .int .i64 h2, .int .i64 l3, .int .i64 h3, .int .i64 l4, .int .i64 h4]) (hg : g < w.heap.size) (hb : Below w.heap.size w w') :
    Calls Tryd.prog 83 #[encl l1 h1, .slice (some ⟨g, 2, none⟩) 3 c] w' fun e w1 => e = .returned (encl (lo4 l1 l2 l3 l4) (hi4 h1 h2 h3 h4)) ∧ Own w'.heap.size w' w1 := by
  obtain ⟨f1, f2⟩ := row_f h hg hb
  rw [← jLo3, ← jHi3]
  exact join_off l1 h1 3 c g 2 _ _ w' (by omega) (by have := hb.size; omega) f1 f2

/-- an enclosure, or an error -/
def vLo (l h : Int) : Int := if valB l h then l else 0
def vHi (l h : Int) : Int := if valB l h then h else 0
def vE (l h : Int) : Int := if valB l h then 0 else 7
abbrev resE (l h : Int) : Value := enclE (vLo l h) (vHi l h) (vE l h)

set_option maxRecDepth 100000 in
set_option maxHeartbeats 4000000 in
theorem combine_yes (x0 x1 y0 y1 l1 h1 l2 h2 l3 h3 l4 h4 : Int) (op : FuncId) (w : World) (hx : valB x0 x1 = true) (hy : valB y0 y1 = true)
    (eg : ∀ args w, (callFunc op args).run Tryd.prog w = .ok (.enter op args) w) (C1 : Ret1 op #[.int .i64 x0, .int .i64 y0] (encl l1 h1)) (C2 : Ret1 op #[.int .i64 x0, .int .i64 y1] (encl l2 h2)) (C3 : Ret1 op #[.int .i64 x1, .int .i64 y0] (encl l3 h3)) (C4 : Ret1 op #[.int .i64 x1, .int .i64 y1] (encl l4 h4)) :
    Calls Tryd.prog 120 #[encl x0 x1, encl y0 y1, .func (.func op) #[] #[]] w fun e w' => e = .returned (resE (lo4 l1 l2 l3 l4) (hi4 h1 h2 h3 h4)) ∧ Below w.heap.size w w' := by
  have HX := Lib.hid hx
  have HY := Lib.hid hy
  have EG := Lib.hid eg
  clear hx hy eg
  go_enter Tryd.func120, Tryd.ntmps120
  go_wp2_with fail
  have k0 : KqF w.heap.size x0 x1 y0 y1 (.func (.func op) #[] #[]) ((((w.alloc (.cells #[.int .i64 x0, .int .i64 x1] 51)).alloc (.cells #[.int .i64 y0, .int .i64 y1] 51)).alloc (.cells #[.func (.func op) #[] #[]] 69)).alloc (.cells #[.int .i64 0, .int .i64 0] 51)) := by
    refine ⟨?_, ?_, ?_, ?_, ?_, ?_, ?_, ?_, ?_, ?_⟩ <;> simp [go_sem]
  have o0 : Below w.heap.size w ((((w.alloc (.cells #[.int .i64 x0, .int .i64 x1] 51)).alloc (.cells #[.int .i64 y0, .int .i64 y1] 51)).alloc (.cells #[.func (.func op) #[] #[]] 69)).alloc (.cells #[.int .i64 0, .int .i64 0] 51)) :=
    ((((Below.refl _ _).alloc (Nat.le_refl _) _).alloc (by simp) _).alloc (by simp; omega) _).alloc (by simp; omega) _
  refine (isValues_any x0 x1 _).mono ?_
  rintro e w1 ⟨rfl, hb1⟩
  have k1 := k0.below k0.2.2.2.2.2.2.2.2.2 hb1.below
  have o1 := o0.trans (hb1.below.mono (by simp; omega))
  clear k0 o0 hb1
  rw [HX.out]
  have K1 := Lib.hid k1
  obtain ⟨a0, a1, a2, a3, a4, a5, a6, a7, a8, a9⟩ := k1
  go_wp2_with fail
  refine (isValues_any y0 y1 _).mono ?_
  rintro e w2 ⟨rfl, hb2⟩
  have k2 := K1.out.below a9 hb2.below
  have o2 := o1.trans (hb2.below.mono (by omega))
  clear K1 a0 a1 a2 a3 a4 a5 a6 a7 a8 a9 o1 hb2
  rw [HY.out]
  have z2 := k2.2.2.2.2.2.2.2.2.2
  have k3 := k2.below z2 ((Below.refl w2.heap.size w2).alloc (Nat.le_refl _) (.cells #[.slice none 0 0] 172))
  have o3 := o2.alloc (by omega) (.cells #[.slice none 0 0] 172)
  have n3 := ends_new w2
  have K3 := Lib.hid k3
  clear k2
  obtain ⟨a0, a1, a2, a3, a4, a5, a6, a7, a8, a9⟩ := k3
  go_wp2_with fail
  refine (collect_any w2.heap.size (w.heap.size + 1 + 1) 0 op x0 y0 l1 h1 [] _ n3 (by omega) a4 (by omega) EG.out C1).mono ?_
  rintro e w4 ⟨rfl, n4, b4⟩
  have k4 := K3.out.below z2 b4
  have o4 := o3.trans (b4.mono (by omega))
  have K4 := Lib.hid k4
  clear K3 a0 a1 a2 a3 a4 a5 a6 a7 a8 a9 o3 n3 b4
  obtain ⟨a0, a1, a2, a3, a4, a5, a6, a7, a8, a9⟩ := k4
  go_wp2_with fail
  refine (collect_any w2.heap.size (w.heap.size + 1 + 1) 1 op x0 y1 l2 h2 [.int .i64 l1, .int .i64 h1] _ n4 (by omega) a4 (by omega) EG.out C2).mono ?_
  rintro e w5 ⟨rfl, n5, b5⟩
  have k5 := K4.out.below z2 b5
  have o5 := o4.trans (b5.mono (by omega))
  have K5 := Lib.hid k5
  clear K4 a0 a1 a2 a3 a4 a5 a6 a7 a8 a9 o4 n4 b5
  obtain ⟨a0, a1, a2, a3, a4, a5, a6, a7, a8, a9⟩ := k5
  go_wp2_with fail
  refine (collect_any w2.heap.size (w.heap.size + 1 + 1) 2 op x1 y0 l3 h3 [.int .i64 l1, .int .i64 h1, .int .i64 l2, .int .i64 h2] _ n5 (by omega) a4 (by omega) EG.out C3).mono ?_
  rintro e w6 ⟨rfl, n6, b6⟩
  have k6 := K5.out.below z2 b6
  have o6 := o5.trans (b6.mono (by omega))
  have K6 := Lib.hid k6
  clear K5 a0 a1 a2 a3 a4 a5 a6 a7 a8 a9 o5 n5 b6
  obtain ⟨a0, a1, a2, a3, a4, a5, a6, a7, a8, a9⟩ := k6
  go_wp2_with fail
  refine (collect_any w2.heap.size (w.heap.size + 1 + 1) 3 op x1 y1 l4 h4 [.int .i64 l1, .int .i64 h1, .int .i64 l2, .int .i64 h2, .int .i64 l3, .int .i64 h3] _ n6 (by omega) a4 (by omega) EG.out C4).mono ?_
  rintro e w7 ⟨rfl, n7, b7⟩
  have k7 := K6.out.below z2 b7
  have o7 := o6.trans (b7.mono (by omega))
  have K7 := Lib.hid k7
  clear K6 a0 a1 a2 a3 a4 a5 a6 a7 a8 a9 o6 n6 b7
  obtain ⟨a0, a1, a2, a3, a4, a5, a6, a7, a8, a9⟩ := k7
  go_wp2_with fail
  obtain ⟨hbE, v, hE, hF, hown⟩ := n7
  obtain ⟨g, cap, rfl, hg, hglt⟩ := hown.form (by omega)
  have e0 := hown.cellAt 0 (by omega)
  have e1 := hown.cellAt 1 (by omega)
  simp only [List.cons_append, List.nil_append] at hown
  have hcap : 4 ≤ cap := by
    rcases hown.2 with ⟨h, _⟩ | ⟨g', cap', cur, hv, _, _, h4, _⟩
    · cases h
    · cases hv; omega
  have hS : KqG w7 w2.heap.size g (.slice (some ⟨g, 0, none⟩) 4 cap) l1 h1 w7 := ⟨hE, e0, e1, ⟨hbE, hglt⟩, Below.refl _ _⟩
  have c1 : (1 : Int) ≤ (cap : Int) := by omega
  have c2 : (4 : Int) ≤ (cap : Int) := by omega
  have c3 : ¬ cap = 1 := by omega
  clear e0 e1 hE hF a0 a1 a2 a3 a4 a5 a6 a7 a8 a9 C1 C2 C3 C4 EG
  go_region_held3 (fun w' => w'.cell? ⟨w2.heap.size, 0, none⟩ = some (.slice (some ⟨g, 0, none⟩) 4 cap) ∧ w'.cell? ⟨g, 0, none⟩ = some (.int .i64 l1) ∧ w'.cell? ⟨g, 1, none⟩ = some (.int .i64 h1) ∧ (w2.heap.size < w7.heap.size ∧ g < w7.heap.size) ∧ Below w7.heap.size w7 w')
    (first | exact KqG.call hS (Below.refl _ _).drew | exact KqG.call hS ((Below.refl _ _).alloc (Nat.le_refl _) _).drew | (refine KqG.call ?_ hbq.below; assumption) | exact (KqG.call (KqG.call hS (Below.refl _ _).drew) hbq.below).call ((Below.refl _ _).alloc (Nat.le_refl _) _) | (refine KqG.call ?_ ((Below.refl _ _).alloc (Nat.le_refl _) _); assumption) | (refine KqG.set ?_ (Nat.le_refl _) _ _; assumption) | (refine KqG.set ?_ (show w7.heap.size ≤ wq.heap.size from hbq.below.size) _ _; assumption))
    (first | ((with_reducible refine (join_row hown hglt ?_).mono ?_); exact (show KqG w7 w2.heap.size g (.slice (some ⟨g, 0, none⟩) 4 cap) l1 h1 _ by assumption).2.2.2.2; rintro e wq ⟨rfl, hbq⟩; have hcq := (bcell hbq).1; have hfq := (bcell hbq).2))
  all_goals go_wp2_with fail
  · have kg : KqG w7 w2.heap.size g (.slice (some ⟨g, 0, none⟩) 4 cap) l1 h1 (wq.alloc (.cells #[.int .i64 (lo4 l1 l2 l3 l4), .int .i64 (hi4 h1 h2 h3 h4)] 51)) := by assumption
    have bx := Box.fresh wq (lo4 l1 l2 l3 l4) (hi4 h1 h2 h3 h4) 51
    have kx := K7.out.below K7.out.2.2.2.2.2.2.2.2.2 kg.2.2.2.2
    have ox := o7.trans (kg.2.2.2.2.mono o7.size)
    have hbq' : w7.heap.size ≤ wq.heap.size := hbq.below.size
    clear kg hcq hfq hbq
    obtain ⟨X, hX⟩ : ∃ X, X = wq.alloc (.cells #[.int .i64 (lo4 l1 l2 l3 l4), .int .i64 (hi4 h1 h2 h3 h4)] 51) := ⟨_, rfl⟩
    rw [← hX] at kx ox bx ⊢
    have hval := isValues_any (lo4 l1 l2 l3 l4) (hi4 h1 h2 h3 h4) X
    cases hv : valB (lo4 l1 l2 l3 l4) (hi4 h1 h2 h3 h4)
    · rw [hv] at hval
      refine hval.mono ?_
      rintro e w9 ⟨rfl, hb9⟩
      have k9 := kx.below (by have := kx.2.2.2.2.2.2.2.2.2; omega) hb9.below
      have o9 := ox.trans (hb9.below.mono ox.size)
      clear kx ox hval hX bx hb9 hown hS
      obtain ⟨a0, a1, a2, a3, a4, a5, a6, a7, a8, a9⟩ := k9
      go_wp2_with fail
      refine bodyPost_ret (v := enclE 0 0 7) (by simp [results, Tryd.results120, go_sem, a5, a6, a7, a8]) rfl ⟨by simp [resE, vLo, vHi, vE, hv], ?_⟩
      exact (o9.setCell (by simp; omega) _).setCell (by simp; omega) _
    · rw [hv] at hval
      refine hval.mono ?_
      rintro e w9 ⟨rfl, hb9⟩
      have k9 := kx.below (by have := kx.2.2.2.2.2.2.2.2.2; omega) hb9.below
      have o9 := ox.trans (hb9.below.mono ox.size)
      have b9 := bx.below hb9.below
      clear kx ox hval hX bx hb9 hown hS
      obtain ⟨a0, a1, a2, a3, a4, a5, a6, a7, a8, a9⟩ := k9
      obtain ⟨g0, g1, g2, g3, g4⟩ := b9
      go_wp2_with fail
      refine bodyPost_ret (v := enclE (lo4 l1 l2 l3 l4) (hi4 h1 h2 h3 h4) 0) (by simp [results, Tryd.results120, go_sem, a5, a6, a7, a8]) rfl ⟨by simp [resE, vLo, vHi, vE, hv], ?_⟩
      exact (o9.setCell (by simp; omega) _).setCell (by simp; omega) _
  · have kg : KqG w7 w2.heap.size g (.slice (some ⟨g, 0, none⟩) 4 cap) l1 h1 ((wq.setCell ⟨w7.heap.size, 0, none⟩ (.int .i64 (lo4 l1 l2 l3 l4))).setCell ⟨w7.heap.size, 1, none⟩ (.int .i64 (hi4 h1 h2 h3 h4))) := by assumption
    have bx := ((Box.fresh w7 0 0 51).drew.below hbq.below).set (lo4 l1 l2 l3 l4) (hi4 h1 h2 h3 h4)
    have kx := K7.out.below K7.out.2.2.2.2.2.2.2.2.2 kg.2.2.2.2
    have ox := o7.trans (kg.2.2.2.2.mono o7.size)
    clear kg hcq hfq hbq
    obtain ⟨X, hX⟩ : ∃ X, X = (wq.setCell ⟨w7.heap.size, 0, none⟩ (.int .i64 (lo4 l1 l2 l3 l4))).setCell ⟨w7.heap.size, 1, none⟩ (.int .i64 (hi4 h1 h2 h3 h4)) := ⟨_, rfl⟩
    rw [← hX] at kx ox bx ⊢
    have hval := isValues_any (lo4 l1 l2 l3 l4) (hi4 h1 h2 h3 h4) X
    cases hv : valB (lo4 l1 l2 l3 l4) (hi4 h1 h2 h3 h4)
    · rw [hv] at hval
      refine hval.mono ?_
      rintro e w9 ⟨rfl, hb9⟩
      have k9 := kx.below (by have := kx.2.2.2.2.2.2.2.2.2; omega) hb9.below
      have o9 := ox.trans (hb9.below.mono ox.size)
      clear kx ox hval hX bx hb9 hown hS
      obtain ⟨a0, a1, a2, a3, a4, a5, a6, a7, a8, a9⟩ := k9
      go_wp2_with fail
      refine bodyPost_ret (v := enclE 0 0 7) (by simp [results, Tryd.results120, go_sem, a5, a6, a7, a8]) rfl ⟨by simp [resE, vLo, vHi, vE, hv], ?_⟩
      exact (o9.setCell (by simp; omega) _).setCell (by simp; omega) _
    · rw [hv] at hval
      refine hval.mono ?_
      rintro e w9 ⟨rfl, hb9⟩
      have k9 := kx.below (by have := kx.2.2.2.2.2.2.2.2.2; omega) hb9.below
      have o9 := ox.trans (hb9.below.mono ox.size)
      have b9 := bx.below hb9.below
      clear kx ox hval hX bx hb9 hown hS
      obtain ⟨a0, a1, a2, a3, a4, a5, a6, a7, a8, a9⟩ := k9
      obtain ⟨g0, g1, g2, g3, g4⟩ := b9
      go_wp2_with fail
      refine bodyPost_ret (v := enclE (lo4 l1 l2 l3 l4) (hi4 h1 h2 h3 h4) 0) (by simp [results, Tryd.results120, go_sem, a5, a6, a7, a8]) rfl ⟨by simp [resE, vLo, vHi, vE, hv], ?_⟩
      exact (o9.setCell (by simp; omega) _).setCell (by simp; omega) _
end Go.Proofs.YtjcgojbfjefbcaaDoor

/- Plus, Minus, Times and Over of the code. -/
namespace Go.Proofs.YtjcgojbfjefbcaaDoor
set_option linter.unusedSimpArgs false
set_option linter.unusedVariables false
open Go.RowKit SineNear

theorem bcellB {W w1 : World} (hb : Below W.heap.size W w1) : (∀ b o, b < W.heap.size → w1.cell? ⟨b, o, none⟩ = W.cell? ⟨b, o, none⟩) ∧ (∀ b o, b < W.heap.size → w1.frozen? ⟨b, o, none⟩ = W.frozen? ⟨b, o, none⟩) :=
  ⟨fun b o h => hb.cell (p := ⟨b, o, none⟩) h, fun b o h => hb.frozen (p := ⟨b, o, none⟩) h⟩

theorem valB_bd {lo hi : Int} (h : valB lo hi = true) : -3000000000 ≤ lo ∧ lo ≤ hi ∧ hi ≤ 3000000000 := of_decide_eq_true h

/-- a call that returns v, and makes memory of its own alone -/
def RetT (f : FuncId) (args : Array Value) (v : Value) : Prop := ∀ w : World, Calls Tryd.prog f args w fun e w' => e = .returned v ∧ Below w.heap.size w w'
theorem RetT.at {f : FuncId} {args : Array Value} {v : Value} (h : RetT f args v) (w : World) : Calls Tryd.prog f args w fun e w' => e = .returned v ∧ Below w.heap.size w w' := h w
theorem Ret1.toT {f : FuncId} {args : Array Value} {v : Value} (h : Ret1 f args v) : RetT f args v := fun w => (h w).mono fun _ _ ⟨e, o⟩ => ⟨e, o.below⟩

theorem prod_bd {a b : Int} (h0 : -3000000000 ≤ a) (h1 : a ≤ 3000000000) (h2 : -3000000000 ≤ b) (h3 : b ≤ 3000000000) : -9000000000000000000 ≤ a * b ∧ a * b ≤ 9000000000000000000 := by
  have p1 := Int.mul_nonneg (show 0 ≤ 3000000000 - a by omega) (show 0 ≤ 3000000000 - b by omega)
  have p2 := Int.mul_nonneg (show 0 ≤ 3000000000 + a by omega) (show 0 ≤ 3000000000 + b by omega)
  have p3 := Int.mul_nonneg (show 0 ≤ 3000000000 - a by omega) (show 0 ≤ 3000000000 + b by omega)
  have p4 := Int.mul_nonneg (show 0 ≤ 3000000000 + a by omega) (show 0 ≤ 3000000000 - b by omega)
  simp only [Int.sub_mul, Int.mul_sub, Int.add_mul, Int.mul_add] at p1 p2 p3 p4
  omega

/-- what the four operations return -/
def plusV (x0 x1 y0 y1 : Int) : Value := if valB x0 x1 && valB y0 y1 then resE (lo4 (x0 + y0) (x0 + y1) (x1 + y0) (x1 + y1)) (hi4 (x0 + y0) (x0 + y1) (x1 + y0) (x1 + y1)) else enclE 0 0 7
def minusV (x0 x1 y0 y1 : Int) : Value := if valB x0 x1 && valB y0 y1 then resE (lo4 (x0 - y0) (x0 - y1) (x1 - y0) (x1 - y1)) (hi4 (x0 - y0) (x0 - y1) (x1 - y0) (x1 - y1)) else enclE 0 0 7
def tLo (x0 x1 y0 y1 : Int) : Int := lo4 (x0 * y0 / 100000000) (x0 * y1 / 100000000) (x1 * y0 / 100000000) (x1 * y1 / 100000000)
def tHi (x0 x1 y0 y1 : Int) : Int := hi4 (upD (x0 * y0) 100000000) (upD (x0 * y1) 100000000) (upD (x1 * y0) 100000000) (upD (x1 * y1) 100000000)
def timesV (x0 x1 y0 y1 : Int) : Value := if valB x0 x1 && valB y0 y1 then resE (tLo x0 x1 y0 y1) (tHi x0 x1 y0 y1) else enclE 0 0 7
def oLo (x0 x1 y0 y1 : Int) : Int := lo4 (qLoQ (x0 * 100000000) y0) (qLoQ (x0 * 100000000) y1) (qLoQ (x1 * 100000000) y0) (qLoQ (x1 * 100000000) y1)
def oHi (x0 x1 y0 y1 : Int) : Int := hi4 (qHiQ (x0 * 100000000) y0) (qHiQ (x0 * 100000000) y1) (qHiQ (x1 * 100000000) y0) (qHiQ (x1 * 100000000) y1)
def zeroIn (y0 y1 : Int) : Bool := decide (y0 ≤ 0 ∧ 0 ≤ y1)
def overV (x0 x1 y0 y1 : Int) : Value := if valB x0 x1 && valB y0 y1 then (if zeroIn y0 y1 then enclE 0 0 8 else resE (oLo x0 x1 y0 y1) (oHi x0 x1 y0 y1)) else enclE 0 0 7

set_option maxHeartbeats 1000000 in
theorem plus_wrap (x0 x1 y0 y1 L H E : Int) (C : RetT 120 #[encl x0 x1, encl y0 y1, .func (.func 122) #[] #[]] (enclE L H E)) : RetT 94 #[encl x0 x1, encl y0 y1] (enclE L H E) := by
  intro w
  have C' := Lib.hid C
  clear C
  go_enter Tryd.func94, Tryd.ntmps94
  go_wp2_with fail
  refine (C'.out _).mono ?_
  rintro e w1 ⟨rfl, hb1⟩
  obtain ⟨hc, hf⟩ := bcellB hb1
  have hz1 : w.heap.size + 1 + 1 < w1.heap.size := by have := hb1.size; simp at this; omega
  have hbw : Below w.heap.size w w1 := ((((Below.refl _ _).alloc (Nat.le_refl _) _).alloc (by simp) _).alloc (by simp; omega) _).trans (hb1.mono (by simp; omega))
  go_wp2_with fail
  refine bodyPost_ret (v := enclE L H E) (by simp [results, Tryd.results94, go_sem, hc, hz1]) rfl ⟨rfl, ?_⟩
  exact (hbw.setCell (by simp; omega) _).setCell (by simp; omega) _
set_option maxHeartbeats 1000000 in
theorem minus_wrap (x0 x1 y0 y1 L H E : Int) (C : RetT 120 #[encl x0 x1, encl y0 y1, .func (.func 125) #[] #[]] (enclE L H E)) : RetT 107 #[encl x0 x1, encl y0 y1] (enclE L H E) := by
  intro w
  have C' := Lib.hid C
  clear C
  go_enter Tryd.func107, Tryd.ntmps107
  go_wp2_with fail
  refine (C'.out _).mono ?_
  rintro e w1 ⟨rfl, hb1⟩
  obtain ⟨hc, hf⟩ := bcellB hb1
  have hz1 : w.heap.size + 1 + 1 < w1.heap.size := by have := hb1.size; simp at this; omega
  have hbw : Below w.heap.size w w1 := ((((Below.refl _ _).alloc (Nat.le_refl _) _).alloc (by simp) _).alloc (by simp; omega) _).trans (hb1.mono (by simp; omega))
  go_wp2_with fail
  refine bodyPost_ret (v := enclE L H E) (by simp [results, Tryd.results107, go_sem, hc, hz1]) rfl ⟨rfl, ?_⟩
  exact (hbw.setCell (by simp; omega) _).setCell (by simp; omega) _
set_option maxHeartbeats 1000000 in
theorem times_wrap (x0 x1 y0 y1 L H E : Int) (C : RetT 120 #[encl x0 x1, encl y0 y1, .func (.func 121) #[] #[]] (enclE L H E)) : RetT 91 #[encl x0 x1, encl y0 y1] (enclE L H E) := by
  intro w
  have C' := Lib.hid C
  clear C
  go_enter Tryd.func91, Tryd.ntmps91
  go_wp2_with fail
  refine (C'.out _).mono ?_
  rintro e w1 ⟨rfl, hb1⟩
  obtain ⟨hc, hf⟩ := bcellB hb1
  have hz1 : w.heap.size + 1 + 1 < w1.heap.size := by have := hb1.size; simp at this; omega
  have hbw : Below w.heap.size w w1 := ((((Below.refl _ _).alloc (Nat.le_refl _) _).alloc (by simp) _).alloc (by simp; omega) _).trans (hb1.mono (by simp; omega))
  go_wp2_with fail
  refine bodyPost_ret (v := enclE L H E) (by simp [results, Tryd.results91, go_sem, hc, hz1]) rfl ⟨rfl, ?_⟩
  exact (hbw.setCell (by simp; omega) _).setCell (by simp; omega) _

set_option maxHeartbeats 1000000 in
theorem over_no (x0 x1 y0 y1 : Int) (h : valB x0 x1 = false ∨ valB y0 y1 = false) : RetT 106 #[encl x0 x1, encl y0 y1] (enclE 0 0 7) := by
  intro w
  cases hx : valB x0 x1
  · clear h
    go_enter Tryd.func106, Tryd.ntmps106
    go_wp2_with fail
    refine (isValues_any x0 x1 _).mono ?_
    rintro e w1 ⟨rfl, hb1⟩
    obtain ⟨hc, hf⟩ := bcell hb1
    have hz1 : w.heap.size + 1 + 1 < w1.heap.size := by have := hb1.size; simp at this; omega
    have hbw : Own w.heap.size w w1 := ((((Own.refl _ _).alloc (Nat.le_refl _) _).alloc (by simp) _).alloc (by simp; omega) _).trans (hb1.mono (by simp; omega))
    rw [hx]
    go_wp2_with fail
    refine bodyPost_ret (v := enclE 0 0 7) (by simp [results, Tryd.results106, go_sem, hc, hz1]) rfl ⟨rfl, Own.below ?_⟩
    exact (hbw.setCell (by simp; omega) _).setCell (by simp; omega) _
  · have hy : valB y0 y1 = false := by rcases h with h | h; rw [hx] at h; cases h; exact h
    clear h
    go_enter Tryd.func106, Tryd.ntmps106
    go_wp2_with fail
    refine (isValues_any x0 x1 _).mono ?_
    rintro e w1 ⟨rfl, hb1⟩
    obtain ⟨hc, hf⟩ := bcell hb1
    have hz1 : w.heap.size + 1 + 1 < w1.heap.size := by have := hb1.size; simp at this; omega
    have hbw : Own w.heap.size w w1 := ((((Own.refl _ _).alloc (Nat.le_refl _) _).alloc (by simp) _).alloc (by simp; omega) _).trans (hb1.mono (by simp; omega))
    rw [hx]
    go_wp2_with fail
    refine (isValues_any y0 y1 _).mono ?_
    rintro e w2 ⟨rfl, hb2⟩
    obtain ⟨hc2, hf2⟩ := bcell hb2
    have hz2 : w.heap.size + 1 + 1 < w2.heap.size := by have := hb2.size; omega
    have hbw2 : Own w.heap.size w w2 := hbw.trans (hb2.mono (by omega))
    rw [hy]
    go_wp2_with fail
    refine bodyPost_ret (v := enclE 0 0 7) (by simp [results, Tryd.results106, go_sem, hc, hc2, hz1, hz2]) rfl ⟨rfl, Own.below ?_⟩
    exact (hbw2.setCell (by simp; omega) _).setCell (by simp; omega) _

set_option maxHeartbeats 1000000 in
theorem over_zero (x0 x1 y0 y1 : Int) (hx : valB x0 x1 = true) (hy : valB y0 y1 = true) (z0 : y0 ≤ 0) (z1 : 0 ≤ y1) : RetT 106 #[encl x0 x1, encl y0 y1] (enclE 0 0 8) := by
  intro w
  go_enter Tryd.func106, Tryd.ntmps106
  go_wp2_with fail
  refine (isValues_any x0 x1 _).mono ?_
  rintro e w1 ⟨rfl, hb1⟩
  obtain ⟨hc, hf⟩ := bcell hb1
  have hz1 : w.heap.size + 1 + 1 < w1.heap.size := by have := hb1.size; simp at this; omega
  have hbw : Own w.heap.size w w1 := ((((Own.refl _ _).alloc (Nat.le_refl _) _).alloc (by simp) _).alloc (by simp; omega) _).trans (hb1.mono (by simp; omega))
  rw [hx]
  go_wp2_with fail
  refine (isValues_any y0 y1 _).mono ?_
  rintro e w2 ⟨rfl, hb2⟩
  obtain ⟨hc2, hf2⟩ := bcell hb2
  have hz2 : w.heap.size + 1 + 1 < w2.heap.size := by have := hb2.size; omega
  have hz3 : w.heap.size + 1 < w1.heap.size := by omega
  have hbw2 : Own w.heap.size w w2 := hbw.trans (hb2.mono (by omega))
  rw [hy]
  go_wp2_with fail
  refine bodyPost_ret (v := enclE 0 0 8) (by simp [results, Tryd.results106, go_sem, hc, hc2, hz1, hz2]) rfl ⟨rfl, Own.below ?_⟩
  exact (hbw2.setCell (by simp; omega) _).setCell (by simp; omega) _

set_option maxHeartbeats 1000000 in
theorem over_wrap (x0 x1 y0 y1 L H E : Int) (hx : valB x0 x1 = true) (hy : valB y0 y1 = true) (z : 0 < y0 ∨ y1 < 0) (C : RetT 120 #[encl x0 x1, encl y0 y1, .func (.func 124) #[] #[]] (enclE L H E)) : RetT 106 #[encl x0 x1, encl y0 y1] (enclE L H E) := by
  intro w
  have C' := Lib.hid C
  clear C
  by_cases z0 : y0 ≤ 0
  all_goals
    have z1 : 0 < y0 ∨ ¬ (0 ≤ y1) := by omega
    go_enter Tryd.func106, Tryd.ntmps106
    go_wp2_with fail
    refine (isValues_any x0 x1 _).mono ?_
    rintro e w1 ⟨rfl, hb1⟩
    obtain ⟨hc, hf⟩ := bcell hb1
    have hz1 : w.heap.size + 1 + 1 < w1.heap.size := by have := hb1.size; simp at this; omega
    have hbw : Own w.heap.size w w1 := ((((Own.refl _ _).alloc (Nat.le_refl _) _).alloc (by simp) _).alloc (by simp; omega) _).trans (hb1.mono (by simp; omega))
    rw [hx]
    go_wp2_with fail
    refine (isValues_any y0 y1 _).mono ?_
    rintro e w2 ⟨rfl, hb2⟩
    obtain ⟨hc2, hf2⟩ := bcell hb2
    have hz2 : w.heap.size + 1 + 1 < w2.heap.size := by have := hb2.size; omega
    have hz3 : w.heap.size + 1 < w1.heap.size := by omega
    have hz4 : w.heap.size < w1.heap.size := by omega
    have hbw2 : Own w.heap.size w w2 := hbw.trans (hb2.mono (by omega))
    rw [hy]
    (first | (have z2 : ¬ (0 ≤ y1) := by omega) | skip)
    go_wp2_with fail
    refine (C'.out _).mono ?_
    rintro e w3 ⟨rfl, hb3⟩
    obtain ⟨hc3, hf3⟩ := bcellB hb3
    have hbw3 : Below w.heap.size w w3 := hbw2.below.trans (hb3.mono hbw2.size)
    go_wp2_with fail
    refine bodyPost_ret (v := enclE L H E) (by simp [results, Tryd.results106, go_sem, hc, hc2, hc3, hz1, hz2]) rfl ⟨rfl, ?_⟩
    exact (hbw3.setCell (by simp; omega) _).setCell (by simp; omega) _

theorem egP : ∀ args w, (callFunc 122 args).run Tryd.prog w = .ok (.enter 122 args) w := enters_of Tryd.func122 (by kernel_rfl) rfl
theorem egM : ∀ args w, (callFunc 125 args).run Tryd.prog w = .ok (.enter 125 args) w := enters_of Tryd.func125 (by kernel_rfl) rfl
theorem egT : ∀ args w, (callFunc 121 args).run Tryd.prog w = .ok (.enter 121 args) w := enters_of Tryd.func121 (by kernel_rfl) rfl
theorem egO : ∀ args w, (callFunc 124 args).run Tryd.prog w = .ok (.enter 124 args) w := enters_of Tryd.func124 (by kernel_rfl) rfl

theorem and_no {a b : Bool} (h : (a && b) = false) : a = false ∨ b = false := by cases a <;> cases b <;> simp_all
theorem and_yes {a b : Bool} (h : (a && b) = true) : a = true ∧ b = true := by cases a <;> cases b <;> simp_all

theorem plus_any (x0 x1 y0 y1 : Int) : RetT 94 #[encl x0 x1, encl y0 y1] (plusV x0 x1 y0 y1) := by
  unfold plusV
  cases h : (valB x0 x1 && valB y0 y1)
  · exact plus_wrap _ _ _ _ _ _ _ fun w => (combine_no _ _ _ _ _ w (and_no h)).mono fun _ _ ⟨e, o⟩ => ⟨e, o.below⟩
  · obtain ⟨hx, hy⟩ := and_yes h
    have bx := valB_bd hx
    have bY := valB_bd hy
    exact plus_wrap _ _ _ _ _ _ _ fun w => combine_yes _ _ _ _ _ _ _ _ _ _ _ _ _ w hx hy egP (plus1_any _ _ (by omega) (by omega) (by omega) (by omega)) (plus1_any _ _ (by omega) (by omega) (by omega) (by omega)) (plus1_any _ _ (by omega) (by omega) (by omega) (by omega)) (plus1_any _ _ (by omega) (by omega) (by omega) (by omega))
theorem minus_any (x0 x1 y0 y1 : Int) : RetT 107 #[encl x0 x1, encl y0 y1] (minusV x0 x1 y0 y1) := by
  unfold minusV
  cases h : (valB x0 x1 && valB y0 y1)
  · exact minus_wrap _ _ _ _ _ _ _ fun w => (combine_no _ _ _ _ _ w (and_no h)).mono fun _ _ ⟨e, o⟩ => ⟨e, o.below⟩
  · obtain ⟨hx, hy⟩ := and_yes h
    have bx := valB_bd hx
    have bY := valB_bd hy
    exact minus_wrap _ _ _ _ _ _ _ fun w => combine_yes _ _ _ _ _ _ _ _ _ _ _ _ _ w hx hy egM (minus1_any _ _ (by omega) (by omega) (by omega) (by omega)) (minus1_any _ _ (by omega) (by omega) (by omega) (by omega)) (minus1_any _ _ (by omega) (by omega) (by omega) (by omega)) (minus1_any _ _ (by omega) (by omega) (by omega) (by omega))
theorem times_any (x0 x1 y0 y1 : Int) : RetT 91 #[encl x0 x1, encl y0 y1] (timesV x0 x1 y0 y1) := by
  unfold timesV tLo tHi
  cases h : (valB x0 x1 && valB y0 y1)
  · exact times_wrap _ _ _ _ _ _ _ fun w => (combine_no _ _ _ _ _ w (and_no h)).mono fun _ _ ⟨e, o⟩ => ⟨e, o.below⟩
  · obtain ⟨hx, hy⟩ := and_yes h
    have bx := valB_bd hx
    have bY := valB_bd hy
    have p1 := @prod_bd x0 y0 (by omega) (by omega) (by omega) (by omega)
    have p2 := @prod_bd x0 y1 (by omega) (by omega) (by omega) (by omega)
    have p3 := @prod_bd x1 y0 (by omega) (by omega) (by omega) (by omega)
    have p4 := @prod_bd x1 y1 (by omega) (by omega) (by omega) (by omega)
    exact times_wrap _ _ _ _ _ _ _ fun w => combine_yes _ _ _ _ _ _ _ _ _ _ _ _ _ w hx hy egT (times1_any _ _ p1.1 p1.2) (times1_any _ _ p2.1 p2.2) (times1_any _ _ p3.1 p3.2) (times1_any _ _ p4.1 p4.2)
theorem over_any (x0 x1 y0 y1 : Int) : RetT 106 #[encl x0 x1, encl y0 y1] (overV x0 x1 y0 y1) := by
  unfold overV oLo oHi
  cases h : (valB x0 x1 && valB y0 y1)
  · exact over_no _ _ _ _ (and_no h)
  · obtain ⟨hx, hy⟩ := and_yes h
    have bx := valB_bd hx
    have bY := valB_bd hy
    cases hz : zeroIn y0 y1
    · have z : ¬ (y0 ≤ 0 ∧ 0 ≤ y1) := of_decide_eq_false hz
      exact over_wrap _ _ _ _ _ _ _ hx hy (by omega) fun w => combine_yes _ _ _ _ _ _ _ _ _ _ _ _ _ w hx hy egO (over1_any _ _ (by omega) (by omega) (by omega) (by omega) (by omega)) (over1_any _ _ (by omega) (by omega) (by omega) (by omega) (by omega)) (over1_any _ _ (by omega) (by omega) (by omega) (by omega) (by omega)) (over1_any _ _ (by omega) (by omega) (by omega) (by omega) (by omega))
    · have z : y0 ≤ 0 ∧ 0 ≤ y1 := of_decide_eq_true hz
      exact over_zero _ _ _ _ hx hy z.1 z.2
end Go.Proofs.YtjcgojbfjefbcaaDoor
