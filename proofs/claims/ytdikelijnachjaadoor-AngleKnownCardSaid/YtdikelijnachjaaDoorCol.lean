/- Ends that are collected by a closure. -/
import Derived.Test.YtdikelijnachjaaDoorQuo
import Derived.Deep.RegionHeld3
import Derived.Deep.AppendLies
import Derived.Deep.DrawnRows
import Derived.Deep.RegionLaw
namespace Go.Proofs.YtdikelijnachjaaDoor
set_option linter.unusedSimpArgs false
set_option linter.unusedVariables false
open Go.RowKit SineNear

theorem infoEncl : (Tryd.prog.info? 23).map (fun i => (i.zero, i.size, i.bytes)) = some (some (.agg #[.int .i64 0, .int .i64 0]), 2, 16) := by kernel_rfl

/-- a list of ends in its variable -/
structure Ends (bE : Nat) (n : Nat) (xs : List Value) (w : World) : Prop where
  big : bE < w.heap.size
  some : ∃ v, w.cell? ⟨bE, 0, none⟩ = some v ∧ w.frozen? ⟨bE, 0, none⟩ = false ∧ w.ownsRow (bE + 1) 23 2 v n xs

/-- what is in a cell -/
def rdV (w : World) (b : Nat) : Value := match w.cell? ⟨b, 0, none⟩ with | some v => v | none => .int .i64 0
theorem rdV_of {w : World} {b : Nat} {v : Value} (h : w.cell? ⟨b, 0, none⟩ = some v) : rdV w b = v := by unfold rdV; rw [h]

/-- what the region reads, and leaves -/
def KqE (W : World) (bE bO : Nat) (o : Value) (w : World) : Prop :=
  w.cell? ⟨bE, 0, none⟩ = some (rdV w bE) ∧ w.cell? ⟨bO, 0, none⟩ = some o ∧ w.frozen? ⟨bE, 0, none⟩ = false ∧ bE < w.heap.size ∧ bO < w.heap.size ∧ Below bE W w

theorem ownsRow_below {w w1 : World} {base n : Nat} {e : TypeId} {s : Nat} {v : Value} {xs : List Value} (h : w.ownsRow base e s v n xs) (hb : Below w.heap.size w w1) : w1.ownsRow base e s v n xs :=
  h.kept (row := none) ⟨hb.os, hb.tape, hb.output, hb.size, fun k hk _ => hb.block k hk⟩ (by by_cases c : v.ownBlock = none; exact .inl c; exact .inr c)

theorem KqE.call {W w w1 : World} {bE bO : Nat} {o : Value} (k : KqE W bE bO o w) (hb : Below w.heap.size w w1) : KqE W bE bO o w1 := by
  obtain ⟨k0, k1, k2, k3, k4, k6⟩ := k
  have hz := hb.size
  refine ⟨?_, ?_, ?_, by omega, by omega, k6.trans (hb.mono (by omega))⟩
  · have e := hb.cell (p := ⟨bE, 0, none⟩) k3; rw [k0] at e; rw [rdV_of e]; exact e
  · rw [hb.cell (p := ⟨bO, 0, none⟩) k4]; exact k1
  · rw [hb.frozen (p := ⟨bE, 0, none⟩) k3]; exact k2
theorem KqE.grown {W w w1 : World} {bE bO n : Nat} {o u : Value} {xs : List Value} {e : TypeId} {s : Nat} (k : KqE W bE bO o w) (hown : w.ownsRow (bE + 1) e s u n xs) (hO : bO < bE) (hg : w.grownBy w1 u.ownBlock) : KqE W bE bO o w1 := by
  obtain ⟨k0, k1, k2, k3, k4, k6⟩ := k
  have hz := hg.size
  have hr : ∀ j, u.ownBlock = some j → bE + 1 ≤ j := fun j hj => (hown.lt j hj).1
  have nE : some bE ≠ u.ownBlock := fun h => by have := hr bE h.symm; omega
  have nO : some bO ≠ u.ownBlock := fun h => by have := hr bO h.symm; omega
  refine ⟨?_, ?_, ?_, by omega, by omega, k6.grown hg (by omega) (fun j hj => by have := hr j hj; omega)⟩
  · have e := hg.cell_far ⟨bE, 0, none⟩ k3 nE; rw [k0] at e; rw [rdV_of e]; exact e
  · rw [hg.cell_far ⟨bO, 0, none⟩ k4 nO]; exact k1
  · rw [hg.frozen_far ⟨bE, 0, none⟩ k3 nE]; exact k2
theorem KqE.set {W w : World} {bE bO : Nat} {o : Value} (k : KqE W bE bO o w) (hO : bO < bE) (u : Value) : KqE W bE bO o (w.setCell ⟨bE, 0, none⟩ u) := by
  obtain ⟨k0, k1, k2, k3, k4, k6⟩ := k
  have e : (w.setCell ⟨bE, 0, none⟩ u).cell? ⟨bE, 0, none⟩ = some u := by simp [go_sem, k0]
  refine ⟨by rw [rdV_of e]; exact e, ?_, ?_, by simpa using k3, by simpa using k4, k6.setCell (Nat.le_refl _) _⟩
  · simp [go_sem, k1, show bE ≠ bO by omega, show bO ≠ bE by omega]
  · simp [go_sem, k2]
theorem hb_cell {w wq : World} {b : Nat} {v : Value} (hb : b < w.heap.size) (h : w.cell? ⟨b, 0, none⟩ = some v) (hq : Own w.drew.heap.size w.drew wq) : wq.cell? ⟨b, 0, none⟩ = some v := by
  rw [hq.cell (p := ⟨b, 0, none⟩) hb]; exact h
theorem hb_frozen {w wq : World} {b : Nat} (hb : b < w.heap.size) (h : w.frozen? ⟨b, 0, none⟩ = false) (hq : Own w.drew.heap.size w.drew wq) : wq.frozen? ⟨b, 0, none⟩ = false := by
  rw [hq.frozen (p := ⟨b, 0, none⟩) hb]; exact h
theorem far_cell {w w1 : World} {bE n s : Nat} {u v : Value} {xs : List Value} {e : TypeId} (h : w.cell? ⟨bE, 0, none⟩ = some v) (hb : bE < w.heap.size) (o : Obj) (hown : (w.alloc o).ownsRow (bE + 1) e s u n xs) (hg : (w.alloc o).grownBy w1 u.ownBlock) : w1.cell? ⟨bE, 0, none⟩ = some v := by
  rw [hg.cell_far ⟨bE, 0, none⟩ (by simp; omega) (fun h => by have := (hown.lt bE h.symm).1; omega), World.cell?_alloc_old _ _ _ (by simp; omega)]; exact h
theorem far_frozen {w w1 : World} {bE n s : Nat} {u : Value} {xs : List Value} {e : TypeId} (h : w.frozen? ⟨bE, 0, none⟩ = false) (hb : bE < w.heap.size) (c : Array Value) (t : TypeId) (hown : (w.alloc (.cells c t)).ownsRow (bE + 1) e s u n xs) (hg : (w.alloc (.cells c t)).grownBy w1 u.ownBlock) : w1.frozen? ⟨bE, 0, none⟩ = false := by
  rw [hg.frozen_far ⟨bE, 0, none⟩ (by simp; omega) (fun h => by have := (hown.lt bE h.symm).1; omega), frozen?_alloc_cells]; exact h
theorem far_own {w w1 : World} {bE n s : Nat} {u : Value} {xs : List Value} {e : TypeId} (W : World) (h : Below bE W w) (hb : bE < w.heap.size) (o : Obj) (hown : (w.alloc o).ownsRow (bE + 1) e s u n xs) (hg : (w.alloc o).grownBy w1 u.ownBlock) : Below bE W w1 :=
  (h.alloc (by omega) o).grown hg (by simp; omega) (fun j hj => by have := (hown.lt j hj).1; omega)
theorem ends_set {w : World} {bE n g cap m : Nat} {xs : List Value} {u : Value} (hown : w.ownsRow (bE + 1) 23 2 (.slice (some ⟨g, 0, none⟩) m cap) n xs) (hc : w.cell? ⟨bE, 0, none⟩ = some u) (hf : w.frozen? ⟨bE, 0, none⟩ = false) :
    Ends bE n xs (w.setCell ⟨bE, 0, none⟩ (.slice (some ⟨g, 0, none⟩) m cap)) := by
  have hb := World.block_lt_of_cell? w _ hc
  have hne := (hown.lt g rfl).1
  refine ⟨by simpa using hb, _, ?_, ?_, hown.kept (row := some bE) ⟨rfl, rfl, rfl, by simp [World.setCell], fun k hk hn => Below.heap_setCell _ _ _ _ (fun h => hn (by rw [h]))⟩ (.inr ?_)⟩
  · simp [go_sem, hc]
  · simp [go_sem, hf]
  · intro h
    have : g = bE := by simpa [Value.ownBlock] using h
    omega
attribute [local go_sem ↓] Go.wp_at_zero Go.wp_at_succ

set_option maxRecDepth 100000 in
set_option maxHeartbeats 1000000 in
theorem collect_any (bE bO n : Nat) (op : FuncId) (a b lo hi : Int) (xs : List Value) (w : World) (h : Ends bE n xs w) (hbOE : bO < bE) (hO : w.cell? ⟨bO, 0, none⟩ = some (.func (.func op) #[] #[])) (hn : n ≤ 3)
    (eg : ∀ args w, (callFunc op args).run Tryd.prog w = .ok (.enter op args) w) (C : Ret1 op #[.int .i64 a, .int .i64 b] (encl lo hi)) :
    Calls Tryd.prog 85 #[.int .i64 a, .int .i64 b, .pointer (some ⟨bE, 0, none⟩), .pointer (some ⟨bO, 0, none⟩)] w fun e w' => e = .returned (.tuple #[]) ∧ Ends bE (n + 1) (xs ++ [.int .i64 lo, .int .i64 hi]) w' ∧ Below bE w w' := by
  obtain ⟨i0, hi0, hz0, hz1, hz2⟩ := info_parts infoEncl
  obtain ⟨hbE, v, hE, hF, hown⟩ := h
  have hbO := World.block_lt_of_cell? w _ hO
  have hK : KqE w bE bO (.func (.func op) #[] #[]) w := ⟨by rw [rdV_of hE]; exact hE, hO, hF, hbE, hbO, Below.refl _ _⟩
  go_enter Tryd.func85, Tryd.ntmps85
  go_wp2_with fail
  go_region_law (first | ((refine step_append_lies _ (by rfl) _ _ _ (by rfl) (bE + 1) 23 i0 _ 2 16 Tryd.underlying75 hi0 hz0 hz1 hz2 rfl (by omega) v n xs (by rfl) ((ownsRow_below hown.drew hbq.below).alloc _) ⟨wq.heap.size, 0, none⟩ 1 1 [.int .i64 lo, .int .i64 hi] (by rfl) (by rfl) (World.news_of_block (cs := #[.int .i64 lo, .int .i64 hi]) (t := 23) (fr := (0, 0)) (heap_alloc_new wq _)) (by simp [Value.oneCell']) (by omega) (by unfold maxLen; omega) (by omega) (by have := hbq.below.size; simp at this ⊢; omega) (wq.heap.size + 1) (by simp) ?_; intro g cap w1 hown1 hgrow hat hlt; have hown0 := (ownsRow_below hown.drew hbq.below).alloc (.cells #[.int .i64 lo, .int .i64 hi] 23); have hc1 := far_cell hcq hzq _ hown0 hgrow; have hf1 := far_frozen hfq hzq _ _ hown0 hgrow; have hb1 := far_own w ((Below.refl _ _).drew.trans (hbq.below.mono (Nat.le_of_lt hbE))) hzq _ hown0 hgrow; clear hown0)) | (go_simp; refine (Ret1.at C _).mono ?_; rintro e wq ⟨rfl, hbq⟩; have hcq := (hb_cell hbE hE hbq); have hfq := hb_frozen hbE hF hbq; have hzq := Nat.lt_of_lt_of_le hbE hbq.below.size))
  all_goals (go_end0; exact ⟨rfl, ends_set hown1 hc1 hf1, hb1.setCell (Nat.le_refl _) _⟩)
end Go.Proofs.YtdikelijnachjaaDoor
